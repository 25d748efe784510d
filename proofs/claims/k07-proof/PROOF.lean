import PyProof.Rows.All
import Wide.All
import OpenK.AllK
import Wide.FinOn
import HandS.ForMost
import HandS.ForExc
import HandS.IsInst
import HandS.Star
import HandS.Property
import HandS.Walk
import HandS.Style
import HandS.Zip
import PyProof.ReprRoads
import KE.KTupSum
import KE.KOpsOwn
import KE.DataMinMax
import HandS.TryMany
import HandS.Flow
import HandS.Conv
import HandS.Deep
import KE.KEqDeep
import KE.KRevSl
import HandS.TupAny
import HandS.FStr
import HandS.OwnEq
import HandS.Dict
import HandS.ClsMeth
import KE.KDictZip
import KE.GoesMore
import HandS.TupMul
import HandS.SortRule
import HandS.DictComp
import PyProof.StrOps2
import HandS.Zip0
import HandS.Exc
import HandS.ExcValue
import KE.KDictList
import KE.KTurns
import HandS.SortKw
import HandS.SetFor
import PyProof.EnumIter
import PyProof.ZipIter
import HandS.TupLe
import HandS.ExcIs
import HandS.GenList
import HandS.Lambda
import HandS.EndTab
import HandS.Nested
import HandS.MakeKw
import PyProof.ReprNest
import KE.KStateDown
import HandS.Head0
import HandS.Head1
import HandS.Head2
import KE.KNestM
import PySem.Challenge.RW_poolshares_k07_divisions_made
set_option Elab.async false
set_option linter.all false
set_option maxRecDepth 100000
set_option maxHeartbeats 2000000
/-! Own words over the hand layer: calls where nothing is being shown (guards empty), so that repr may be asked. -/
namespace Pl
open PySem PySem.Spec PyProof.Rows L2

/-- a def that keeps its promise wherever no repr is under way -/
structure FnG (P : Program) (w : World) (K : PySem.W.Frag) (mg : Str → Option Value) (base : Heap) (k : Nat) (f : Addr)
    (fd : FuncData) (ps : List Str) (sp : Sp) : Prop where
  lng : ∀ vs H Q E, sp vs H Q E → vs.length = ps.length
  go : ∀ (A : Around) (out : List Env) (s : Shared) (H : Hp) (ar : Args) (us : List Value) (vs : List V) (Q : VK) (E : XK),
    A.guards = some [] → Room k A → Env0 P w K mg base A out s H → BindsTo s fd ar (ps.zip us) → Vals vs us → sp vs H Q E →
    codeAny (model P w) A (.call (.ref f) ar) (CR CX0 out P w H s Q E) s

section
variable {P : Program} {w : World} {K : PySem.W.Frag} {mg : Str → Option Value} {base : Heap}
theorem okG {x qual : Str} {st : Stmt} {f : Addr} {fd : FuncData} {N ps : List Str} {k : Nat} {sp : Sp}
    (D : Fun K x qual st f fd) (S : FnScope N ps (defScope st)) (lng : ∀ vs H Q E, sp vs H Q E → vs.length = ps.length)
    (bod : ∀ (cdv : Value) (A : Around) (out : List Env) (s : Shared) (H : Hp) (vs : List V) (Q : VK) (E : XK),
      A.guards = some [] → Room k (A.deeper (envOfC qual (defScope st) s.heap.objs.size f cdv)) → sp vs H Q E →
      ∃ t, PSs (cxOf CX0 P w K mg base N qual (defScope st) f cdv A out s H E).nox (defBody st) t ∧
        t { nx := fun _ H' => Q .non H', rt := Q } (start N vs) H) :
    FnG P w K mg base (k + 1) f fd ps sp := by
  obtain ⟨oc, od, kV, doc, pm, an, cdv, ct, osl, rfl, lk, hcd⟩ := D.ex
  refine ⟨lng, fun A out s H ar us vs Q E gd rm e0 bt rv hs => ?_⟩
  have inK : K.In s.heap := e0.mod.kin.keeps fun b o q => (e0.bs b o q).1
  have nl : s.heap.NoLimit := e0.mod.nolimit.keeps fun b o q => (e0.bs b o q).1
  have kinds : ∀ y ∈ ps.zip us, (defScope st).names.lookup y.1 = some .local ∨
      ((defScope st).names.lookup y.1 = some .cell ∧
        ((cellsFrom (s.heap.objs.size + 1) (defScope st).names []).lookup y.1).isSome = true) := by
    rintro ⟨n, v⟩ hy
    rcases S.par n (List.of_mem_zip hy).1 with c | c
    · exact .inl c
    · exact .inr ⟨c, PySem.W.cellsFrom_some _ _ _ (.inl c)⟩
  refine codeAny_call_function rm.depth (inK _ _ lk) rfl S.co S.gen rfl (PySem.W.codeRec_of inK hcd) (bt _ _ _ _ ?_)
  refine wpAny_newFunctionEnv_cells S.kind kinds fun env he s1 ic => ?_
  subst he
  refine ⟨nl.keeps ic.toInCall.keep, codeAny_func ?_⟩
  obtain ⟨t, ht0, hq⟩ := bod cdv A out s H vs Q E gd (rm.deeper _) hs
  have ht := ht0.nox
  have I : Inv (cxOf CX0 P w K mg base N qual (defScope st) f cdv A out s H E) [] (start N vs) H s1 :=
    inv_start S rm.hd e0 (lng _ _ _ _ hs) rv ic
  refine wpAny_mono (ht.run [] s1 (start N vs) H _ I hq) (fun fl s' z => ?_) fun e s' z => z
  cases fl with
  | ret u =>
    obtain ⟨v, σ', H', J, r, q⟩ := z
    exact ⟨v, H', J.os, J.bare, J.base, J.hok, r, q⟩
  | next =>
    obtain ⟨σ', H', J, q⟩ := z
    exact ⟨V.non, H', J.os, J.bare, J.base, J.hok, rfl, q⟩
  | brk =>
    obtain ⟨σ', H', J, q⟩ := z
    exact False.elim q
  | cont =>
    obtain ⟨σ', H', J, q⟩ := z
    exact False.elim q
end

/-- a def of the module by its name, as the top has left it -/
structure Df (K : PySem.W.Frag) (mg : Str → Option Value) (x : Str) (st : Stmt) (ps : List Str) : Prop where
  ex : ∃ f fd, Fun K x x st f fd ∧ mg x = some (.ref f) ∧ Binds K fd ps []
/-- a def by its name and its promise -/
structure Cal (P : Program) (w : World) (K : PySem.W.Frag) (mg : Str → Option Value) (base : Heap) (k : Nat) (x : Str) (ps : List Str) (sp : Sp) : Prop where
  ex : ∃ f fd, FnOk P w K mg base CX0 k f fd ps sp ∧ mg x = some (.ref f) ∧ PySem.W.keepIn K (.ref f) = true ∧ Binds K fd ps []
structure CalG (P : Program) (w : World) (K : PySem.W.Frag) (mg : Str → Option Value) (base : Heap) (k : Nat) (x : Str) (ps : List Str) (sp : Sp) : Prop where
  ex : ∃ f fd, FnG P w K mg base k f fd ps sp ∧ mg x = some (.ref f) ∧ PySem.W.keepIn K (.ref f) = true ∧ Binds K fd ps []
section
variable {P : Program} {w : World} {K : PySem.W.Frag} {mg : Str → Option Value} {base : Heap} {x : Str} {st : Stmt} {N ps : List Str} {k : Nat} {sp : Sp}
theorem Df.cal (D : Df K mg x st ps) (S : FnScope N ps (defScope st)) (lng : ∀ vs H Q E, sp vs H Q E → vs.length = ps.length)
    (bod : ∀ (f : Addr) (cdv : Value) (A : Around) (out : List Env) (s : Shared) (H : Hp) (vs : List V) (Q : VK) (E : XK),
      Room k (A.deeper (envOfC x (defScope st) s.heap.objs.size f cdv)) → sp vs H Q E →
      ∃ t, PSs (cxOf CX0 P w K mg base N x (defScope st) f cdv A out s H E).nox (defBody st) t ∧
        t { nx := fun _ H' => Q .non H', rt := Q } (start N vs) H) : Cal P w K mg base (k + 1) x ps sp := by
  obtain ⟨f, fd, F, hm, hb⟩ := D.ex
  exact ⟨f, fd, F.ok S lng (bod f), hm, F.kp, hb⟩
theorem Df.calG (D : Df K mg x st ps) (S : FnScope N ps (defScope st)) (lng : ∀ vs H Q E, sp vs H Q E → vs.length = ps.length)
    (bod : ∀ (f : Addr) (cdv : Value) (A : Around) (out : List Env) (s : Shared) (H : Hp) (vs : List V) (Q : VK) (E : XK),
      A.guards = some [] → Room k (A.deeper (envOfC x (defScope st) s.heap.objs.size f cdv)) → sp vs H Q E →
      ∃ t, PSs (cxOf CX0 P w K mg base N x (defScope st) f cdv A out s H E).nox (defBody st) t ∧
        t { nx := fun _ H' => Q .non H', rt := Q } (start N vs) H) : CalG P w K mg base (k + 1) x ps sp := by
  obtain ⟨f, fd, F, hm, hb⟩ := D.ex
  exact ⟨f, fd, okG F S lng (bod f), hm, F.kp, hb⟩
end
section
variable {X : Cx} {k : Nat} {x : Str} {ps : List Str} {sp : Sp} {p pos : Pos} {e : Expr} {es : List Expr} {t : TA}
/-- x(e, ..) -/
theorem pe_fn (c : Cal X.prog X.w X.K X.mg X.base k x ps sp) (hr : Room k X.A) (ha : PA X (e :: es) t) (hg : Gl X x := by rfl) (hdb : (x == ("__debug__" : Str)) = false := by decide)
    (he : starEach (e :: es) X.env = (false, eval e X.env) :: starEach es X.env := by rfl) (hpl : (backTo pos (starEach es X.env)).any (·.1) = false := by rfl) :
    PE X (.Call (.Name x p) (e :: es) [] pos) (tCall sp [] E0 t) := by
  obtain ⟨f, fd, F, hm, kp, hb⟩ := c.ex
  exact pe_call F hr hg hm kp hb .nil pass0 ha hdb he hpl
/-- the same where a repr may be asked within -/
theorem pe_fnG (c : CalG X.prog X.w X.K X.mg X.base k x ps sp) (gd : X.A.guards = some []) (hr : Room k X.A) (ha : PA X (e :: es) t) (hg : Gl X x := by rfl) (hdb : (x == ("__debug__" : Str)) = false := by decide)
    (he : starEach (e :: es) X.env = (false, eval e X.env) :: starEach es X.env := by rfl) (hpl : (backTo pos (starEach es X.env)).any (·.1) = false := by rfl) :
    PE X (.Call (.Name x p) (e :: es) [] pos) (tCall sp [] E0 t) := by
  obtain ⟨f, fd, F, hm, kp, hb⟩ := c.ex
  refine ⟨fun pins s σ H Q I h => wpAny_Call_Name_kw (ld_glob I hg hm ?_ hdb)⟩
  refine PySem.W.callWith_K (h₀ := X.base) I.ok.mod.kin kp (thn (ha.run pos pins s σ H _ I h) ?_) he hpl
  rintro us s1 ⟨vs, H1, J, r, q⟩
  refine ⟨J.kIn, ?_⟩
  have q2 : sp vs H1 Q E0 := by simpa using q
  have hl : us.length = ps.length := by rw [← r.length]; exact F.lng _ _ _ _ q2
  have bt : BindsTo s1 fd ⟨us, []⟩ (ps.zip us) := by simpa using hb s1 us J.kIn (by simpa using hl)
  refine wpAny_call (codeAny_mono (F.go X.A X.stack s1 H1 ⟨us, []⟩ us vs Q E0 gd hr J.env0 bt r q2) ?_)
  intro res s' z
  match res, z with
  | .ok (.ret u), z => exact J.after z
  | .ok .next, z => exact False.elim z
  | .ok .brk, z => exact False.elim z
  | .ok .cont, z => exact False.elim z
  | .error e, z => exact False.elim z
end

theorem un66 {k : Nat} {A : Around} (hr : Room k A) : A.units + 66 < cLine := by
  have := hr.un
  omega
/-! repr of data -/
section
variable {X : Cx}
theorem call_reprD (gd : X.A.guards = some []) (hu : X.A.units + 66 < cLine) :
    CallR X (.builtin "repr") (fun xs H Q => ∃ (a : Addr) (d : PyData), xs = [.ref a] ∧ Dp X.K H (.ref a) d ∧ d.showable = true ∧ d.hasDict = false ∧ d.depth ≤ 60 ∧ d.shown.length ≤ sizeLine ∧ Q (.str d.shown) H) := by
  intro pins s σ H xs us Q I r h
  obtain ⟨a, d, rfl, dp, sh, nd, dep, sz, q⟩ := h
  obtain ⟨u, rfl, ru⟩ := vals1 r
  obtain rfl : u = Value.ref a := ru
  obtain ⟨as, rd⟩ := Dp.reads I d _ _ dp rfl
  refine repr_of_reads' rd sh (PyData.noDict_hsm nd) gd (by omega) (fun _ _ e => e) (fun h' v tk hk => ?_) sz
  exact ⟨.str d.shown, H, I.kept hk, ⟨_, rfl⟩, q⟩

/-- len(o), o an instance whose class has its own __len__ -/
theorem call_lenO {k : Nat} {C f : Addr} {fd : FuncData} {ps : List Str} {sp : Sp} (hs : PySem.W.findIn X.K (.ref C) "__len__" = some (some (.ref f))) (hf : PySem.W.isFn X.K (.ref f) = true)
    (F : FnOk X.prog X.w X.K X.mg X.base CX0 k f fd ps sp) (hr : Room (k + 1) X.A) (hb : Binds X.K fd ps []) :
    CallR X (.builtin "len") (fun xs H Q => ∃ (a dx : Addr) (fs : List (Str × V)), xs = [.ref a] ∧ H a = some (.ins C dx fs) ∧
      sp [.ref a] H (fun v H' => ∃ n : Nat, v = .int n ∧ n ≤ 1000 ∧ Q (.int n) H') E0) := by
  intro pins s σ H xs us Q I r h
  obtain ⟨a, dx, fs, rfl, ea, h⟩ := h
  obtain ⟨u, rfl, ru⟩ := vals1 r
  obtain rfl : u = Value.ref a := ru
  obtain ⟨mA, O, _⟩ := ins_get I.hok ea
  obtain ⟨od, J, _⟩ := O.look
  obtain ⟨m, fr⟩ := I.fr
  refine PySem.W.len_K fr I.ok.mod.kin J hs hf ?_
  have hl : [V.ref a].length = ps.length := F.len _ _ _ _ h
  have bt : BindsTo s fd ⟨[.ref a], []⟩ (ps.zip [Value.ref a]) := by simpa using hb s [.ref a] I.kIn (by simpa using hl)
  refine wpAny_call (codeAny_mono (F.run X.A.in1 X.stack s H ⟨[.ref a], []⟩ [.ref a] [.ref a] _ E0 hr.in1 I.env0.in1 bt (.cons rfl .nil) h) ?_)
  intro res s' z
  match res, z with
  | .ok (.ret u), z =>
    obtain ⟨v, H', J2, rv, n, rfl, hn, q⟩ := I.after z
    obtain ⟨t, rfl⟩ := (show ∃ t, u = Value.int n t from rv)
    refine ⟨⟨by omega, by omega⟩, ⟨.int n, H', J2.tok _, ⟨_, rfl⟩, q⟩⟩
  | .ok .next, z => exact False.elim z
  | .ok .brk, z => exact False.elim z
  | .ok .cont, z => exact False.elim z
  | .error e, z => exact False.elim z
end

/-! sum and sorted of a tuple of ints -/
section
variable {prog : Program} {w : World} {A : Around} {E : Value → Shared → Prop} {s : Shared}
theorem collT {t : Addr} {us : List Value} {Q : List Value → Shared → Prop} (ht : s.heap.IsTuple t us.toArray) (hz : us.length ≤ sizeLine)
    (fin : ∀ h' : Heap, (∀ b o, s.heap.get? b = some o → h'.get? b = some o) → Q us { s with heap := h' }) :
    wpAny (model prog w) A (collect (.ref t)) Q E s := by
  obtain ⟨o, ho, hc, n, hd⟩ := ht
  have new : (s.heap.push (seqObj "list" #[] 0)).get? s.heap.objs.size = some (seqObj "list" #[] 0) := Heap.get?_push_size _ rfl
  unfold collect
  refine wpAny_bind (wpAny_runValue (codeAny_builtin entry_proto_collect' ?_))
  show wpAny _ _ (newList [] >>= fun l => again (.builtin "list.__iadd__" ⟨[l, .ref t], []⟩)) _ _ s
  refine wpAny_bind (wpAny_newList (wpAny_pure ⟨Code.quiet_builtin _ (by decide +kernel), codeAny_builtin entry_list_iadd' ?_⟩))
  have old : (s.heap.push (seqObj "list" #[] 0)).get? t = some o := Heap.get?_push_of_some _ ho
  show wpAny _ _ (Builtin.List.listExtendWith (.ref s.heap.objs.size) (.ref t) _) _ _ _
  unfold Builtin.List.listExtendWith; refine wpAny_bind (wpAny_typeOf (T := "tuple") ⟨o, old, hc⟩ ?_); rw [if_pos (by simp)]
  refine wpAny_bind (listItems_at old hd (wpAny_bind (listItems_at (xs := #[]) (n := 0) new rfl ?_)))
  rw [if_neg (by simp)]; refine wpAny_bind (listUpdate_at (xs := #[]) (n := 0) new rfl ?_ (Nat.zero_le _) (by simp; omega))
  refine wpAny_pure ?_; show wpAny (model prog w) A (load s.heap.objs.size >>= _) Q E _
  refine wpAny_bind (wpAny_load (get?_update_seq new _) ?_)
  have e : ((#[] : Array Value) ++ us.toArray).toList = us := by simp
  show wpAny _ _ (pure ((#[] : Array Value) ++ us.toArray).toList) Q E _
  rw [e]
  refine wpAny_pure (fin _ fun b o q => ?_)
  rw [Heap.get?_update_other _ _ (Nat.ne_of_gt (Heap.lt_size q))]
  exact Heap.get?_push_of_some _ q
end
section
variable {X : Cx}
theorem call_sumT (calm : X.calm = true) : CallR X (.builtin "sum") (fun vs H Q => ∃ (a : Addr) (ns : List Int), vs = [V.ref a] ∧ SqT X.K H a (ns.map V.int) ∧ Q (.int ns.sum) H) := by
  intro pins s σ H vs us Q I r h
  obtain ⟨a, ns, rfl, sq, q⟩ := h
  obtain ⟨its, rv, tp, _⟩ := I.tuple sq
  rw [Vals.ref1 r]
  have hi := rv.ints
  obtain ⟨xs, ex⟩ := hi.allInts.items
  have nn : numsOf (intItems xs).toList = ns := by rw [← ex]; exact hi.numsOf
  rw [nums_intItems] at nn
  have tp2 : s.heap.IsTuple a its.toArray := tp
  rw [ex] at tp2
  refine PySem.W.ktm_sumG (I.ok.hd calm) tp2 fun h' tk t' hk => ?_
  rw [preSum_eq, List.take_of_length_le (by simp), nn]
  exact ⟨.int _, H, I.kept hk, ⟨_, rfl⟩, q⟩
theorem call_sortedT : CallR X (.builtin "sorted") (fun vs H Q => ∃ (a : Addr) (ns : List Int), vs = [V.ref a] ∧ SqT X.K H a (ns.map V.int) ∧ ns.length < 64 ∧
    ∀ (ns' : List Int) (p : Addr), ns'.Perm ns → ns'.Pairwise (· ≤ ·) → H p = none → Q (.ref p) (upd H p (.lst (ns'.map V.int)))) := by
  intro pins s σ H vs us Q I r h
  obtain ⟨a, ns, rfl, sq, few, q⟩ := h
  obtain ⟨its, rv, tp, hz⟩ := I.tuple sq
  rw [Vals.ref1 r]
  have hi := rv.ints
  have len : its.length = ns.length := hi.length
  have small : its.length ≤ sizeLine := by rw [len]; exact Nat.le_of_lt (Nat.lt_of_lt_of_le few (by decide))
  refine Calls.call_function_entry kind_sorted plain_sorted entry_sorted (args_sorted1 _) ?_
  unfold Builtin.«sorted»
  refine wpAny_bind (m := checkCount "sorted" 1 1 _) (wpAny_pure ?_)
  refine wpAny_bind (collT (A := X.A.in1) tp small fun h1 kp => ?_)
  have I1 : Inv X pins σ H { s with heap := h1, toks := s.toks } := I.kept kp
  refine wpAny_bind (wpAny_newList ?_ small)
  have at1 : (h1.push (seqObj "list" its.toArray 0)).get? h1.objs.size = some (seqObj "list" its.toArray 0) := Heap.get?_push_size _ rfl
  refine wpAny_bind (wpAny_holding (wpAny_call_entry slot_list_sort ⟨_, at1, rfl⟩ entry_list_sort
    (list_sort_tree (s := { s with heap := h1.push (seqObj "list" its.toArray 0) }) at1 hi (by rw [len]; exact few) ?_) (args_list_sort _)))
  intro out ys g1 g2 g3
  refine ⟨_, rfl, ?_⟩
  obtain ⟨ep, at2⟩ := sortedHeap_at (vs := its) (out := out) at1
  have lens : (ys.map V.int).length ≤ sizeLine := by
    rw [List.length_map, g2.length_eq, ← len]
    exact small
  refine wpAny_pure ⟨_, rfl, .ref h1.objs.size, L2.upd H h1.objs.size (.lst (ys.map V.int)), I1.laid (t' := s.toks) (fun b u e => ?_) (Nat.le_refl _) ?_, rfl, q ys _ g2 g3 (I1.hok.fresh (Nat.le_refl _))⟩
  · have lt : b < h1.objs.size := Heap.lt_size e
    rw [sortedHeap_old (Nat.ne_of_lt lt) (by rw [size_push']; exact Nat.lt_succ_of_lt lt)]
    exact Heap.get?_push_of_some _ e
  · exact (show ObjOk X.prog X.w _ _ _ (.lst (ys.map V.int)) from ⟨lens, out.toList, ep, vals_of_ints g1, by rw [Array.toArray_toList]; exact at2⟩)
end

/-! the end of a law whose call shows data -/
theorem lawG {P : Program} {w : World} {K : PySem.W.Frag} {mg mb : Str → Option Value} {k : Nat} {fa a : Addr} {x : Str} {sp : Sp} {s1 : Shared} {vs : List Value} {ns : List Int}
    (KX : K.In s1.heap) (gns : s1.heap.Ns mainGlobals mg) (bns : s1.heap.Ns builtinsNs mb) (boot : ∀ x : Str, x ≠ "__name__" → mb x = bootBuiltins x) (nl : s1.heap.NoLimit) (gn : s1.gens = #[])
    (ha : s1.heap.get? a = some { cls := .type "list", data := .seq vs.toArray }) (hi : IntsAre vs ns) (hl : ns.length ≤ sizeLine) (hr : Room k callerA)
    (F : ∀ base : Heap, K.In base → base.Ns mainGlobals mg → ∃ fd : FuncData, FnG P w K mg base k fa fd [x] sp ∧ Binds K fd [x] [])
    (prom : ∀ H : Hp, Only H → SqL K H a (ns.map V.int) → sp [.ref a] H (fun v _ => v = .bl true) fun _ _ _ => False) :
    codeAny (model P w) callerA (.call (.ref fa) ⟨[.ref a], []⟩) (fun r s' => r = .ok (.ret (.bool true)) ∧ OldK s1.heap s'.heap ∧ s'.os = s1.os ∧ AllBare s'.gens) s1 := by
  suffices main : ∀ H : Hp, Only H → SqL K H a (ns.map V.int) → HOk P w H s1.heap → (∀ b u, H b = some u → b = a ∧ K.lookup a = none) →
      codeAny (model P w) callerA (.call (.ref fa) ⟨[.ref a], []⟩) (fun r s' => r = .ok (.ret (.bool true)) ∧ OldK s1.heap s'.heap ∧ s'.os = s1.os ∧ AllBare s'.gens) s1 by
    cases lk : K.lookup a with
    | some o =>
      have same := (KX a o lk).symm.trans ha
      cases same
      refine main (fun _ => none) (fun _ => .inl rfl) (.inr ⟨_, vs.toArray, _, lk, rfl, rfl, rfl, ?_, ?_⟩) (fun b u z => nomatch z) (fun b u z => nomatch z)
      · rw [List.size_toArray, hi.length]
        exact hl
      · simpa using vals_ints hi
    | none =>
      refine main (fun b => if b = a then some (.frz { cls := .type "list", data := .seq vs.toArray } (.lst (ns.map V.int))) else none) ?_ (.inl (.inr ⟨_, if_pos rfl⟩)) ?_ ?_
      · intro b
        by_cases q : b = a
        · exact .inr ⟨_, _, if_pos q⟩
        · exact .inl (if_neg q)
      · intro b u z
        by_cases q : b = a
        · subst q
          have z2 := (if_pos rfl).symm.trans z
          cases z2
          exact ⟨ha, by rw [List.length_map]; exact hl, vs, _, vals_ints hi, ha⟩
        · have z2 := (if_neg q).symm.trans z
          cases z2
      · intro b u z
        by_cases q : b = a
        · exact ⟨q, lk⟩
        · have z2 := (if_neg q).symm.trans z
          cases z2
  intro H hO hS hok only
  have seen : ∀ {b : Addr} {o : Obj} {es : Array DictEntry} {ep : Nat}, s1.heap.get? b = some o → o.data = .dict es ep → H b = none := by
    intro b o es ep e d
    cases q : H b with
    | none => rfl
    | some u =>
      obtain ⟨rfl, _⟩ := only b u q
      rw [ha] at e
      cases e
      cases (show Data.seq vs.toArray _ = Data.dict es ep from d)
  have ns_of : ∀ {b : Addr} {m : Str → Option Value}, s1.heap.Ns b m → (hidT s1.heap H).Ns b m := by
    rintro b m ⟨o, es, ep, e, d, r⟩
    exact ⟨o, es, ep, hidT_get e (seen e d), d, r⟩
  have kb : K.In (hidT s1.heap H) := by
    intro b o e
    refine hidT_get (KX b o e) ?_
    cases q : H b with
    | none => rfl
    | some u =>
      obtain ⟨rfl, z⟩ := only b u q
      rw [z] at e
      cases e
  have md : Mod K mg (hidT s1.heap H) := ⟨kb, ns_of gns, ⟨mb, ns_of bns, boot⟩, let ⟨mc, p, q⟩ := nl; ⟨mc, ns_of p, q⟩⟩
  have e0 : Env0 P w K mg (hidT s1.heap H) callerA [] s1 H := by
    refine ⟨rfl, md, fun b o e => of_hidT e, Nat.le_of_eq (hidT_size _ _), trivial, fun b z => ?_, hok, .of_eq gn⟩
    exact absurd (show b ∈ ([] : List Addr) from z) (by simp)
  obtain ⟨fd, Fg, bnd⟩ := F _ kb (ns_of gns)
  refine codeAny_mono (Fg.go callerA [] s1 H _ [.ref a] [.ref a] _ _ rfl hr e0 (bnd s1 [.ref a] KX rfl) (.cons rfl .nil) (prom H hO hS)) ?_
  intro r s' z
  match r, z with
  | .ok (.ret u), z =>
    obtain ⟨v, H', os, bare, un, hok', rv, q⟩ := z
    obtain rfl : v = .bl true := q
    obtain rfl : u = Value.bool true := rv
    refine ⟨rfl, OldK.of_keep fun b o e => ?_, os, bare⟩
    cases q : H b with
    | none => exact un.keep b o e q (fun z => absurd (show b ∈ ([] : List Addr) from z) (by simp)) (by simp)
    | some u =>
      rcases hO b with z | ⟨ob, xs, z⟩
      · rw [q] at z
        cases z
      · obtain ⟨p1, _⟩ := hok b _ z
        obtain ⟨p2, _⟩ := hok' b _ (un.frzs b ob _ z)
        rw [e] at p1
        cases p1
        exact p2
  | .ok .next, z => exact False.elim z
  | .ok .brk, z => exact False.elim z
  | .ok .cont, z => exact False.elim z
  | .error e, z => exact False.elim z

theorem walkG {l : PySem.W.OpenLaw} {n k : Nat} {q : Program} {loose : List Str} {XP : (Str → Option Value) → Heap → Prop} {YP : World → Heap → Prop} {d : DefRec} {K : Params → PySem.W.Frag} {sp : PySem.W.Frag → Sp} {x : Str}
    (hn : l.most = some n) (small : n ≤ sizeLine) (hdf : d.params.defaults = []) (hr : Room k callerA) (hY : ∀ (w : World) (h : Heap), YP w h → (K w.params).In h)
    (F : ∀ (w : World) (mg : Str → Option Value) (fa : Addr) (h : Heap), (K w.params).In h → h.Ns mainGlobals mg → mg d.name = some (.ref fa) →
      ∀ base : Heap, (K w.params).In base → base.Ns mainGlobals mg → ∃ fd : FuncData, FnG l.prog w (K w.params) mg base k fa fd [x] (sp (K w.params)) ∧ Binds (K w.params) fd [x] [])
    (prom : ∀ (K : PySem.W.Frag) (H : Hp) (a : Addr) (ns : List Int), ns.length ≤ n → Only H → SqL K H a (ns.map V.int) → sp K [.ref a] H (fun v _ => v = .bl true) fun _ _ _ => False) :
    PySem.W.WalkO q loose XP YP l.row.toRowW d [] (fun f vs => PySem.call f vs) := by
  refine Att.attach_call hn hdf ?_
  intro w s0 s1 mg mb fa o pm cd doc a vs ns G Y ho hd hcd hmg hobj hints hlen hg
  exact lawG (hY w _ Y) G.T.g G.T.b G.T.builtins G.T.nolimit hg hobj hints (Nat.le_trans hlen small) hr (F w mg fa _ (hY w _ Y) G.T.g hmg) fun H hO hS => prom _ H a ns hlen hO hS
theorem CalG.at {P : Program} {w : World} {K : PySem.W.Frag} {mg : Str → Option Value} {base : Heap} {k : Nat} {x : Str} {ps : List Str} {sp : Sp} {fa : Addr} (c : CalG P w K mg base k x ps sp) (h : mg x = some (.ref fa)) :
    ∃ fd : FuncData, FnG P w K mg base k fa fd ps sp ∧ Binds K fd ps [] := by
  obtain ⟨f, fd, F, hm, _, hb⟩ := c.ex
  rw [hm] at h
  cases h
  exact ⟨fd, F, hb⟩
end Pl
namespace Pl
open PySem PySem.Spec PyProof.Rows L2
/-- a method of the class at C, as the top has left it -/
structure Mh (K : PySem.W.Frag) (C : Addr) (m qual : Str) (st : Stmt) (ps : List Str) : Prop where
  ex : ∃ f fd, Fun K m qual st f fd ∧ PySem.W.findIn K (.ref C) m = some (some (.ref f)) ∧ PySem.W.isFn K (.ref f) = true ∧ Binds K fd ps []
structure MCal (P : Program) (w : World) (K : PySem.W.Frag) (mg : Str → Option Value) (base : Heap) (k : Nat) (C : Addr) (m : Str) (ps : List Str) (sp : Sp) : Prop where
  ex : ∃ f fd, FnOk P w K mg base CX0 k f fd ps sp ∧ PySem.W.findIn K (.ref C) m = some (some (.ref f)) ∧ PySem.W.isFn K (.ref f) = true ∧ PySem.W.keepIn K (.ref f) = true ∧ Binds K fd ps []
/-- a property's getter -/
structure Ph (K : PySem.W.Frag) (C : Addr) (m qual : Str) (st : Stmt) (ps : List Str) : Prop where
  ex : ∃ p f fd, Fun K m qual st f fd ∧ PropOf K C m p f ∧ Binds K fd ps []
structure PCal (P : Program) (w : World) (K : PySem.W.Frag) (mg : Str → Option Value) (base : Heap) (k : Nat) (C : Addr) (m : Str) (ps : List Str) (sp : Sp) : Prop where
  ex : ∃ p f fd, FnOk P w K mg base CX0 k f fd ps sp ∧ PropOf K C m p f ∧ Binds K fd ps []
section
variable {P : Program} {w : World} {K : PySem.W.Frag} {mg : Str → Option Value} {base : Heap} {C : Addr} {x qual : Str} {st : Stmt} {N ps : List Str} {k : Nat} {sp : Sp}
theorem Mh.cal (D : Mh K C x qual st ps) (S : FnScope N ps (defScope st)) (lng : ∀ vs H Q E, sp vs H Q E → vs.length = ps.length)
    (bod : ∀ (f : Addr) (cdv : Value) (A : Around) (out : List Env) (s : Shared) (H : Hp) (vs : List V) (Q : VK) (E : XK),
      Room k (A.deeper (envOfC qual (defScope st) s.heap.objs.size f cdv)) → sp vs H Q E →
      ∃ t, PSs (cxOf CX0 P w K mg base N qual (defScope st) f cdv A out s H E).nox (defBody st) t ∧
        t { nx := fun _ H' => Q .non H', rt := Q } (start N vs) H) : MCal P w K mg base (k + 1) C x ps sp := by
  obtain ⟨f, fd, F, h1, h2, hb⟩ := D.ex
  exact ⟨f, fd, F.ok S lng (bod f), h1, h2, F.kp, hb⟩
theorem Ph.cal (D : Ph K C x qual st ps) (S : FnScope N ps (defScope st)) (lng : ∀ vs H Q E, sp vs H Q E → vs.length = ps.length)
    (bod : ∀ (f : Addr) (cdv : Value) (A : Around) (out : List Env) (s : Shared) (H : Hp) (vs : List V) (Q : VK) (E : XK),
      Room k (A.deeper (envOfC qual (defScope st) s.heap.objs.size f cdv)) → sp vs H Q E →
      ∃ t, PSs (cxOf CX0 P w K mg base N qual (defScope st) f cdv A out s H E).nox (defBody st) t ∧
        t { nx := fun _ H' => Q .non H', rt := Q } (start N vs) H) : PCal P w K mg base (k + 1) C x ps sp := by
  obtain ⟨p, f, fd, F, h1, hb⟩ := D.ex
  exact ⟨p, f, fd, F.ok S lng (bod f), h1, hb⟩
end
section
variable {X : Cx} {k : Nat} {C : Addr} {ps : List Str} {sp : Sp} {p pos : Pos} {x : Str} {e : Expr} {es : List Expr} {t : TA} {te ta : TE}
/-- C(e, ..) -/
theorem pe_mk (c : MCal X.prog X.w X.K X.mg X.base k C "__init__" ps sp) (mk : PySem.W.makesIn X.K C = true) (kc : PySem.W.keepIn X.K (.ref C) = true) (hm : X.mg x = some (.ref C)) (hr : Room (k + 1) X.A) (ha : PA X (e :: es) t)
    (hg : Gl X x := by rfl) (hdb : (x == ("__debug__" : Str)) = false := by decide)
    (he : starEach (e :: es) X.env = (false, eval e X.env) :: starEach es X.env := by rfl) (hpl : (backTo pos (starEach es X.env)).any (·.1) = false := by rfl) :
    PE X (.Call (.Name x p) (e :: es) [] pos) (tMake C sp [] E0 t) := by
  obtain ⟨f, fd, F, h1, h2, kp, hb⟩ := c.ex
  exact pe_make ⟨mk, h1, h2, kc⟩ F hr hg hm hb .nil pass0 ha hdb he hpl
/-- o.f, a property -/
theorem pe_pr {f : Str} (c : PCal X.prog X.w X.K X.mg X.base k C f ps sp) (cl : Cls X.K C) (hr : Room (k + 1) X.A) (he : PE X e te)
    (hab : attributeBase e f X.env (eval e X.env) = eval e X.env := by rfl) : PE X (.Attribute e f pos) (tProp C sp [] E0 te) := by
  obtain ⟨q, f', fd, F, h1, hb⟩ := c.ex
  exact pe_prop he cl h1 F hr hb .nil pass0 hab
/-- len(o) -/
theorem call_lenM (c : MCal X.prog X.w X.K X.mg X.base k C "__len__" ps sp) (hr : Room (k + 1) X.A) :
    CallR X (.builtin "len") (fun xs H Q => ∃ (a dx : Addr) (fs : List (Str × V)), xs = [.ref a] ∧ H a = some (.ins C dx fs) ∧
      sp [.ref a] H (fun v H' => ∃ n : Nat, v = .int n ∧ n ≤ 1000 ∧ Q (.int n) H') E0) := by
  obtain ⟨f, fd, F, h1, h2, kp, hb⟩ := c.ex
  exact call_lenO h1 h2 F hr hb
/-- o(e, ..), an instance of C called -/
def tCallP (C : Addr) (sp : Sp) (tf : TE) (t : TA) : TE := fun σ H Q => tf σ H fun y H1 => ∃ a, y = V.ref a ∧ t σ H1 fun vs H2 =>
  ((∃ dx vs, SlX.Slt H2 a C dx vs) ∨ ∃ dx fs, H2 a = some (.ins C dx fs)) ∧ sp (V.ref a :: vs) H2 Q E0
/-- o(e, ..) -/
theorem pe_callM {fe : Expr} {tf : TE} (c : MCal X.prog X.w X.K X.mg X.base k C "__call__" ps sp) (fi : ∀ f, PySem.W.findIn X.K (.ref C) "__call__" = some (some (.ref f)) → PySem.W.fnIn X.K f = true) (hr : Room k X.A) (hf : PE X fe tf) (ha : PA X (e :: es) t)
    (ht : eval (.Call fe (e :: es) [] pos) X.env = (do callWith pos (← eval fe X.env) [] (backTo pos (starEach (e :: es) X.env)) (backToKw pos (keywordEach [] X.env))) := by rfl)
    (he : starEach (e :: es) X.env = (false, eval e X.env) :: starEach es X.env := by rfl) (hpl : (backTo pos (starEach es X.env)).any (·.1) = false := by rfl) :
    PE X (.Call fe (e :: es) [] pos) (tCallP C sp tf t) := by
  obtain ⟨f, fd, F, h1, h2, kp, hb⟩ := c.ex
  have R : FnR X.prog X.w X.K X.mg X.base CX0 k f sp := (F.raw hb .nil).imp fun vs H Q E h => by simpa using h
  show PE X (.Call fe (e :: es) [] pos) (StX.tCallO X C sp E0 tf t)
  exact StX.pe_callO hf ⟨h1, h2, fi f h1⟩ R hr pass0 ha ht he hpl
end
/-! what the head shows of each def -/
def FnAt (K : PySem.W.Frag) (f : Addr) (x qual : Str) (st : Stmt) : Prop := ∃ (od an : Option Addr) (sl : Array (Option Value)) (oc kV dc pm cd ct : Value),
  K.lookup f = some ⟨oc, od, .func (PySem.W.fnOf x qual (defArgs st) (defBody st) (defScope st) .none kV dc pm an cd ct), sl⟩ ∧ PySem.W.codeIn K cd qual = true ∧ PySem.W.keepIn K (.ref f) = true
/-- the parameters, all given -/
def BindOk (x qual : Str) (st : Stmt) (ps : List Str) : Prop := ∀ (kV doc pm : Value) (an : Option Addr) (cdv ct : Value) (us : List Value), us.length = ps.length →
  bindArgs (PySem.W.fnOf x qual (defArgs st) (defBody st) (defScope st) .none kV doc pm an cdv ct) ⟨us, []⟩ = pure (ps.zip us)
structure DfK (K : PySem.W.Frag) (x : Str) (st : Stmt) : Prop where
  ex : ∃ f, PySem.W.nsIn K mainGlobals x = some (some (.ref f)) ∧ FnAt K f x x st
theorem DfK.df {K : PySem.W.Frag} {h : Heap} {mg : Str → Option Value} {x : Str} {st : Stmt} {ps : List Str} (d : DfK K x st) (X : K.In h) (G : h.Ns mainGlobals mg) (b : BindOk x x st ps) : Df K mg x st ps := by
  obtain ⟨f, a, od, an, sl, oc, kV, dc, pm, cd, ct, l, c, k⟩ := d.ex
  have F := fun_mk (st := st) l c k
  exact ⟨f, _, F, PySem.W.mg_of X G a, F.binds b⟩
structure MhK (K : PySem.W.Frag) (C : Addr) (x qual : Str) (st : Stmt) : Prop where
  ex : ∃ f, PySem.W.findIn K (.ref C) x = some (some (.ref f)) ∧ PySem.W.isFn K (.ref f) = true ∧ FnAt K f x qual st
theorem MhK.mh {K : PySem.W.Frag} {C : Addr} {x qual : Str} {st : Stmt} {ps : List Str} (d : MhK K C x qual st) (b : BindOk x qual st ps) : Mh K C x qual st ps := by
  obtain ⟨f, a, i, od, an, sl, oc, kV, dc, pm, cd, ct, l, c, k⟩ := d.ex
  have F := fun_mk (st := st) l c k
  exact ⟨f, _, F, a, i, F.binds b⟩
structure PhK (K : PySem.W.Frag) (C : Addr) (x qual : Str) (st : Stmt) : Prop where
  ex : ∃ p f, PySem.W.findIn K (.ref C) x = some (some (.ref p)) ∧ PySem.W.specialIn K (.ref p) "__get__" = some (some (.builtin "property.__get__")) ∧ PySem.W.takesIn K (.ref p) = some true ∧
    (∃ rest, PySem.W.recIn K p "property" = some (.ref f :: rest)) ∧ FnAt K f x qual st
theorem PhK.ph {K : PySem.W.Frag} {C : Addr} {x qual : Str} {st : Stmt} {ps : List Str} (d : PhK K C x qual st) (b : BindOk x qual st ps) : Ph K C x qual st ps := by
  obtain ⟨p, f, a, g, t, r, od, an, sl, oc, kV, dc, pm, cd, ct, l, c, k⟩ := d.ex
  have F := fun_mk (st := st) l c k
  exact ⟨p, f, _, F, ⟨a, g, t, r⟩, F.binds b⟩
theorem DfK.of {K : PySem.W.Frag} {x : Str} {st : Stmt} {f : Addr} {od an : Option Addr} {sl : Array (Option Value)} {oc kV dc pm cd ct : Value}
    (a : PySem.W.nsIn K mainGlobals x = some (some (.ref f))) (l : K.lookup f = some ⟨oc, od, .func (PySem.W.fnOf x x (defArgs st) (defBody st) (defScope st) .none kV dc pm an cd ct), sl⟩) (c : PySem.W.codeIn K cd x = true) (k : PySem.W.keepIn K (.ref f) = true) : DfK K x st := ⟨⟨f, a, od, an, sl, oc, kV, dc, pm, cd, ct, l, c, k⟩⟩
theorem MhK.of {K : PySem.W.Frag} {C : Addr} {x qual : Str} {st : Stmt} {f : Addr} {od an : Option Addr} {sl : Array (Option Value)} {oc kV dc pm cd ct : Value}
    (a : PySem.W.findIn K (.ref C) x = some (some (.ref f))) (i : PySem.W.isFn K (.ref f) = true) (l : K.lookup f = some ⟨oc, od, .func (PySem.W.fnOf x qual (defArgs st) (defBody st) (defScope st) .none kV dc pm an cd ct), sl⟩) (c : PySem.W.codeIn K cd qual = true) (k : PySem.W.keepIn K (.ref f) = true) : MhK K C x qual st := ⟨⟨f, a, i, od, an, sl, oc, kV, dc, pm, cd, ct, l, c, k⟩⟩
theorem PhK.of {K : PySem.W.Frag} {C p : Addr} {x qual : Str} {st : Stmt} {f : Addr} {rest : List Value} {od an : Option Addr} {sl : Array (Option Value)} {oc kV dc pm cd ct : Value}
    (a : PySem.W.findIn K (.ref C) x = some (some (.ref p))) (g : PySem.W.specialIn K (.ref p) "__get__" = some (some (.builtin "property.__get__"))) (t : PySem.W.takesIn K (.ref p) = some true)
    (r : PySem.W.recIn K p "property" = some (.ref f :: rest)) (l : K.lookup f = some ⟨oc, od, .func (PySem.W.fnOf x qual (defArgs st) (defBody st) (defScope st) .none kV dc pm an cd ct), sl⟩) (c : PySem.W.codeIn K cd qual = true) (k : PySem.W.keepIn K (.ref f) = true) : PhK K C x qual st := ⟨⟨p, f, a, g, t, ⟨rest, r⟩, od, an, sl, oc, kV, dc, pm, cd, ct, l, c, k⟩⟩
structure CallF (K : PySem.W.Frag) (C : Addr) : Prop where
  ex : ∃ f, PySem.W.findIn K (.ref C) "__call__" = some (some (.ref f)) ∧ PySem.W.fnIn K f = true
theorem CallF.of {K : PySem.W.Frag} {C f : Addr} (a : PySem.W.findIn K (.ref C) "__call__" = some (some (.ref f))) (i : PySem.W.fnIn K f = true) : CallF K C := ⟨⟨f, a, i⟩⟩
structure ConI (K : PySem.W.Frag) (x : Str) (n : Int) : Prop where
  ex : ∃ t, PySem.W.nsIn K mainGlobals x = some (some (.int n t))
theorem ConI.of {K : PySem.W.Frag} {x : Str} {n : Int} {t : Tok} (a : PySem.W.nsIn K mainGlobals x = some (some (.int n t))) : ConI K x n := ⟨⟨t, a⟩⟩
theorem ConI.mg {K : PySem.W.Frag} {h : Heap} {mg : Str → Option Value} {x : Str} {n : Int} (c : ConI K x n) (X : K.In h) (G : h.Ns mainGlobals mg) : ∃ t, mg x = some (.int n t) := by
  obtain ⟨t, e⟩ := c.ex
  exact ⟨t, PySem.W.mg_of X G e⟩
end Pl
namespace Pl
open PySem PySem.Spec PyProof.Rows L2
/-! what raises -/
/-- an own error class over ValueError, as the top has left it -/
structure ExK (K : PySem.W.Frag) (mg : Str → Option Value) (x : Str) (C : Addr) : Prop where
  g : mg x = some (.ref C)
  xn : PySem.W.excIn K C [.type "ValueError", .type "Exception", .type "BaseException", .type "object"] "ValueError.__new__" = true
  kp : PySem.W.keepIn K (.ref C) = true
  ba : PySem.W.subIn K (.ref C) (.type "BaseException") = some true
  ty : PySem.W.typeIn K (.ref C) = some (.type "type")
  me : PySem.W.exmOne K (.ref C) (.ref C) = some true
structure ExF (K : PySem.W.Frag) (x : Str) (C : Addr) : Prop where
  a : PySem.W.nsIn K mainGlobals x = some (some (.ref C))
  xn : PySem.W.excIn K C [.type "ValueError", .type "Exception", .type "BaseException", .type "object"] "ValueError.__new__" = true
  kp : PySem.W.keepIn K (.ref C) = true
  ba : PySem.W.subIn K (.ref C) (.type "BaseException") = some true
  ty : PySem.W.typeIn K (.ref C) = some (.type "type")
  cl : PySem.W.isClsIn K C = true
  su : PySem.W.subIn K (.ref C) (.ref C) = some true
theorem exm_at {K : PySem.W.Frag} {S : Addr} {cls : Value} {b : Bool} (ba : PySem.W.subIn K (.ref S) (.type "BaseException") = some true) (cl : PySem.W.isClsIn K S = true)
    (ty : PySem.W.typeIn K (.ref S) = some (.type "type")) (su : PySem.W.subIn K cls (.ref S) = some b) : PySem.W.exmOne K cls (.ref S) = some b := by
  have cl2 : (PySem.W.clsIn K S).isSome = true := cl
  unfold PySem.W.exmOne PySem.W.kitCls
  simp [ba, ty, su, cl, cl2, PySem.W.isClsIn]
theorem ExF.k {K : PySem.W.Frag} {h : Heap} {mg : Str → Option Value} {x : Str} {C : Addr} (e : ExF K x C) (X : K.In h) (G : h.Ns mainGlobals mg) : ExK K mg x C :=
  ⟨PySem.W.mg_of X G e.a, e.xn, e.kp, e.ba, e.ty, exm_at e.ba e.cl e.ty e.su⟩
/-- whatever the slots are, the error is wished for -/
abbrev AnyS (W : WX) : XK := fun cls d H => ∀ σ, W cls d σ H
theorem passW {X : Cx} {W : WX} (tk : Takes X W) : Passes (L2.CX X.prog X.w) X (AnyS W) := fun _ σ _ _ e s' I c => tk e s' (XE.of_call I (fun _ _ _ h => h σ) c)
section
variable {X : Cx} {x m : Str} {j : Nat} {p p2 pos pos2 : Pos} {C : Addr} {W : WX}
/-- raise x('..') -/
theorem ps_err (e : ExK X.K X.mg x C) (tk : Takes X W) (hc : X.calm = true := by rfl) (hg : Gl X x := by rfl) (hdb : (x == ("__debug__" : Str)) = false := by decide) :
    PS X (.Raise (some (.Call (.Name x p) [.Constant (.str m) j p2] [] pos)) none pos2) (fun _ σ H => W (.ref C) none σ H) :=
  ps_raise hc tk (pmk_own PySem.F.excBase_ValueError e.xn e.g e.kp (raises_own e.ba e.ty) hg hdb)
end
structure MCalX (P : Program) (w : World) (K : PySem.W.Frag) (mg : Str → Option Value) (base : Heap) (k : Nat) (C : Addr) (m : Str) (ps : List Str) (sp : Sp) : Prop where
  ex : ∃ f fd, FnOk P w K mg base (L2.CX P w) k f fd ps sp ∧ PySem.W.findIn K (.ref C) m = some (some (.ref f)) ∧ PySem.W.isFn K (.ref f) = true ∧ PySem.W.keepIn K (.ref f) = true ∧ Binds K fd ps []
structure CalX (P : Program) (w : World) (K : PySem.W.Frag) (mg : Str → Option Value) (base : Heap) (k : Nat) (x : Str) (ps : List Str) (sp : Sp) : Prop where
  ex : ∃ f fd, FnOk P w K mg base (L2.CX P w) k f fd ps sp ∧ mg x = some (.ref f) ∧ PySem.W.keepIn K (.ref f) = true ∧ Binds K fd ps []
section
variable {P : Program} {w : World} {K : PySem.W.Frag} {mg : Str → Option Value} {base : Heap} {C : Addr} {x qual : Str} {st : Stmt} {N ps : List Str} {k : Nat} {sp : Sp}
theorem Mh.calX (D : Mh K C x qual st ps) (S : FnScope N ps (defScope st)) (lng : ∀ vs H Q E, sp vs H Q E → vs.length = ps.length)
    (bod : ∀ (f : Addr) (cdv : Value) (A : Around) (out : List Env) (s : Shared) (H : Hp) (vs : List V) (Q : VK) (E : XK),
      Room k (A.deeper (envOfC qual (defScope st) s.heap.objs.size f cdv)) → sp vs H Q E →
      ∃ t, PSs (cxOf (L2.CX P w) P w K mg base N qual (defScope st) f cdv A out s H E) (defBody st) t ∧
        t { nx := fun _ H' => Q .non H', rt := Q } (start N vs) H) : MCalX P w K mg base (k + 1) C x ps sp := by
  obtain ⟨f, fd, F, h1, h2, hb⟩ := D.ex
  exact ⟨f, fd, F.okX S lng (bod f), h1, h2, F.kp, hb⟩
theorem Df.calX (D : Df K mg x st ps) (S : FnScope N ps (defScope st)) (lng : ∀ vs H Q E, sp vs H Q E → vs.length = ps.length)
    (bod : ∀ (f : Addr) (cdv : Value) (A : Around) (out : List Env) (s : Shared) (H : Hp) (vs : List V) (Q : VK) (E : XK),
      Room k (A.deeper (envOfC x (defScope st) s.heap.objs.size f cdv)) → sp vs H Q E →
      ∃ t, PSs (cxOf (L2.CX P w) P w K mg base N x (defScope st) f cdv A out s H E) (defBody st) t ∧
        t { nx := fun _ H' => Q .non H', rt := Q } (start N vs) H) : CalX P w K mg base (k + 1) x ps sp := by
  obtain ⟨f, fd, F, hm, hb⟩ := D.ex
  exact ⟨f, fd, F.okX S lng (bod f), hm, F.kp, hb⟩
end
section
variable {X : Cx} {k : Nat} {C : Addr} {ps : List Str} {sp : Sp} {E : XK} {p pos : Pos} {x : Str} {e fe : Expr} {es : List Expr} {t : TA} {te ti tf : TE}
theorem pe_fnX (c : CalX X.prog X.w X.K X.mg X.base k x ps sp) (hx : Passes (L2.CX X.prog X.w) X E) (hr : Room k X.A) (ha : PA X (e :: es) t) (hg : Gl X x := by rfl) (hdb : (x == ("__debug__" : Str)) = false := by decide)
    (he : starEach (e :: es) X.env = (false, eval e X.env) :: starEach es X.env := by rfl) (hpl : (backTo pos (starEach es X.env)).any (·.1) = false := by rfl) :
    PE X (.Call (.Name x p) (e :: es) [] pos) (tCall sp [] E t) := by
  obtain ⟨f, fd, F, hm, kp, hb⟩ := c.ex
  exact pe_call F hr hg hm kp hb .nil hx ha hdb he hpl
theorem pe_mkX (c : MCalX X.prog X.w X.K X.mg X.base k C "__init__" ps sp) (hx : Passes (L2.CX X.prog X.w) X E) (mk : PySem.W.makesIn X.K C = true) (kc : PySem.W.keepIn X.K (.ref C) = true) (hm : X.mg x = some (.ref C)) (hr : Room (k + 1) X.A) (ha : PA X (e :: es) t)
    (hg : Gl X x := by rfl) (hdb : (x == ("__debug__" : Str)) = false := by decide)
    (he : starEach (e :: es) X.env = (false, eval e X.env) :: starEach es X.env := by rfl) (hpl : (backTo pos (starEach es X.env)).any (·.1) = false := by rfl) :
    PE X (.Call (.Name x p) (e :: es) [] pos) (tMake C sp [] E t) := by
  obtain ⟨f, fd, F, h1, h2, kp, hb⟩ := c.ex
  exact pe_make ⟨mk, h1, h2, kc⟩ F hr hg hm hb .nil hx ha hdb he hpl
/-- an instance of C called, which may raise -/
def tCallX (C : Addr) (sp : Sp) (E : XK) (tf : TE) (t : TA) : TE := fun σ H Q => tf σ H fun y H1 => ∃ a, y = V.ref a ∧ t σ H1 fun vs H2 =>
  ((∃ dx vs, SlX.Slt H2 a C dx vs) ∨ ∃ dx fs, H2 a = some (.ins C dx fs)) ∧ sp (V.ref a :: vs) H2 Q E
theorem pe_callX (c : MCalX X.prog X.w X.K X.mg X.base k C "__call__" ps sp) (hx : Passes (L2.CX X.prog X.w) X E) (fi : ∀ f, PySem.W.findIn X.K (.ref C) "__call__" = some (some (.ref f)) → PySem.W.fnIn X.K f = true) (hr : Room k X.A) (hf : PE X fe tf) (ha : PA X (e :: es) t)
    (ht : eval (.Call fe (e :: es) [] pos) X.env = (do callWith pos (← eval fe X.env) [] (backTo pos (starEach (e :: es) X.env)) (backToKw pos (keywordEach [] X.env))) := by rfl)
    (he : starEach (e :: es) X.env = (false, eval e X.env) :: starEach es X.env := by rfl) (hpl : (backTo pos (starEach es X.env)).any (·.1) = false := by rfl) :
    PE X (.Call fe (e :: es) [] pos) (tCallX C sp E tf t) := by
  obtain ⟨f, fd, F, h1, h2, kp, hb⟩ := c.ex
  have R : FnR X.prog X.w X.K X.mg X.base (L2.CX X.prog X.w) k f sp := (F.raw hb .nil).imp fun vs H Q E h => by simpa using h
  show PE X (.Call fe (e :: es) [] pos) (StX.tCallO X C sp E tf t)
  exact StX.pe_callO hf ⟨h1, h2, fi f h1⟩ R hr hx ha ht he hpl
/-- o[i] by the class's own __getitem__, which may raise -/
def tSub (C : Addr) (sp : Sp) (E : XK) (te ti : TE) : TE := fun σ H Q => te σ H fun x H1 => ti σ H1 fun y H2 => ∃ a dx fs, x = V.ref a ∧ H2 a = some (.ins C dx fs) ∧ sp [.ref a, y] H2 Q E
theorem pe_subX {i : Expr} (c : MCalX X.prog X.w X.K X.mg X.base k C "__getitem__" ps sp) (hx : Passes (L2.CX X.prog X.w) X E) (fi : ∀ f, PySem.W.findIn X.K (.ref C) "__getitem__" = some (some (.ref f)) → PySem.W.fnIn X.K f = true) (hr : Room (k + 1) X.A)
    (he : PE X e te) (hi : PE X i ti) (hs : ∀ o u, subscripted i true o u = runValue (.builtin "lifetime.subscript" ⟨[o, u], []⟩) := by intro o u; with_unfolding_all rfl) : PE X (.Subscript e i pos) (tSub C sp E te ti) := by
  obtain ⟨f, fd, F, h1, h2, kp, hb⟩ := c.ex
  refine ⟨fun pins s σ H Q I h => ?_⟩
  refine Subscript_ (binT he hi I h fun v u s2 x y H2 I2 rx ry q => ?_)
  obtain ⟨a, dx, fs, rfl, ea, q⟩ := q
  obtain rfl : v = Value.ref a := rx
  obtain ⟨mA, O, _⟩ := ins_get I2.hok ea
  obtain ⟨od, J, _⟩ := O.look
  obtain ⟨m, fr⟩ := I2.fr
  have hl : [V.ref a, y].length = ps.length := F.len _ _ _ _ q
  have bt : BindsTo s2 fd ⟨[.ref a, u], []⟩ (ps.zip [Value.ref a, u]) := by simpa using hb s2 [.ref a, u] I2.kIn (by simpa using hl)
  refine PySem.W.sub_K fr I2.ok.mod.kin J h1 (fi f h1) h2 (wpAny_call (codeAny_mono (F.run X.A.in1 X.stack s2 H2 ⟨[.ref a, u], []⟩ [.ref a, u] [.ref a, y] Q E hr.in1 I2.env0.in1 bt (.cons rfl (.cons ry .nil)) q) ?_)) (hs _ _)
  intro res s' z
  match res, z with
  | .ok (.ret u), z => exact I2.after z
  | .ok .next, z => exact False.elim z
  | .ok .brk, z => exact False.elim z
  | .ok .cont, z => exact False.elim z
  | .error er, z => exact hx pins σ H2 s2 er s' I2 z
end
structure ItemF (K : PySem.W.Frag) (C : Addr) : Prop where
  ex : ∃ f, PySem.W.findIn K (.ref C) "__getitem__" = some (some (.ref f)) ∧ PySem.W.fnIn K f = true
theorem ItemF.of {K : PySem.W.Frag} {C f : Addr} (a : PySem.W.findIn K (.ref C) "__getitem__" = some (some (.ref f))) (i : PySem.W.fnIn K f = true) : ItemF K C := ⟨⟨f, a, i⟩⟩
theorem ItemF.fi {K : PySem.W.Frag} {C : Addr} (c : ItemF K C) : ∀ f, PySem.W.findIn K (.ref C) "__getitem__" = some (some (.ref f)) → PySem.W.fnIn K f = true := fun f h => by
  obtain ⟨g, a, b⟩ := c.ex
  rw [a] at h
  cases h
  exact b
end Pl
namespace Pl
open PySem PySem.Spec PyProof.Rows L2
section
open PySem.W
variable {prog : Program} {w : World} {A : Around} {E : Value → Shared → Prop} {s : Shared} {K : Frag} {x C f : Addr} {ox : Obj} {od : Option Obj} {T : String}
/-- x op b, x an instance whose class has the operator, b of a built-in type -/
theorem binL {op : Operator} {b : Value} {fo ro rc : Option Value} {Q : Value → Shared → Prop} (inK : K.In s.heap) (ia : InstAt s.heap x ox C od) (tb : Looks (model prog w) s.heap (typeOf b) (.type T)) (sf : selfFirst K C = true)
    (fa : findIn K (.ref C) (PySem.dunder op.info.2) = some (some (.ref f))) (fn : isFn K (.ref f) = true) (fr : findIn K (.ref C) (dunderR op.info.2) = some rc) (pr : rc = none ∨ ∃ g : Addr, rc = some (.ref g))
    (t1 : findIn K (.type T) (PySem.dunder op.info.2) = some fo) (t2 : findIn K (.type T) (dunderR op.info.2) = some ro) (no : subIn K (.type T) (.ref C) = some false)
    (go : wpAny (model prog w) A (call (.ref f) [.ref x, b]) (PySem.W.CmpBack Q) E s) : wpAny (model prog w) A (binaryOp op (.ref x) b) Q E s := by
  obtain ⟨cd, rest, c1, c2⟩ := ksp_first sf
  rcases oi : op.info with ⟨sg, nm⟩
  rw [oi] at fa fr t1 t2; dsimp only at fa fr t1 t2
  have step := ksp_try inK ia fa fn go
  obtain ⟨hp, gs, dr, tk, os⟩ := s
  have l1 : Looks (model prog w) hp (typeOf (.ref x)) (.ref C) := ia.type
  have l2 : Looks (model prog w) hp (typeOf b) (.type T) := tb
  have l3 : Looks (model prog w) hp (fillsNumberSlot (.ref C) nm) true := fills_K inK c1 c2 fa
  have l4 := ksp_fillsT (M := model prog w) (nm := nm) (T := T) (h := hp) inK t1 t2
  have l5 : Looks (model prog w) hp (isSubtype (.type T) (.ref C)) false := looks_subIn inK no
  have l6 : Looks (model prog w) hp (numberSlotInPython (.ref C) nm) true := ksp_inPy inK fa fr pr
  have l7 : Looks (model prog w) hp (numberSlotInPython (.type T) nm) false := Looks.of_pure rfl
  have l8 : Looks (model prog w) hp (typeLookup (.type T) (dunderR nm)) ro := looks_findIn inK t2
  generalize ((fo.isSome && !isSeqSlot fo) || (ro.isSome && !isSeqSlot ro)) = rt at l4
  have ne : (Value.ref C == Value.type T) = false := Bool.eq_false_iff.mpr fun q => by cases beq_iff_eq.mp q
  simp only [binaryOp, oi]
  refine wpAny_holding (wpAny_bind ?_); unfold binaryOp1
  refine wpAny_bind (l1.at (wpAny_bind (l2.at (wpAny_bind (l3.at ?_))))); simp only [ne, Bool.false_eq_true, if_false]
  cases rt <;> (ksp_lk; refine wpAny_mono step (fun r s' hr => ?_) fun _ _ e => e; obtain ⟨v, rfl, hq⟩ := hr; ksp_lk; exact hq)
end
/-- the built-in type of a value -/
inductive TyS (H : Hp) : V → String → Prop where
  | non : TyS H .non "NoneType"
  | bl (b : Bool) : TyS H (.bl b) "bool"
  | int (i : Int) : TyS H (.int i) "int"
  | str (z : Str) : TyS H (.str z) "str"
  | lst {a : Addr} {xs : List V} (e : H a = some (.lst xs)) : TyS H (.ref a) "list"
  | tup {a : Addr} {xs : List V} (e : H a = some (.tup xs)) : TyS H (.ref a) "tuple"
  | dK {a : Addr} {xs : List (Key × V)} (e : H a = some (.dK xs)) : TyS H (.ref a) "dict"
theorem TyS.tyX {K : PySem.W.Frag} {H : Hp} {x : V} {T : String} (t : TyS H x T) : TyX K H x (.type T) := by
  cases t with
  | non => exact .base .non
  | bl b => exact .base (.bl b)
  | int i => exact .base (.int i)
  | str z => exact .base (.str z)
  | lst e => exact .base (.lst e)
  | tup e => exact .base (.tup e)
  | dK e => exact .base (.dK e)
theorem TyS.same {H H' : Hp} {x : V} {T : String} (k : Same H H') (t : TyS H x T) : TyS H' x T := by
  cases t with
  | non => exact .non
  | bl b => exact .bl b
  | int i => exact .int i
  | str z => exact .str z
  | lst e => exact .lst (k _ _ e)
  | tup e => exact .tup (k _ _ e)
  | dK e => exact .dK (k _ _ e)
theorem TyS.looks {X : Cx} {pins : List (Addr × Obj)} {σ : L2.St} {H : Hp} {s : Shared} {x : V} {u : Value} {T : String} (I : Inv X pins σ H s) (r : RelV x u) (t : TyS H x T) : PySem.W.Looks (model X.prog X.w) s.heap (typeOf u) (.type T) := by
  cases t with
  | non => cases (show u = Value.none from r); exact PySem.W.Looks.of_pure rfl
  | bl b => cases (show u = Value.bool b from r); exact PySem.W.Looks.of_pure rfl
  | int i => obtain ⟨t, q⟩ := (show ∃ t, u = Value.int i t from r); cases q; exact PySem.W.Looks.of_pure rfl
  | str z => obtain ⟨t, q⟩ := (show ∃ t, u = Value.str z t from r); cases q; exact PySem.W.Looks.of_pure rfl
  | @lst a xs e =>
    cases (show u = Value.ref a from r)
    obtain ⟨_, _, n, _, h1⟩ := (show ObjOk X.prog X.w H s.heap a (.lst xs) from I.hok a _ e)
    exact fun A Q E s' k q => wpAny_typeOf_ref (k _ _ h1) q
  | @tup a xs e =>
    cases (show u = Value.ref a from r)
    obtain ⟨_, _, _, o, h1, h2, _⟩ := (show ObjOk X.prog X.w H s.heap a (.tup xs) from I.hok a _ e)
    exact fun A Q E s' k q => wpAny_typeOf_ref (k _ _ h1) (by rw [h2]; exact q)
  | @dK a xs e =>
    cases (show u = Value.ref a from r)
    obtain ⟨_, _, vs, _, o, es, ep, h1, h2, _⟩ := (show ObjOk X.prog X.w H s.heap a (.dK xs) from I.hok a _ e)
    exact fun A Q E s' k q => wpAny_typeOf_ref (k _ _ h1) (by rw [h2.1]; exact q)
/-- what the written part says of C + T -/
def AddT (K : PySem.W.Frag) (C : Addr) (T : String) : Prop := ∃ fo ro, PySem.W.findIn K (.type T) "__add__" = some fo ∧ PySem.W.findIn K (.type T) "__radd__" = some ro ∧ PySem.W.subIn K (.type T) (.ref C) = some false
theorem AddT.of {K : PySem.W.Frag} {C : Addr} {T : String} {fo ro : Option Value} (a : PySem.W.findIn K (.type T) "__add__" = some fo) (b : PySem.W.findIn K (.type T) "__radd__" = some ro) (c : PySem.W.subIn K (.type T) (.ref C) = some false) : AddT K C T := ⟨fo, ro, a, b, c⟩
structure AddC (K : PySem.W.Frag) (C : Addr) : Prop where
  sf : PySem.W.selfFirst K C = true
  rd : ∃ g : Addr, PySem.W.findIn K (.ref C) "__radd__" = some (some (.ref g))
theorem AddC.of {K : PySem.W.Frag} {C g : Addr} (a : PySem.W.selfFirst K C = true) (b : PySem.W.findIn K (.ref C) "__radd__" = some (some (.ref g))) : AddC K C := ⟨a, g, b⟩
theorem dpI (K : PySem.W.Frag) (H : Hp) : ∀ ns : List Int, DpAll K H (ns.map V.int) (ns.map PyData.int)
  | [] => .nil
  | n :: ns => .cons (.int n) (dpI K H ns)
theorem depI : ∀ ns : List Int, PyData.depthAll (ns.map PyData.int) = 0
  | [] => rfl
  | n :: ns => by
    show max 0 (PyData.depthAll (ns.map PyData.int)) = 0
    rw [depI ns]; rfl
section
variable {X : Cx} {k : Nat} {C : Addr} {ps : List Str} {sp : Sp} {E : XK}
/-- a + b by the class's own __add__, which may raise; what it returns is an object -/
def rAddO (K : PySem.W.Frag) (C : Addr) (sp : Sp) (E : XK) : R2 := fun x y H Q => ∃ (a dx : Addr) (fs : List (Str × V)), x = .ref a ∧ H a = some (.ins C dx fs) ∧
  ((∃ (b db : Addr) (fb : List (Str × V)), y = .ref b ∧ H b = some (.ins C db fb)) ∨ (∃ T, TyS H y T ∧ AddT K C T)) ∧ sp [.ref a, y] H (fun v H' => ∃ p, v = .ref p ∧ Q (.ref p) H') E
theorem op_addO (c : MCalX X.prog X.w X.K X.mg X.base k C "__add__" ps sp) (ac : AddC X.K C) (hx : Passes (L2.CX X.prog X.w) X E) (hr : Room k X.A) : OpR X (binaryOp .Add) (rAddO X.K C sp E) := by
  obtain ⟨f, fd, F, h1, h2, kp, hb⟩ := c.ex
  obtain ⟨g, h3⟩ := ac.rd
  intro pins s σ H x y v u Q I rx ry h
  obtain ⟨a, dx, fs, rfl, ea, oy, q⟩ := h
  obtain rfl : v = Value.ref a := rx
  obtain ⟨mA, O, _⟩ := ins_get I.hok ea
  obtain ⟨od, J, _⟩ := O.look
  have go : wpAny (model X.prog X.w) X.A (call (.ref f) [.ref a, u]) (PySem.W.CmpBack (EP X pins σ Q)) X.xe s := by
    have hl : [V.ref a, y].length = ps.length := F.len _ _ _ _ q
    have bt : BindsTo s fd ⟨[.ref a, u], []⟩ (ps.zip [Value.ref a, u]) := by simpa using hb s [.ref a, u] I.kIn (by simpa using hl)
    refine wpAny_call (codeAny_mono (F.run X.A X.stack s H ⟨[.ref a, u], []⟩ [.ref a, u] [.ref a, y] _ E hr I.env0 bt (.cons rfl (.cons ry .nil)) q) ?_)
    intro res s' z
    match res, z with
    | .ok (.ret u'), z =>
      obtain ⟨v', H', J2, rv, p, rfl, q2⟩ := I.after z
      obtain rfl : u' = Value.ref p := rv
      exact ⟨.ref p, H', J2, rfl, q2⟩
    | .ok .next, z => exact False.elim z
    | .ok .brk, z => exact False.elim z
    | .ok .cont, z => exact False.elim z
    | .error er, z => exact hx pins σ H s er s' I z
  rcases oy with ⟨b, db, fb, rfl, eb⟩ | ⟨T, ty, fo, ro, t1, t2, no⟩
  · obtain rfl : u = Value.ref b := ry
    obtain ⟨mB, O2, _⟩ := ins_get I.hok eb
    obtain ⟨od2, J2, _⟩ := O2.look
    obtain ⟨m, fr⟩ := I.fr
    exact PySem.W.binop_K fr I.ok.mod.kin J J2.type ac.sf h1 h2 go
  · exact binL (op := .Add) I.kIn J (ty.looks I ry) ac.sf h1 h2 h3 (.inr ⟨g, rfl⟩) t1 t2 no go
/-- max of a tuple of ints -/
theorem call_maxT (calm : X.calm = true) (hu : X.A.units + 66 < cLine) : CallR X (.builtin "max") (fun vs H Q => ∃ (a : Addr) (n : Int) (ns : List Int), vs = [V.ref a] ∧ SqT X.K H a ((n :: ns).map V.int) ∧ Q (.int (ns.foldl max n)) H) := by
  intro pins s σ H vs us Q I r h
  obtain ⟨a, n, ns, rfl, sq, q⟩ := h
  obtain ⟨its, rv, tp, _⟩ := I.tuple sq
  rw [Vals.ref1 r]
  obtain ⟨as, rd⟩ := Dp.readsAll I _ _ its (dpI X.K H (n :: ns)) rv
  have dp : PyData.depthAll ((n :: ns).map PyData.int) = 0 := depI _
  refine PySem.W.max_tuple_data (x := .int n) (xs := ns.map PyData.int) (I.ok.hd calm) tp (by simpa using rd) ⟨?_, ?_⟩ ?_ fun i v h' tk bs hv rv' hk => ?_
  · intro x hx y hy
    obtain ⟨i, _, rfl⟩ := List.mem_map.mp (show x ∈ (n :: ns).map PyData.int from hx)
    obtain ⟨j, _, rfl⟩ := List.mem_map.mp (show y ∈ (n :: ns).map PyData.int from hy)
    rfl
  · intro x hx
    obtain ⟨i, _, rfl⟩ := List.mem_map.mp (show x ∈ (n :: ns).map PyData.int from hx)
    exact fun z => nomatch z
  · have e : PyData.depthAll (.int n :: ns.map PyData.int) = 0 := dp
    rw [e]; omega
  · rw [PySem.W.maxD_ints] at rv'
    cases rv'
    exact ⟨.int _, H, I.kept hk, ⟨_, rfl⟩, q⟩
end
end Pl
namespace Pl
open PySem PySem.Spec PyProof.Rows L2
/-! what some built-ins do, over the written part alone -/
def rTupleOf (K : PySem.W.Frag) : List V → Hp → VK → Prop := fun xs H Q => ∃ p ys, xs = [.ref p] ∧ ((SqL K H p ys ∧ ∀ l, H l = none → Q (.ref l) (upd H l (.tup ys))) ∨ (SqT K H p ys ∧ Q (.ref p) H))
def rListOf (K : PySem.W.Frag) : List V → Hp → VK → Prop := fun xs H Q => ∃ p ys, xs = [.ref p] ∧ (SqL K H p ys ∨ SqT K H p ys) ∧ ∀ l, H l = none → Q (.ref l) (upd H l (.lst ys))
def rLenSq (K : PySem.W.Frag) : List V → Hp → VK → Prop := fun xs H Q => ∃ p ys, xs = [.ref p] ∧ (SqL K H p ys ∨ SqT K H p ys) ∧ Q (.int ys.length) H
def rSortedT (K : PySem.W.Frag) : List V → Hp → VK → Prop := fun vs H Q => ∃ (a : Addr) (ns : List Int), vs = [V.ref a] ∧ SqT K H a (ns.map V.int) ∧ ns.length < 64 ∧
    ∀ (ns' : List Int) (p : Addr), ns'.Perm ns → ns'.Pairwise (· ≤ ·) → H p = none → Q (.ref p) (upd H p (.lst (ns'.map V.int)))
section
variable {X : Cx}
/-- xs[i] by values, 0 ≤ i, for xs[i] op= e -/
theorem get_list : PGet X (fun x y H Q => ∃ (p : Addr) (xs : List V) (i : Int) (v : V), x = .ref p ∧ y = .int i ∧ SqL X.K H p xs ∧ 0 ≤ i ∧ xs[i.toNat]? = some v ∧ Q v H) := by
  intro pins s σ H o i ov iv Q I ro ri h
  obtain ⟨p, xs, n, v, rfl, rfl, sq, n0, e, q⟩ := h
  obtain rfl : ov = Value.ref p := ro
  obtain ⟨t, rfl⟩ := (show ∃ t, iv = Value.int n t from ri)
  obtain ⟨its, rv, pl, hz⟩ := I.list sq
  obtain ⟨u, eu, ru⟩ := rv.get e
  have l1 := (List.getElem?_eq_some_iff.mp e).1
  have l2 : (sizeLine : Nat) = 16777216 := sizeLine_eq
  exact wpAny_getItem_list pl.isList n0 (by omega) (by simpa using eu) ⟨v, H, I, ru, q⟩
/-- a call that is shown not to raise -/
theorem passF : Passes (L2.CX X.prog X.w) X (fun _ _ _ => False) := fun _ _ _ _ _ _ _ c => by
  obtain ⟨_, _, _, _, _, _, _, _, _, _, _, _, z⟩ := c
  exact z.elim
end
end Pl
namespace Pl
open PySem PySem.Spec PyProof.Rows L2
section
open PySem.W
variable {prog : Program} {w : World} {A : Around} {E : Value → Shared → Prop} {s : Shared} {K : Frag} {x C L f : Addr} {h₀ : Heap} {m : Str → Option Value} {ox : Obj} {od : Option Obj} {b tb : Value}
theorem special_ne {Q : Option Value → Shared → Prop} (X : K.In s.heap) (I : InstAt s.heap x ox C od) (hne : findIn K (.ref C) "__ne__" = some (some (.builtin "object.__ne__")))
    (h : wpAny (model prog w) A (call (.builtin "object.__ne__") [.ref x, b]) (fun v => Q (some v)) E s) : wpAny (model prog w) A (callSpecialIfBound? (.ref x) "__ne__" [b]) Q E s := by
  simp only [callSpecialIfBound?, bindSpecialIfBound?]
  refine wpAny_holding (wpAny_bind (wpAny_bind (wpAny_bind (I.type.here ((looks_findIn X hne).here ?_)))))
  refine wpAny_bind (wpAny_askSetting (wpAny_ite ?_))
  simp only [PySem.F.cmp_object.ne.bind]
  have fin : wpAny (model prog w) A (call (.builtin "object.__ne__") ([.ref x] ++ [b]) >>= fun v => pure (some v)) Q E s := wpAny_bind (wpAny_mono h (fun v s' h' => wpAny_pure h') fun _ _ h' => h')
  split
  · exact wpAny_bind (wpAny_pure (wpAny_pure fin))
  · exact wpAny_tryCatch (wpAny_bind (wpAny_pure (wpAny_pure fin)))
theorem ne_entry {Q : PySem.Fin → Shared → Prop} (hu : A.units < cLine) (X : K.In s.heap) (I : InstAt s.heap x ox C od) (hs : findIn K (.ref C) "__eq__" = some (some (.ref f))) (hf : isFn K (.ref f) = true)
    (h : wpAny (model prog w) A (call (.ref f) [.ref x, b]) (fun v s' => ∃ r, v = .bool r ∧ Q (.done (.ret (.bool (!r)))) s') E s) : wpAny (model prog w) A (Builtin.«object.__ne__» ⟨[.ref x, b], []⟩) Q E s := by
  unfold Builtin.«object.__ne__»
  refine wpAny_bind (wpAny_pure ?_)
  refine wpAny_bind (wpAny_cRoomFor hu ?_)
  refine wpAny_bind (ifBound_K X I hs hf (wpAny_mono h (fun v s' hv => ?_) fun _ _ e => e))
  obtain ⟨r, rfl, q⟩ := hv
  exact wpAny_bind (wpAny_pure (wpAny_pure q))
theorem ne_K {Q : Value → Shared → Prop} (hu : A.units + 1 < cLine) (F : Fr h₀ L s.heap m) (X₀ : K.In h₀) (I : InstAt s.heap x ox C od) (hb : Looks (model prog w) s.heap (typeOf b) tb) (hn : notFirst K C tb = true)
    (hne : findIn K (.ref C) "__ne__" = some (some (.builtin "object.__ne__"))) (hm : mroIn K C (.type "object") = some true)
    (hs : findIn K (.ref C) "__eq__" = some (some (.ref f))) (hf : isFn K (.ref f) = true)
    (h : wpAny (model prog w) A.in1 (call (.ref f) [.ref x, b]) (fun v s' => ∃ r, v = .bool r ∧ Q (.bool (!r)) s') E s) : wpAny (model prog w) A (richCompare .NotEq (.ref x) b) Q E s := by
  have X := X₀.keeps F.keep
  have one : wpAny (model prog w) A (tryCompare (.ref x) "__ne__" b) (fun r s' => ∃ v, r = some v ∧ Q v s') E s := by
    unfold tryCompare
    refine wpAny_bind (special_ne X I hne (wpAny_call (codeAny_call_builtin PySem.F.cmp_object.ne.plain PySem.F.cmpEntry_ne
      (check_slot PySem.F.cmpKind_ne PySem.F.cmpSplit_ne (I.type.andThen (looks_mroIn X hm)) (PySem.F.cmpArgs_ne _ _) (ne_entry (A := A.in1) hu X I hs hf ?_)))))
    refine wpAny_mono h (fun v s' hv => ?_) fun _ _ e => e
    obtain ⟨r, rfl, q⟩ := hv
    exact ⟨r, rfl, wpAny_pure ⟨_, rfl, q⟩⟩
  unfold richCompare
  simp only [oneThing_ref]
  refine wpAny_holding (wpAny_bind (wpAny_cRoomFor (by omega) ?_))
  refine wpAny_bind (I.type.here (wpAny_bind (hb.here ?_)))
  split
  · rename_i q
    have e : subIn K tb (.ref C) = some false := by
      rcases Bool.or_eq_true_iff.mp hn with e | e
      · rw [beq_iff_eq.mp e] at q; simp at q
      · exact beq_iff_eq.mp e
    refine wpAny_bind ((looks_subIn X e).here ?_)
    simp only [Bool.false_eq_true, if_false]
    refine wpAny_bind (wpAny_mono one (fun r s' z => ?_) fun _ _ e => e)
    obtain ⟨v, rfl, hq⟩ := z
    exact wpAny_pure hq
  · refine wpAny_bind (wpAny_pure ?_)
    simp only [Bool.false_eq_true, if_false]
    refine wpAny_bind (wpAny_mono one (fun r s' z => ?_) fun _ _ e => e)
    obtain ⟨v, rfl, hq⟩ := z
    exact wpAny_pure hq
end
/-- what the written part says of == and != of C -/
structure EqC (K : PySem.W.Frag) (C : Addr) : Prop where
  ne : PySem.W.findIn K (.ref C) "__ne__" = some (some (.builtin "object.__ne__"))
  mro : PySem.W.mroIn K C (.type "object") = some true
/-- the second operand: of the class, or of a built-in type that is not below it -/
def EqY (K : PySem.W.Frag) (C : Addr) (H : Hp) (y : V) : Prop := (∃ (b db : Addr) (fb : List (Str × V)), y = .ref b ∧ H b = some (.ins C db fb)) ∨ (∃ T, TyS H y T ∧ PySem.W.subIn K (.type T) (.ref C) = some false)
def rEqO (K : PySem.W.Frag) (C : Addr) (sp : Sp) : R2 := fun x y H Q => ∃ (a dx : Addr) (fs : List (Str × V)), x = .ref a ∧ H a = some (.ins C dx fs) ∧ EqY K C H y ∧ sp [.ref a, y] H (fun v H' => ∃ r, v = .bl r ∧ Q (.bl r) H') E0
def rNeO (K : PySem.W.Frag) (C : Addr) (sp : Sp) : R2 := fun x y H Q => ∃ (a dx : Addr) (fs : List (Str × V)), x = .ref a ∧ H a = some (.ins C dx fs) ∧ EqY K C H y ∧ sp [.ref a, y] H (fun v H' => ∃ r, v = .bl r ∧ Q (.bl (!r)) H') E0
section
variable {X : Cx} {k : Nat} {C : Addr} {ps : List Str} {sp : Sp}
theorem EqY.looks {pins : List (Addr × Obj)} {σ : L2.St} {H : Hp} {s : Shared} {y : V} {u : Value} (I : Inv X pins σ H s) (r : RelV y u) (e : EqY X.K C H y) :
    ∃ tb, PySem.W.Looks (model X.prog X.w) s.heap (typeOf u) tb ∧ PySem.W.notFirst X.K C tb = true := by
  rcases e with ⟨b, db, fb, rfl, eb⟩ | ⟨T, ty, no⟩
  · obtain rfl : u = Value.ref b := r
    obtain ⟨mB, O, _⟩ := ins_get I.hok eb
    obtain ⟨od, J, _⟩ := O.look
    exact ⟨_, J.type, by simp [PySem.W.notFirst]⟩
  · exact ⟨_, ty.looks I r, by simp [PySem.W.notFirst, no]⟩
theorem op_eqO (c : MCal X.prog X.w X.K X.mg X.base k C "__eq__" ps sp) (hr : Room k X.A) : OpR X (compareOp .Eq) (rEqO X.K C sp) := by
  obtain ⟨f, fd, F, h1, h2, kp, hb⟩ := c.ex
  intro pins s σ H x y v u Q I rx ry h
  obtain ⟨a, dx, fs, rfl, ea, ey, q⟩ := h
  obtain rfl : v = Value.ref a := rx
  obtain ⟨tb, lk, nf⟩ := ey.looks I ry
  obtain ⟨mA, O, _⟩ := ins_get I.hok ea
  obtain ⟨od, J, _⟩ := O.look
  obtain ⟨m, fr⟩ := I.fr
  show wpAny (model X.prog X.w) X.A (richCompare .Eq (.ref a) u) (EP X pins σ Q) X.xe s
  refine PySem.W.cmp_K (op := .Eq) hr.units0 fr I.ok.mod.kin J lk nf h1 h2 ?_
  have hl : [V.ref a, y].length = ps.length := F.len _ _ _ _ q
  have bt : BindsTo s fd ⟨[.ref a, u], []⟩ (ps.zip [Value.ref a, u]) := by simpa using hb s [.ref a, u] I.kIn (by simpa using hl)
  refine wpAny_call (codeAny_mono (F.run X.A X.stack s H ⟨[.ref a, u], []⟩ [.ref a, u] [.ref a, y] _ E0 hr I.env0 bt (.cons rfl (.cons ry .nil)) q) ?_)
  intro res s' z
  match res, z with
  | .ok (.ret u'), z =>
    obtain ⟨v', H', J2, rv, r, rfl, q2⟩ := I.after z
    obtain rfl : u' = Value.bool r := rv
    exact ⟨.bl r, H', J2, rfl, q2⟩
  | .ok .next, z => exact False.elim z
  | .ok .brk, z => exact False.elim z
  | .ok .cont, z => exact False.elim z
  | .error er, z => exact False.elim z
theorem op_neO (c : MCal X.prog X.w X.K X.mg X.base k C "__eq__" ps sp) (ec : EqC X.K C) (hr : Room (k + 1) X.A) : OpR X (compareOp .NotEq) (rNeO X.K C sp) := by
  obtain ⟨f, fd, F, h1, h2, kp, hb⟩ := c.ex
  intro pins s σ H x y v u Q I rx ry h
  obtain ⟨a, dx, fs, rfl, ea, ey, q⟩ := h
  obtain rfl : v = Value.ref a := rx
  obtain ⟨tb, lk, nf⟩ := ey.looks I ry
  obtain ⟨mA, O, _⟩ := ins_get I.hok ea
  obtain ⟨od, J, _⟩ := O.look
  obtain ⟨m, fr⟩ := I.fr
  show wpAny (model X.prog X.w) X.A (richCompare .NotEq (.ref a) u) (EP X pins σ Q) X.xe s
  refine ne_K (by have := hr.un; omega) fr I.ok.mod.kin J lk nf ec.ne ec.mro h1 h2 ?_
  have hl : [V.ref a, y].length = ps.length := F.len _ _ _ _ q
  have bt : BindsTo s fd ⟨[.ref a, u], []⟩ (ps.zip [Value.ref a, u]) := by simpa using hb s [.ref a, u] I.kIn (by simpa using hl)
  refine wpAny_call (codeAny_mono (F.run X.A.in1 X.stack s H ⟨[.ref a, u], []⟩ [.ref a, u] [.ref a, y] _ E0 hr.in1 I.env0.in1 bt (.cons rfl (.cons ry .nil)) q) ?_)
  intro res s' z
  match res, z with
  | .ok (.ret u'), z =>
    obtain ⟨v', H', J2, rv, r, rfl, q2⟩ := I.after z
    obtain rfl : u' = Value.bool r := rv
    exact ⟨r, rfl, .bl (!r), H', J2, rfl, q2⟩
  | .ok .next, z => exact False.elim z
  | .ok .brk, z => exact False.elim z
  | .ok .cont, z => exact False.elim z
  | .error er, z => exact False.elim z
/-- repr(o), o an instance whose class has its own __repr__ -/
theorem call_reprO (c : MCal X.prog X.w X.K X.mg X.base k C "__repr__" ps sp) (hr : Room (k + 1) X.A) :
    CallR X (.builtin "repr") (fun xs H Q => ∃ (a dx : Addr) (fs : List (Str × V)), xs = [.ref a] ∧ H a = some (.ins C dx fs) ∧ sp [.ref a] H (fun v H' => ∃ z, v = .str z ∧ Q (.str z) H') E0) := by
  obtain ⟨f, fd, F, h1, h2, kp, hb⟩ := c.ex
  intro pins s σ H xs us Q I r h
  obtain ⟨a, dx, fs, rfl, ea, h⟩ := h
  obtain ⟨u, rfl, ru⟩ := vals1 r
  obtain rfl : u = Value.ref a := ru
  obtain ⟨mA, O, _⟩ := ins_get I.hok ea
  obtain ⟨od, J, _⟩ := O.look
  obtain ⟨m, fr⟩ := I.fr
  refine PySem.W.repr_K hr.in1.units0 fr I.ok.mod.kin J h1 h2 ?_
  have hl : [V.ref a].length = ps.length := F.len _ _ _ _ h
  have bt : BindsTo s fd ⟨[.ref a], []⟩ (ps.zip [Value.ref a]) := by simpa using hb s [.ref a] I.kIn (by simpa using hl)
  refine wpAny_call (codeAny_mono (F.run X.A.in1 X.stack s H ⟨[.ref a], []⟩ [.ref a] [.ref a] _ E0 hr.in1 I.env0.in1 bt (.cons rfl .nil) h) ?_)
  intro res s' z
  match res, z with
  | .ok (.ret u), z =>
    obtain ⟨v, H', J2, rv, n, rfl, q⟩ := I.after z
    obtain ⟨t, rfl⟩ := (show ∃ t, u = Value.str n t from rv)
    exact ⟨.str n, H', J2, ⟨_, rfl⟩, q⟩
  | .ok .next, z => exact False.elim z
  | .ok .brk, z => exact False.elim z
  | .ok .cont, z => exact False.elim z
  | .error er, z => exact False.elim z
end
end Pl
namespace Pl
open PySem PySem.Spec PyProof.Rows L2
/-! a list comprehension out of which an error may come -/
theorem note_eq {v : Value} {a b : Env} (h : a.frame = b.frame) : noteFrame v a = noteFrame v b := by
  unfold noteFrame PySem.frameOf
  rw [h]
theorem fly_of_call {X : Cx} {pins : List (Addr × Obj)} {σ : L2.St} {H : Hp} {s s' : Shared} {E : XK} {u : Value} (I : Inv X pins σ H s) (c : L2.CX X.prog X.w X.stack H s E u s') :
    ∃ (a : Addr) (B : Heap) (sI : Shared) (ps : List (Addr × Obj)) (σ1 : L2.St) (H1 : Hp) (cls : Value) (d : Option Addr), u = .ref a ∧ Inv X ps σ1 H1 sI ∧ (∀ b o, sI.heap.get? b = some o → b ∉ frs X.stack → B.get? b = some o) ∧
      sI.heap.UpToSlots s'.heap ∧ HandSPX.FlyingZ B X.stack a (Zc cls d) s'.heap ∧ H1 a = none ∧ s'.os = sI.os ∧ AllBare s'.gens ∧ E cls d H1 := by
  obtain ⟨a0, ⟨vs0, T0, oT0, ts0, oe0, q1, q2, q3, q4, q5, q6⟩⟩ : ∃ a0 : Addr, ∃ vs0 T0 oT0 ts0 oe0, u = .ref a0 ∧ s'.heap.get? a0 = some oe0 ∧ oe0.data = .fields vs0 ∧ vs0[1]? = some (.ref T0) ∧ s'.heap.get? T0 = some oT0 ∧ (oT0.data = .fields ts0 ∧ ts0[3]? = some Value.none) := by
    obtain ⟨a, B, H', cls, d, rfl, ⟨_, _, _, oe, vs, T, oT, ts, he, hz, hd, h1, hnT, hTe, hT, hdT, h3⟩, _⟩ := c
    exact ⟨a, vs, T, oT, ts, oe, rfl, he, hd, h1, hT, hdT, h3⟩
  obtain ⟨a, B, sI, ps, σ1, H1, cls, d, e, J, nb, up, sky, na, os, ag, w⟩ := XE.of_call (W := fun cls d _ H => E cls d H) I (fun _ _ _ h => h) c
  rw [e] at q1
  cases q1
  refine ⟨_, B, sI, ps, σ1, H1, cls, d, e, J, nb, up, ?_, na, os, ag, w⟩
  rcases sky with ⟨_, _, _, oe, vs, he, _, hd, h1⟩ | fl | ⟨_, _, _, oe, vs, T, oT, ts, he, _, hd, h1, _, _, hT, hdT, h3⟩
  · rw [q2] at he
    cases he
    rw [q3] at hd
    cases hd
    rw [q4] at h1
    cases h1
  · exact fl
  · rw [q2] at he
    cases he
    rw [q3] at hd
    cases hd
    rw [q4] at h1
    cases h1
    rw [q5] at hT
    cases hT
    rw [q6.1] at hdT
    cases hdT
    rw [q6.2] at h3
    cases h3
/-- what a comprehension's block comes to -/
def cPost (M : Model) (A : Around) (E : Value → Shared → Prop) (use : Option (Value → Sem Unit)) (Q : Value → Shared → Prop) (acc : Value) (C : Addr) (fr : Option Addr) : Result → Shared → Prop
  | .ok f, s' => compPost M A E use Q acc C (.ok f) s'
  | .error x, s' => ∃ m, s'.heap.Ns C m ∧ ∀ h2, Heap.SameBut C s'.heap h2 → ∀ ce : Env, ce.frame = fr → wpAny M A (passOn "comprehension.variables-let-go" x ce : Sem Value) (fun _ _ => False) E { s' with heap := h2 }
section
variable {M : Model} {A : Around} {E : Value → Shared → Prop} {s : Shared} {env : Env}
theorem compX {e : Expr} {scope : Scope} {pos : Pos} {mk first : Sem Value} {g : Comprehension} {gs : List Comprehension} {cl : List (Str × Addr)} {use : Option (Value → Sem Unit)} {Q : Value → Shared → Prop}
    (hcl : clausesOf e = g :: gs) (hs : ∀ x, foldedSetIterable g.iter env x = pure x) (hclos : closureFor scope env = pure cl) (hkind : scope.kind = .function) (hnames : ∀ x ∈ scope.names, x.2 = .local → scope.names.lookup x.1 = some .local)
    (h : wpAny M A first (fun x s1 => wpAny M A (pyIter x) (fun it s2 => wpAny M A mk (fun acc s3 => wpAny M A (newFunctionEnv scope env.globals cl [] env.qual none .none (some env)) (fun ce s4 =>
        codeAny M A (.compStart e 0 it acc { ce with scope := relabel scope env }) (cPost M A E use Q acc ce.locals ce.frame) s4) E s3) E s2) E s1) E s) :
    wpAny M A (comprehension e scope env pos mk false first use) Q E s := by
  have same : ∀ {α : Type} {t : Sem α} {P R : α → Shared → Prop} {z : Shared}, wpAny M A t P E z → (∀ a z, P a z → R a z) → wpAny M A t R E z := fun a b => wpAny_mono a b fun _ _ y => y
  unfold comprehension
  rw [hclos, hcl]
  refine wpAny_bind (same h fun x s1 h1 => wpAny_bind (wpAny_standAt (wpAny_bind (wpAny_of_eq (hs x) (wpAny_bind (wpAny_holding (same h1 fun it s2 h2 => ?_)))))))
  refine wpAny_standIf (wpAny_bind (same h2 fun acc s3 h3 => wpAny_bind (wpAny_pure (wpAny_bind (same h3 fun ce s4 h4 => ?_)))))
  dsimp only
  have hv : ∀ x ∈ (scope.names.filter fun x => (x.2 == .local || x.2 == .cell) && x.1 != (".0" : Str)).reverse, x.2 = .local → Env.kindOf { ce with scope := relabel scope env } x.1 = some .local :=
    fun x hx hl => lookup_relabel_local (hnames x (List.mem_filter.mp (List.mem_reverse.mp hx)).1 hl)
  refine wpAny_holding (wpAny_bind (wpAny_attempt (wpAny_holding (wpAny_run (codeAny_mono h4 fun r s5 hr => ?_)))))
  cases r with
  | ok f =>
    cases use with
    | none =>
      obtain ⟨m, hn, hr⟩ := hr
      exact wpAny_bind (wpAny_holding (wpAny_comp_letGo (cenv := { ce with scope := relabel scope env }) hkind _ s5 m hv hn fun h5 m5 _ sb => wpAny_pure (hr h5 sb)))
    | some u =>
      refine wpAny_bind (wpAny_rule (wpAny_bind (wpAny_holding (same hr fun _ s6 hr6 => ?_))))
      obtain ⟨m, hn, hr6⟩ := hr6
      refine wpAny_bind (wpAny_comp_letGo (cenv := { ce with scope := relabel scope env }) hkind _ s6 m (fun x hx hl => ?_) hn fun h6 m6 _ sb => wpAny_pure (hr6 h6 sb))
      rcases List.mem_append.mp hx with k | k
      · exact hv x (List.mem_of_mem_drop k) hl
      · exact hv x (List.mem_of_mem_take k) hl
  | error x =>
    obtain ⟨m, hn, hr⟩ : ∃ m, s5.heap.Ns ce.locals m ∧ ∀ h2, Heap.SameBut ce.locals s5.heap h2 → ∀ c2 : Env, c2.frame = ce.frame → wpAny M A (passOn "comprehension.variables-let-go" x c2 : Sem Value) (fun _ _ => False) E { s5 with heap := h2 } := hr
    exact wpAny_bind (wpAny_holding (wpAny_comp_letGo (cenv := { ce with scope := relabel scope env }) hkind _ s5 m hv hn fun h5 m5 _ sb => wpAny_mono (hr h5 sb _ rfl) (fun _ _ z => z.elim) fun _ _ y => y))
end
/-- the block's context, with its own wish of errors -/
abbrev blkE (X : Cx) (s : Shared) (H : Hp) (scope : Scope) (ce : Env) (fp : List Addr) (z : Value → Shared → Prop) : Cx := { X.blk s H scope ce fp with xe := z }
theorem inv_xe {X : Cx} {pins : List (Addr × Obj)} {σ : L2.St} {H : Hp} {s : Shared} {z : Value → Shared → Prop} (I : Inv X pins σ H s) : Inv { X with xe := z } pins σ H s := by
  obtain ⟨⟨a1, a2, a3, a4, a5, a6, a7, a8, a9, a10, a11, a12, a13, a14, a15, a16, a17, a18⟩, b1, b2, b3, b4, b5, b6, b7, b8, b9, b10⟩ := I
  exact ⟨⟨a1, a2, a3, a4, a5, a6, a7, a8, a9, a10, a11, a12, a13, a14, a15, a16, a17, a18⟩, b1, b2, b3, b4, b5, b6, b7, b8, b9, b10⟩
/-- an error out of the block is in the def's own air -/
theorem out_of_blk {X : Cx} {pins ps : List (Addr × Obj)} {σ σ1 : L2.St} {H3 H : Hp} {s3 s s' : Shared} {W : WX} {scope : Scope} {ce : Env} {fp : List Addr} {z : Value → Shared → Prop} {use : Option (Value → Sem Unit)} {Qf : Value → Shared → Prop} {acc u : Value}
    (tk : Takes X W) (hst : X.stack = X.env :: X.outer) (hfr : X.env.frame = some X.env.locals) (I3 : Inv X pins σ H3 s3) (cL : ce.locals = s3.heap.objs.size) (cF : ce.frame = X.env.frame)
    (f3 : ∀ b ∈ fp, (b ∈ X.ex ∨ X.s_0.heap.objs.size ≤ b) ∧ b ≠ X.env.locals ∧ (∀ x c, X.env.cells.lookup x = some c → c ≠ b) ∧ ∀ p ∈ X.pn ++ pins, p.1 ≠ b)
    (I : Inv (blkE X s3 H3 scope ce fp z) ps σ1 H s) (c : L2.CX X.prog X.w X.stack H s (AnyS W) u s') :
    notedBy (model X.prog X.w) X.A ce (fun x s2 => cPost (model X.prog X.w) X.A X.xe use Qf acc ce.locals X.env.frame (.error x) s2) u s' := by
  obtain ⟨a, B, sI, p1, σ2, H1, cls, d, rfl, J, nb, up, fl, na, os, ag, w⟩ := fly_of_call (X := blkE X s3 H3 scope ce fp z) I c
  have nfr : ce.locals ∉ frs X.stack := fun hb => by
    obtain ⟨_, o, e, _⟩ := J.ok.funs.mem hb
    have l := Heap.lt_size e
    rw [cL] at l
    exact absurd l (Nat.lt_irrefl _)
  obtain ⟨m, ⟨oC, es, ep, eC, dC, kC⟩, _⟩ := J.loc
  have eC : sI.heap.get? ce.locals = some oC := eC
  have bC : B.get? ce.locals = some oC := nb _ _ eC nfr
  have hfr2 : X.A.frames = some (X.env :: X.outer) := by rw [← hst]; exact J.ok.frames
  have fl2 : HandSPX.FlyingZ B (X.env :: X.outer) a (Zc cls d) s'.heap := by rw [← hst]; exact fl
  show wpAny _ _ (noteFrame (.ref a) ce) _ _ s'
  rw [note_eq cF]
  refine HandSPX.looks_onZ Zc.steady hfr2 hfr fl2 fun h1 held up1 => ?_
  obtain ⟨g1, g2, g3, oe, vs, T, oT, ts, he, hz, hd, hv1, hnT, hTe, hT, hdT, h3⟩ := held
  have c1 : h1.get? ce.locals = some oC := g1 _ _ bC
  refine ⟨m, ⟨oC, es, ep, c1, dC, kC⟩, fun h2 sb c2 hc2 => ?_⟩
  have off : ∀ b o, h1.get? b = some o → (∀ es ep, o.data ≠ .dict es ep) → b ≠ ce.locals := fun b o e k q => by
    rw [q, c1] at e
    cases e
    exact k _ _ dC
  have aC : a ≠ ce.locals := off _ _ he fun _ _ q => by rw [hd] at q; cases q
  have tC : T ≠ ce.locals := off _ _ hT fun _ _ q => by rw [hdT] at q; cases q
  have st2 : ∀ b o, b ≠ ce.locals → h1.get? b = some o → h2.get? b = some o := fun b o n e => (sb.2 b n).trans e
  have hide : ∀ {h : Heap} {b : Addr} {o : Obj}, (PySem.W.hideAll h [ce.locals]).get? b = some o → b ≠ ce.locals ∧ h.get? b = some o := fun {h b o} e => by
    refine ⟨fun q => ?_, PySem.W.of_hideAll _ e⟩
    rw [q, PySem.W.hideAll_none _ List.mem_cons_self] at e
    cases e
  have hid2 : ∀ {h : Heap} {b : Addr}, h.get? b = none → (PySem.W.hideAll h [ce.locals]).get? b = none := fun {h b} e => by
    cases q : (PySem.W.hideAll h [ce.locals]).get? b with
    | none => rfl
    | some o => rw [(hide q).2] at e; cases e
  have hid3 : ∀ {h : Heap} {b : Addr} {o : Obj}, h.get? b = some o → b ≠ ce.locals → (PySem.W.hideAll h [ce.locals]).get? b = some o := fun e n => PySem.W.hideAll_get _ e (by simpa using n)
  have tr2 : HandSPX.TracedZ h2 (PySem.W.hideAll B [ce.locals]) a (Zc cls d) (rawInt X.env.locals) := ⟨oe, vs, T, oT, ts, st2 _ _ aC he, hz, hd, hv1, hid2 hnT, hTe, st2 _ _ tC hT, hdT, h3⟩
  have sB : (PySem.W.hideAll B [ce.locals]).StaysIn h2 := fun b o e => st2 b o (hide e).1 (g1 b o (hide e).2)
  have ff0 : h1.FunFrames (PySem.W.hideAll B [ce.locals]) (X.env :: X.outer) := funFrames_none g3 fun L hL => hid2 (g3.mem hL).1
  have ff : ∀ {l : List Env}, h1.FunFrames (PySem.W.hideAll B [ce.locals]) l → (∀ L ∈ frs l, L ≠ ce.locals) → h2.FunFrames (PySem.W.hideAll B [ce.locals]) l := by
    intro l
    induction l with
    | nil => exact fun _ _ => trivial
    | cons e r ih =>
      rintro ⟨k1, ⟨L, o, k2, k3, k4, k5⟩, k6⟩ n
      exact ⟨k1, ⟨L, o, k2, k3, st2 L o (n L (List.mem_filterMap.mpr ⟨e, List.mem_cons_self, k2⟩)) k4, k5⟩, ih k6 fun b hb => n b (by
        obtain ⟨x, hx, q⟩ := List.mem_filterMap.mp hb
        exact List.mem_filterMap.mpr ⟨x, List.mem_cons_of_mem _ hx, q⟩)⟩
  have ff2 := ff ff0 fun L hL q => nfr (by rw [hst, ← q]; exact hL)
  show wpAny _ _ (PySem.passOn _ (.ref a) c2) _ _ _
  unfold PySem.passOn
  refine wpAny_bind (wpAny_field (s := { s' with heap := h2 }) (st2 _ _ aC he) hd hv1 ?_)
  rw [if_neg (by simp)]
  first
  | refine wpAny_bind (wpAny_pure ?_)
  | skip
  refine wpAny_bind ?_
  rw [hc2, hfr]
  refine HandSPX.setFlight_anyZ (s := { s' with heap := h2 }) sB ff2 tr2 fun h4 k1 k2 k3 k4 => wpAny_throw ?_
  have Jn : H1 ce.locals = none := J.free
  refine tk _ _ ⟨a, PySem.W.hideAll B [ce.locals], { sI with heap := PySem.W.hideAll sI.heap [ce.locals] }, pins, σ, H1, cls, d, rfl, ?_, fun b o e n => hid3 (nb b o (hide e).2 n) (hide e).1, ?_, .inr (.inr ⟨k1, hid2 g2, by rw [hst]; exact k2, k3⟩), na, os, ag, w σ⟩
  · have hn3 : ∀ b o, s3.heap.get? b = some o → b ≠ ce.locals := fun b o e q => by
      have l := Heap.lt_size e
      rw [q, cL] at l
      exact absurd l (Nat.lt_irrefl _)
    have U : Un (frs X.stack) fp H3 H1 s3.heap sI.heap := J.base
    refine I3.call' (ch := fp) J.os ⟨fun b o e n q r => hid3 (U.keep b o e n q r) (hn3 b o e), fun b o e n q r => ?_, U.free, fun b o e q => ?_, U.tups, U.frzs, U.tbls⟩ (fun b o e => ?_) J.bare f3
    · obtain ⟨sl, k⟩ := U.slot b o e n q r
      exact ⟨sl, hid3 k (hn3 b o e)⟩
    · obtain ⟨o', k⟩ := U.there b o e q
      exact ⟨o', hid3 k (hn3 b o e)⟩
    · refine (J.hok b o e).stay (fun c o2 hc r => hid3 r fun q => ?_) (fun _ r => r) fun _ _ r => r
      rcases hc with hc | hc
      · rw [hc] at q
        rw [q, Jn] at e
        cases e
      · rw [q, Jn] at hc
        cases hc
  · intro b o e k
    obtain ⟨n, e⟩ := hide e
    obtain ⟨sl, e1⟩ := up b o e k
    obtain ⟨sl2, e2⟩ := up1 b _ e1 k
    obtain ⟨sl3, e3⟩ := k4 b _ (st2 b _ n e2) k
    exact ⟨sl3, e3⟩
section
variable {X : Cx}
/-- the context of a comprehension's block whose errors are taken -/
abbrev Blk (X : Cx) (scope : Scope) (W : WX) (R : Cx → Prop) : Prop := ∀ (s : Shared) (H : Hp) (C : Addr) (cl : List (Str × Addr)) (fp : List Addr) (z : Value → Shared → Prop),
  Passes (L2.CX X.prog X.w) (blkE X s H scope (compEnvC scope cl C X.env) fp z) (AnyS W) → R (blkE X s H scope (compEnvC scope cl C X.env) fp z)
theorem lcX_core {pins : List (Addr × Obj)} {s : Shared} {σ : L2.St} {H : Hp} {Q : VK} {elt tg iter : Expr} {ifs : List Expr} {scope : Scope} {own : List (Str × Nat)} {pos pos' : Pos} {wi : TI} {g : TG} {tt : TT} {te : TE} {use : Option (Value → Sem Unit)} {Qf : Value → Shared → Prop} {W : WX}
    (hc : X.calm = true) (hN : X.N.Nodup) (tk : Takes X W) (hst : X.stack = X.env :: X.outer) (hfr : X.env.frame = some X.env.locals) (I : Inv X pins σ H s) (hi : PI X tg iter wi) (ok : BlkOk X.N X.env.scope scope own)
    (hg : Blk X scope W fun Y => PG Y tg g) (ht : Blk X scope W fun Y => PTs Y ifs tt) (he : Blk X scope W fun Y => PE Y elt te) (hs : ∀ x, foldedSetIterable iter X.env x = pure x) (h : tLc wi g tt te (own.map (·.2)) σ H Q)
    (fin : ∀ D C s' m H', Inv X pins σ H' s' → Q (.ref D) H' → s'.heap.Ns C m → FpOk X pins H' C → compPost (model X.prog X.w) X.A X.xe use Qf (.ref D) C (.ok .next) s') :
    wpAny (model X.prog X.w) X.A (comprehension (.ListComp elt [⟨tg, iter, ifs, 0⟩] scope pos) scope X.env pos' (newList []) false (eval iter X.env) use) Qf X.xe s := by
  refine compX (use := use) rfl hs (closure_ok fun y hy e => (ok.free y hy e).elim (fun k => I.ok.has _ (.inl k)) fun k => I.ok.has _ (.inr k)) ok.kind (fun y hy e => by rw [ok.uniq y hy, e]) ?_
  refine thn (hi.run pins s σ H _ I h) fun xv s1 hx => thn hx fun itv s2 h2 => ?_
  obtain ⟨it, fp, tn, J, H2, rfl, I2, T, st2, f2, q⟩ := h2
  refine wpAny_newObj_type (newEnv_comp ?_) (Nat.zero_le _)
  generalize hD : s2.heap.objs.size = D
  obtain ⟨Wv, ⟨m0, w0⟩, turn⟩ := q D (I2.hok.fresh (Nat.le_of_eq hD))
  generalize hs3 : ({ s2 with heap := s2.heap.push { cls := .type "list", data := .seq ([] : List Value).toArray } } : Shared) = s3
  have h3 : s3.heap = s2.heap.push { cls := .type "list", data := .seq ([] : List Value).toArray } := by rw [← hs3]
  have I3 : Inv X pins σ (upd H2 D (.lst [])) s3 := by
    rw [← hs3]
    exact I2.laid (t' := s2.toks) (fun _ _ e => Heap.get?_push_of_some _ e) (Nat.le_of_eq hD) ⟨Nat.zero_le _, [], 0, .nil, by rw [← hD]; exact Heap.get?_push_size _ rfl⟩
  have lt2 : ∀ b ∈ fp, b < s2.heap.objs.size := fun b hb => let ⟨_, e, _⟩ := T.obj _ _ st2 b hb; Heap.lt_size e
  have f3 : ∀ b ∈ fp, FpOk X pins (upd H2 D (.lst [])) b ∧ b < s3.heap.objs.size := fun b hb => by
    refine ⟨⟨?_, (f2 b hb).2⟩, by rw [h3, Heap.size_push]; exact Nat.lt_succ_of_lt (lt2 b hb)⟩
    rw [upd_ne (by rw [← hD]; exact Nat.ne_of_lt (lt2 b hb)), (f2 b hb).1]
  have f3' : ∀ b ∈ fp, (b ∈ X.ex ∨ X.s_0.heap.objs.size ≤ b) ∧ b ≠ X.env.locals ∧ (∀ x c, X.env.cells.lookup x = some c → c ≠ b) ∧ ∀ p ∈ X.pn ++ pins, p.1 ≠ b := fun b hb =>
    ⟨(f3 b hb).1.2.2.2.1, (f3 b hb).1.2.1, (f3 b hb).1.2.2.2.2.1, (f3 b hb).1.2.2.2.2.2⟩
  have st3 : tn 0 s3.heap := T.keep _ _ _ st2 fun _ _ _ e => by rw [h3]; exact Heap.get?_push_of_some _ e
  have I4 := block_start I3 ok hN f3
  show codeAny _ _ (.compStart _ 0 (.ref it) (.ref D) (compEnvC scope (cellsFrom (s3.heap.objs.size + 1) scope.names (cloFrom X.env.cells scope.names [])) s3.heap.objs.size X.env)) (cPost (model X.prog X.w) X.A X.xe use Qf (.ref D) s3.heap.objs.size X.env.frame) { s3 with heap := pushCells (s3.heap.push { cls := .type "dict", data := .dict #[] }) scope.names }
  have nfp : ∀ b ∈ fp, (upd H2 D (.lst [])) b = none := fun b hb => (f3 b hb).1.1
  have ps := fun (z : Value → Shared → Prop) (p : Passes (L2.CX X.prog X.w) (blkE X s3 (upd H2 D (.lst [])) scope (compEnvC scope (cellsFrom (s3.heap.objs.size + 1) scope.names (cloFrom X.env.cells scope.names [])) s3.heap.objs.size X.env) fp z) (AnyS W)) =>
    And.intro (hg _ _ _ _ _ z p) (And.intro (ht _ _ _ _ _ z p) (he _ _ _ _ _ z p))
  generalize hce : compEnvC scope (cellsFrom (s3.heap.objs.size + 1) scope.names (cloFrom X.env.cells scope.names [])) s3.heap.objs.size X.env = ce at I4 ps ⊢
  have cL : ce.locals = s3.heap.objs.size := by subst hce; rfl
  have cF : ce.frame = X.env.frame := by subst hce; rfl
  generalize hH3 : upd H2 D (.lst []) = H3 at I3 I4 ps w0 nfp f3
  generalize hs4 : ({ s3 with heap := pushCells (s3.heap.push { cls := .type "dict", data := .dict #[] }) scope.names } : Shared) = s4 at I4 ⊢
  have st4 : tn 0 s4.heap := T.keep _ _ _ st3 fun _ _ _ e => by rw [← hs4]; exact pushCells_keeps _ _ _ _ (Heap.get?_push_of_some _ e)
  obtain ⟨z, hz⟩ : ∃ z : Value → Shared → Prop, z = notedBy (model X.prog X.w) X.A ce (fun x s2 => cPost (model X.prog X.w) X.A X.xe use Qf (.ref D) s3.heap.objs.size X.env.frame (.error x) s2) := ⟨_, rfl⟩
  obtain ⟨Y, hY⟩ : ∃ Y : Cx, Y = blkE X s3 H3 scope ce fp z := ⟨_, rfl⟩
  have pas : Passes (L2.CX X.prog X.w) (blkE X s3 H3 scope ce fp z) (AnyS W) := fun ps' σ' H' s5 e s6 I5 c5 => by
    show z e s6
    rw [hz, ← cL]
    exact out_of_blk tk hst hfr I3 cL cF f3' I5 c5
  obtain ⟨pg, pt, pe⟩ := ps z pas
  have I4' : Inv (blkE X s3 H3 scope ce fp z) [] (wipe σ (own.map (·.2))) H3 s4 := inv_xe I4
  rw [← hY] at pg pt pe I4'
  have yp : Y.prog = X.prog := by rw [hY]
  have stat : ∀ {σ' : L2.St} {H' : Hp} {s' : Shared}, Inv Y [] σ' H' s' → (∀ b ∈ fp, H' b = none) → ∀ b ∈ fp, FpOk Y [] H' b := fun {σ' H' s'} I' hn b hb => by
    subst hY
    exact ⟨hn b hb, (I'.ok.exf b hb).1, I'.ok.exfs b hb, .inl hb, fun x c e => (I'.ok.exf b hb).2 x c e, fun p hp => absurd (show p ∈ ([] : List (Addr × Obj)) ++ [] from hp) (by simp)⟩
  have loop : codeAny (model X.prog X.w) X.A (.compLoop (.ListComp elt [⟨tg, iter, ifs, 0⟩] scope pos) 0 (.ref it) (.ref D) ce) (cPost (model X.prog X.w) X.A X.xe use Qf (.ref D) s3.heap.objs.size X.env.frame) s4 := by
    subst hY
    refine compLoop_any (fun n s' => ∃ i H', Inv (blkE X s3 H3 scope ce fp z) [] (wipe σ (own.map (·.2))) H' s' ∧ tn i s'.heap ∧ (∀ b ∈ fp, H' b = none) ∧ Wv i n H') ?_ m0 ⟨0, H3, I4', st4, nfp, w0⟩
    rw [← hz]
    rintro n s5 ⟨i, H5, I5, st5, n5, w5⟩
    rcases turn i n H5 w5 with ⟨stop, qq⟩ | ⟨go, Nx, hNx, step⟩
    · refine thnF (T.done (blkE X s3 H3 scope ce fp z) rfl rfl rfl hc i [] s5 _ H5 (fun _ _ => False) I5 (stat I5 n5) st5 stop) fun r s6 ⟨hr, I6⟩ => ?_
      subst hr
      have I7 : Inv X pins σ H5 s6 := I3.call' (ch := fp) I6.os I6.base I6.hok I6.bare f3'
      have nC : H5 s3.heap.objs.size = none := by rw [← cL]; exact I6.free
      obtain ⟨m, hn, _⟩ := I6.loc
      have hn : s6.heap.Ns ce.locals m := hn
      rw [cL] at hn
      exact fin D _ s6 m H5 I7 qq hn (I3.fpOk (Nat.le_refl _) nC)
    · refine thnF (T.item (blkE X s3 H3 scope ce fp z) rfl rfl rfl hc i [] s5 _ H5 (fun _ _ => False) I5 (stat I5 n5) st5 go) fun r s6 ⟨u, hr, h6⟩ => ?_
      subst hr
      refine thnF h6 fun _ s7 ⟨x, H7, I7, r7, y7, st7, n7⟩ => ?_
      have I7' := I7.pinned (stat I7 n7) (T.obj _ _ st7)
      refine thn (pg.run _ s7 _ H7 x u _ I7' r7 (step x H7 y7)) fun _ s8 ⟨σ8, H8, I8, hw8, q8⟩ => ?_
      refine thn (pt.run _ s8 σ8 H8 _ I8 q8) fun b s9 ⟨H9, I9, q9⟩ => ?_
      have again : ∀ {s' : Shared} {H' : Hp}, Inv (blkE X s3 H3 scope ce fp z) ([] ++ pinsAt fp s7.heap) σ8 H' s' → Nx H' → ∃ m, m < n ∧ ∃ i H', Inv (blkE X s3 H3 scope ce fp z) [] (wipe σ (own.map (·.2))) H' s' ∧ tn i s'.heap ∧ (∀ b ∈ fp, H' b = none) ∧ Wv i m H' := fun {s' H'} I' nx => by
        obtain ⟨m', hm, w'⟩ := hNx H' nx
        have pin' : ∀ b ∈ fp, ∀ o, s7.heap.get? b = some o → s'.heap.get? b = some o ∧ H' b = none := fun b hb o e =>
          let y := I'.pin (b, o) (List.mem_append_right _ (List.mem_append_right _ (mem_pinsAt hb e)))
          ⟨y.1, y.2.1⟩
        refine ⟨m', hm, i + 1, H', (I'.unpinned (pins := [])).weak (by rw [← hw8, wipe_length]) (fun j v e => ?_), T.keep _ _ _ st7 fun b hb o e => (pin' b hb o e).1, fun b hb => ?_, w'⟩
        · rw [← hw8] at e
          exact (wipe_some e).1
        · obtain ⟨o, e, _⟩ := T.obj _ _ st7 b hb
          exact (pin' b hb o e).2
      cases b with
      | false =>
        rw [if_neg Bool.false_ne_true] at q9 ⊢
        exact again I9 q9
      | true =>
        rw [if_pos rfl] at q9 ⊢
        refine thn (pe.run _ s9 σ8 H9 _ I9 q9) fun v s10 ⟨yv, H10, I10, r10, acc, hD10, hz10, nx⟩ => ?_
        exact app_ok (X := blkE X s3 H3 scope ce fp z) I10 hD10 hz10 r10 fun s11 I11 => again I11 nx
  exact codeAny_compStart_list loop (T.self X.A 0 _ _ _ st4 loop)
variable {elt tg iter : Expr} {ifs : List Expr} {scope : Scope} {own : List (Str × Nat)} {pos : Pos} {wi : TI} {g : TG} {tt : TT} {te : TE} {W : WX}
/-- as a value -/
theorem pe_lcX (tk : Takes X W) (hc : X.calm = true) (hN : X.N.Nodup) (hi : PI X tg iter wi) (ok : BlkOk X.N X.env.scope scope own)
    (hg : Blk X scope W fun Y => PG Y tg g) (ht : Blk X scope W fun Y => PTs Y ifs tt) (he : Blk X scope W fun Y => PE Y elt te) (hs : ∀ x, foldedSetIterable iter X.env x = pure x := by intro _; rfl)
    (hst : X.stack = X.env :: X.outer := by rfl) (hfr : X.env.frame = some X.env.locals := by rfl) :
    PE X (.ListComp elt [⟨tg, iter, ifs, 0⟩] scope pos) (tLc wi g tt te (own.map (·.2))) := by
  refine ⟨fun pins s σ H Q I h => ?_⟩
  rw [eval_ListComp]
  refine lcX_core hc hN tk hst hfr I hi ok hg ht he hs h fun D C s' m H' I' q hn f => ⟨m, hn, fun h2 sb => ?_⟩
  obtain ⟨f0, f1, f2, f3, f4, f5⟩ := f
  exact ⟨.ref D, H', I'.turned (t' := s'.toks) (fun b o hb e => (sb.2 b hb).trans e) f0 f1 f3 f4 f5, rfl, q⟩
/-- name = [..], a local -/
theorem ps_setLcX {i : Nat} {y : Str} {py spos : Pos} (tk : Takes X W) (hc : X.calm = true) (hN : X.N.Nodup) (hy : X.N[i]? = some y) (hyl : X.env.scope.names.lookup y = some .local)
    (hsw : swapsWith (.ListComp elt [⟨tg, iter, ifs, 0⟩] scope pos) (some (.Name y py)) spos.line X.env = pure true) (hi : PI X tg iter wi) (ok : BlkOk X.N X.env.scope scope own)
    (hg : Blk X scope W fun Y => PG Y tg g) (ht : Blk X scope W fun Y => PTs Y ifs tt) (he : Blk X scope W fun Y => PE Y elt te) (hs : ∀ x, foldedSetIterable iter X.env x = pure x := by intro _; rfl)
    (hst : X.stack = X.env :: X.outer := by rfl) (hfr : X.env.frame = some X.env.locals := by rfl) :
    PS X (.Assign [.Name y py] (.ListComp elt [⟨tg, iter, ifs, 0⟩] scope pos) spos) (tAsg (tLc wi g tt te (own.map (·.2))) (gName i)) := by
  refine ⟨fun pins s σ H D I h => ?_⟩
  rw [exec_Assign_Name_used _ _ _ _ hsw]
  refine wpAny_bind (wpAny_standAt (wpAny_bind ?_))
  show wpAny _ X.A (do let _ ← comprehension _ scope X.env (firstIterPos [⟨tg, iter, ifs, 0⟩] pos) (newList []) false (eval iter X.env) (some (assign (.Name y py) X.env))) _ _ s
  have h : tLc wi g tt te (own.map (·.2)) σ H (fun x H1 => gName i x σ H1 D.nx) := h
  refine wpAny_bind (thn (lcX_core (Qf := fun _ s' => SP X pins D .next s') hc hN tk hst hfr I hi ok hg ht he hs h fun L C s' m H' I' q hn f => ?_) fun _ s' hq => wpAny_pure (wpAny_pure hq))
  show wpAny _ _ (assign (.Name y py) X.env (.ref L)) _ _ _
  refine wpAny_assign_Name (store_ok2 (v := V.ref L) I' hN hy (.inl hyl) rfl (fun s2 I2 ⟨a, sb, ha⟩ => ?_) (.inr hyl))
  obtain ⟨f0, f1, f2, f3, f4, f5⟩ := f
  have haC : C ≠ a := ha.elim (fun k => by rw [k]; exact f1) fun k e => f4 y a k e.symm
  refine ⟨m, hn.sameBut sb haC, fun h3 sb3 => ?_⟩
  exact ⟨_, H', I2.turned (t' := s2.toks) (fun b o hb e => (sb3.2 b hb).trans e) f0 f1 f3 f4 f5, q⟩
end
end Pl
namespace Pl
open PySem PySem.Spec PyProof.Rows L2
/-! defs with a star parameter, objects made of a starred list, class methods, constants of a class -/
/-- a method by its raw promise -/
structure MCalR (P : Program) (w : World) (K : PySem.W.Frag) (mg : Str → Option Value) (base : Heap) (CX : CXT) (k : Nat) (C : Addr) (m : Str) (sp : Sp) : Prop where
  ex : ∃ f, FnR P w K mg base CX k f sp ∧ PySem.W.findIn K (.ref C) m = some (some (.ref f)) ∧ PySem.W.isFn K (.ref f) = true
theorem MCal.raw {P : Program} {w : World} {K : PySem.W.Frag} {mg : Str → Option Value} {base : Heap} {k : Nat} {C : Addr} {m : Str} {ps : List Str} {sp : Sp} (c : MCal P w K mg base k C m ps sp) : MCalR P w K mg base CX0 k C m sp := by
  obtain ⟨f, fd, F, h1, h2, kp, hb⟩ := c.ex
  exact ⟨f, (F.raw hb .nil).imp fun vs H Q E h => by simpa using h, h1, h2⟩
theorem MCalX.raw {P : Program} {w : World} {K : PySem.W.Frag} {mg : Str → Option Value} {base : Heap} {k : Nat} {C : Addr} {m : Str} {ps : List Str} {sp : Sp} (c : MCalX P w K mg base k C m ps sp) : MCalR P w K mg base (L2.CX P w) k C m sp := by
  obtain ⟨f, fd, F, h1, h2, kp, hb⟩ := c.ex
  exact ⟨f, (F.raw hb .nil).imp fun vs H Q E h => by simpa using h, h1, h2⟩
/-- what is left over stands in a new tuple -/
def spStar (sp : Sp) : Sp := fun vs H Q E => ∃ (a : V) (rest : List V), vs = a :: rest ∧ rest.length ≤ sizeLine ∧ ∀ p, H p = none → sp [a, .ref p] (upd H p (.tup rest)) Q E
def BindStar (x qual : Str) (st : Stmt) (p1 pv : Str) : Prop := ∀ (kV doc pm : Value) (an : Option Addr) (cdv ct : Value) (us rest : List Value), us.length = [p1].length →
  bindArgs (PySem.W.fnOf x qual (defArgs st) (defBody st) (defScope st) .none kV doc pm an cdv ct) ⟨us ++ rest, []⟩ = (newTuple rest >>= fun t => pure ([p1].zip us ++ [(pv, t)]))
section
variable {P : Program} {w : World} {K : PySem.W.Frag} {mg : Str → Option Value} {base : Heap} {C : Addr} {x qual : Str} {st : Stmt} {N : List Str} {p1 pv : Str} {k : Nat} {sp : Sp}
theorem MhK.star (D : MhK K C x qual st) (S : FnScope N [p1, pv] (defScope st)) (hb : BindStar x qual st p1 pv)
    (bod : ∀ (f : Addr) (cdv : Value) (A : Around) (out : List Env) (s : Shared) (H : Hp) (vs : List V) (Q : VK) (E : XK),
      Room k (A.deeper (envOfC qual (defScope st) s.heap.objs.size f cdv)) → sp vs H Q E →
      ∃ t, PSs (cxOf CX0 P w K mg base N qual (defScope st) f cdv A out s H E).nox (defBody st) t ∧ t { nx := fun _ H' => Q .non H', rt := Q } (start N vs) H) : MCalR P w K mg base CX0 (k + 1) C x (spStar sp) := by
  obtain ⟨f, a, i, od, an, sl, oc, kV, dc, pm, cd, ct, l, c, kp⟩ := D.ex
  refine ⟨f, (StX.fn_star (ps := [p1]) (pv := pv) (sp := sp) (k := k) l c S StX.cxUp_none (hb kV dc pm an cd ct) fun A out s H vs Q E hr h => ?_).imp fun vs H Q E h => ?_, a, i⟩
  · obtain ⟨t, h1, h2⟩ := bod f cd A out s H vs Q E hr h
    exact ⟨t, h1.nox, h2⟩
  · obtain ⟨v, rest, rfl, hl, q⟩ := h
    exact ⟨[v], rest, rfl, rfl, hl, q⟩
theorem MhK.starX (D : MhK K C x qual st) (S : FnScope N [p1, pv] (defScope st)) (hb : BindStar x qual st p1 pv)
    (bod : ∀ (f : Addr) (cdv : Value) (A : Around) (out : List Env) (s : Shared) (H : Hp) (vs : List V) (Q : VK) (E : XK),
      Room k (A.deeper (envOfC qual (defScope st) s.heap.objs.size f cdv)) → sp vs H Q E →
      ∃ t, PSs (cxOf (L2.CX P w) P w K mg base N qual (defScope st) f cdv A out s H E) (defBody st) t ∧ t { nx := fun _ H' => Q .non H', rt := Q } (start N vs) H) : MCalR P w K mg base (L2.CX P w) (k + 1) C x (spStar sp) := by
  obtain ⟨f, a, i, od, an, sl, oc, kV, dc, pm, cd, ct, l, c, kp⟩ := D.ex
  refine ⟨f, (StX.fn_star (ps := [p1]) (pv := pv) (sp := sp) (k := k) l c S StX.cxUp (hb kV dc pm an cd ct) fun A out s H vs Q E hr h => ?_).imp fun vs H Q E h => ?_, a, i⟩
  · exact bod f cd A out s H vs Q E hr h
  · obtain ⟨v, rest, rfl, hl, q⟩ := h
    exact ⟨[v], rest, rfl, rfl, hl, q⟩
end
/-- C(*e) -/
def tMkS (K : PySem.W.Frag) (C : Addr) (sp : Sp) (E : XK) (te : TE) : TE := fun σ H Q => te σ H fun y H1 => ∃ a xs, y = V.ref a ∧ (SqT K H1 a xs ∨ SqL K H1 a xs) ∧
  ∀ x dx, H1 x = none → H1 dx = none → dx ≠ x → sp (V.ref x :: xs) (upd (upd H1 dx (.own x)) x (.ins C dx [])) (fun v H2 => v = .non ∧ Q (.ref x) H2) E
section
variable {X : Cx} {CX : CXT} {k : Nat} {C : Addr} {sp : Sp} {E : XK} {p pos sps : Pos} {x : Str} {e fe : Expr} {es : List Expr} {te tf : TE} {t : TA}
theorem pe_mkS (c : MCalR X.prog X.w X.K X.mg X.base CX k C "__init__" sp) (hx : Passes CX X E) (mk : PySem.W.makesIn X.K C = true) (kc : PySem.W.keepIn X.K (.ref C) = true) (hm : X.mg x = some (.ref C)) (hr : Room (k + 1) X.A) (he : PE X e te)
    (hg : Gl X x := by rfl) (hdb : (x == ("__debug__" : Str)) = false := by decide) (hst : starEach [.Starred e sps] X.env = [(true, eval e X.env)] := by rfl) :
    PE X (.Call (.Name x p) [.Starred e sps] [] pos) (tMkS X.K C sp E te) := by
  obtain ⟨f, F, h1, h2⟩ := c.ex
  refine ⟨fun pins s σ H Q I h => wpAny_Call_Name_kw (ld_glob I hg hm ?_ hdb)⟩
  refine PySem.W.callWith_S (h₀ := X.base) I.ok.mod.kin kc (thn (he.run pins s σ H _ I h) fun v s1 ⟨y, H1, I1, ry, a, xs, ey, hxs, q⟩ => ?_) hst
  subst ey
  obtain rfl : v = Value.ref a := ry
  exact StX.star_any I1 hxs fun us s2 I2 rv => ⟨I2.kIn, StX.run_makeR ⟨mk, h1, h2, kc⟩ F hr hx I2 rv q⟩
/-- v(*e), v a variable that holds the class -/
def tMkV (K : PySem.W.Frag) (C : Addr) (sp : Sp) (E : XK) (tf te : TE) : TE := fun σ H Q => tf σ H fun z H0 => z = .ref C ∧ tMkS K C sp E te σ H0 Q
theorem pe_mkV (c : MCalR X.prog X.w X.K X.mg X.base CX k C "__init__" sp) (hx : Passes CX X E) (mk : PySem.W.makesIn X.K C = true) (kc : PySem.W.keepIn X.K (.ref C) = true) (hr : Room (k + 1) X.A) (hf : PE X fe tf) (he : PE X e te)
    (ht : eval (.Call fe [.Starred e sps] [] pos) X.env = (do callWith pos (← eval fe X.env) [] (backTo pos (starEach [.Starred e sps] X.env)) (backToKw pos (keywordEach [] X.env))) := by rfl)
    (hst : starEach [.Starred e sps] X.env = [(true, eval e X.env)] := by rfl) : PE X (.Call fe [.Starred e sps] [] pos) (tMkV X.K C sp E tf te) := by
  obtain ⟨f, F, h1, h2⟩ := c.ex
  refine ⟨fun pins s σ H Q I h => ?_⟩
  refine Call_ (thn (hf.run pins s σ H _ I h) fun u s0 ⟨z, H0, I0, rz, ez, h0⟩ => ?_) ht
  subst ez
  obtain rfl : u = Value.ref C := rz
  refine PySem.W.callWith_S (h₀ := X.base) I0.ok.mod.kin kc (thn (he.run pins s0 σ H0 _ I0 h0) fun v s1 ⟨y, H1, I1, ry, a, xs, ey, hxs, q⟩ => ?_) hst
  subst ey
  obtain rfl : v = Value.ref a := ry
  exact StX.star_any I1 hxs fun us s2 I2 rv => ⟨I2.kIn, StX.run_makeR ⟨mk, h1, h2, kc⟩ F hr hx I2 rv q⟩
/-- C(e, ..) by a raw promise -/
theorem pe_mkR (c : MCalR X.prog X.w X.K X.mg X.base CX k C "__init__" sp) (hx : Passes CX X E) (mk : PySem.W.makesIn X.K C = true) (kc : PySem.W.keepIn X.K (.ref C) = true) (hm : X.mg x = some (.ref C)) (hr : Room (k + 1) X.A) (ha : PA X (e :: es) t)
    (hg : Gl X x := by rfl) (hdb : (x == ("__debug__" : Str)) = false := by decide)
    (he : starEach (e :: es) X.env = (false, eval e X.env) :: starEach es X.env := by rfl) (hpl : (backTo pos (starEach es X.env)).any (·.1) = false := by rfl) :
    PE X (.Call (.Name x p) (e :: es) [] pos) (StX.tMakeR C sp E t) := by
  obtain ⟨f, F, h1, h2⟩ := c.ex
  exact StX.pe_makeR ⟨mk, h1, h2, kc⟩ F hr hg hm hx ha hdb he hpl
end
/-! class methods -/
structure CmK (K : PySem.W.Frag) (C : Addr) (m qual : Str) (st : Stmt) : Prop where
  ex : ∃ (mc : Value) (p g : Addr), ClX.CRead K C mc ∧ ClX.CMet K C mc m p g ∧ FnAt K g m qual st
theorem CmK.of {K : PySem.W.Frag} {C p g : Addr} {mc : Value} {m qual : Str} {st : Stmt} {rest : List Value} {od an : Option Addr} {sl : Array (Option Value)} {oc kV dc pm cd ct : Value}
    (rd : PySem.W.readsIn K C mc = true) (ga : PySem.W.specialIn K (.ref C) "__getattribute__" = some (some (.builtin "type.__getattribute__")))
    (at_ : PySem.W.findCls K (.ref C) mc m = some (.get (.builtin "classmethod.__get__") (.ref p) .none (.ref C))) (rc : PySem.W.recIn K p "classmethod" = some (.ref g :: rest)) (fi : PySem.W.fnIn K g = true)
    (l : K.lookup g = some ⟨oc, od, .func (PySem.W.fnOf m qual (defArgs st) (defBody st) (defScope st) .none kV dc pm an cd ct), sl⟩) (c : PySem.W.codeIn K cd qual = true) (k : PySem.W.keepIn K (.ref g) = true) : CmK K C m qual st :=
  ⟨⟨mc, p, g, ⟨rd, ga⟩, ⟨at_, ⟨rest, rc⟩, fi⟩, od, an, sl, oc, kV, dc, pm, cd, ct, l, c, k⟩⟩
structure CmCal (P : Program) (w : World) (K : PySem.W.Frag) (mg : Str → Option Value) (base : Heap) (CX : CXT) (k : Nat) (C : Addr) (m : Str) (sp : Sp) : Prop where
  ex : ∃ (mc : Value) (p g : Addr), ClX.CRead K C mc ∧ ClX.CMet K C mc m p g ∧ FnR P w K mg base CX k g sp
section
variable {P : Program} {w : World} {K : PySem.W.Frag} {mg : Str → Option Value} {base : Heap} {C : Addr} {x qual : Str} {st : Stmt} {N ps : List Str} {k : Nat} {sp : Sp}
theorem CmK.cal (D : CmK K C x qual st) (b : BindOk x qual st ps) (S : FnScope N ps (defScope st)) (lng : ∀ vs H Q E, sp vs H Q E → vs.length = ps.length)
    (bod : ∀ (f : Addr) (cdv : Value) (A : Around) (out : List Env) (s : Shared) (H : Hp) (vs : List V) (Q : VK) (E : XK),
      Room k (A.deeper (envOfC qual (defScope st) s.heap.objs.size f cdv)) → sp vs H Q E →
      ∃ t, PSs (cxOf CX0 P w K mg base N qual (defScope st) f cdv A out s H E).nox (defBody st) t ∧ t { nx := fun _ H' => Q .non H', rt := Q } (start N vs) H) : CmCal P w K mg base CX0 (k + 1) C x sp := by
  obtain ⟨mc, p, g, h1, h2, od, an, sl, oc, kV, dc, pm, cd, ct, l, c, kp⟩ := D.ex
  have F := fun_mk (st := st) l c kp
  exact ⟨mc, p, g, h1, h2, ((F.ok S lng (bod g)).raw (F.binds b) .nil).imp fun vs H Q E h => by simpa using h⟩
end
/-- a constant of a class -/
structure CvK (K : PySem.W.Frag) (C : Addr) (f : Str) (n : Int) : Prop where
  ex : ∃ (mc : Value) (t : Tok), ClX.CRead K C mc ∧ ClX.CVal K C mc f (.int n) (.int n t)
theorem CvK.of {K : PySem.W.Frag} {C : Addr} {mc : Value} {f : Str} {n : Int} {t : Tok} (rd : PySem.W.readsIn K C mc = true) (ga : PySem.W.specialIn K (.ref C) "__getattribute__" = some (some (.builtin "type.__getattribute__")))
    (at_ : PySem.W.findCls K (.ref C) mc f = some (.val (.int n t))) : CvK K C f n := ⟨⟨mc, t, ⟨rd, ga⟩, at_, ⟨t, rfl⟩⟩⟩
section
variable {X : Cx} {CX : CXT} {k : Nat} {C : Addr} {sp : Sp} {E : XK} {pos apos : Pos} {f m : Str} {e o : Expr} {es : List Expr} {te ta : TE} {t : TA} {n : Int} {pl : Sem Bool}
theorem pe_cv (c : CvK X.K C f n) (he : PE X e te) (hb : attributeBase e f X.env (eval e X.env) = eval e X.env := by rfl) : PE X (.Attribute e f pos) (fun σ H Q => te σ H fun x H1 => x = .ref C ∧ Q (.int n) H1) := by
  obtain ⟨mc, t, r, v⟩ := c.ex
  refine ⟨fun pins s σ H Q I h => ?_⟩
  refine attr_of hb (thn (he.run pins s σ H _ I h) fun u s1 ⟨x, H1, I1, rx, ex, q⟩ => ?_)
  subst ex
  obtain rfl : u = Value.ref C := rx
  exact ClX.getcval_ok I1 r v fun s2 I2 => ⟨.int n, H1, I2, v.rel, q⟩
theorem pe_cm (c : CmCal X.prog X.w X.K X.mg X.base CX k C m sp) (hx : Passes CX X E) (hr : Room k X.A) (he : PE X o ta) (ha : PA X (e :: es) t)
    (hst : starEach (e :: es) X.env = (false, eval e X.env) :: starEach es X.env := by rfl) (hpl : (backTo pos (starEach es X.env)).any (·.1) = false := by rfl)
    (ht : eval (.Call (.Attribute o m apos) (e :: es) [] pos) X.env = (do
      let ov ← eval o X.env
      standAt apos.atName
      let (f, first) ← holding [ov] (getMethod ov m pl)
      callWith pos f first (backTo pos (starEach (e :: es) X.env)) (backToKw pos (keywordEach [] X.env))) := by rfl) :
    PE X (.Call (.Attribute o m apos) (e :: es) [] pos) (ClX.tCMeth C sp E ta t) := by
  obtain ⟨mc, p, g, h1, h2, F⟩ := c.ex
  exact ClX.pe_cmeth he h1 h2 F hr hx ha hst hpl ht
end
end Pl
namespace Pl
open PySem PySem.Spec PyProof.Rows L2 TL
/-! the texts of amounts, lines, divisions -/
abbrev wd (n : Int) : Str := toString n
theorem wd_all : ∀ i : Fin 31, (decide (10 ∉ tl (wd (i.val : Int))) && decide (32 ∉ tl (wd (i.val : Int))) && decide ((tl (wd (i.val : Int))).length ≤ 2)) = true := by decide +kernel
theorem wd_inj31 : ∀ i j : Fin 31, wd (i.val : Int) = wd (j.val : Int) → i = j := by decide +kernel
theorem wd_ok {n : Int} (h0 : 0 ≤ n) (h1 : n ≤ 30) : 10 ∉ tl (wd n) ∧ 32 ∉ tl (wd n) ∧ (tl (wd n)).length ≤ 2 := by
  have e : ((n.toNat : Nat) : Int) = n := by omega
  have h := wd_all ⟨n.toNat, by omega⟩
  simp only [e, Bool.and_eq_true, decide_eq_true_eq] at h
  exact ⟨h.1.1, h.1.2, h.2⟩
theorem wd_inj {n m : Int} (h0 : 0 ≤ n) (h1 : n ≤ 30) (k0 : 0 ≤ m) (k1 : m ≤ 30) (h : wd n = wd m) : n = m := by
  have e : ((n.toNat : Nat) : Int) = n := by omega
  have e2 : ((m.toNat : Nat) : Int) = m := by omega
  have q := wd_inj31 ⟨n.toNat, by omega⟩ ⟨m.toNat, by omega⟩ (by simpa only [e, e2] using h)
  have := congrArg Fin.val q
  simp only at this
  omega
def line (ns : List Int) : Str := Str.join " " (ns.map wd)
def text (rows : List (List Int)) : Str := Str.join "" (rows.map fun ns => line ns ++ "\n")
theorem joinL_mem {S : List Nat} {c : Nat} : ∀ {ps : List (List Nat)}, c ∈ joinL S ps → c ∈ S ∨ ∃ p ∈ ps, c ∈ p
  | [], h => by simp [joinL] at h
  | [p], h => .inr ⟨p, List.mem_singleton.mpr rfl, h⟩
  | p :: q :: r, h => by
    unfold joinL at h
    rcases List.mem_append.mp h with h | h
    · exact .inr ⟨p, List.mem_cons_self, h⟩
    · rcases List.mem_append.mp h with h | h
      · exact .inl h
      · rcases joinL_mem h with h | ⟨z, hz, h⟩
        · exact .inl h
        · exact .inr ⟨z, List.mem_cons_of_mem _ hz, h⟩
theorem joinL_len {S : List Nat} {k : Nat} : ∀ {ps : List (List Nat)}, (∀ p ∈ ps, p.length ≤ k) → (joinL S ps).length ≤ (k + S.length) * ps.length
  | [], _ => Nat.zero_le _
  | [p], h => by
    have := h p (List.mem_singleton.mpr rfl)
    show p.length ≤ (k + S.length) * 1
    omega
  | p :: q :: r, h => by
    have h1 := h p List.mem_cons_self
    have h2 := joinL_len (S := S) (ps := q :: r) fun z hz => h z (List.mem_cons_of_mem _ hz)
    show (p ++ (S ++ joinL S (q :: r))).length ≤ (k + S.length) * ((q :: r).length + 1)
    rw [List.length_append, List.length_append, Nat.mul_add, Nat.mul_one]
    omega
theorem tl_line (ns : List Int) : tl (line ns) = joinL [32] (ns.map fun n => tl (wd n)) := by
  unfold line
  rw [tl_join, List.map_map]
  rfl
theorem line_free {ns : List Int} (am : ∀ r ∈ ns, 0 ≤ r ∧ r ≤ 30) : 10 ∉ tl (line ns) := fun h => by
  rw [tl_line] at h
  rcases joinL_mem h with h | ⟨p, hp, h⟩
  · exact absurd h (by decide)
  · obtain ⟨n, hn, rfl⟩ := List.mem_map.mp hp
    exact (wd_ok (am n hn).1 (am n hn).2).1 h
theorem line_len {ns : List Int} (am : ∀ r ∈ ns, 0 ≤ r ∧ r ≤ 30) : (line ns).length ≤ 3 * ns.length := by
  have h : (tl (line ns)).length ≤ 3 * ns.length := by
    rw [tl_line]
    have := joinL_len (S := [32]) (k := 2) (ps := ns.map fun n => tl (wd n)) fun p hp => by
      obtain ⟨n, hn, rfl⟩ := List.mem_map.mp hp
      exact (wd_ok (am n hn).1 (am n hn).2).2.2
    simpa using this
  rw [len_tl]; exact h
theorem split_line {ns : List Int} (ne : ns ≠ []) (am : ∀ r ∈ ns, 0 ≤ r ∧ r ≤ 30) : Txt.split (line ns) " " = ns.map wd := by
  have e : line ns = Txt.join " " (ns.map wd) := (join_eq _ _).symm
  rw [e]
  refine split_join (s := 32) (S := []) rfl (by decide +kernel) (by simpa using ne) fun p hp => ?_
  obtain ⟨n, hn, rfl⟩ := List.mem_map.mp hp
  exact (wd_ok (am n hn).1 (am n hn).2).2.1
theorem tl_text (rows : List (List Int)) : tl (text rows) = (rows.map fun ns => tl (line ns) ++ [10]).flatten := by
  unfold text
  rw [tl_join]
  have e : ∀ ps : List (List Nat), joinL [] ps = ps.flatten := by
    intro ps
    induction ps with
    | nil => rfl
    | cons p r ih =>
      cases r with
      | nil => simp [joinL]
      | cons q r => 
        show p ++ ([] ++ joinL [] (q :: r)) = _
        rw [ih]
        simp
  have z : tl ("" : Str) = [] := rfl
  rw [z, e, List.map_map]
  refine congrArg List.flatten (List.map_congr_left fun ns _ => ?_)
  show tl (line ns ++ "\n") = _
  rw [tl_append]
  rfl
theorem body_tl : ∀ {rows : List (List Int)}, rows ≠ [] → (rows.map fun ns => tl (line ns) ++ [10]).flatten = joinL [10] (rows.map fun ns => tl (line ns)) ++ [10]
  | [], h => absurd rfl h
  | [r], _ => by simp [joinL]
  | r :: q :: rs, _ => by
    have ih := body_tl (rows := q :: rs) (by simp)
    rw [List.map_cons, List.flatten_cons, ih]
    show (tl (line r) ++ [10]) ++ _ = (tl (line r) ++ ([10] ++ joinL [10] ((q :: rs).map fun ns => tl (line ns)))) ++ [10]
    simp
def body (rows : List (List Int)) : Str := Str.join "\n" (rows.map line)
theorem tl_body (rows : List (List Int)) : tl (body rows) = joinL [10] (rows.map fun ns => tl (line ns)) := by
  unfold body
  rw [tl_join, List.map_map]
  rfl
theorem text_tl {rows : List (List Int)} (h : rows ≠ []) : tl (text rows) = tl (body rows) ++ [10] := by rw [tl_text, body_tl h, tl_body]
theorem text_ends {rows : List (List Int)} (h : rows ≠ []) : Txt.endswith (text rows) "\n" = true := by
  have e := text_tl h
  have l : (text rows).length = (tl (body rows)).length + 1 := by rw [len_tl, e]; simp
  unfold Txt.endswith
  have y1 : ("\n" : Str).length = 1 := rfl
  rw [y1, StrLaws.subAt_eq, l, Nat.add_sub_cancel]
  show (decide (0 + 1 ≤ (tl (body rows)).length + 1) && ((tl (text rows)).drop (tl (body rows)).length).take 1 == [10]) = true
  rw [e, List.drop_left]
  simp
theorem text_cut {rows : List (List Int)} (h : rows ≠ []) : cutS (text rows) none (some (-1)) = body rows := by
  refine ext_tl ?_
  have e := text_tl h
  have l : (text rows).length = (tl (body rows)).length + 1 := by rw [len_tl, e]; simp
  have i1 : HT.sIx (text rows).length 0 none = 0 := HT.sIx_none _ _
  have i2 : HT.sIx (text rows).length (text rows).length (some (-1)) = (tl (body rows)).length := by
    rw [l]
    unfold HT.sIx
    simp
    try omega
  unfold cutS
  show (((tl (text rows)).drop _).take _) = _
  rw [i1, i2, e, List.drop_zero, Nat.sub_zero, List.take_left]
theorem body_split {rows : List (List Int)} (h : rows ≠ []) (am : ∀ ns ∈ rows, ∀ r ∈ ns, 0 ≤ r ∧ r ≤ 30) : Txt.split (body rows) "\n" = rows.map line := by
  have e : body rows = Txt.join "\n" (rows.map line) := (join_eq _ _).symm
  rw [e]
  refine split_join (s := 10) (S := []) rfl (by decide +kernel) (by simpa using h) fun p hp => ?_
  obtain ⟨n, hn, rfl⟩ := List.mem_map.mp hp
  exact line_free (am n hn)
theorem text_len {rows : List (List Int)} {m k : Nat} (hk : rows.length ≤ k) (hm : ∀ ns ∈ rows, ns.length ≤ m) (am : ∀ ns ∈ rows, ∀ r ∈ ns, 0 ≤ r ∧ r ≤ 30) : (text rows).length ≤ (3 * m + 1) * k := by
  have h : (tl (text rows)).length ≤ (3 * m + 1) * rows.length := by
    rw [tl_text]
    induction rows with
    | nil => simp
    | cons r rs ih =>
      have h1 := line_len (am r List.mem_cons_self)
      have h2 := hm r List.mem_cons_self
      have h3 := ih (by simp at hk; omega) (fun ns h => hm ns (List.mem_cons_of_mem _ h)) (fun ns h => am ns (List.mem_cons_of_mem _ h))
      rw [List.map_cons, List.flatten_cons, List.length_append, List.length_append, ← len_tl]
      simp only [List.length_cons, List.length_nil, Nat.mul_add, Nat.mul_one]
      omega
  rw [len_tl]
  exact Nat.le_trans h (Nat.mul_le_mul_left _ hk)
theorem body_len {rows : List (List Int)} (h : rows ≠ []) : (body rows).length + 1 = (text rows).length := by
  rw [len_tl, len_tl, text_tl h]; simp
/-! methods without arguments, texts with values in them -/
section
variable {X : Cx} {k : Nat} {C : Addr} {ps : List Str} {sp : Sp} {E : XK} {pos apos : Pos} {m : Str} {o v1 v2 : Expr} {rest : List Expr} {ta : TE} {ts : List TE} {pl : Sem Bool}
def tMt0 (C : Addr) (m : Str) (sp : Sp) (E : XK) (ta : TE) : TE := fun σ H Q => ta σ H fun x H1 => ∃ a dx fs, x = .ref a ∧ H1 a = some (.ins C dx fs) ∧ fs.lookup m = none ∧ sp [x] H1 Q E
theorem pe_mt0 (c : MCal X.prog X.w X.K X.mg X.base k C m ps sp) (cl : Cls X.K C) (hr : Room k X.A) (he : PE X o ta)
    (ht : eval (.Call (.Attribute o m apos) [] [] pos) X.env = (do
      let ov ← eval o X.env
      standAt apos.atName
      let (f, first) ← holding [ov] (getMethod ov m pl)
      callWith pos f first (backTo pos (starEach [] X.env)) (backToKw pos (keywordEach [] X.env))) := by rfl) : PE X (.Call (.Attribute o m apos) [] [] pos) (tMt0 C m sp E0 ta) := by
  obtain ⟨f, fd, F, h1, h2, kp, hb⟩ := c.ex
  exact pe_meth0 (dvs := []) he cl ⟨h1, h2, kp⟩ F hr hb .nil pass0 ht
theorem pe_mt0X (c : MCalX X.prog X.w X.K X.mg X.base k C m ps sp) (hx : Passes (L2.CX X.prog X.w) X E) (cl : Cls X.K C) (hr : Room k X.A) (he : PE X o ta)
    (ht : eval (.Call (.Attribute o m apos) [] [] pos) X.env = (do
      let ov ← eval o X.env
      standAt apos.atName
      let (f, first) ← holding [ov] (getMethod ov m pl)
      callWith pos f first (backTo pos (starEach [] X.env)) (backToKw pos (keywordEach [] X.env))) := by rfl) : PE X (.Call (.Attribute o m apos) [] [] pos) (tMt0 C m sp E ta) := by
  obtain ⟨f, fd, F, h1, h2, kp, hb⟩ := c.ex
  exact pe_meth0 (dvs := []) he cl ⟨h1, h2, kp⟩ F hr hb .nil hx ht
def tJoined (ts : List TE) : TE := fun σ H Q => tJs ts Str.empty σ H fun out H1 => Q (.str out) H1
theorem pe_js (h : PJ X (v1 :: v2 :: rest) ts) : PE X (.JoinedStr (v1 :: v2 :: rest) pos) (tJoined ts) := pe_joined h
end
end Pl
namespace Pl
open PySem PySem.Spec PyProof.Rows L2
/-! zip(*rows), rows some tuples -/
section
variable {M : Model} {A : Around} {E : Value → Shared → Prop}
/-- a loop whose turns end as foreseen -/
theorem forIn_wp {α β : Type} {f : α → β → Sem (ForInStep β)} : ∀ (l : List α) (r : Nat → β) (P : Nat → Shared → Prop) (s : Shared),
    (∀ j x s, l[j]? = some x → P j s → wpAny M A (f x (r j)) (fun t s' => t = .yield (r (j + 1)) ∧ P (j + 1) s') E s) → P 0 s → wpAny M A (forIn l (r 0) f) (fun t s' => t = r l.length ∧ P l.length s') E s
  | [], r, P, s, _, h => by
    rw [List.forIn_nil]
    exact wpAny_pure ⟨rfl, h⟩
  | x :: l, r, P, s, st, h => by
    rw [List.forIn_cons]
    refine wpAny_bind (wpAny_mono (st 0 x s rfl h) (fun t s' ht => ?_) fun _ _ e => e)
    obtain ⟨rfl, h'⟩ := ht
    exact forIn_wp l (fun j => r (j + 1)) (fun j => P (j + 1)) s' (fun j y s q => st (j + 1) y s q) h'
end
def tiO (l : Addr) : Obj := { cls := .type "tuple_iterator", data := .fields #[.ref l, .int 0 0] }
/-- the iterators laid one after another -/
def itH (h : Heap) : List Addr → Heap
  | [] => h
  | l :: r => itH (h.push (tiO l)) r
def itV (n : Nat) : List Addr → List Value
  | [] => []
  | l :: r => .ref n :: itV (n + 1) r
theorem itH_keep : ∀ {ls : List Addr} {h : Heap} {b : Addr} {o : Obj}, h.get? b = some o → (itH h ls).get? b = some o
  | [], _, _, _, e => e
  | l :: r, h, b, o, e => itH_keep (ls := r) (Heap.get?_push_of_some _ e)
theorem itH_size : ∀ {ls : List Addr} {h : Heap}, (itH h ls).objs.size = h.objs.size + ls.length
  | [], _ => rfl
  | l :: r, h => by
    show (itH (h.push (tiO l)) r).objs.size = _
    rw [itH_size, Heap.size_push, List.length_cons]
    omega
theorem itH_at : ∀ {ls : List Addr} {h : Heap} {j : Nat} {l : Addr}, ls[j]? = some l → (itH h ls).get? (h.objs.size + j) = some (tiO l)
  | l :: r, h, 0, _, e => by
    cases e
    exact itH_keep (ls := r) (h := h.push (tiO l)) (Heap.get?_push_size _ rfl)
  | l :: r, h, j + 1, x, e => by
    have z := itH_at (ls := r) (h := h.push (tiO l)) (j := j) e
    rw [Heap.size_push] at z
    rw [show h.objs.size + (j + 1) = h.objs.size + 1 + j by omega]
    exact z
theorem itV_at : ∀ {ls : List Addr} {n j : Nat}, j < ls.length → (itV n ls)[j]? = some (.ref (n + j))
  | l :: r, n, 0, _ => rfl
  | l :: r, n, j + 1, h => by
    have z := itV_at (ls := r) (n := n + 1) (j := j) (by simpa using h)
    rw [show n + (j + 1) = n + 1 + j by omega]
    exact z
theorem itV_len : ∀ {ls : List Addr} {n : Nat}, (itV n ls).length = ls.length
  | [], _ => rfl
  | l :: r, n => by
    show (itV (n + 1) r).length + 1 = _
    rw [itV_len]
    rfl
section
variable {prog : Program} {w : World} {A : Around} {E : Value → Shared → Prop}
theorem iterAll_go {f : Value → Array Value → Sem (ForInStep (Array Value))} (hf : ∀ x a, f x a = (do let v ← holding a.toList (pyIter x); pure (.yield (a.push v)))) : ∀ (ls : List Addr) (acc : Array Value) (s : Shared) (Q : Array Value → Shared → Prop),
    (∀ l ∈ ls, ∃ xs, s.heap.IsTuple l xs) → Q (acc ++ (itV s.heap.objs.size ls).toArray) { s with heap := itH s.heap ls } → wpAny (model prog w) A (forIn (ls.map Value.ref) acc f) Q E s
  | [], acc, s, Q, _, h => by
    rw [List.map_nil, List.forIn_nil]
    refine wpAny_pure ?_
    have e : acc ++ (itV s.heap.objs.size []).toArray = acc := by simp [itV]
    rw [e] at h
    exact h
  | l :: r, acc, s, Q, ht, h => by
    rw [List.map_cons, List.forIn_cons, hf]
    obtain ⟨xs, hl⟩ := ht l List.mem_cons_self
    refine wpAny_bind (wpAny_bind (wpAny_holding (wpAny_pyIter_tuple hl (wpAny_pure ?_))))
    refine iterAll_go hf r _ _ Q (fun b hb => ?_) ?_
    · obtain ⟨ys, z⟩ := ht b (List.mem_cons_of_mem _ hb)
      exact ⟨ys, z.push _⟩
    · have e : (acc.push (Value.ref s.heap.objs.size)) ++ (itV (s.heap.push (tiO l)).objs.size r).toArray = acc ++ (itV s.heap.objs.size (l :: r)).toArray := by
        rw [Heap.size_push]
        apply Array.toList_inj.mp
        simp [itV]
      show Q ((acc.push (Value.ref s.heap.objs.size)) ++ (itV (s.heap.push (tiO l)).objs.size r).toArray) { s with heap := itH (s.heap.push (tiO l)) r }
      rw [e]
      exact h
theorem iterAll_wp {ls : List Addr} {s : Shared} {Q : List Value → Shared → Prop} (ht : ∀ l ∈ ls, ∃ xs, s.heap.IsTuple l xs) (h : Q (itV s.heap.objs.size ls) { s with heap := itH s.heap ls }) :
    wpAny (model prog w) A (Builtin.SmallTypes.iterAll (ls.map Value.ref)) Q E s := by
  unfold Builtin.SmallTypes.iterAll
  refine wpAny_bind (iterAll_go (fun x a => rfl) ls #[] s _ ht (wpAny_pure ?_))
  have e : (#[] ++ (itV s.heap.objs.size ls).toArray : Array Value).toList = itV s.heap.objs.size ls := by simp
  show Q (#[] ++ (itV s.heap.objs.size ls).toArray : Array Value).toList _
  rw [e]
  exact h
end
abbrev zN3 (h : Heap) (ls : List Addr) : Heap := (itH h ls).push { cls := .type "tuple", data := .seq (itV h.objs.size ls).toArray }
abbrev zN4 (h : Heap) (ls : List Addr) : Heap := (zN3 h ls).push { cls := .type "tuple", data := .seq ((itV h.objs.size ls).map fun _ => Value.none).toArray }
abbrev zN5 (h : Heap) (ls : List Addr) : Heap := (zN4 h ls).push { cls := .type "zip", data := .fields #[.none, .bool false, .bool false, .ref (itH h ls).objs.size, .ref (zN3 h ls).objs.size] }
theorem meets_zipN (ls : List Addr) (hn : ls.length ≤ 100) :
    Meets (Builtin.«zip.__new__» ⟨.type "zip" :: ls.map Value.ref, []⟩) (fun _ R s => (∀ l ∈ ls, ∃ xs, s.heap.IsTuple l xs) ∧ R (.ok (.ret (.ref (zN4 s.heap ls).objs.size))) { s with heap := zN5 s.heap ls }) :=
  .of_wp fun prog w A R s h => by
    obtain ⟨hp, g, d, tk, os⟩ := s
    obtain ⟨ht, h⟩ := h
    have ht : ∀ l ∈ ls, ∃ xs, Heap.IsTuple (Shared.heap ⟨hp, g, d, tk, os⟩) l xs := ht
    have hsub := sub_zip
    unfold Builtin.«zip.__new__»
    refine wpAny_bind (wpAny_of_eq (a := ((.type "zip" : Value), ls.map Value.ref)) ?_ ?_)
    · unfold Builtin.SmallTypes.newClass
      show (isType (.type "zip") >>= _) = _
      rw [show isType (.type "zip") = pure true from rfl]
      show (isSubtype (.type "zip") (.type "zip") >>= _) = _
      rw [hsub]
      rfl
    dsimp only
    rw [if_neg (by simp)]
    have z1 : (itV hp.objs.size ls).length ≤ sizeLine := by rw [itV_len]; exact Nat.le_trans hn (by decide)
    have z2 : ((itV hp.objs.size ls).map fun _ => Value.none).length ≤ sizeLine := by rw [List.length_map]; exact z1
    refine wpAny_bind (iterAll_wp ht (wpAny_bind (wpAny_newTuple (wpAny_bind (wpAny_newTuple (wpAny_bind ?_) z2)) z1)))
    show wpAny _ _ (newObj (.type "zip") (.fields #[.none, .bool false, .bool false, .ref (itH hp ls).objs.size, .ref (zN3 hp ls).objs.size])) _ _ _
    exact wpAny_newObj_type (wpAny_pure ⟨_, rfl, h⟩) (by size_fits)
/-- the checks of the call's form -/
theorem zip_checks : ∀ us : List Value, 2 ≤ us.length → us.length ≤ 4 → checkTypeCall "zip" ⟨us, []⟩ = pure () ∧ checkBuiltinCall "zip.__new__" ⟨.type "zip" :: us, []⟩ = pure () ∧ ∀ obj, argsOk "object.__init__" ⟨obj :: us, []⟩
  | [a, b], _, _ => ⟨F.typeCall_zip_2 _ _, F.newCall_zip_2 _ _, fun obj => F.args_object_init_3 obj _ _⟩
  | [a, b, c], _, _ => ⟨by kernel_rfl, by kernel_rfl, fun obj => by unfold argsOk; kernel_rfl⟩
  | [a, b, c, d], _, _ => ⟨by kernel_rfl, by kernel_rfl, fun obj => by unfold argsOk; kernel_rfl⟩
  | [], h, _ => absurd h (by simp)
  | [_], h, _ => absurd h (by simp)
  | _ :: _ :: _ :: _ :: _ :: _, _, h => absurd h (by simp)
section
variable {prog : Program} {w : World} {A : Around} {E : Value → Shared → Prop} {s : Shared}
theorem call_zipN {ls : List Addr} {Q : Value → Shared → Prop} (h2 : 2 ≤ ls.length) (h4 : ls.length ≤ 4) (ht : ∀ l ∈ ls, ∃ xs, s.heap.IsTuple l xs)
    (h : Q (.ref (zN4 s.heap ls).objs.size) { s with heap := zN5 s.heap ls }) : wpAny (model prog w) A (call (.type "zip") (ls.map Value.ref)) Q E s := by
  obtain ⟨c1, c2, c3⟩ := zip_checks (ls.map Value.ref) (by simpa using h2) (by simpa using h4)
  exact callType_new F.called_zip (by decide) c1 c2 c3 F.entry_zip_new (meets_zipN ls (by omega)) ⟨ht, ⟨_, Heap.get?_push_size _ rfl, rfl⟩, h⟩
end
abbrev ZR (h : Heap) (z TI TO : Addr) (f0 : Value) (f1 : Bool) : Prop := h.get? z = some { cls := .type "zip", dict := none, data := .fields #[f0, .bool f1, .bool false, .ref TI, .ref TO], slots := #[] }
abbrev TupO (h : Heap) (T : Addr) (us : List Value) : Prop := h.get? T = some { cls := .type "tuple", data := .seq us.toArray }
/-- the iterators stand at i, the first j of them one further -/
def ItsJ (h : Heap) (its ls : List Addr) (i j : Nat) : Prop := ∀ (m : Nat) (it l : Addr), its[m]? = some it → ls[m]? = some l → h.IsTupleIter it l (if m < j then i + 1 else i)
def Fld0 (f0 : Value) : Prop := f0 = .none ∨ ∃ T : Nat, f0 = rawInt T
theorem take_set {α : Type} {xs olds : List α} {j : Nat} {x : α} (h : xs[j]? = some x) (l : olds.length = xs.length) : (xs.take j ++ olds.drop j).set j x = xs.take (j + 1) ++ olds.drop (j + 1) := by
  have lt : j < xs.length := (List.getElem?_eq_some_iff.mp h).1
  have e1 : (xs.take j).length = j := by rw [List.length_take]; omega
  rw [List.set_append_right _ _ (by omega), e1, Nat.sub_self, List.drop_eq_getElem_cons (show j < olds.length by omega), List.set_cons_zero, List.take_add_one, h]
  simp
theorem ItsJ.start {h : Heap} {its ls : List Addr} {i n : Nat} (q : ItsJ h its ls i n) (l : its.length ≤ n) : ItsJ h its ls (i + 1) 0 := fun m it l' e1 e2 => by
  have z := q m it l' e1 e2
  rw [if_pos (Nat.lt_of_lt_of_le (List.getElem?_eq_some_iff.mp e1).1 l)] at z
  rw [if_neg (by omega)]
  exact z
/-- one of them moves -/
theorem ItsJ.next {h h' : Heap} {its ls : List Addr} {i j : Nat} {it l : Addr} (q : ItsJ h its ls i j) (nd : its.Nodup) (e1 : its[j]? = some it) (e2 : ls[j]? = some l) (k : ∀ b ∈ its, b ≠ it → ∀ o, h.get? b = some o → h'.get? b = some o) (a : h'.IsTupleIter it l (i + 1)) : ItsJ h' its ls i (j + 1) := fun m b l' f1 f2 => by
  by_cases c : m = j
  · subst c
    rw [e1] at f1
    rw [e2] at f2
    cases f1
    cases f2
    rw [if_pos (Nat.lt_succ_self _)]
    exact a
  · have z := q m b l' f1 f2
    have n : b ≠ it := fun z => by
      rw [z] at f1
      exact c ((List.getElem?_inj (List.getElem?_eq_some_iff.mp f1).1 nd).mp (f1.trans e1.symm))
    have e : (if m < j + 1 then i + 1 else i) = (if m < j then i + 1 else i) := by
      by_cases d : m < j
      · rw [if_pos d, if_pos (by omega)]
      · rw [if_neg d, if_neg (by omega)]
    rw [e]
    exact z.at fun o q => k b (List.mem_of_getElem? f1) n o q
section
variable {prog : Program} {w : World} {A : Around} {E : Value → Shared → Prop} {s : Shared} {z TI TO : Addr} {its ls : List Addr}
theorem free_or_held {f0 : Value} {f1 : Bool} {Q : Bool → Shared → Prop} (hz : ZR s.heap z TI TO f0 f1) (hf : Fld0 f0) (yes : Q true s) (no : ∀ h1, ZR h1 z TI TO f0 true → Heap.SameBut z s.heap h1 → Q false { s with heap := h1 }) :
    wpAny (model prog w) A (Builtin.SmallTypes.ownedTupleIsFree (.ref z)) Q E s := by
  rcases hf with rfl | ⟨T, rfl⟩
  · unfold Builtin.SmallTypes.ownedTupleIsFree
    exact wpAny_bind (wpAny_field hz rfl (x := .none) rfl (wpAny_pure yes))
  · cases e : s.heap.get? T with
    | some o => exact wpAny_tupleHeld_zip hz e no
    | none =>
      unfold Builtin.SmallTypes.ownedTupleIsFree
      refine wpAny_bind (wpAny_field hz rfl (x := rawInt T) rfl ?_)
      show wpAny _ _ (loadIfAlive ((T : Int).toNat) >>= _) _ _ _
      rw [Int.toNat_natCast]
      refine wpAny_bind ?_
      have k : (fun (a : Option Obj) (s' : Shared) => wpAny (model prog w) A (if a.isNone = true then pure true else do
          if (← field (.ref z) 1) != .bool true then setField (.ref z) 1 (.bool true)
          return false) Q E s') (s.heap.get? T) s := by
        rw [e]
        exact wpAny_pure yes
      exact fun _ _ _ => k
theorem zipN_item {f0 : Value} {f1 : Bool} {i : Nat} {olds xs : List Value} {Q : Value → Shared → Prop} (ap : (z :: TI :: TO :: its).Nodup) (al : ∀ l ∈ ls, l ∉ z :: TI :: TO :: its) (ne : its ≠ []) (few : its.length ≤ 100) (ll : its.length = ls.length)
    (hz : ZR s.heap z TI TO f0 f1) (hf : Fld0 f0) (hTI : TupO s.heap TI (its.map Value.ref)) (hTO : TupO s.heap TO olds) (lo : olds.length = its.length) (hi : ItsJ s.heap its ls i 0) (lx : xs.length = its.length)
    (hx : ∀ (j : Nat) (l : Addr) (x : Value), ls[j]? = some l → xs[j]? = some x → ∃ items, s.heap.IsTuple l items ∧ items[i]? = some x)
    (hQ : ∀ h' g0 g1 olds', ZR h' z TI TO g0 g1 → Fld0 g0 → TupO h' TI (its.map Value.ref) → TupO h' TO olds' → olds'.length = its.length → ItsJ h' its ls (i + 1) 0 → TupO h' s.heap.objs.size xs → h'.objs.size = s.heap.objs.size + 1 →
      (∀ c o, c ∉ z :: TI :: TO :: its → s.heap.get? c = some o → h'.get? c = some o) → Q (.ref s.heap.objs.size) { s with heap := h' }) :
    wpAny (model prog w) A (Builtin.«zip.__next__» ⟨[.ref z], []⟩) (fun fin s' => ∃ v, fin = .done (.ret v) ∧ Q v s') E s := by
  show wpAny _ _ (field (.ref z) 2 >>= _) _ _ _
  refine wpAny_bind (wpAny_field hz rfl (x := .bool false) rfl ?_)
  show wpAny _ _ (field (.ref z) 3 >>= _) _ _ _
  refine wpAny_bind (wpAny_field hz rfl (x := .ref TI) rfl ?_)
  refine wpAny_bind (wpAny_seqItems hTI rfl ?_)
  have emp : ((its.map Value.ref).toArray).isEmpty = false := by
    cases its with
    | nil => exact absurd rfl ne
    | cons a r => simp
  simp only [emp, Bool.false_eq_true, if_false]
  have nd : (z ≠ TI ∧ z ≠ TO ∧ z ∉ its) ∧ (TI ≠ TO ∧ TI ∉ its) ∧ TO ∉ its ∧ its.Nodup := by simpa [not_or] using ap
  refine wpAny_bind (free_or_held hz hf ?_ fun h1 hz1 sb1 => ?_)
  · simp only [if_true]
    refine wpAny_bind (wpAny_rule ?_)
    refine wpAny_bind (wpAny_field hz rfl (x := .ref TO) rfl ?_)
    refine wpAny_bind (wpAny_setField_rec hz (by simp) fun h1 hz1 sb1 => ?_)
    replace hz1 : ZR h1 z TI TO .ellipsis f1 := hz1
    refine wpAny_bind (wpAny_mono (forIn_wp (its.map Value.ref).zipIdx (fun _ => (none, ())) (fun j s' => ∃ h, s' = { s with heap := h } ∧ h.objs.size = s.heap.objs.size ∧ ZR h z TI TO .ellipsis f1 ∧ TupO h TI (its.map Value.ref) ∧
      TupO h TO (xs.take j ++ olds.drop j) ∧ ItsJ h its ls i j ∧ ∀ c o, c ∉ z :: TI :: TO :: its → s.heap.get? c = some o → h.get? c = some o) _ ?_ ?_) ?_ fun _ _ e => e)
    · rintro j ⟨v, k⟩ s2 hj ⟨h, rfl, sz, hz2, hTI2, hTO2, hi2, kp⟩
      obtain ⟨it, e1, rfl, rfl⟩ : ∃ it, its[j]? = some it ∧ v = .ref it ∧ k = j := by
        rw [List.getElem?_zipIdx, List.getElem?_map] at hj
        cases q : its[j]? with
        | none => rw [q] at hj; cases hj
        | some it =>
          rw [q] at hj
          simp at hj
          exact ⟨it, rfl, hj.1.symm, hj.2.symm⟩
      have lt : k < its.length := (List.getElem?_eq_some_iff.mp e1).1
      have e2 : ls[k]? = some ls[k] := List.getElem?_eq_getElem (by omega)
      have e3 : xs[k]? = some xs[k] := List.getElem?_eq_getElem (by omega)
      obtain ⟨items, hl, hx2⟩ := hx k _ _ e2 e3
      have ml := al _ (List.mem_of_getElem? e2)
      have mi := List.mem_of_getElem? e1
      have it0 := hi2 k it _ e1 e2
      rw [if_neg (Nat.lt_irrefl _)] at it0
      have nTO : TO ≠ it := fun q => nd.2.2.1 (by rw [q]; exact mi)
      have nTI : TI ≠ it := fun q => nd.2.1.2 (by rw [q]; exact mi)
      have nz : z ≠ it := fun q => nd.1.2.2 (by rw [q]; exact mi)
      refine wpAny_bind (wpAny_onRaise ?_)
      show wpAny _ _ (Builtin.SmallTypes.nextOf (.ref it) >>= _) _ _ _
      refine wpAny_bind (RZ.nextOf_tuple_item (s := { s with heap := h }) it0 (hl.at fun o q => kp _ o ml q) hx2 fun h3 it3 sb3 => wpAny_pure ?_)
      have hTO3 : TupO h3 TO (xs.take k ++ olds.drop k) := (sb3.2 _ nTO).trans hTO2
      refine wpAny_bind (wpAny_seqItems hTO3 rfl ?_)
      have lz : (xs.take k ++ olds.drop k).length ≤ 100 := by rw [List.length_append, List.length_take, List.length_drop]; omega
      refine wpAny_bind (wpAny_updateSeq hTO3 rfl ?_ (by rw [List.size_toArray]; exact Nat.le_trans lz (by decide)) (by rw [Array.size_setIfInBounds, List.size_toArray]; exact Nat.le_trans lz (by decide)))
      refine wpAny_bind (wpAny_letGo (wpAny_pure ⟨rfl, _, rfl, ?_, ?_, ?_, ?_, ?_, ?_⟩))
      · rw [(Heap.SameBut.update ..).1, sb3.1, sz]
      · exact ((Heap.SameBut.update ..).2 _ nd.1.2.1).trans ((sb3.2 _ nz).trans hz2)
      · exact ((Heap.SameBut.update ..).2 _ nd.2.1.1).trans ((sb3.2 _ nTI).trans hTI2)
      · show (Heap.update _ TO _).get? TO = _
        rw [Heap.get?_update_self _ hTO3 rfl]
        simp only [Obj.mapSeq]
        rw [← take_set e3 (by omega), ← List.setIfInBounds_toArray]
        rw [if_pos (by simp)]
      · refine hi2.next nd.2.2.2 e1 e2 (fun b hb nb o q => ?_) (it3.at fun o q => ((Heap.SameBut.update ..).2 _ (Ne.symm nTO)).trans q)
        exact ((Heap.SameBut.update ..).2 _ (fun q => nd.2.2.1 (by rw [← q]; exact hb))).trans ((sb3.2 _ nb).trans q)
      · intro c o hc q
        simp only [List.mem_cons, not_or] at hc
        exact ((Heap.SameBut.update ..).2 _ hc.2.2.1).trans ((sb3.2 _ (fun y => hc.2.2.2 (by rw [y]; exact mi))).trans (kp c o (by simp only [List.mem_cons, not_or]; exact hc) q))
    · refine ⟨h1, rfl, sb1.1, hz1, (sb1.2 _ (Ne.symm nd.1.1)).trans hTI, (sb1.2 _ (Ne.symm nd.1.2.1)).trans hTO, fun m it l f1 f2 => ?_, fun c o hc q => ?_⟩
      · exact (hi m it l f1 f2).at fun o q => (sb1.2 _ (fun y => nd.1.2.2 (by rw [← y]; exact List.mem_of_getElem? f1))).trans q
      · simp only [List.mem_cons, not_or] at hc
        exact (sb1.2 _ hc.1).trans q
    · rintro t s2 ⟨rfl, h, rfl, sz, hz2, hTI2, hTO2, hi2, kp⟩
      have ez : (its.map Value.ref).zipIdx.length = its.length := by simp
      rw [ez] at hTO2 hi2
      rw [← lx, List.take_length, lx, ← lo, List.drop_length, List.append_nil] at hTO2
      dsimp only
      refine wpAny_bind (wpAny_seqItems hTO2 rfl ?_)
      have lxz : xs.length ≤ sizeLine := Nat.le_trans (show xs.length ≤ 100 by omega) (by decide)
      show wpAny _ _ (newTuple xs.toArray.toList >>= _) _ _ _
      rw [show xs.toArray.toList = xs by simp]
      refine wpAny_bind (wpAny_newTuple ?_ lxz)
      have zlt : z < h.objs.size := Heap.lt_size hz2
      have hz3 : ZR (h.push { cls := .type "tuple", data := .seq xs.toArray }) z TI TO .ellipsis f1 := Heap.get?_push_of_some _ hz2
      refine wpAny_bind ?_
      show wpAny _ _ (Builtin.SmallTypes.ownedTupleHandOut (.ref z) (.ref h.objs.size)) _ _ _
      unfold Builtin.SmallTypes.ownedTupleHandOut
      refine wpAny_bind (wpAny_setField_rec hz3 (by simp) fun h4 hz4 sb4 => ?_)
      replace hz4 : ZR h4 z TI TO (rawInt h.objs.size) f1 := hz4
      refine wpAny_setField_rec hz4 (by simp) fun h5 hz5 sb5 => ?_
      replace hz5 : ZR h5 z TI TO (rawInt h.objs.size) false := hz5
      have up : ∀ c o, c ≠ z → h.get? c = some o → h5.get? c = some o := fun c o n e => (sb5.2 _ n).trans ((sb4.2 _ n).trans (Heap.get?_push_of_some _ e))
      have hT5 : TupO h5 h.objs.size xs := (sb5.2 _ (Nat.ne_of_gt zlt)).trans ((sb4.2 _ (Nat.ne_of_gt zlt)).trans (Heap.get?_push_size _ rfl))
      have s5 : h5.objs.size = h.objs.size + 1 := by rw [sb5.1, sb4.1, Heap.size_push]
      refine wpAny_pure ⟨_, rfl, ?_⟩
      rw [sz] at hT5 s5 ⊢
      refine hQ h5 _ _ xs hz5 (.inr ⟨_, rfl⟩) (up _ _ (Ne.symm nd.1.1) hTI2) (up _ _ (Ne.symm nd.1.2.1) hTO2) lx ?_ hT5 s5 fun c o hc q => up c o (fun y => hc (by rw [y]; exact List.mem_cons_self)) (kp c o hc q)
      intro m it l g1 g2
      exact (hi2.start (Nat.le_refl _) m it l g1 g2).at fun o q => up it o (fun y => nd.1.2.2 (by rw [← y]; exact List.mem_of_getElem? g1)) q
  · simp only [Bool.false_eq_true, if_false]
    refine wpAny_bind ?_
    rw [← Array.forIn_toList]
    show wpAny _ _ (forIn (its.map Value.ref) _ _) _ _ _
    refine wpAny_mono (forIn_wp (its.map Value.ref) (fun j => (none, (xs.take j).toArray)) (fun j s' => ∃ h, s' = { s with heap := h } ∧ h.objs.size = s.heap.objs.size ∧ ZR h z TI TO f0 true ∧ TupO h TI (its.map Value.ref) ∧
      TupO h TO olds ∧ ItsJ h its ls i j ∧ ∀ c o, c ∉ z :: TI :: TO :: its → s.heap.get? c = some o → h.get? c = some o) _ ?_ ?_) ?_ fun _ _ e => e
    · rintro k v s2 hj ⟨h, rfl, sz, hz2, hTI2, hTO2, hi2, kp⟩
      obtain ⟨it, e1, rfl⟩ : ∃ it, its[k]? = some it ∧ v = .ref it := by
        rw [List.getElem?_map] at hj
        cases q : its[k]? with
        | none => rw [q] at hj; cases hj
        | some it =>
          rw [q] at hj
          exact ⟨it, rfl, (Option.some.inj hj).symm⟩
      have lt : k < its.length := (List.getElem?_eq_some_iff.mp e1).1
      have e2 : ls[k]? = some ls[k] := List.getElem?_eq_getElem (by omega)
      have e3 : xs[k]? = some xs[k] := List.getElem?_eq_getElem (by omega)
      obtain ⟨items, hl, hx2⟩ := hx k _ _ e2 e3
      have ml := al _ (List.mem_of_getElem? e2)
      have mi := List.mem_of_getElem? e1
      have it0 := hi2 k it _ e1 e2
      rw [if_neg (Nat.lt_irrefl _)] at it0
      refine wpAny_bind (wpAny_holding ?_)
      show wpAny _ _ (Builtin.SmallTypes.nextOf (.ref it) >>= _) _ _ _
      refine wpAny_bind (RZ.nextOf_tuple_item (s := { s with heap := h }) it0 (hl.at fun o q => kp _ o ml q) hx2 fun h3 it3 sb3 => wpAny_pure ?_)
      refine wpAny_pure ⟨?_, h3, rfl, sb3.1.trans sz, (sb3.2 _ (fun q => nd.1.2.2 (by rw [q]; exact mi))).trans hz2, (sb3.2 _ (fun q => nd.2.1.2 (by rw [q]; exact mi))).trans hTI2,
        (sb3.2 _ (fun q => nd.2.2.1 (by rw [q]; exact mi))).trans hTO2, hi2.next nd.2.2.2 e1 e2 (fun b hb nb o q => (sb3.2 _ nb).trans q) it3, fun c o hc q => ?_⟩
      · show ForInStep.yield (none, ((xs.take k).toArray).push xs[k]) = _
        rw [List.take_add_one, e3]
        simp
      · exact (sb3.2 _ (fun y => hc (by rw [y]; simp [mi]))).trans (kp c o hc q)
    · refine ⟨h1, rfl, sb1.1, hz1, (sb1.2 _ (Ne.symm nd.1.1)).trans hTI, (sb1.2 _ (Ne.symm nd.1.2.1)).trans hTO, fun m it l f1 f2 => ?_, fun c o hc q => ?_⟩
      · exact (hi m it l f1 f2).at fun o q => (sb1.2 _ (fun y => nd.1.2.2 (by rw [← y]; exact List.mem_of_getElem? f1))).trans q
      · simp only [List.mem_cons, not_or] at hc
        exact (sb1.2 _ hc.1).trans q
    · rintro t s2 ⟨rfl, h, rfl, sz, hz2, hTI2, hTO2, hi2, kp⟩
      rw [List.length_map] at hi2
      have lxz : xs.length ≤ sizeLine := Nat.le_trans (show xs.length ≤ 100 by omega) (by decide)
      dsimp only
      have ex : xs.take (its.map Value.ref).length = xs := by rw [List.length_map, ← lx, List.take_length]
      rw [ex]
      refine wpAny_bind (wpAny_newTuple ?_ lxz)
      refine wpAny_pure ⟨_, rfl, ?_⟩
      show Q (.ref h.objs.size) _
      have s5 : (h.push { cls := .type "tuple", data := .seq xs.toArray }).objs.size = h.objs.size + 1 := Heap.size_push _ _
      have hT5 : TupO (h.push { cls := .type "tuple", data := .seq xs.toArray }) h.objs.size xs := Heap.get?_push_size _ rfl
      rw [sz] at s5 hT5 ⊢
      refine hQ _ _ _ olds (Heap.get?_push_of_some _ hz2) hf (Heap.get?_push_of_some _ hTI2) (Heap.get?_push_of_some _ hTO2) lo ?_ hT5 s5 fun c o hc q => Heap.get?_push_of_some _ (kp c o hc q)
      intro m it l g1 g2
      exact (hi2.start (Nat.le_refl _) m it l g1 g2).at fun o q => Heap.get?_push_of_some _ q
theorem zipN_end {f0 : Value} {f1 : Bool} {i : Nat} {it0 l0 : Addr} {itr : List Addr} {items : Array Value} {Q : Fin → Shared → Prop} (hh : A.handled = none) (ap : (z :: TI :: TO :: (it0 :: itr)).Nodup) (al : l0 ∉ z :: TI :: TO :: (it0 :: itr))
    (hz : ZR s.heap z TI TO f0 f1) (hf : Fld0 f0) (hTI : TupO s.heap TI ((it0 :: itr).map Value.ref)) (hi : s.heap.IsTupleIter it0 l0 i) (hl : s.heap.IsTuple l0 items) (he : items[i]? = none)
    (hE : ∀ h' e, (∀ c o, c ∉ z :: TI :: TO :: (it0 :: itr) → s.heap.get? c = some o → h'.get? c = some o) → (∃ o, h'.get? e = some o ∧ o.cls = .type "StopIteration") → E (.ref e) { s with heap := h' }) :
    wpAny (model prog w) A (Builtin.«zip.__next__» ⟨[.ref z], []⟩) Q E s := by
  have nd : z ≠ it0 := fun q => by
    rw [q] at ap
    simp at ap
  have ml : l0 ≠ z := fun q => al (by rw [q]; exact List.mem_cons_self)
  show wpAny _ _ (field (.ref z) 2 >>= _) _ _ _
  refine wpAny_bind (wpAny_field hz rfl (x := .bool false) rfl ?_)
  show wpAny _ _ (field (.ref z) 3 >>= _) _ _ _
  refine wpAny_bind (wpAny_field hz rfl (x := .ref TI) rfl ?_)
  refine wpAny_bind (wpAny_seqItems hTI rfl ?_)
  have emp : (((it0 :: itr).map Value.ref).toArray).isEmpty = false := by simp
  simp only [emp, Bool.false_eq_true, if_false]
  refine wpAny_bind (free_or_held hz hf ?_ fun h1 hz1 sb1 => ?_)
  · simp only [if_true]
    refine wpAny_bind (wpAny_rule ?_)
    refine wpAny_bind (wpAny_field hz rfl (x := .ref TO) rfl ?_)
    refine wpAny_bind (wpAny_setField_rec hz (by simp) fun h1 hz1 sb1 => ?_)
    replace hz1 : ZR h1 z TI TO .ellipsis f1 := hz1
    refine wpAny_bind ?_
    simp only [List.map_cons, List.zipIdx_cons, List.forIn_cons]
    refine wpAny_bind (wpAny_bind (wpAny_onRaise ?_))
    show wpAny _ _ (Builtin.SmallTypes.nextOf (.ref it0) >>= _) _ _ _
    refine wpAny_bind (RZ.nextOf_tuple_end (s := { s with heap := h1 }) hh (hi.at fun o q => (sb1.2 _ (Ne.symm nd)).trans q) (hl.at fun o q => (sb1.2 _ ml).trans q) he fun h2 e k2 ⟨oe, ho, hc⟩ => ?_)
    have hz2 : ZR h2 z TI TO .ellipsis f1 := k2 _ _ nd hz1
    have ez : e ≠ z := fun x => by
      subst x
      rw [hz2] at ho
      cases ho
      simp at hc
    refine wpAny_setField_rec hz2 (by simp) fun h3 _ sb3 => hE h3 e (fun c o hc q => ?_) ⟨oe, (sb3.2 _ ez).trans ho, hc⟩
    simp only [List.mem_cons, not_or] at hc
    exact (sb3.2 _ hc.1).trans (k2 _ _ hc.2.2.2.1 ((sb1.2 _ hc.1).trans q))
  · simp only [Bool.false_eq_true, if_false]
    refine wpAny_bind ?_
    rw [← Array.forIn_toList]
    simp only [List.map_cons, List.forIn_cons]
    refine wpAny_bind (wpAny_bind (wpAny_holding ?_))
    show wpAny _ _ (Builtin.SmallTypes.nextOf (.ref it0) >>= _) _ _ _
    refine wpAny_bind (RZ.nextOf_tuple_end (s := { s with heap := h1 }) hh (hi.at fun o q => (sb1.2 _ (Ne.symm nd)).trans q) (hl.at fun o q => (sb1.2 _ ml).trans q) he fun h2 e k2 ho => hE h2 e (fun c o hc q => ?_) ho)
    simp only [List.mem_cons, not_or] at hc
    exact k2 _ _ hc.2.2.2.1 ((sb1.2 _ hc.1).trans q)
end
/-- the tuples at ls side by side, the items in new tuples -/
def ItzN (K : PySem.W.Frag) (ls : List Addr) : It :=
  ⟨fun i H => ∀ a ∈ ls, ∃ xs x, SqT K H a xs ∧ xs[i]? = some x,
    fun i H v H' => ∃ (T : Addr) (vs : List V), v = .ref T ∧ H T = none ∧ H' = upd H T (.tup vs) ∧ vs.length = ls.length ∧ ∀ (j : Nat) (a : Addr) (xs : List V), ls[j]? = some a → SqT K H a xs → xs[i]? = vs[j]?,
    fun i H => ∃ a r xs, ls = a :: r ∧ SqT K H a xs ∧ xs.length ≤ i⟩
/-- what stands in each of them at i -/
theorem cols {X : Cx} {pins : List (Addr × Obj)} {σ : L2.St} {H : Hp} {s : Shared} {i : Nat} (I : Inv X pins σ H s) : ∀ {ls : List Addr}, (∀ a ∈ ls, ∃ xs x, SqT X.K H a xs ∧ xs[i]? = some x) →
    ∃ (vs : List V) (us : List Value), Vals vs us ∧ vs.length = ls.length ∧ us.length = ls.length ∧ (∀ (j : Nat) (a : Addr) (xs : List V), ls[j]? = some a → SqT X.K H a xs → xs[i]? = vs[j]?) ∧
      ∀ (j : Nat) (l : Addr) (x : Value), ls[j]? = some l → us[j]? = some x → ∃ items, s.heap.IsTuple l items ∧ items[i]? = some x
  | [], _ => ⟨[], [], .nil, rfl, rfl, fun j a xs e => by simp at e, fun j l x e => by simp at e⟩
  | a :: r, h => by
    obtain ⟨vs, us, rv, l1, l2, k1, k2⟩ := cols I (ls := r) fun b hb => h b (List.mem_cons_of_mem _ hb)
    obtain ⟨xs, x, sq, hx⟩ := h a List.mem_cons_self
    obtain ⟨its, rv2, tp, _⟩ := I.tuple sq
    obtain ⟨u, hu, ru⟩ := rv2.get hx
    refine ⟨x :: vs, u :: us, .cons ru rv, by simp [l1], by simp [l2], fun j b ys e q => ?_, fun j b y e q => ?_⟩
    · cases j with
      | zero =>
        obtain rfl : a = b := Option.some.inj e
        rw [I.tuple_inj q sq]
        exact hx
      | succ j => exact k1 j b ys e q
    · cases j with
      | zero =>
        obtain rfl : a = b := Option.some.inj e
        obtain rfl : u = y := Option.some.inj q
        exact ⟨_, tp, by simpa using hu⟩
      | succ j => exact k2 j b y e q
theorem turn_zipN {P : Program} {w : World} {K : PySem.W.Frag} {x : Str} {tpos : Pos} {z TI TO : Addr} {its ls : List Addr} (ap : (z :: TI :: TO :: its).Nodup) (al : ∀ l ∈ ls, l ∉ z :: TI :: TO :: its) (ne : its ≠ []) (few : its.length ≤ 100) (ll : its.length = ls.length) :
    Turn P w K (.Name x tpos) (ItzN K ls) (z :: TI :: TO :: its) z (fun i h => ∃ f0 f1 olds, ZR h z TI TO f0 f1 ∧ Fld0 f0 ∧ TupO h TI (its.map Value.ref) ∧ TupO h TO olds ∧ olds.length = its.length ∧ ItsJ h its ls i 0) where
  mem := List.mem_cons_self
  obj := fun i h ⟨f0, f1, olds, hz, hf, hTI, hTO, lo, hi⟩ c hc => by
    rcases List.mem_cons.mp hc with rfl | hc
    · exact ⟨_, hz, fun v q => nomatch q⟩
    rcases List.mem_cons.mp hc with rfl | hc
    · exact ⟨_, hTI, fun v q => nomatch q⟩
    rcases List.mem_cons.mp hc with rfl | hc
    · exact ⟨_, hTO, fun v q => nomatch q⟩
    · obtain ⟨m, lt, e⟩ := List.getElem_of_mem hc
      obtain ⟨o, e1, _, d1⟩ := hi m c ls[m] (by rw [← e]; exact List.getElem?_eq_getElem lt) (List.getElem?_eq_getElem (by omega))
      exact ⟨o, e1, fun v q => by rw [d1] at q; cases q⟩
  keep := fun i h h' ⟨f0, f1, olds, hz, hf, hTI, hTO, lo, hi⟩ k => by
    refine ⟨f0, f1, olds, k z (by simp) _ hz, hf, k TI (by simp) _ hTI, k TO (by simp) _ hTO, lo, fun m it l e1 e2 => ?_⟩
    exact (hi m it l e1 e2).at fun o q => k it (by simp [List.mem_of_getElem? e1]) o q
  item := by
    rintro X hP hw hK hc i pins s σ H E I hfp ⟨f0, f1, olds, hz, hf, hTI, hTO, lo, hi⟩ hg
    subst hP hw hK
    obtain ⟨vs, us, rv, l1, l2, k1, k2⟩ := cols I hg
    have hT : s.TypeIs (.ref z) "zip" := ⟨_, hz, rfl⟩
    unfold pyNext
    refine wpAny_bind (wpAny_attempt (wpAny_callSpecial?_slot (name := Str.ofString "__next__") hT F.slot_zip_next (wpAny_call_entry F.slot_zip_next hT F.entry_zip_next
      (zipN_item (xs := us) ap al ne few ll hz hf hTI hTO lo hi (by omega) k2 fun h' g0 g1 olds' a1 a2 a3 a4 a5 a6 a7 a8 a9 => wpAny_pure ?_) (F.args_zip_next_1 _))))
    refine ⟨_, rfl, ?_⟩
    show wpAny _ _ (pure ()) _ _ _
    refine wpAny_pure ?_
    have new : ObjOk X.prog X.w (upd H s.heap.objs.size (.tup vs)) h' s.heap.objs.size (.tup vs) := ⟨by exact Nat.le_trans (show vs.length ≤ 100 by omega) (by decide), us, rv, ⟨_, a7, rfl, _, rfl⟩⟩
    have I1 : Inv X pins σ (upd H s.heap.objs.size (.tup vs)) { s with heap := h' } := I.turnedNew (t' := s.toks) (ch := z :: TI :: TO :: its) (fun c o hb q => a9 c o hb q) hfp (Nat.le_refl _) new
    refine ⟨.ref s.heap.objs.size, _, I1, rfl, ⟨_, vs, rfl, I.hok.fresh (Nat.le_refl _), rfl, l1, k1⟩, ⟨g0, g1, olds', a1, a2, a3, a4, a5, a6⟩, fun c hcm => ?_⟩
    have hlt : c < s.heap.objs.size := by
      rcases List.mem_cons.mp hcm with rfl | hc
      · exact Heap.lt_size hz
      rcases List.mem_cons.mp hc with rfl | hc
      · exact Heap.lt_size hTI
      rcases List.mem_cons.mp hc with rfl | hc
      · exact Heap.lt_size hTO
      · obtain ⟨m, lt, e⟩ := List.getElem_of_mem hc
        obtain ⟨o, e1, _, d1⟩ := hi m c ls[m] (by rw [← e]; exact List.getElem?_eq_getElem lt) (List.getElem?_eq_getElem (by omega))
        exact Heap.lt_size e1
    rw [upd_ne (Nat.ne_of_lt hlt)]
    exact (hfp c hcm).1
  done := by
    rintro X hP hw hK hc i pins s σ H E I hfp ⟨f0, f1, olds, hz, hf, hTI, hTO, lo, hi⟩ ⟨a, r, xs, rfl, sq, le⟩
    subst hP hw hK
    obtain ⟨itl, rv, tp, _⟩ := I.tuple sq
    have l1 := rv.length
    cases its with
    | nil => exact absurd rfl ne
    | cons it0 itr =>
      have hT : s.TypeIs (.ref z) "zip" := ⟨_, hz, rfl⟩
      have i0 : s.heap.IsTupleIter it0 a i := hi 0 it0 a rfl rfl
      unfold pyNext
      refine wpAny_bind (wpAny_attempt (wpAny_callSpecial?_slot (name := Str.ofString "__next__") hT F.slot_zip_next (wpAny_call_entry F.slot_zip_next hT F.entry_zip_next
        (zipN_end (I.ok.hd hc) ap (al a List.mem_cons_self) hz hf hTI i0 tp (by simp; omega) fun h' e hk he => ?_) (F.args_zip_next_1 _))))
      obtain ⟨o, ho, hc2⟩ := he
      refine wpAny_bind (wpAny_isInstance (T := "StopIteration") (b := true) ⟨o, ho, hc2⟩ isSubtype_stop ?_)
      exact wpAny_pure ⟨rfl, I.turnedL (t' := s.toks) (ch := z :: TI :: TO :: (it0 :: itr)) (fun c o hb q => hk c o hb q) hfp⟩
  self := fun A i s Q E ⟨f0, f1, olds, hz, _⟩ h => by
    have hT : s.TypeIs (.ref z) "zip" := ⟨_, hz, rfl⟩
    refine wpAny_pyIter_slot hT F.slot_zip_iter (wpAny_call_entry F.slot_zip_iter hT F.entry_zip_iter ?_ (F.args_zip_iter_1 _))
    show wpAny _ _ (ret (.ref z)) _ _ s
    exact wpAny_pure ⟨_, rfl, "zip", _, hT, F.slot_zip_next.lookup, h⟩
def itA (n : Nat) : List Addr → List Addr
  | [] => []
  | _ :: r => n :: itA (n + 1) r
theorem itA_map : ∀ {ls : List Addr} {n : Nat}, (itA n ls).map Value.ref = itV n ls
  | [], _ => rfl
  | l :: r, n => by
    show Value.ref n :: (itA (n + 1) r).map Value.ref = Value.ref n :: itV (n + 1) r
    rw [itA_map]
theorem itA_len {ls : List Addr} {n : Nat} : (itA n ls).length = ls.length := by rw [← List.length_map (f := Value.ref), itA_map, itV_len]
theorem itA_mem : ∀ {ls : List Addr} {n b : Nat}, b ∈ itA n ls → n ≤ b ∧ b < n + ls.length
  | l :: r, n, b, h => by
    rcases List.mem_cons.mp h with rfl | h
    · simp
    · have z := itA_mem (ls := r) h
      simp only [List.length_cons]
      omega
theorem itA_nodup : ∀ {ls : List Addr} {n : Nat}, (itA n ls).Nodup
  | [], _ => List.nodup_nil
  | l :: r, n => by
    refine List.nodup_cons.mpr ⟨fun h => ?_, itA_nodup⟩
    have z := itA_mem (ls := r) h
    omega
theorem itA_at {ls : List Addr} {n j it : Nat} (h : (itA n ls)[j]? = some it) : it = n + j ∧ j < ls.length := by
  have lt := (List.getElem?_eq_some_iff.mp h).1
  rw [itA_len] at lt
  have e := itV_at (ls := ls) (n := n) lt
  rw [← itA_map, List.getElem?_map, h] at e
  exact ⟨Value.ref.inj (Option.some.inj e), lt⟩
theorem vals_refs : ∀ {ls : List Addr} {us : List Value}, Vals (ls.map V.ref) us → us = ls.map Value.ref
  | [], _, .nil => rfl
  | l :: r, _, .cons h t => by
    rw [vals_refs t]
    exact congrArg (· :: r.map Value.ref) (show _ = Value.ref l from h)
def iZipS (K : PySem.W.Frag) (te : TE) : TI := fun σ H R => te σ H fun y H1 => ∃ (p : Addr) (ls : List Addr), y = .ref p ∧ (SqT K H1 p (ls.map V.ref) ∨ SqL K H1 p (ls.map V.ref)) ∧ 2 ≤ ls.length ∧ ls.length ≤ 4 ∧ (∀ a ∈ ls, ∃ xs, SqT K H1 a xs) ∧ R (ItzN K ls) H1
theorem pi_zipS {X : Cx} {e : Expr} {te : TE} {x : Str} {p pos tpos sps : Pos} (hg : Gl X "zip") (hm : X.mg "zip" = none) (he : PE X e te) (hst : starEach [.Starred e sps] X.env = [(true, eval e X.env)] := by rfl) :
    PI X (.Name x tpos) (.Call (.Name "zip" p) [.Starred e sps] [] pos) (iZipS X.K te) := by
  refine ⟨fun pins s σ H R I h => ?_⟩
  refine Call_ (ld_blt I hg hm PyProof.Rows.boot_zip ?_)
  show wpAny _ _ (callWith pos (.type "zip") [] (backTo pos (starEach [.Starred e sps] X.env)) []) _ _ _
  rw [hst]
  refine PySem.W.ks_call (P := fun _ => True) rfl (fun _ _ => ⟨.machine, .inr (.inl rfl), PySem.W.Looks.of_pure rfl⟩) (PySem.W.ks_lone ?_)
  refine thn (he.run pins s σ H _ I h) fun v s1 ⟨y, H1, I1, ry, a, ls, ey, hxs, l2, l4, ht, q⟩ => ?_
  subst ey
  obtain rfl : v = Value.ref a := ry
  refine StX.star_any I1 hxs fun us s2 I2 rv => ⟨trivial, ?_⟩
  obtain rfl := vals_refs rv
  have tt : ∀ l ∈ ls, ∃ xs, s2.heap.IsTuple l xs := fun l hl => by
    obtain ⟨xs, sq⟩ := ht l hl
    obtain ⟨its, _, tp, _⟩ := I2.tuple sq
    exact ⟨_, tp⟩
  refine call_zipN l2 l4 tt ?_
  have z0 : (itH s2.heap ls).objs.size = s2.heap.objs.size + ls.length := itH_size
  have z3 : (zN3 s2.heap ls).objs.size = s2.heap.objs.size + ls.length + 1 := by rw [Heap.size_push, z0]
  have z4 : (zN4 s2.heap ls).objs.size = s2.heap.objs.size + ls.length + 2 := by rw [Heap.size_push, z3]
  have g5 : (zN5 s2.heap ls).get? (zN4 s2.heap ls).objs.size = some _ := Heap.get?_push_size _ rfl
  have g4 : (zN5 s2.heap ls).get? (zN3 s2.heap ls).objs.size = some _ := Heap.get?_push_of_some _ (Heap.get?_push_size _ rfl)
  have g3 : (zN5 s2.heap ls).get? (itH s2.heap ls).objs.size = some _ := Heap.get?_push_of_some _ (Heap.get?_push_of_some _ (Heap.get?_push_size _ rfl))
  have kp : ∀ b o, s2.heap.get? b = some o → (zN5 s2.heap ls).get? b = some o := fun b o e => Heap.get?_push_of_some _ (Heap.get?_push_of_some _ (Heap.get?_push_of_some _ (itH_keep e)))
  have I3 : Inv X pins σ H1 { s2 with heap := zN5 s2.heap ls } := I2.kept (t' := s2.toks) kp
  have ap : ((zN4 s2.heap ls).objs.size :: (itH s2.heap ls).objs.size :: (zN3 s2.heap ls).objs.size :: itA s2.heap.objs.size ls).Nodup := by
    rw [z4, z0, z3]
    refine List.nodup_cons.mpr ⟨fun h => ?_, List.nodup_cons.mpr ⟨fun h => ?_, List.nodup_cons.mpr ⟨fun h => ?_, itA_nodup⟩⟩⟩
    · rcases List.mem_cons.mp h with h | h
      · omega
      rcases List.mem_cons.mp h with h | h
      · omega
      · have := itA_mem h
        omega
    · rcases List.mem_cons.mp h with h | h
      · omega
      · have := itA_mem h
        omega
    · have := itA_mem h
      omega
  have ge : ∀ b ∈ (zN4 s2.heap ls).objs.size :: (itH s2.heap ls).objs.size :: (zN3 s2.heap ls).objs.size :: itA s2.heap.objs.size ls, s2.heap.objs.size ≤ b := by
    rw [z4, z0, z3]
    intro b hb
    rcases List.mem_cons.mp hb with h | h
    · omega
    rcases List.mem_cons.mp h with h | h
    · omega
    rcases List.mem_cons.mp h with h | h
    · omega
    · exact (itA_mem h).1
  have st : ∃ f0 f1 olds, ZR (zN5 s2.heap ls) (zN4 s2.heap ls).objs.size (itH s2.heap ls).objs.size (zN3 s2.heap ls).objs.size f0 f1 ∧ Fld0 f0 ∧ TupO (zN5 s2.heap ls) (itH s2.heap ls).objs.size ((itA s2.heap.objs.size ls).map Value.ref) ∧
      TupO (zN5 s2.heap ls) (zN3 s2.heap ls).objs.size olds ∧ olds.length = (itA s2.heap.objs.size ls).length ∧ ItsJ (zN5 s2.heap ls) (itA s2.heap.objs.size ls) ls 0 0 := by
    refine ⟨.none, false, _, g5, .inl rfl, by rw [itA_map]; exact g3, g4, by rw [List.length_map, itV_len, itA_len], fun m it l e1 e2 => ?_⟩
    obtain ⟨rfl, _⟩ := itA_at e1
    exact ⟨_, Heap.get?_push_of_some _ (Heap.get?_push_of_some _ (Heap.get?_push_of_some _ (itH_at e2))), rfl, rfl⟩
  have T : Turn X.prog X.w X.K (.Name x tpos) (ItzN X.K ls) _ _ _ := turn_zipN (its := itA s2.heap.objs.size ls) (ls := ls) ap (fun l hl hm => by
    obtain ⟨xs, o, e, _⟩ := tt l hl
    exact absurd (Nat.lt_of_lt_of_le (Heap.lt_size e) (ge l hm)) (Nat.lt_irrefl _)) (fun z => by
    have := itA_len (ls := ls) (n := s2.heap.objs.size)
    rw [z] at this
    simp at this
    omega) (by rw [itA_len]; omega) itA_len
  exact T.self X.A 0 _ _ _ st ⟨_, _, _, _, H1, rfl, I3, T, st, fun b hb => I2.fpOk (ge b hb) (I2.hok.fresh (ge b hb)), q⟩
def rSumT (K : PySem.W.Frag) : List V → Hp → VK → Prop := fun vs H Q => ∃ (a : Addr) (ns : List Int), vs = [V.ref a] ∧ SqT K H a (ns.map V.int) ∧ Q (.int ns.sum) H
def rMaxT (K : PySem.W.Frag) : List V → Hp → VK → Prop := fun vs H Q => ∃ (a : Addr) (n : Int) (ns : List Int), vs = [V.ref a] ∧ SqT K H a ((n :: ns).map V.int) ∧ Q (.int (ns.foldl max n)) H
/-- a comprehension within a comprehension -/
theorem blkOk_in {N : List Str} {scO scope : Scope} {cl : List (Str × Addr)} {C : Addr} {env : Env} {own : List (Str × Nat)} (sc : Scope) (he : env.scope = sc) (h : blkC N (relS scO sc) scope own = true) : BlkOk N (compEnvC scO cl C env).scope scope own := by
  subst he
  exact blkOk_by h
def rJoin (K : PySem.W.Frag) : V → List V → Hp → VK → Prop := fun x xs H Q => ∃ (a : Str) (p : Addr) (ys : List Str), x = .str a ∧ xs = [.ref p] ∧ (SqL K H p (ys.map V.str) ∨ SqT K H p (ys.map V.str)) ∧
  (ys.map (·.length)).sum + ys.length * a.length ≤ 16777216 ∧ Q (.str (Txt.join a ys)) H
theorem pe_joinK {X : Cx} {K : PySem.W.Frag} {o e : Expr} {to te : TE} {apos pos : Pos} (ho : PE X o to) (he : PE X e te) (hK : X.K = K := by rfl) (hs : starEach [e] X.env = [(false, eval e X.env)] := by rfl)
    (hbase : attributeBase o "join" X.env (eval o X.env) = eval o X.env := by rfl) (hline : (apos.endLine == pos.line) = true := by rfl) : PE X (.Call (.Attribute o "join" apos) [e] [] pos) (tM1 (rJoin K) to te) := by
  subst hK
  exact pe_join ho he hs hbase hline
theorem pi_tupK {X : Cx} {K : PySem.W.Frag} {tg e : Expr} {te : TE} (he : PE X e te) (hK : X.K = K := by rfl) : PI X tg e (iTup K te) := by
  subst hK
  exact pi_tup he
theorem pi_listK {X : Cx} {K : PySem.W.Frag} {tg e : Expr} {te : TE} (he : PE X e te) (hK : X.K = K := by rfl) : PI X tg e (iList K te) := by
  subst hK
  exact pi_list he
end Pl
namespace Pl
open PySem PySem.Spec PyProof.Rows L2
/-! repr of any data -/
/-- it can be shown -/
def ShV (x : V) (d : PyData) : Prop := d.showable = true ∧ d.hasDict = false ∧ d.depth ≤ 60 ∧ d.shown.length ≤ sizeLine ∧ ∀ i, x = .int i → i.natAbs.log2 < 1920
def rReprV (K : PySem.W.Frag) : List V → Hp → VK → Prop := fun xs H Q => ∃ (x : V) (d : PyData), xs = [x] ∧ Dp K H x d ∧ ShV x d ∧ Q (.str d.shown) H
section
variable {X : Cx}
theorem call_reprV (gd : X.A.guards = some []) (hu : X.A.units + 66 < cLine) : CallR X (.builtin "repr") (rReprV X.K) := by
  intro pins s σ H xs us Q I r h
  obtain ⟨x, d, rfl, dp, ⟨sh, nd, dep, sz, lg⟩, q⟩ := h
  obtain ⟨u, rfl, ru⟩ := vals1 r
  cases dp with
  | non =>
    obtain rfl : u = Value.none := ru
    exact PySem.P.repr_of_none ⟨.str _, H, I.tok _, ⟨_, rfl⟩, by simpa [PyData.shown] using q⟩
  | bl b =>
    obtain rfl : u = Value.bool b := ru
    refine PySem.P.repr_of_bool ⟨.str _, H, I.tok _, ⟨_, rfl⟩, ?_⟩
    cases b <;> simpa [PyData.shown] using q
  | int i =>
    obtain ⟨t, rfl⟩ := (show ∃ t, u = Value.int i t from ru)
    exact PySem.P.repr_of_int (lg i rfl) ⟨.str _, H, I.tok _, ⟨_, rfl⟩, by simpa [PyData.shown] using q⟩
  | str z =>
    obtain ⟨t, rfl⟩ := (show ∃ t, u = Value.str z t from ru)
    rw [PyData.shown_str] at sz q
    exact PySem.P.repr_of_str ⟨.str _, H, I.tok _, ⟨_, rfl⟩, q⟩ sz
  | @lst a ys ds sq al =>
    exact call_reprD gd hu pins s σ H [.ref a] [u] Q I r ⟨a, _, rfl, .lst sq al, sh, nd, dep, sz, q⟩
  | @tup a ys ds sq al =>
    exact call_reprD gd hu pins s σ H [.ref a] [u] Q I r ⟨a, _, rfl, .tup sq al, sh, nd, dep, sz, q⟩
theorem readsInts {h : Heap} : ∀ {ns : List Int} {us : List Value}, Vals (ns.map V.int) us → ReadsAll h us (ns.map PyData.int) []
  | [], _, .nil => .nil
  | n :: ns, _, .cons r t => by
    obtain ⟨k, rfl⟩ := (show ∃ t, _ = Value.int n t from r)
    exact .cons (as := []) (.int n k) (readsInts t)
/-- a dict with an int and a tuple of ints -/
def dicD (k : Int) (ns : List Int) : PyData := .dict [(.int k, .tuple (ns.map PyData.int))]
theorem call_repr1 (gd : X.A.guards = some []) (hu : X.A.units + 66 < cLine) : CallR X (.builtin "repr") (fun xs H Q => ∃ (a t : Addr) (k : Int) (ns : List Int), xs = [.ref a] ∧ H a = some (.dK [(.inl k, .ref t)]) ∧ H t = some (.tup (ns.map V.int)) ∧
    (dicD k ns).showable = true ∧ (dicD k ns).depth ≤ 60 ∧ (dicD k ns).shown.length ≤ sizeLine ∧ Q (.str (dicD k ns).shown) H) := by
  intro pins s σ H xs us Q I r h
  obtain ⟨a, t, k, ns, rfl, ea, et, sh, dep, sz, q⟩ := h
  obtain ⟨u, rfl, ru⟩ := vals1 r
  obtain rfl : u = Value.ref a := ru
  obtain ⟨_, hm, vs, kv, o, es, ep, h1, h2, h3, h4, h5, h6⟩ := (show ObjOk X.prog X.w H s.heap a (.dK [(.inl k, .ref t)]) from I.hok a _ ea)
  obtain ⟨_, its, rv, ot, g1, g2, n, g3⟩ := (show ObjOk X.prog X.w H s.heap t (.tup (ns.map V.int)) from I.hok t _ et)
  have rt : Reads s.heap (.ref t) (.tuple (ns.map PyData.int)) [] := .tuple g1 g2 g3 (by simpa using readsInts rv)
  have rd : Reads s.heap (.ref a) (dicD k ns) (a :: [] ++ []) := by
    generalize hes : es.toList = l at h5
    have key : ∀ {kvs : List (Key × V)}, kvs = [(Sum.inl k, V.ref t)] → KV kvs vs → ∃ q, vs = [q] ∧ q.1 = Sum.inl k ∧ q.2 = Value.ref t := fun {kvs} e z => by
      cases z with
      | nil => cases e
      | cons hp hr =>
        cases e
        cases hr
        exact ⟨_, rfl, hp.1.symm, hp.2⟩
    obtain ⟨q, rfl, q1, q2⟩ := key rfl kv
    cases h5 with
    | cons hk hv hrest =>
      cases hrest
      rename_i e
      rw [q1] at hk
      rcases keyIs_shape (k := Sum.inl k) (v := e.key) hk with ⟨i, tk, e1, e2⟩ | ⟨i, tk, e1, e2⟩
      · cases e1
        refine .dict h1 h2.1 h3 ?_ ?_
        · rw [hes]
          exact .cons (as := []) (by show Reads _ e.key _ _; rw [e2]; exact .int _ _) .nil
        · rw [hes]
          exact .cons (as := []) (by show Reads _ e.val _ _; rw [hv, q2]; exact rt) .nil
      · cases e1
  refine repr_of_reads' rd sh (fun _ z => ?_) gd (by omega) (fun _ _ e => e) (fun h' v tk hk => ?_) sz
  · simp at z
    rw [z] at hm
    simp at hm
  · exact ⟨.str _, H, I.kept hk, ⟨_, rfl⟩, q⟩
/-- x is shown as z -/
def ThD (K : PySem.W.Frag) (H : Hp) (x : V) (z : Str) : Prop := (∃ d, Dp K H x d ∧ ShV x d ∧ z = d.shown) ∨
  (∃ (a t : Addr) (k : Int) (ns : List Int), x = .ref a ∧ H a = some (.dK [(.inl k, .ref t)]) ∧ H t = some (.tup (ns.map V.int)) ∧ (dicD k ns).showable = true ∧ (dicD k ns).depth ≤ 60 ∧ (dicD k ns).shown.length ≤ sizeLine ∧ z = (dicD k ns).shown)
def rReprW (K : PySem.W.Frag) : List V → Hp → VK → Prop := fun xs H Q => ∃ (x : V) (z : Str), xs = [x] ∧ ThD K H x z ∧ Q (.str z) H
theorem call_reprW (gd : X.A.guards = some []) (hu : X.A.units + 66 < cLine) : CallR X (.builtin "repr") (rReprW X.K) := by
  intro pins s σ H xs us Q I r h
  obtain ⟨x, z, rfl, ⟨d, dp, sv, rfl⟩ | ⟨a, t, k, ns, rfl, c1, c2, c3, c4, c5, rfl⟩, q⟩ := h
  · exact call_reprV gd hu pins s σ H [x] us Q I r ⟨x, d, rfl, dp, sv, q⟩
  · exact call_repr1 gd hu pins s σ H _ us Q I r ⟨a, t, k, ns, rfl, c1, c2, c3, c4, c5, q⟩
end
end Pl
namespace Pl
open PySem PySem.Spec PyProof.Rows L2 PySem.MeetsSeq PySem.MeetsSeq2 PySem.MeetsSeq3 PySem.SeqAt
section
variable {prog : Program} {w : World} {A : Around} {E : Value → Shared → Prop} {s : Shared}
theorem adj_rev (n : Nat) : Builtin.Slice.sliceAdjust none none (-1) (n : Int) = ((n : Int) - 1, -1) := by
  simp [Builtin.Slice.sliceAdjust]
theorem places_rev (n : Nat) : Builtin.Slice.slicePlaces ((n : Int) - 1) (-1) (-1) = n := by
  unfold Builtin.Slice.slicePlaces
  simp
  try omega
theorem fm_congr {α β : Type} {f g : α → Option β} : ∀ {l : List α}, (∀ x ∈ l, f x = g x) → l.filterMap f = l.filterMap g
  | [], _ => rfl
  | x :: l, h => by rw [List.filterMap_cons, List.filterMap_cons, h x List.mem_cons_self, fm_congr fun y hy => h y (List.mem_cons_of_mem _ hy)]
theorem pick_rev (xs : Array Value) : ((List.range xs.size).filterMap fun (m : Nat) => xs[(((xs.size : Int) - 1) + (m : Int) * (-1)).toNat]?).toArray = xs.toList.reverse.toArray := by
  congr 1
  have e : ∀ m ∈ List.range xs.size, xs[(((xs.size : Int) - 1) + (m : Int) * (-1)).toNat]? = (xs.toList.reverse)[m]? := fun m hm => by
    have := List.mem_range.mp hm
    rw [show (((xs.size : Int) - 1) + (m : Int) * (-1)).toNat = xs.size - 1 - m by omega, List.getElem?_reverse (by simpa using this)]
    simp
  rw [fm_congr e]
  have z := PySem.W.krv_all xs.toList.reverse.toArray
  simpa using z
theorem tup_rev {t sl : Addr} {items : Array Value} {vl vu vk : Value} {Q : Value → Shared → Prop} (ht : IsTup s.heap t items) (hs : s.heap.IsSliceOf sl vl vu vk) (pl : IsPart vl none) (pu : IsPart vu none) (pk : IsPart vk (some (-1)))
    (h : Q (.ref s.heap.objs.size) { s with heap := s.heap.push { cls := .type "tuple", data := .seq items.toList.reverse.toArray } }) (hsz : items.size ≤ sizeLine) : wpAny (model prog w) A (getItem (.ref t) (.ref sl)) Q E s := by
  have hok : sizeOk (.seq items.toList.reverse.toArray) := by
    show items.toList.reverse.toArray.size ≤ sizeLine
    simpa using hsz
  obtain ⟨os, hos, hcs, hds⟩ := id hs
  have hTs : s.TypeIs (.ref sl) "slice" := ⟨os, hos, hcs⟩
  unfold getItem
  try with_reducible refine wpAny_holding ?_
  first | refine wpAny_bind (wpAny_pure ?_) | skip
  refine wpAny_bind (wpAny_sequenceKey ht.typeIs (by decide) ?_)
  refine wpAny_bind (wpAny_callSpecial?_slot (name := Str.ofString "__getitem__") ht.typeIs PyProof.Rows.slot_tuple_getitem (wpAny_call_entry PyProof.Rows.slot_tuple_getitem ht.typeIs F.entry_tuple_getitem ?_ (F.args_tuple_getitem_2 _ _)))
  show wpAny _ _ (Builtin.Tuple.tupleItemsOf (.ref t) >>= _) _ _ s
  refine wpAny_bind (tupleItemsOf_ ht ?_)
  refine wpAny_bind (wpAny_typeOf hTs ?_)
  rw [if_pos (by decide)]
  refine wpAny_bind ?_
  unfold Builtin.Slice.sliceApplied Builtin.Slice.sliceFields
  refine wpAny_bind (wpAny_bind (wpAny_field hos hds (x := vl) rfl (wpAny_bind (wpAny_field hos hds (x := vu) rfl (wpAny_bind (wpAny_field hos hds (x := vk) rfl (wpAny_pure ?_)))))))
  refine wpAny_bind (HT.slicePart_ pk ?_)
  show wpAny _ _ (if ((-1 : Int) == 0) = true then _ else _) _ _ s
  rw [if_neg (by decide)]
  refine wpAny_bind (HT.slicePart_ pl (wpAny_bind (HT.slicePart_ pu (wpAny_bind (wpAny_pure ?_)))))
  show wpAny _ _ (match Builtin.Slice.sliceAdjust none none (-1) (items.size : Int) with | (lo, hi) => pure (lo, (-1 : Int), Builtin.Slice.slicePlaces lo hi (-1))) _ _ s
  rw [adj_rev]
  show wpAny _ _ (pure ((items.size : Int) - 1, (-1 : Int), Builtin.Slice.slicePlaces ((items.size : Int) - 1) (-1) (-1))) _ _ s
  rw [places_rev]
  refine wpAny_pure ?_
  show wpAny _ _ (if (((items.size : Int) - 1) == 0 && (-1 : Int) == 1 && items.size == items.size) = true then _ else _) _ _ s
  rw [if_neg (by simp), pick_rev]
  first
    | exact wpAny_bind (m := Builtin.Tuple.tupleExact _) (wpAny_newObj_type (wpAny_pure ⟨_, rfl, wpAny_pure h⟩) hok)
    | exact wpAny_bind (m := Builtin.Tuple.tupleExact _) (wpAny_newObj_type (wpAny_bind (wpAny_pure (wpAny_pure ⟨_, rfl, wpAny_pure h⟩))) hok)
    | exact wpAny_bind (wpAny_bind (m := Builtin.Tuple.tupleExact _) (wpAny_newObj_type (wpAny_pure (wpAny_pure ⟨_, rfl, wpAny_pure h⟩)) hok))
    | exact wpAny_bind (wpAny_bind (m := Builtin.Tuple.tupleExact _) (wpAny_newObj_type (wpAny_pure ⟨_, rfl, wpAny_pure h⟩) hok))
end
def tRevT (K : PySem.W.Frag) (te : TE) : TE := fun σ H Q => te σ H fun x H1 => ∃ a xs, x = .ref a ∧ SqT K H1 a xs ∧ ∀ p, H1 p = none → Q (.ref p) (upd H1 p (.tup xs.reverse))
section
variable {X : Cx}
theorem pe_revT {e : Expr} {te : TE} {k : Nat} {p1 p2 p3 pos : Pos} (he : PE X e te) : PE X (.Subscript e (.Slice none none (some (.UnaryOp .USub (.Constant (.int 1) k p1) p2)) p3) pos) (tRevT X.K te) := by
  refine ⟨fun pins s σ H Q I h => ?_⟩
  refine Subscript_ (thn (he.run pins s σ H _ I h) fun v s1 ⟨x, H1, I1, r1, a, xs, ex, hx, q⟩ => ?_)
  subst ex
  cases r1
  have step : PO X (some (.UnaryOp .USub (.Constant (.int 1) k p1) p2)) (tPart (tUn (rU fun i => .int (-i)) (tC (.int 1)))) := po_some (pe_un un_neg pe_int)
  refine wpAny_Slice (thn (po_none.run pins s1 σ H1 (fun o H2 => o = none ∧ H2 = H1) I1 ⟨rfl, rfl⟩) fun vl s2 ⟨l, H2, I2, pl, el, e2⟩ => ?_)
  subst el e2
  refine thn (po_none.run pins s2 σ H2 (fun o H3 => o = none ∧ H3 = H2) I2 ⟨rfl, rfl⟩) fun vu s3 ⟨u, H3, I3, pu, eu, e3⟩ => ?_
  subst eu e3
  refine thn (step.run pins s3 σ H3 (fun o H4 => o = some (-1) ∧ H4 = H3) I3 ⟨1, rfl, -1, rfl, rfl, rfl⟩) fun vs s4 ⟨o, H4, I4, ps, eo, e4⟩ => ?_
  subst eo e4
  have I5 : Inv X pins σ H4 { s4 with heap := s4.heap.push { cls := .type "slice", data := .fields #[vl, vu, vs] } } := I4.kept (t' := s4.toks) fun _ _ q => Heap.get?_push_of_some _ q
  obtain ⟨its, r, ht, hz⟩ := I5.tuple hx
  have hlen := r.length
  show wpAny (model X.prog X.w) X.A (subscriptTail e (.Slice none none (some (.UnaryOp .USub (.Constant (.int 1) k p1) p2)) p3) (.ref a) (.ref s4.heap.objs.size)) (EP X pins σ Q) X.xe { s4 with heap := s4.heap.push { cls := .type "slice", data := .fields #[vl, vu, vs] } }
  refine tail_any (ops := [.ref a, .ref s4.heap.objs.size]) ht.typeIs PyProof.Rows.slot_tuple_getitem.lookup ?_ (by with_unfolding_all rfl)
  refine tup_rev ht (Heap.IsSliceOf.new _ vl vu vs) pl pu ps ?_ (by rw [List.size_toArray]; omega)
  refine ⟨.ref _, _, I5.laid (t' := s4.toks) (o := .tup xs.reverse) (fun _ _ q => Heap.get?_push_of_some _ q) (Nat.le_refl _) ?_, rfl, q _ (I5.hok.fresh (Nat.le_refl _))⟩
  exact ⟨by rw [List.length_reverse]; exact hz, its.reverse, r.reverse, ⟨_, Heap.get?_push_size _ rfl, rfl, _, rfl⟩⟩
end
end Pl
namespace Pl
open PySem PySem.Spec PyProof.Rows L2 PySem.MeetsSeq PySem.MeetsSeq2 PySem.MeetsSeq3 PySem.SeqAt
/-! blocks of any number of clauses -/
section
variable {elt t i t1 i1 : Expr} {ifs ifs1 : List Expr} {G : List Comprehension} {scope : Scope} {pos : Pos} {it acc : Value} {env : Env} {j : Nat}
theorem turn_mid (h0 : G[j]? = some ⟨t, i, ifs, 0⟩) (h1 : G[j + 1]? = some ⟨t1, i1, ifs1, 0⟩) : compTurn (.ListComp elt G scope pos) j it acc env = (do
    standAt i.pos
    match ← pyNext it with
    | none => pure (.done .next)
    | some v =>
      letOwnedTupleGo t it v
      assign t env v
      let mut ok := true
      for c in ifs do if ok then ok ← isTrue c env (eval c env)
      if ok then
        let x ← eval i1 env
        standAt i1.pos
        let x ← foldedSetIterable i1 env x
        let _ ← runOwn (.compStart (.ListComp elt G scope pos) (j + 1) (← holding [x] (pyIter x)) acc env) env
      again (.compLoop (.ListComp elt G scope pos) j it acc env)) := by
  unfold compTurn
  dsimp only
  rw [h0]
  dsimp only
  rw [h1]
  rfl
theorem turn_last (h0 : G[j]? = some ⟨t, i, ifs, 0⟩) (h1 : G[j + 1]? = none) : compTurn (.ListComp elt G scope pos) j it acc env = (do
    standAt i.pos
    match ← pyNext it with
    | none => pure (.done .next)
    | some v =>
      letOwnedTupleGo t it v
      assign t env v
      let mut ok := true
      for c in ifs do if ok then ok ← isTrue c env (eval c env)
      if ok then (do let _ ← call (.builtin "list.append") [acc, ← eval elt env])
      again (.compLoop (.ListComp elt G scope pos) j it acc env)) := by
  unfold compTurn
  dsimp only
  rw [h0]
  dsimp only
  rw [h1]
  rfl
end
section
variable {prog : Program} {w : World} {A : Around} {R : Result → Shared → Prop} {s : Shared} {elt t i : Expr} {ifs : List Expr} {G : List Comprehension} {scope : Scope} {pos : Pos} {it acc : Value} {env : Env} {j : Nat}
/-- what runs behind a clause's store and tests -/
def Behind (prog : Program) (w : World) (A : Around) (elt : Expr) (G : List Comprehension) (scope : Scope) (pos : Pos) (j : Nat) (acc : Value) (env : Env) (N : Value → Shared → Prop) (post : Shared → Prop) (s : Shared) : Prop :=
  match G[j + 1]? with
  | some g => wpAny (model prog w) A (eval g.iter env) (fun x s5 => wpAny (model prog w) A (pyIter x) (fun it1 s6 => codeAny (model prog w) A (.compStart (.ListComp elt G scope pos) (j + 1) it1 acc env) (fun r s' => match r with | .ok _ => post s' | .error _ => False) s6) N s5) N s
  | none => wpAny (model prog w) A (eval elt env) (fun x s5 => wpAny (model prog w) A (call (.builtin "list.append") [acc, x]) (fun _ s6 => post s6) N s5) N s
theorem loop_any (h0 : G[j]? = some ⟨t, i, ifs, 0⟩) (hb : ∀ g, G[j + 1]? = some g → g.is_async = 0 ∧ ∀ x, foldedSetIterable g.iter env x = pure x) (I : Nat → Shared → Prop)
    (turn : ∀ n s, I n s → wpAny (model prog w) A (pyNext it) (fun r s1 => match r with
      | none => R (.ok .next) s1
      | some v => wpAny (model prog w) A (letOwnedTupleGo t it v) (fun _ s2 => wpAny (model prog w) A (assign t env v) (fun _ s3 => wpAny (model prog w) A (forIn ifs true fun c r => if r = true then do let ok ← isTrue c env (eval c env); pure (ForInStep.yield ok) else pure (ForInStep.yield r)) (fun ok s4 =>
          if ok = true then Behind prog w A elt G scope pos j acc env (notedBy (model prog w) A env fun e s' => R (.error e) s') (fun s' => ∃ m, m < n ∧ I m s') s4 else ∃ m, m < n ∧ I m s4)
          (notedBy (model prog w) A env fun e s' => R (.error e) s') s3) (notedBy (model prog w) A env fun e s' => R (.error e) s') s2) (notedBy (model prog w) A env fun e s' => R (.error e) s') s1) (notedBy (model prog w) A env fun e s' => R (.error e) s') s)
    (n : Nat) (h : I n s) : codeAny (model prog w) A (.compLoop (.ListComp elt G scope pos) j it acc env) R s := by
  refine codeAny_loop rfl I (fun n s hI => ?_) n h; show wpAny _ A ((compTurn (.ListComp elt G scope pos) j it acc env).onRaise (fun x => do noteFrame x env; theTreesLotGoes x)) _ _ s
  refine wpAny_noted ?_
  have T := turn n s hI
  cases h1 : G[j + 1]? with
  | some g =>
    obtain ⟨t1, i1, ifs1, as⟩ := g
    obtain ⟨ha, hs⟩ := hb _ h1
    obtain rfl : as = 0 := ha
    rw [turn_mid h0 h1]
    refine wpAny_bind (wpAny_standAt (wpAny_bind (wpAny_mono T (fun r s1 q1 => ?_) fun _ _ e => e)))
    cases r with
    | none => exact wpAny_pure q1
    | some v =>
      refine wpAny_bind (wpAny_mono q1 (fun _ s2 q2 => wpAny_bind (wpAny_mono q2 (fun _ s3 q3 => wpAny_bind (wpAny_mono q3 (fun ok s4 q4 => ?_) fun _ _ e => e)) fun _ _ e => e)) fun _ _ e => e)
      cases ok with
      | false => exact wpAny_pure ⟨rfl, q4⟩
      | true =>
        have q4 : Behind prog w A elt G scope pos j acc env _ _ s4 := q4
        unfold Behind at q4
        rw [h1] at q4
        refine wpAny_bind (wpAny_mono q4 (fun x s5 q5 => ?_) fun _ _ e => e)
        refine wpAny_bind (wpAny_standAt (wpAny_bind (wpAny_of_eq (hs x) (wpAny_bind (wpAny_holding (wpAny_mono q5 (fun it1 s6 q6 => ?_) fun _ _ e => e))))))
        refine wpAny_bind (wpAny_runOwn ?_)
        rw [Around.mark_none]
        refine codeAny_mono q6 fun r s' hr => ?_
        cases r with
        | ok f => first | exact wpAny_pure ⟨rfl, hr⟩ | exact wpAny_bind (wpAny_pure (wpAny_pure ⟨rfl, hr⟩))
        | error e => exact hr.elim
  | none =>
    rw [turn_last h0 h1]
    refine wpAny_bind (wpAny_standAt (wpAny_bind (wpAny_mono T (fun r s1 q1 => ?_) fun _ _ e => e)))
    cases r with
    | none => exact wpAny_pure q1
    | some v =>
      refine wpAny_bind (wpAny_mono q1 (fun _ s2 q2 => wpAny_bind (wpAny_mono q2 (fun _ s3 q3 => wpAny_bind (wpAny_mono q3 (fun ok s4 q4 => ?_) fun _ _ e => e)) fun _ _ e => e)) fun _ _ e => e)
      cases ok with
      | false => exact wpAny_pure ⟨rfl, q4⟩
      | true =>
        have q4 : Behind prog w A elt G scope pos j acc env _ _ s4 := q4
        unfold Behind at q4
        rw [h1] at q4
        exact wpAny_bind (wpAny_bind (wpAny_mono q4 (fun x s5 q5 => wpAny_bind (wpAny_mono q5 (fun _ s6 q6 => wpAny_pure (wpAny_pure ⟨rfl, q6⟩)) fun _ _ e => e)) fun _ _ e => e))
theorem start_any (hg : ∃ g, G[j]? = some g ∧ g.is_async = 0) (a : codeAny (model prog w) A (.compLoop (.ListComp elt G scope pos) j it acc env) R s)
    (b : wpAny (model prog w) A (pyIter it) (fun it' s' => codeAny (model prog w) A (.compLoop (.ListComp elt G scope pos) j it' acc env) R s') (notedBy (model prog w) A env fun x s' => R (.error x) s') s) :
    codeAny (model prog w) A (.compStart (.ListComp elt G scope pos) j it acc env) R s := by
  obtain ⟨g, h0, ha⟩ := hg
  refine codeAny_of_tree ?_; show wpAny _ _ ((compStart (.ListComp elt G scope pos) j it acc env).onRaise (fun x => do noteFrame x env; standAt theWindowsPlace)) _ _ s
  refine wpAny_notedAt ?_
  unfold compStart
  have hcl : (clausesOf (.ListComp elt G scope pos))[j]? = some g := h0
  rw [hcl]
  simp only [Option.elim_some, ha]
  rw [if_neg (by simp)]
  refine wpAny_bind (wpAny_askSetting (wpAny_ite ?_))
  split
  · first | exact wpAny_bind (wpAny_pure (wpAny_pure (And.intro rfl a))) | exact wpAny_pure (And.intro rfl a)
  · first
      | exact wpAny_bind (wpAny_rule (wpAny_bind (wpAny_standAt (wpAny_bind (wpAny_mono b (fun it' s' h' => wpAny_pure (And.intro rfl h')) fun _ _ x => x)))))
      | (refine wpAny_bind (wpAny_rule ?_); exact wpAny_bind (wpAny_standAt (wpAny_bind (wpAny_mono b (fun it' s' h' => wpAny_pure (And.intro rfl h')) fun _ _ x => x))))
end
theorem Behind.mono {prog : Program} {w : World} {A : Around} {elt : Expr} {G : List Comprehension} {scope : Scope} {pos : Pos} {j : Nat} {acc : Value} {env : Env} {N : Value → Shared → Prop} {p p' : Shared → Prop} {s : Shared} (h : Behind prog w A elt G scope pos j acc env N p s) (k : ∀ s', p s' → p' s') : Behind prog w A elt G scope pos j acc env N p' s := by
  unfold Behind at h ⊢
  cases e : G[j + 1]? with
  | some g =>
    rw [e] at h
    exact wpAny_mono h (fun x s5 q5 => wpAny_mono q5 (fun it s6 q6 => codeAny_mono q6 fun r s' hr => by
      cases r with
      | ok f => exact k s' hr
      | error x => exact hr) fun _ _ z => z) fun _ _ z => z
  | none =>
    rw [e] at h
    exact wpAny_mono h (fun x s5 q5 => wpAny_mono q5 (fun _ s6 q6 => k s6 q6) fun _ _ z => z) fun _ _ z => z
theorem drop_cons {α : Type} {G r : List α} {n : Nat} {a : α} (h : G.drop n = a :: r) : G[n]? = some a := by
  have z := congrArg (·[0]?) h
  simpa using z
theorem drop_none {α : Type} {G : List α} {n : Nat} (h : G.drop n = []) : G[n]? = none := by
  have z := congrArg (·[0]?) h
  simpa using z
/-! what a block of several clauses does -/
def TIn : Type := L2.St → Hp → Addr → (Hp → Prop) → Prop
def tItem (te : TE) : TIn := fun σ H D Nx => te σ H fun y H1 => ∃ acc, H1 D = some (.lst acc) ∧ acc.length < sizeLine ∧ Nx (upd H1 D (.lst (acc ++ [y])))
/-- a further clause; us: its names and those of the clauses behind it -/
def tClause (wi : TI) (g : TG) (tt : TT) (us : List Nat) (t : TIn) : TIn := fun σ H D Nx => wi σ H fun J H1 => ∃ W : Nat → Nat → Hp → Prop, (∃ m, W 0 m H1) ∧ ∀ j k H2, W j k H2 →
  (J.stop j H2 ∧ Nx H2) ∨ (J.go j H2 ∧ ∃ Nx1 : Hp → Prop, (∀ H', Nx1 H' → ∃ k', k' < k ∧ W (j + 1) k' H') ∧ ∀ x H', J.yld j H2 x H' → g x (wipe σ us) H' fun σ1 H3 => wipe σ1 us = wipe σ us ∧ tt σ1 H3 fun b H4 => if b = true then t σ1 H4 D Nx1 else Nx1 H4)
inductive PIns (Y : Cx) (elt : Expr) : List Comprehension → List Nat → TIn → Prop
  | nil {te : TE} : PE Y elt te → PIns Y elt [] [] (tItem te)
  | cons {tg iter : Expr} {ifs : List Expr} {wi : TI} {g : TG} {tt : TT} {us vs : List Nat} {r : List Comprehension} {t : TIn} : PI Y tg iter wi → PG Y tg g → PTs Y ifs tt → (∀ i ∈ vs, i ∈ us) → (∀ env x, foldedSetIterable iter env x = pure x) → PIns Y elt r vs t → PIns Y elt (⟨tg, iter, ifs, 0⟩ :: r) us (tClause wi g tt us t)
section
variable {X : Cx}
theorem inner_ok {s3 : Shared} {H3 : Hp} {scope : Scope} {ce : Env} {fp : List Addr} {elt : Expr} {pos : Pos} {G : List Comprehension} {D : Addr} (hc : X.calm = true) (hce : (X.blk s3 H3 scope ce fp).env = ce) : ∀ {r : List Comprehension} {us : List Nat} {t : TIn}, PIns (X.blk s3 H3 scope ce fp) elt r us t →
    ∀ {j : Nat}, G.drop (j + 1) = r → ∀ {pins : List (Addr × Obj)} {σ : L2.St} {H : Hp} {s : Shared} {Nx : Hp → Prop} {N : Value → Shared → Prop}, Inv (X.blk s3 H3 scope ce fp) pins σ H s → t σ H D Nx →
      Behind X.prog X.w X.A elt G scope pos j (.ref D) ce N (fun s' => ∃ H', Inv (X.blk s3 H3 scope ce fp) pins (wipe σ us) H' s' ∧ Nx H') s := by
  intro r us t P
  induction P with
  | @nil te pe =>
    intro j hG pins σ H s Nx N I q
    have e : G[j + 1]? = none := drop_none hG
    unfold Behind
    rw [e]
    refine thnF (pe.run _ s σ H _ I q) fun z s1 ⟨yv, H1, I1, r1, acc, hD, hz, nx⟩ => ?_
    exact app_ok (X := X.blk s3 H3 scope ce fp) I1 hD hz r1 fun s2 I2 => ⟨_, I2, nx⟩
  | @cons tg iter ifs wi g tt us vs r t pi pg pt hv hs Pr ih =>
    intro j hG pins σ H s Nx N I q
    have e : G[j + 1]? = some ⟨tg, iter, ifs, 0⟩ := drop_cons hG
    have hG2 : G.drop (j + 1 + 1) = r := by
      have z := congrArg (List.drop 1) hG
      simpa [List.drop_drop] using z
    unfold Behind
    rw [e]
    refine thnF (pi.run _ s σ H _ I q) fun xv s1 hx => thnF hx fun itv s2 h2 => ?_
    obtain ⟨it, fp1, tn, J, H2, e1, I2, T, st2, f2, W, ⟨m, w0⟩, turn⟩ := h2
    subst e1
    have stat : ∀ {H' : Hp}, (∀ b ∈ fp1, H' b = none) → ∀ b ∈ fp1, FpOk (X.blk s3 H3 scope ce fp) pins H' b := fun hn b hb => ⟨hn b hb, (f2 b hb).2⟩
    have hnx : ∀ g', G[j + 1 + 1]? = some g' → g'.is_async = 0 ∧ ∀ x, foldedSetIterable g'.iter ce x = pure x := by
      intro g' hg'
      cases Pr with
      | nil pe =>
        rw [drop_none hG2] at hg'
        cases hg'
      | cons a b c d e f =>
        rw [drop_cons hG2] at hg'
        cases hg'
        exact ⟨rfl, e ce⟩
    have loop : codeAny (model X.prog X.w) X.A (.compLoop (.ListComp elt G scope pos) (j + 1) (.ref it) (.ref D) ce) (fun r s' => match r with | .ok _ => ∃ H', Inv (X.blk s3 H3 scope ce fp) pins (wipe σ us) H' s' ∧ Nx H' | .error _ => False) s2 := by
      refine loop_any e hnx (fun k s' => ∃ jj H', Inv (X.blk s3 H3 scope ce fp) pins (wipe σ us) H' s' ∧ tn jj s'.heap ∧ (∀ b ∈ fp1, H' b = none) ∧ W jj k H') ?_ m ⟨0, H2, I2.weak (wipe_length _ _) (fun j v e => (wipe_some e).1), st2, fun b hb => (f2 b hb).1, w0⟩
      rintro k s4 ⟨jj, H4, I4, st4, n4, w4⟩
      rcases turn jj k H4 w4 with ⟨stop, nx⟩ | ⟨go, Nx1, hNx1, step⟩
      · refine thnF (T.done (X.blk s3 H3 scope ce fp) rfl rfl rfl hc jj _ s4 (wipe σ us) H4 (fun _ _ => False) I4 (stat n4) st4 stop) fun r s5 ⟨hr, I5⟩ => ?_
        subst hr
        exact ⟨_, I5, nx⟩
      · refine thnF (T.item (X.blk s3 H3 scope ce fp) rfl rfl rfl hc jj _ s4 (wipe σ us) H4 (fun _ _ => False) I4 (stat n4) st4 go) fun r s5 ⟨u, hr, h5⟩ => ?_
        subst hr
        refine thnF h5 fun _ s6 ⟨x, H6, I6, r6, y6, st6, n6⟩ => ?_
        have I6' := I6.pinned (stat n6) (T.obj _ _ st6)
        refine thnF (pg.run _ s6 (wipe σ us) H6 x u _ I6' r6 (step x H6 y6)) fun _ s7 ⟨σ7, H7, I7, hw, q7⟩ => ?_
        refine thnF (pt.run _ s7 σ7 H7 _ I7 q7) fun b s8 ⟨H8, I8, q8⟩ => ?_
        have fin : ∀ {σ' : L2.St} {s' : Shared} {H' : Hp}, Inv (X.blk s3 H3 scope ce fp) (pins ++ pinsAt fp1 s6.heap) σ' H' s' → (wipe σ us).length = σ'.length → (∀ (n : Nat) v, (wipe σ us)[n]? = some (some v) → σ'[n]? = some (some v)) → Nx1 H' → ∃ m, m < k ∧ ∃ jj H', Inv (X.blk s3 H3 scope ce fp) pins (wipe σ us) H' s' ∧ tn jj s'.heap ∧ (∀ b ∈ fp1, H' b = none) ∧ W jj m H' := fun {σ' s' H'} I' hl hk nx => by
          obtain ⟨m', hm, w'⟩ := hNx1 H' nx
          have pin' : ∀ b ∈ fp1, ∀ o, s6.heap.get? b = some o → s'.heap.get? b = some o ∧ H' b = none := fun b hb o eo => by
            have z := I'.pin (b, o) (List.mem_append_right _ (List.mem_append_right _ (mem_pinsAt hb eo)))
            exact ⟨z.1, z.2.1⟩
          refine ⟨m', hm, jj + 1, H', I'.unpinned.weak hl hk, T.keep _ _ _ st6 fun b hb o eo => (pin' b hb o eo).1, fun b hb => ?_, w'⟩
          obtain ⟨o, eo, _⟩ := T.obj _ _ st6 b hb
          exact (pin' b hb o eo).2
        have hl7 : (wipe σ us).length = σ7.length := by rw [← hw, wipe_length]
        have hk7 : ∀ (n : Nat) v, (wipe σ us)[n]? = some (some v) → σ7[n]? = some (some v) := fun n v z => by
          rw [← hw] at z
          exact (wipe_some z).1
        cases b with
        | false =>
          simp only [Bool.false_eq_true, if_false] at q8 ⊢
          exact fin I8 hl7 hk7 q8
        | true =>
          simp only [if_true] at q8 ⊢
          refine (ih hG2 I8 q8).mono fun s' ⟨H', I', nx⟩ => fin I' (hl7.trans (wipe_length _ _).symm) (fun n v z => ?_) nx
          rw [← hw] at z
          obtain ⟨z1, z2⟩ := wipe_some z
          rw [wipe_out fun y => z2 (hv n y)]
          exact z1
    exact start_any ⟨_, e, rfl⟩ loop (T.self X.A 0 _ _ _ st2 loop)
/-- the whole block: the first clause's source is the def's own; us: all names of the block -/
def tLcN (wi : TI) (g : TG) (tt : TT) (t : TIn) (us : List Nat) : TE := fun σ H Q => wi σ H fun J H1 => ∀ D, H1 D = none → ∃ W : Nat → Nat → Hp → Prop, (∃ m, W 0 m (upd H1 D (.lst []))) ∧ ∀ i m H, W i m H →
  (J.stop i H ∧ Q (.ref D) H) ∨ (J.go i H ∧ ∃ Nx : Hp → Prop, (∀ H', Nx H' → ∃ m', m' < m ∧ W (i + 1) m' H') ∧ ∀ x H', J.yld i H x H' → g x (wipe σ us) H' fun σ2 H2 => wipe σ2 us = wipe σ us ∧ tt σ2 H2 fun b H3 => if b = true then t σ2 H3 D Nx else Nx H3)
theorem lcN_core {pins : List (Addr × Obj)} {s : Shared} {σ : L2.St} {H : Hp} {Q : VK} {elt tg iter : Expr} {ifs : List Expr} {rest : List Comprehension} {scope : Scope} {own : List (Str × Nat)} {vs : List Nat} {pos pos' : Pos} {wi : TI} {g : TG} {tt : TT} {t : TIn} {use : Option (Value → Sem Unit)} {Qf : Value → Shared → Prop}
    (hc : X.calm = true) (hN : X.N.Nodup) (I : Inv X pins σ H s) (hi : PI X tg iter wi) (ok : BlkOk X.N X.env.scope scope own) (hv : ∀ i ∈ vs, i ∈ own.map (·.2))
    (hq : ∀ (s : Shared) (H : Hp) (C : Addr) (cl : List (Str × Addr)) (fp : List Addr), PG (X.blk s H scope (compEnvC scope cl C X.env) fp) tg g ∧ PTs (X.blk s H scope (compEnvC scope cl C X.env) fp) ifs tt ∧ PIns (X.blk s H scope (compEnvC scope cl C X.env) fp) elt rest vs t)
    (hs : ∀ x, foldedSetIterable iter X.env x = pure x) (h : tLcN wi g tt t (own.map (·.2)) σ H Q)
    (hRR : ∀ D C s' m H', Inv X pins σ H' s' → Q (.ref D) H' → s'.heap.Ns C m → FpOk X pins H' C → compPost (model X.prog X.w) X.A X.xe use Qf (.ref D) C (.ok .next) s') :
    wpAny (model X.prog X.w) X.A (comprehension (.ListComp elt (⟨tg, iter, ifs, 0⟩ :: rest) scope pos) scope X.env pos' (newList []) false (eval iter X.env) use) Qf X.xe s := by
  have hfree : ∀ y ∈ scope.names, y.2 = .free → ∃ c, X.env.cells.lookup y.1 = some c := fun y hy e => (ok.free y hy e).elim (fun k => I.ok.has _ (.inl k)) fun k => I.ok.has _ (.inr k)
  refine wpAny_comprehension_free (use := use) rfl hs (closure_ok hfree) ok.kind (fun y hy e => by rw [ok.uniq y hy, e]) (thn (hi.run pins s σ H _ I h) fun xv s1 hx => thn hx fun itv s2 h2 => ?_)
  obtain ⟨it, fp, tn, J, H2, e, I2, T, st2, f2, q⟩ := h2
  subst e
  refine wpAny_newObj_type (newEnv_comp ?_) (by show 0 ≤ sizeLine; decide)
  generalize hD : s2.heap.objs.size = D
  obtain ⟨W, ⟨m0, w0⟩, turn⟩ := q D (I2.hok.fresh (Nat.le_of_eq hD))
  generalize hs3 : ({ s2 with heap := s2.heap.push { cls := .type "list", data := .seq ([] : List Value).toArray } } : Shared) = s3
  have h3 : s3.heap = s2.heap.push { cls := .type "list", data := .seq ([] : List Value).toArray } := by rw [← hs3]
  have I3 : Inv X pins σ (upd H2 D (.lst [])) s3 := by
    rw [← hs3]
    exact I2.laid (t' := s2.toks) (fun b o e => Heap.get?_push_of_some _ e) (Nat.le_of_eq hD) ⟨Nat.zero_le _, [], 0, .nil, by rw [← hD]; exact Heap.get?_push_size _ rfl⟩
  have f3 : ∀ b ∈ fp, FpOk X pins (upd H2 D (.lst [])) b ∧ b < s3.heap.objs.size := fun b hb => by
    obtain ⟨o, e, _⟩ := T.obj _ _ st2 b hb
    have lt := Heap.lt_size e
    exact ⟨⟨by rw [upd_ne (by rw [← hD]; exact Nat.ne_of_lt lt)]; exact (f2 b hb).1, (f2 b hb).2⟩, by rw [h3, Heap.size_push]; exact Nat.lt_succ_of_lt lt⟩
  have st3 : tn 0 s3.heap := T.keep _ _ _ st2 fun b _ o e => by rw [h3]; exact Heap.get?_push_of_some _ e
  have I4 := block_start I3 ok hN f3
  obtain ⟨pg, pt, pin⟩ := hq s3 (upd H2 D (.lst [])) s3.heap.objs.size (cellsFrom (s3.heap.objs.size + 1) scope.names (cloFrom X.env.cells scope.names [])) fp
  show codeAny _ _ (.compStart (.ListComp elt (⟨tg, iter, ifs, 0⟩ :: rest) scope pos) 0 (.ref it) (.ref D) (compEnvC scope (cellsFrom (s3.heap.objs.size + 1) scope.names (cloFrom X.env.cells scope.names [])) s3.heap.objs.size X.env)) (compPost (model X.prog X.w) X.A X.xe use Qf (.ref D) s3.heap.objs.size) { s3 with heap := pushCells (s3.heap.push { cls := .type "dict", data := .dict #[] }) scope.names }
  have nfp : ∀ b ∈ fp, (upd H2 D (.lst [])) b = none := fun b hb => (f3 b hb).1.1
  generalize hce : compEnvC scope (cellsFrom (s3.heap.objs.size + 1) scope.names (cloFrom X.env.cells scope.names [])) s3.heap.objs.size X.env = ce at I4 pg pt pin ⊢
  have cL : ce.locals = s3.heap.objs.size := by subst hce; rfl
  generalize hH3 : upd H2 D (.lst []) = H3 at I3 I4 pg pt pin w0 nfp f3
  generalize hs4 : ({ s3 with heap := pushCells (s3.heap.push { cls := .type "dict", data := .dict #[] }) scope.names } : Shared) = s4 at I4 ⊢
  have st4 : tn 0 s4.heap := T.keep _ _ _ st3 fun b _ o e => by rw [← hs4]; exact pushCells_keeps _ _ _ _ (Heap.get?_push_of_some _ e)
  have stat : ∀ {σ' : L2.St} {H' : Hp} {s' : Shared}, Inv (X.blk s3 H3 scope ce fp) [] σ' H' s' → (∀ b ∈ fp, H' b = none) → ∀ b ∈ fp, FpOk (X.blk s3 H3 scope ce fp) [] H' b := fun {σ' H' s'} I' hn b hb => ⟨hn b hb, (I'.ok.exf b hb).1, I'.ok.exfs b hb, .inl hb, fun x c e => (I'.ok.exf b hb).2 x c e, fun p hp => absurd (show p ∈ ([] : List (Addr × Obj)) ++ [] from hp) (by simp)⟩
  have hnx : ∀ g', (⟨tg, iter, ifs, 0⟩ :: rest : List Comprehension)[0 + 1]? = some g' → g'.is_async = 0 ∧ ∀ x, foldedSetIterable g'.iter ce x = pure x := by
    intro g' hg'
    cases pin with
    | nil pe => cases hg'
    | cons a b c d e f =>
      cases hg'
      exact ⟨rfl, e ce⟩
  have loop : codeAny (model X.prog X.w) X.A (.compLoop (.ListComp elt (⟨tg, iter, ifs, 0⟩ :: rest) scope pos) 0 (.ref it) (.ref D) ce) (compPost (model X.prog X.w) X.A X.xe use Qf (.ref D) s3.heap.objs.size) s4 := by
    refine loop_any rfl hnx (fun n s' => ∃ i H', Inv (X.blk s3 H3 scope ce fp) [] (wipe σ (own.map (·.2))) H' s' ∧ tn i s'.heap ∧ (∀ b ∈ fp, H' b = none) ∧ W i n H') ?_ m0 ⟨0, H3, I4, st4, nfp, w0⟩
    rintro n s5 ⟨i, H5, I5, st5, n5, w5⟩
    rcases turn i n H5 w5 with ⟨stop, qq⟩ | ⟨go, Nx, hNx, step⟩
    · refine thnF (T.done (X.blk s3 H3 scope ce fp) rfl rfl rfl hc i [] s5 _ H5 (fun _ _ => False) I5 (stat I5 n5) st5 stop) fun r s6 ⟨hr, I6⟩ => ?_
      subst hr
      have I7 : Inv X pins σ H5 s6 := I3.call' (ch := fp) I6.os I6.base I6.hok I6.bare fun b hb => ⟨(f3 b hb).1.2.2.2.1, (f3 b hb).1.2.1, (f3 b hb).1.2.2.2.2.1, (f3 b hb).1.2.2.2.2.2⟩
      have nC : H5 s3.heap.objs.size = none := by
        have z : H5 ce.locals = none := I6.free
        rwa [cL] at z
      obtain ⟨m, hn, _⟩ := I6.loc
      have hn : s6.heap.Ns ce.locals m := hn
      rw [cL] at hn
      exact hRR D s3.heap.objs.size s6 m H5 I7 qq hn (I3.fpOk (Nat.le_refl _) nC)
    · refine thnF (T.item (X.blk s3 H3 scope ce fp) rfl rfl rfl hc i [] s5 _ H5 (fun _ _ => False) I5 (stat I5 n5) st5 go) fun r s6 ⟨u, hr, h6⟩ => ?_
      subst hr
      refine thnF h6 fun _ s7 ⟨x, H7, I7, r7, y7, st7, n7⟩ => ?_
      have I7' := I7.pinned (stat I7 n7) (T.obj _ _ st7)
      refine thnF (pg.run _ s7 _ H7 x u _ I7' r7 (step x H7 y7)) fun _ s8 ⟨σ8, H8, I8, hw8, q8⟩ => ?_
      refine thnF (pt.run _ s8 σ8 H8 _ I8 q8) fun b s9 ⟨H9, I9, q9⟩ => ?_
      have fin : ∀ {σ9 : L2.St} {s' : Shared} {H' : Hp}, Inv (X.blk s3 H3 scope ce fp) ([] ++ pinsAt fp s7.heap) σ9 H' s' → (wipe σ (own.map (·.2))).length = σ9.length → (∀ (j : Nat) v, (wipe σ (own.map (·.2)))[j]? = some (some v) → σ9[j]? = some (some v)) → Nx H' →
          ∃ m, m < n ∧ ∃ i H', Inv (X.blk s3 H3 scope ce fp) [] (wipe σ (own.map (·.2))) H' s' ∧ tn i s'.heap ∧ (∀ b ∈ fp, H' b = none) ∧ W i m H' := fun {σ9 s' H'} I' hl hk nx => by
        obtain ⟨m', hm, w'⟩ := hNx H' nx
        have pin' : ∀ b ∈ fp, ∀ o, s7.heap.get? b = some o → s'.heap.get? b = some o ∧ H' b = none := fun b hb o e => by
          have z := I'.pin (b, o) (List.mem_append_right _ (List.mem_append_right _ (mem_pinsAt hb e)))
          exact ⟨z.1, z.2.1⟩
        refine ⟨m', hm, i + 1, H', (I'.unpinned (pins := [])).weak hl hk, T.keep _ _ _ st7 fun b hb o e => (pin' b hb o e).1, fun b hb => ?_, w'⟩
        obtain ⟨o, e, _⟩ := T.obj _ _ st7 b hb
        exact (pin' b hb o e).2
      have hl8 : (wipe σ (own.map (·.2))).length = σ8.length := by rw [← hw8, wipe_length]
      cases b with
      | false =>
        simp only [Bool.false_eq_true, if_false] at q9 ⊢
        exact fin I9 hl8 (fun j v e => by rw [← hw8] at e; exact (wipe_some e).1) q9
      | true =>
        simp only [if_true] at q9 ⊢
        refine (inner_ok (G := ⟨tg, iter, ifs, 0⟩ :: rest) hc rfl pin (j := 0) rfl I9 q9).mono fun s' ⟨H', I', nx⟩ => fin I' (hl8.trans (wipe_length _ _).symm) (fun n v z => ?_) nx
        rw [← hw8] at z
        obtain ⟨z1, z2⟩ := wipe_some z
        rw [wipe_out fun y => z2 (hv n y)]
        exact z1
  exact start_any ⟨_, rfl, rfl⟩ loop (T.self X.A 0 _ _ _ st4 loop)
/-- a block of several clauses as a value -/
theorem pe_lcN {elt tg iter : Expr} {ifs : List Expr} {rest : List Comprehension} {scope : Scope} {own : List (Str × Nat)} {vs : List Nat} {pos : Pos} {wi : TI} {g : TG} {tt : TT} {t : TIn} (hc : X.calm = true) (hN : X.N.Nodup) (hi : PI X tg iter wi) (ok : BlkOk X.N X.env.scope scope own) (hv : ∀ i ∈ vs, i ∈ own.map (·.2))
    (hq : ∀ (s : Shared) (H : Hp) (C : Addr) (cl : List (Str × Addr)) (fp : List Addr), PG (X.blk s H scope (compEnvC scope cl C X.env) fp) tg g ∧ PTs (X.blk s H scope (compEnvC scope cl C X.env) fp) ifs tt ∧ PIns (X.blk s H scope (compEnvC scope cl C X.env) fp) elt rest vs t)
    (hs : ∀ x, foldedSetIterable iter X.env x = pure x := by intro _; rfl) : PE X (.ListComp elt (⟨tg, iter, ifs, 0⟩ :: rest) scope pos) (tLcN wi g tt t (own.map (·.2))) := by
  refine ⟨fun pins s σ H Q I h => ?_⟩; rw [eval_ListComp]
  refine lcN_core hc hN I hi ok hv hq hs h fun D C s' m H' I' q hn f => ⟨m, hn, fun h'' sb => ?_⟩
  obtain ⟨f0, f1, f2, f3, f4, f5⟩ := f
  exact ⟨.ref D, H', I'.turned (t' := s'.toks) (fun b o hb e => (sb.2 b hb).trans e) f0 f1 f3 f4 f5, rfl, q⟩
theorem ps_setLcN {i : Nat} {y : Str} {py : Pos} {elt tg iter : Expr} {ifs : List Expr} {rest : List Comprehension} {scope : Scope} {own : List (Str × Nat)} {vs : List Nat} {pos spos : Pos} {wi : TI} {g : TG} {tt : TT} {t : TIn} (hc : X.calm = true) (hN : X.N.Nodup) (hy : X.N[i]? = some y) (hyl : X.env.scope.names.lookup y = some .local)
    (hsw : swapsWith (.ListComp elt (⟨tg, iter, ifs, 0⟩ :: rest) scope pos) (some (.Name y py)) spos.line X.env = pure true) (hi : PI X tg iter wi) (ok : BlkOk X.N X.env.scope scope own) (hv : ∀ i ∈ vs, i ∈ own.map (·.2))
    (hq : ∀ (s : Shared) (H : Hp) (C : Addr) (cl : List (Str × Addr)) (fp : List Addr), PG (X.blk s H scope (compEnvC scope cl C X.env) fp) tg g ∧ PTs (X.blk s H scope (compEnvC scope cl C X.env) fp) ifs tt ∧ PIns (X.blk s H scope (compEnvC scope cl C X.env) fp) elt rest vs t)
    (hs : ∀ x, foldedSetIterable iter X.env x = pure x := by intro _; rfl) : PS X (.Assign [.Name y py] (.ListComp elt (⟨tg, iter, ifs, 0⟩ :: rest) scope pos) spos) (tAsg (tLcN wi g tt t (own.map (·.2))) (gName i)) := by
  refine ⟨fun pins s σ H D I h => ?_⟩; rw [exec_Assign_Name_used _ _ _ _ hsw]
  refine wpAny_bind (wpAny_standAt (wpAny_bind ?_))
  show wpAny _ X.A (do let _ ← comprehension (.ListComp elt (⟨tg, iter, ifs, 0⟩ :: rest) scope pos) scope X.env (firstIterPos (⟨tg, iter, ifs, 0⟩ :: rest) pos) (newList []) false (eval iter X.env) (some (assign (.Name y py) X.env))) _ _ s
  have h : tLcN wi g tt t (own.map (·.2)) σ H (fun x H1 => gName i x σ H1 D.nx) := h
  refine wpAny_bind (thn (lcN_core (Qf := fun _ s' => SP X pins D .next s') hc hN I hi ok hv hq hs h fun L C s' m H' I' q hn f => ?_) fun _ s' hq => wpAny_pure (wpAny_pure hq))
  show wpAny _ _ (assign (.Name y py) X.env (.ref L)) _ _ _
  refine wpAny_assign_Name (store_ok2 (v := V.ref L) I' hN hy (.inl hyl) rfl (fun s2 I2 ⟨a, sb, ha⟩ => ?_) (.inr hyl))
  obtain ⟨f0, f1, f2, f3, f4, f5⟩ := f
  have haC : C ≠ a := ha.elim (fun z => by rw [z]; exact f1) fun z e => f4 y a z e.symm
  exact ⟨m, hn.sameBut sb haC, fun h3 sb3 => ⟨_, H', I2.turned (t' := s2.toks) (fun b o hb e => (sb3.2 b hb).trans e) f0 f1 f3 f4 f5, q⟩⟩
end
end Pl
namespace Pl
open PySem PySem.Spec PyProof.Rows L2 PySem.MeetsSeq PySem.MeetsSeq2 PySem.MeetsSeq3 PySem.SeqAt
/-! enumerate of a tuple -/
theorem meets_enum1 {v : Value} {o : Obj} {H : Heap → Prop} (B : Begins v o H) : Meets (Builtin.«enumerate.__new__» ⟨[.type "enumerate", v], []⟩) (fun _ R s => H s.heap ∧ R (.ok (.ret (.ref (s.heap.push o).objs.size))) { s with heap := (s.heap.push o).push { cls := .type "enumerate", data := .fields #[.none, .bool false, .ref s.heap.objs.size, rawInt 0, .none, .none] } }) :=
  .of_wp fun prog w A R s h => by
    obtain ⟨hp, g, d, tk, os⟩ := s
    obtain ⟨h1, h⟩ := h
    have hsub := sub_enumerate
    have q1 : ∀ {A' : Around} {E : Value → Shared → Prop} {Q : Value → Shared → Prop}, Q (.ref hp.objs.size) ⟨hp.push o, g, d, tk, os⟩ → wpAny (model prog w) A' (pyIter v) Q E ⟨hp, g, d, tk, os⟩ := fun q => B.iter prog w _ _ ⟨hp, g, d, tk, os⟩ _ h1 q
    wp_walk using q1
    refine wpAny_stack_any fun st => wpAny_pure ?_
    split
    · rename_i c _ _ _ _ _
      cases (c == Value.type "enumerate") <;> (wp_walk using q1; exact ⟨_, rfl, h⟩)
    · wp_walk using q1; exact ⟨_, rfl, h⟩
theorem call_enum1 {prog : Program} {w : World} {A : Around} {E : Value → Shared → Prop} {s : Shared} {v : Value} {o : Obj} {H : Heap → Prop} {Q : Value → Shared → Prop} (B : Begins v o H) (h1 : H s.heap)
    (h : ∀ h', IsEnum h' (s.heap.objs.size + 1) s.heap.objs.size 0 .none → h'.get? s.heap.objs.size = some o → (∀ b ob, s.heap.get? b = some ob → h'.get? b = some ob) → Q (.ref (s.heap.objs.size + 1)) { s with heap := h' }) :
    wpAny (model prog w) A (call (.type "enumerate") [v]) Q E s := by
  refine callType_new F.called_enumerate (by decide) (F.typeCall_enumerate_1 _) (F.newCall_enumerate_1 _) (fun obj => F.args_object_init_2 obj _) F.entry_enumerate_new (meets_enum1 B) ⟨h1, ?_⟩
  have hz : (s.heap.push o).objs.size = s.heap.objs.size + 1 := Heap.size_push ..
  show _ ∧ _
  rw [hz]
  have he : IsEnum ((s.heap.push o).push { cls := .type "enumerate", data := .fields #[.none, .bool false, .ref s.heap.objs.size, rawInt 0, .none, .none] }) (s.heap.objs.size + 1) s.heap.objs.size 0 .none := by
    have z := Heap.get?_push_size (s.heap.push o) (o := { cls := .type "enumerate", data := .fields #[.none, .bool false, .ref s.heap.objs.size, rawInt 0, .none, .none] }) rfl
    rwa [hz] at z
  exact ⟨⟨_, he, rfl⟩, h _ he (Heap.get?_push_of_some _ (Heap.get?_push_size _ B.free)) fun b ob x => Heap.get?_push_of_some _ (Heap.get?_push_of_some _ x)⟩
/-- the tuple at a, each item in a new pair -/
def IteT (K : PySem.W.Frag) (a : Addr) : It :=
  ⟨fun i H => ∃ (xs : List V) (x : V), SqT K H a xs ∧ xs[i]? = some x, fun i H v H' => ∃ T x, v = .ref T ∧ H T = none ∧ H' = upd H T (.tup [.int (i : Nat), x]) ∧ ∀ xs, SqT K H a xs → xs[i]? = some x, fun i H => ∃ xs : List V, SqT K H a xs ∧ xs.length = i⟩
theorem turn_enumT {P : Program} {w : World} {K : PySem.W.Frag} {elts : List Expr} {kk : Nat} {tpos : Pos} (a e it : Addr) :
    Turn P w K (.Tuple elts kk tpos) (IteT K a) [e, it] e (fun i h => (∃ old, IsEnum h e it ((i : Nat) : Int) old) ∧ h.IsTupleIter it a i ∧ e ≠ it) where
  mem := by simp
  obj := fun i h st b hb => by
    obtain ⟨⟨old, he⟩, ⟨o, ho, hc, hd⟩, _⟩ := st
    rcases (by simpa using hb : b = e ∨ b = it) with z | z
    · rw [z]; exact ⟨_, he, fun v q => nomatch q⟩
    · rw [z]; exact ⟨o, ho, fun v q => by rw [hd] at q; cases q⟩
  keep := fun i h h' st k => by
    obtain ⟨⟨old, he⟩, hi, hne⟩ := st
    exact ⟨⟨old, k e (by simp) _ he⟩, hi.at fun o q => k it (by simp) o q, hne⟩
  item := by
    intro X hP hw hK hc i pins s σ H E I hf st hg
    subst hP hw hK
    obtain ⟨⟨old, he⟩, hit, hne⟩ := st
    obtain ⟨xs, x, hq, hx⟩ := hg
    obtain ⟨its, rv, p, hz⟩ := I.tuple hq
    obtain ⟨u, hu, ru⟩ := rv.get hx
    have hel : e < s.heap.objs.size := Heap.lt_size he
    have hil : it < s.heap.objs.size := by obtain ⟨_, q, _⟩ := hit; exact Heap.lt_size q
    have ta : s.heap.IsTuple a its.toArray := p
    have hai : a ≠ it := fun z => by
      obtain ⟨o1, q1, c1, _⟩ := hit
      obtain ⟨o2, q2, c2, _⟩ := ta
      rw [z, q1] at q2
      cases q2
      rw [c1] at c2
      exact absurd c2 (by intro z; injection z with z; exact absurd z (by decide))
    have hea : e ≠ a := fun z => by
      obtain ⟨o2, q2, c2, _⟩ := ta
      rw [← z, show s.heap.get? e = some _ from he] at q2
      cases q2
      exact absurd c2 (by intro z; injection z with z; exact absurd z (by decide))
    have lt : i < its.toArray.size := by
      have := (List.getElem?_eq_some_iff.mp hu).1
      simpa using this
    refine wpAny_pyNext_enum_itemD (Draws.tuple (A := X.A.in1) (I.ok.hd hc) it a hai its.toArray) he ⟨hit, ta⟩ lt hne (by simp [hne, hea]) fun y h' tk hy ho ⟨hit', _⟩ hT hsz hk => ?_
    obtain rfl : y = u := by
      have z : its.toArray[i]? = some y := hy
      rw [List.getElem?_toArray, hu] at z
      exact (Option.some.inj z).symm
    refine ⟨_, rfl, wpAny_letOwnedTupleGo_enum (s := { s with heap := h', toks := tk + 1 }) ho fun h'' he' sb => ?_⟩
    have hT2 : h''.get? s.heap.objs.size = some { cls := .type "tuple", data := .seq #[.int i tk, y] } := (sb.2 _ (Nat.ne_of_gt hel)).trans hT
    have new : ObjOk X.prog X.w (upd H s.heap.objs.size (.tup [.int (i : Nat), x])) h'' s.heap.objs.size (.tup [.int (i : Nat), x]) := ⟨by show 2 ≤ sizeLine; decide, [.int i tk, y], .cons ⟨_, rfl⟩ (.cons ru .nil), ⟨_, hT2, rfl, _, rfl⟩⟩
    have I1 : Inv X pins σ (upd H s.heap.objs.size (.tup [.int (i : Nat), x])) { s with heap := h'', toks := tk + 1 } := I.turnedNew (ch := [e, it]) (fun b ob hb q => (sb.2 b (fun z => hb (by simp [z]))).trans (hk b ob (fun z => hb (by simp [z])) (fun z => hb (by simp [z])) q)) hf (Nat.le_refl _) new
    refine ⟨.ref s.heap.objs.size, _, I1, rfl, ⟨_, x, rfl, I.hok.fresh (Nat.le_refl _), rfl, fun ys hy => by rw [I.tuple_inj hy hq]; exact hx⟩, ⟨⟨y, ?_⟩, hit'.at fun o q => (sb.2 it (Ne.symm hne)).trans q, hne⟩, fun b hb => ?_⟩
    · rw [show ((i + 1 : Nat) : Int) = (i : Int) + 1 by omega]; exact he'
    · have hb' : b < s.heap.objs.size := by
        rcases (by simpa using hb : b = e ∨ b = it) with z | z
        · rw [z]; exact hel
        · rw [z]; exact hil
      rw [upd_ne (Nat.ne_of_lt hb')]
      exact (hf b hb).1
  done := by
    intro X hP hw hK hc i pins s σ H E I hf st hg
    subst hP hw hK
    obtain ⟨⟨old, he⟩, hit, hne⟩ := st
    obtain ⟨xs, hq, hx⟩ := hg
    obtain ⟨its, rv, p, hz⟩ := I.tuple hq
    obtain ⟨f0, f1, f2, f3, f4, f5⟩ := hf it (by simp)
    have hl := rv.length
    have en : its.toArray.size = i := by simp; omega
    have ta : s.heap.IsTuple a its.toArray := p
    have hai : a ≠ it := fun z => by
      obtain ⟨o1, q1, c1, _⟩ := hit
      obtain ⟨o2, q2, c2, _⟩ := ta
      rw [z, q1] at q2
      cases q2
      rw [c1] at c2
      exact absurd c2 (by intro z; injection z with z; exact absurd z (by decide))
    rw [← en] at hit
    exact wpAny_pyNext_enum_endD (Draws.tuple (A := X.A.in1) (I.ok.hd hc) it a hai its.toArray) he ⟨hit, ta⟩ fun h' eb => ⟨rfl, I.turned (t' := s.toks) (fun b o hb q => eb b o hb q) f0 f1 f3 f4 f5⟩
  self := fun A i s Q E st h => by
    obtain ⟨⟨_, he⟩, _⟩ := st
    exact wpAny_pyIter_enum he h
def iEnumT (K : PySem.W.Frag) (ta : TA) : TI := fun σ H R => ta σ H fun vs H1 => ∃ a xs, vs = [.ref a] ∧ SqT K H1 a xs ∧ R (IteT K a) H1
theorem pi_enumT {X : Cx} {e : Expr} {ta : TA} {p pos tpos : Pos} {elts : List Expr} {kk : Nat} (hg : Gl X "enumerate") (hm : X.mg "enumerate" = none) (ha : PA X [e] ta) (hs : starEach [e] X.env = [(false, eval e X.env)] := by rfl) : PI X (.Tuple elts kk tpos) (.Call (.Name "enumerate" p) [e] [] pos) (iEnumT X.K ta) := by
  refine ⟨fun pins s σ H R I h => ?_⟩; refine Call_ (ld_blt I hg hm boot_enumerate (PyProof.Rows.callWith_type1 (thn (ha.run pos pins s σ H _ I h) fun us s1 ⟨vs, H1, I1, r1, q1⟩ => ?_) hs rfl))
  obtain ⟨a, xs, ex, hq, q⟩ := q1
  subst ex
  cases r1 with
  | cons r rr =>
    cases rr
    cases r
    obtain ⟨its, rv, p', hz⟩ := I1.tuple hq
    have ta' : s1.heap.IsTuple a its.toArray := p'
    refine call_enum1 (begins_tuple a its.toArray) ta' fun h' he hit hk => wpAny_pyIter_enum he ?_
    have I2 : Inv X pins σ H1 { s1 with heap := h' } := I1.kept (t' := s1.toks) hk
    refine ⟨s1.heap.objs.size + 1, [s1.heap.objs.size + 1, s1.heap.objs.size], _, _, H1, rfl, I2, turn_enumT a (s1.heap.objs.size + 1) s1.heap.objs.size, ⟨⟨.none, he⟩, ⟨_, hit, rfl, rfl⟩, Nat.succ_ne_self _⟩, fun b hb => ?_, q⟩
    have hle : s1.heap.objs.size ≤ b := by
      rcases (by simpa using hb : b = s1.heap.objs.size + 1 ∨ b = s1.heap.objs.size) with z | z
      · rw [z]; exact Nat.le_succ _
      · rw [z]; exact Nat.le_refl _
    exact I1.fpOk hle (I1.hok.fresh hle)
theorem walk_enumT {K : PySem.W.Frag} {a : Addr} {xs : List V} : Walk (IteT K a) xs.length (fun H => SqT K H a xs) (YPair (fun i => some (.int (i : Nat))) (fun i => xs[i]?)) := by
  refine ⟨?_, ?_, ?_⟩
  · intro i H hi q
    exact ⟨xs, xs[i], q, by simp [hi]⟩
  · intro H q
    exact ⟨xs, q, rfl⟩
  · rintro i H v H' hi q ⟨T, x, e, n, e2, h1⟩
    exact ⟨T, _, x, e, n, e2, rfl, h1 xs q⟩
end Pl
namespace Pl
open PySem PySem.Spec PyProof.Rows L2 PySem.MeetsSeq PySem.MeetsSeq2 PySem.MeetsSeq3 PySem.SeqAt
section
variable {X : Cx}
/-- b is True -/
def rIsBl : R2 := fun x y H Q => ∃ b c : Bool, x = .bl b ∧ y = .bl c ∧ Q (.bl (decide (b = c))) H
theorem op_isBl : OpR X (compareOp .Is) rIsBl := by
  intro pins s σ H x y v u Q I rx ry h
  obtain ⟨b, c, rfl, rfl, q⟩ := h
  cases rx
  cases ry
  show wpAny _ _ ((isSame (Value.bool b) (Value.bool c)) >>= fun z => pure (Value.bool z)) _ _ s
  exact wpAny_bind (wpAny_isSame_plain (by cases b <;> cases c <;> rfl) (wpAny_pure (fin_bl I q (by cases b <;> cases c <;> rfl))))
end
end Pl
namespace Pl
open PySem PySem.Spec PyProof.Rows L2 PySem.MeetsSeq PySem.MeetsSeq2 PySem.MeetsSeq3 PySem.SeqAt
section
variable {X : Cx}
/-- sorted(range(..)) -/
def tSrtRg (te : L2.St → Hp → (Int → Int → Hp → Prop) → Prop) : TE := fun σ H Q => te σ H fun a b H1 => RgOk a b ∧ (b - a).toNat < 64 ∧ ∀ (ns : List Int) q, ns.Perm ((List.range (b - a).toNat).map fun i => a + (i : Nat)) → ns.Pairwise (· ≤ ·) → H1 q = none → Q (.ref q) (upd H1 q (.lst (ns.map V.int)))
theorem pe_sortedRg {e : Expr} {te : L2.St → Hp → (Int → Int → Hp → Prop) → Prop} {p pos : Pos} (hc : X.calm = true) (hg : Gl X "sorted") (hm : X.mg "sorted" = none) (he : PRg X e te) (na : starEach [e] X.env = (false, eval e X.env) :: starEach [] X.env := by rfl) : PE X (.Call (.Name "sorted" p) [e] [] pos) (tSrtRg te) := by
  refine ⟨fun pins s0 σ H0 Q I0 h => ?_⟩; refine wpAny_Call_Name_kw (ld_blt I0 hg hm boot_sorted ?_)
  refine PyProof.Rows.callWith_builtin1 (args_cons (thn (he pins s0 σ H0 _ I0 h) fun x s ⟨r, a, b, t, u, v, H, ex, hr, I, ok, few, q⟩ => args_nil ?_) na) na
  subst ex
  obtain ⟨b1, b2, b3, b4, b5⟩ := ok
  refine Calls.call_function_entry kind_sorted plain_sorted entry_sorted (args_sorted1 _) ?_
  unfold Builtin.«sorted»
  refine wpAny_bind (m := checkCount "sorted" 1 1 _) (wpAny_pure ?_)
  refine wpAny_bind (collect_range (A := X.A.in1) (n := (b - a).toNat) (I.ok.hd hc) hr (small_one b1 b2 b3 b4) (rangeSize_nat a b) b5 fun h1 tk acc kp hi0 => ?_)
  have rv := vals_rg hi0
  have I1 : Inv X pins σ H { s with heap := h1, toks := tk } := I.kept kp
  generalize hits : acc.toList = its at rv
  have er : rgV a b = ((List.range (b - a).toNat).map fun i => a + (i : Nat)).map V.int := by
    unfold rgV
    rw [List.map_map]
    rfl
  rw [er] at rv
  generalize hns : ((List.range (b - a).toNat).map fun i => a + (i : Nat)) = ns at rv q
  have hi := rv.ints
  have len : its.length = ns.length := hi.length
  have ln : ns.length = (b - a).toNat := by rw [← hns]; simp
  have small : its.length ≤ sizeLine := by rw [len, ln]; exact Nat.le_of_lt (Nat.lt_of_lt_of_le few (by decide))
  refine wpAny_bind (wpAny_newList ?_ small)
  have at1 : (h1.push (seqObj "list" its.toArray 0)).get? h1.objs.size = some (seqObj "list" its.toArray 0) := Heap.get?_push_size _ rfl
  refine wpAny_bind (wpAny_holding (wpAny_call_entry slot_list_sort ⟨_, at1, rfl⟩ entry_list_sort (list_sort_tree (s := { s with heap := h1.push (seqObj "list" its.toArray 0), toks := tk }) at1 hi (by rw [len, ln]; exact few) ?_) (args_list_sort _)))
  intro out ys g1 g2 g3
  refine ⟨_, rfl, ?_⟩
  obtain ⟨ep, at2⟩ := sortedHeap_at (vs := its) (out := out) at1
  have lens : (ys.map V.int).length ≤ sizeLine := by
    rw [List.length_map, g2.length_eq, ← len]
    exact small
  refine wpAny_pure ⟨_, rfl, .ref h1.objs.size, L2.upd H h1.objs.size (.lst (ys.map V.int)), I1.laid (t' := tk) (fun b u e => ?_) (Nat.le_refl _) ?_, rfl, q ys _ g2 g3 (I1.hok.fresh (Nat.le_refl _))⟩
  · have lt : b < h1.objs.size := Heap.lt_size e
    rw [sortedHeap_old (Nat.ne_of_lt lt) (by rw [size_push']; exact Nat.lt_succ_of_lt lt)]
    exact Heap.get?_push_of_some _ e
  · exact (show ObjOk X.prog X.w _ _ _ (.lst (ys.map V.int)) from ⟨lens, out.toList, ep, vals_of_ints g1, by rw [Array.toArray_toList]; exact at2⟩)
end
end Pl
namespace Pl
open PySem PySem.Spec PyProof.Rows L2 PySem.MeetsSeq PySem.MeetsSeq2 PySem.MeetsSeq3 PySem.SeqAt
/-! blocks of any number of clauses -/
section
variable {kx vx t i t1 i1 : Expr} {ifs ifs1 : List Expr} {G : List Comprehension} {scope : Scope} {pos : Pos} {it : Value} {D : Addr} {acc : Value} {env : Env} {j : Nat}
theorem dturn_mid (h0 : G[j]? = some ⟨t, i, ifs, 0⟩) (h1 : G[j + 1]? = some ⟨t1, i1, ifs1, 0⟩) : compTurn (.DictComp kx vx G scope pos) j it acc env = (do
    standAt i.pos
    match ← pyNext it with
    | none => pure (.done .next)
    | some v =>
      letOwnedTupleGo t it v
      assign t env v
      let mut ok := true
      for c in ifs do if ok then ok ← isTrue c env (eval c env)
      if ok then
        let x ← eval i1 env
        standAt i1.pos
        let x ← foldedSetIterable i1 env x
        let _ ← runOwn (.compStart (.DictComp kx vx G scope pos) (j + 1) (← holding [x] (pyIter x)) acc env) env
      again (.compLoop (.DictComp kx vx G scope pos) j it acc env)) := by
  unfold compTurn
  dsimp only
  rw [h0]
  dsimp only
  rw [h1]
  rfl
theorem dturn_last (h0 : G[j]? = some ⟨t, i, ifs, 0⟩) (h1 : G[j + 1]? = none) : compTurn (.DictComp kx vx G scope pos) j it (.ref D) env = (do
    standAt i.pos
    match ← pyNext it with
    | none => pure (.done .next)
    | some v =>
      letOwnedTupleGo t it v
      assign t env v
      let mut ok := true
      for c in ifs do if ok then ok ← isTrue c env (eval c env)
      if ok then
        (do
          let kv ← eval kx env
          let vv ← holding [kv] (eval vx env)
          standAt { kx.pos with endLine := vx.pos.endLine, endCol := vx.pos.endCol }
          holding [kv, vv] (dictSet D kv vv))
      again (.compLoop (.DictComp kx vx G scope pos) j it (.ref D) env)) := by
  unfold compTurn
  dsimp only
  rw [h0]
  dsimp only
  rw [h1]
  rfl
end
section
variable {prog : Program} {w : World} {A : Around} {R : Result → Shared → Prop} {s : Shared} {kx vx t i : Expr} {ifs : List Expr} {G : List Comprehension} {scope : Scope} {pos : Pos} {it : Value} {D : Addr} {env : Env} {j : Nat}
/-- what runs behind a clause's store and tests -/
def BehindD (prog : Program) (w : World) (A : Around) (kx vx : Expr) (G : List Comprehension) (scope : Scope) (pos : Pos) (j : Nat) (D : Addr) (env : Env) (N : Value → Shared → Prop) (post : Shared → Prop) (s : Shared) : Prop :=
  match G[j + 1]? with
  | some g => wpAny (model prog w) A (eval g.iter env) (fun x s5 => wpAny (model prog w) A (pyIter x) (fun it1 s6 => codeAny (model prog w) A (.compStart (.DictComp kx vx G scope pos) (j + 1) it1 (.ref D) env) (fun r s' => match r with | .ok _ => post s' | .error _ => False) s6) N s5) N s
  | none => wpAny (model prog w) A (eval kx env) (fun x s5 => wpAny (model prog w) A (eval vx env) (fun y s6 => wpAny (model prog w) A (dictSet D x y) (fun _ s7 => post s7) N s6) N s5) N s
theorem dloop_any (h0 : G[j]? = some ⟨t, i, ifs, 0⟩) (hb : ∀ g, G[j + 1]? = some g → g.is_async = 0 ∧ ∀ x, foldedSetIterable g.iter env x = pure x) (I : Nat → Shared → Prop)
    (turn : ∀ n s, I n s → wpAny (model prog w) A (pyNext it) (fun r s1 => match r with
      | none => R (.ok .next) s1
      | some v => wpAny (model prog w) A (letOwnedTupleGo t it v) (fun _ s2 => wpAny (model prog w) A (assign t env v) (fun _ s3 => wpAny (model prog w) A (forIn ifs true fun c r => if r = true then do let ok ← isTrue c env (eval c env); pure (ForInStep.yield ok) else pure (ForInStep.yield r)) (fun ok s4 =>
          if ok = true then BehindD prog w A kx vx G scope pos j D env (notedBy (model prog w) A env fun e s' => R (.error e) s') (fun s' => ∃ m, m < n ∧ I m s') s4 else ∃ m, m < n ∧ I m s4)
          (notedBy (model prog w) A env fun e s' => R (.error e) s') s3) (notedBy (model prog w) A env fun e s' => R (.error e) s') s2) (notedBy (model prog w) A env fun e s' => R (.error e) s') s1) (notedBy (model prog w) A env fun e s' => R (.error e) s') s)
    (n : Nat) (h : I n s) : codeAny (model prog w) A (.compLoop (.DictComp kx vx G scope pos) j it (.ref D) env) R s := by
  refine codeAny_loop rfl I (fun n s hI => ?_) n h; show wpAny _ A ((compTurn (.DictComp kx vx G scope pos) j it (.ref D) env).onRaise (fun x => do noteFrame x env; theTreesLotGoes x)) _ _ s
  refine wpAny_noted ?_
  have T := turn n s hI
  cases h1 : G[j + 1]? with
  | some g =>
    obtain ⟨t1, i1, ifs1, as⟩ := g
    obtain ⟨ha, hs⟩ := hb _ h1
    obtain rfl : as = 0 := ha
    rw [dturn_mid h0 h1]
    refine wpAny_bind (wpAny_standAt (wpAny_bind (wpAny_mono T (fun r s1 q1 => ?_) fun _ _ e => e)))
    cases r with
    | none => exact wpAny_pure q1
    | some v =>
      refine wpAny_bind (wpAny_mono q1 (fun _ s2 q2 => wpAny_bind (wpAny_mono q2 (fun _ s3 q3 => wpAny_bind (wpAny_mono q3 (fun ok s4 q4 => ?_) fun _ _ e => e)) fun _ _ e => e)) fun _ _ e => e)
      cases ok with
      | false => exact wpAny_pure ⟨rfl, q4⟩
      | true =>
        have q4 : BehindD prog w A kx vx G scope pos j D env _ _ s4 := q4
        unfold BehindD at q4
        rw [h1] at q4
        refine wpAny_bind (wpAny_mono q4 (fun x s5 q5 => ?_) fun _ _ e => e)
        refine wpAny_bind (wpAny_standAt (wpAny_bind (wpAny_of_eq (hs x) (wpAny_bind (wpAny_holding (wpAny_mono q5 (fun it1 s6 q6 => ?_) fun _ _ e => e))))))
        refine wpAny_bind (wpAny_runOwn ?_)
        rw [Around.mark_none]
        refine codeAny_mono q6 fun r s' hr => ?_
        cases r with
        | ok f => first | exact wpAny_pure ⟨rfl, hr⟩ | exact wpAny_bind (wpAny_pure (wpAny_pure ⟨rfl, hr⟩))
        | error e => exact hr.elim
  | none =>
    rw [dturn_last h0 h1]
    refine wpAny_bind (wpAny_standAt (wpAny_bind (wpAny_mono T (fun r s1 q1 => ?_) fun _ _ e => e)))
    cases r with
    | none => exact wpAny_pure q1
    | some v =>
      refine wpAny_bind (wpAny_mono q1 (fun _ s2 q2 => wpAny_bind (wpAny_mono q2 (fun _ s3 q3 => wpAny_bind (wpAny_mono q3 (fun ok s4 q4 => ?_) fun _ _ e => e)) fun _ _ e => e)) fun _ _ e => e)
      cases ok with
      | false => exact wpAny_pure ⟨rfl, q4⟩
      | true =>
        have q4 : BehindD prog w A kx vx G scope pos j D env _ _ s4 := q4
        unfold BehindD at q4
        rw [h1] at q4
        exact wpAny_bind (wpAny_bind (wpAny_mono q4 (fun kv s5 q5 => wpAny_bind (wpAny_holding (wpAny_mono q5 (fun vv s6 q6 => wpAny_bind (wpAny_standAt (wpAny_holding (wpAny_mono q6 (fun _ s7 q7 => wpAny_pure ⟨rfl, q7⟩) fun _ _ e => e)))) fun _ _ e => e))) fun _ _ e => e))
theorem dstart_any (hg : ∃ g, G[j]? = some g ∧ g.is_async = 0) (a : codeAny (model prog w) A (.compLoop (.DictComp kx vx G scope pos) j it (.ref D) env) R s)
    (b : wpAny (model prog w) A (pyIter it) (fun it' s' => codeAny (model prog w) A (.compLoop (.DictComp kx vx G scope pos) j it' (.ref D) env) R s') (notedBy (model prog w) A env fun x s' => R (.error x) s') s) :
    codeAny (model prog w) A (.compStart (.DictComp kx vx G scope pos) j it (.ref D) env) R s := by
  obtain ⟨g, h0, ha⟩ := hg
  refine codeAny_of_tree ?_; show wpAny _ _ ((compStart (.DictComp kx vx G scope pos) j it (.ref D) env).onRaise (fun x => do noteFrame x env; standAt theWindowsPlace)) _ _ s
  refine wpAny_notedAt ?_
  unfold compStart
  have hcl : (clausesOf (.DictComp kx vx G scope pos))[j]? = some g := h0
  rw [hcl]
  simp only [Option.elim_some, ha]
  rw [if_neg (by simp)]
  refine wpAny_bind (wpAny_askSetting (wpAny_ite ?_))
  split
  · first | exact wpAny_bind (wpAny_pure (wpAny_pure (And.intro rfl a))) | exact wpAny_pure (And.intro rfl a)
  · first
      | exact wpAny_bind (wpAny_rule (wpAny_bind (wpAny_standAt (wpAny_bind (wpAny_mono b (fun it' s' h' => wpAny_pure (And.intro rfl h')) fun _ _ x => x)))))
      | (refine wpAny_bind (wpAny_rule ?_); exact wpAny_bind (wpAny_standAt (wpAny_bind (wpAny_mono b (fun it' s' h' => wpAny_pure (And.intro rfl h')) fun _ _ x => x))))
end
theorem BehindD.mono {prog : Program} {w : World} {A : Around} {kx vx : Expr} {G : List Comprehension} {scope : Scope} {pos : Pos} {j : Nat} {D : Addr} {env : Env} {N : Value → Shared → Prop} {p p' : Shared → Prop} {s : Shared} (h : BehindD prog w A kx vx G scope pos j D env N p s) (k : ∀ s', p s' → p' s') : BehindD prog w A kx vx G scope pos j D env N p' s := by
  unfold BehindD at h ⊢
  cases e : G[j + 1]? with
  | some g =>
    rw [e] at h
    exact wpAny_mono h (fun x s5 q5 => wpAny_mono q5 (fun it s6 q6 => codeAny_mono q6 fun r s' hr => by
      cases r with
      | ok f => exact k s' hr
      | error x => exact hr) fun _ _ z => z) fun _ _ z => z
  | none =>
    rw [e] at h
    exact wpAny_mono h (fun x s5 q5 => wpAny_mono q5 (fun y s6 q6 => wpAny_mono q6 (fun _ s7 q7 => k s7 q7) fun _ _ z => z) fun _ _ z => z) fun _ _ z => z
theorem d_dictSetT {X : Cx} {pins : List (Addr × Obj)} {σ : L2.St} {H : Hp} {s : Shared} {E : Value → Shared → Prop} {D b : Addr} {kvs : List (List Key × V)} {k : List Key} {v : V} {u r : Value} {Q : Unit → Shared → Prop} (hu : X.A.units + 1 < cLine) (I : Inv X pins σ H s) (hD : H D = some (.dT kvs)) (eb : H b = some (.tup (k.map kV))) (hz : kvs.length < sizeLine)
    (ry : RelV (.ref b) u) (rv : RelV v r) (h : ∀ s', Inv X pins σ (upd H D (.dT (putK kvs k v))) s' → Q () s') : wpAny (model X.prog X.w) X.A (dictSet D u r) Q E s := by
  cases (show u = Value.ref b from ry)
  obtain ⟨z, hd, xs, rel, dd⟩ := dt_of I.hok hD
  have hz : xs.length ≤ sizeLine := by rw [← Paired.length rel]; exact z
  have hl : (putK kvs k v).length ≤ sizeLine := by have := length_putK kvs k v; omega
  refine wpAny_dictSet_heap (hsz := hz) (by show X.A.units < cLine; omega) (key_of I.hok eb) dd fun h' dd' hs => h _ ?_
  obtain ⟨q, es, ep, hq, h2, h3, h4, _, h5⟩ := dd'
  refine d_write I (by rw [hD]; exact True.intro) hs ⟨q, hq⟩ ⟨hl, hd, _, (rel.put k eb rv).keeps fun c ys ec => ?_, q, es, ep, hq, h2, h3, h4, h5⟩
  rw [upd_ne (ne_of ec hD (fun z => nomatch z))]
  exact ec
/-! what a block of several clauses does -/
def tItemD (tk tv : TE) : TIn := fun σ H D Nx => tk σ H fun y H1 => tv σ H1 fun z H2 => ∃ kvs k b, y = .ref b ∧ H2 b = some (.tup (k.map kV)) ∧ H2 D = some (.dT kvs) ∧ kvs.length < sizeLine ∧ Nx (upd H2 D (.dT (putK kvs k z)))
inductive PInsD (Y : Cx) (kx vx : Expr) : List Comprehension → List Nat → TIn → Prop
  | nil {tk tv : TE} : PE Y kx tk → PE Y vx tv → PInsD Y kx vx [] [] (tItemD tk tv)
  | cons {tg iter : Expr} {ifs : List Expr} {wi : TI} {g : TG} {tt : TT} {us vs : List Nat} {r : List Comprehension} {t : TIn} : PI Y tg iter wi → PG Y tg g → PTs Y ifs tt → (∀ i ∈ vs, i ∈ us) → (∀ env x, foldedSetIterable iter env x = pure x) → PInsD Y kx vx r vs t → PInsD Y kx vx (⟨tg, iter, ifs, 0⟩ :: r) us (tClause wi g tt us t)
section
variable {X : Cx}
theorem dinner_ok {s3 : Shared} {H3 : Hp} {scope : Scope} {ce : Env} {fp : List Addr} {kx vx : Expr} {pos : Pos} {G : List Comprehension} {D : Addr} (hc : X.calm = true) (hu : X.A.units + 1 < cLine) (hce : (X.blk s3 H3 scope ce fp).env = ce) : ∀ {r : List Comprehension} {us : List Nat} {t : TIn}, PInsD (X.blk s3 H3 scope ce fp) kx vx r us t →
    ∀ {j : Nat}, G.drop (j + 1) = r → ∀ {pins : List (Addr × Obj)} {σ : L2.St} {H : Hp} {s : Shared} {Nx : Hp → Prop} {N : Value → Shared → Prop}, Inv (X.blk s3 H3 scope ce fp) pins σ H s → t σ H D Nx →
      BehindD X.prog X.w X.A kx vx G scope pos j D ce N (fun s' => ∃ H', Inv (X.blk s3 H3 scope ce fp) pins (wipe σ us) H' s' ∧ Nx H') s := by
  intro r us t P
  induction P with
  | @nil tk tv pk pe =>
    intro j hG pins σ H s Nx N I q
    have e : G[j + 1]? = none := drop_none hG
    unfold BehindD
    rw [e]
    refine thnF (pk.run _ s σ H _ I q) fun z s1 ⟨yk, H1, I1, r1, q1⟩ => ?_
    refine thnF (pe.run _ s1 σ H1 _ I1 q1) fun z2 s2 ⟨yv, H2, I2, r2, kvs, k, b, ek, hb, hD, hz, nx⟩ => ?_
    subst ek
    exact d_dictSetT (X := X.blk s3 H3 scope ce fp) hu I2 hD hb hz r1 r2 fun s3 I3 => ⟨_, I3, nx⟩
  | @cons tg iter ifs wi g tt us vs r t pi pg pt hv hs Pr ih =>
    intro j hG pins σ H s Nx N I q
    have e : G[j + 1]? = some ⟨tg, iter, ifs, 0⟩ := drop_cons hG
    have hG2 : G.drop (j + 1 + 1) = r := by
      have z := congrArg (List.drop 1) hG
      simpa [List.drop_drop] using z
    unfold BehindD
    rw [e]
    refine thnF (pi.run _ s σ H _ I q) fun xv s1 hx => thnF hx fun itv s2 h2 => ?_
    obtain ⟨it, fp1, tn, J, H2, e1, I2, T, st2, f2, W, ⟨m, w0⟩, turn⟩ := h2
    subst e1
    have stat : ∀ {H' : Hp}, (∀ b ∈ fp1, H' b = none) → ∀ b ∈ fp1, FpOk (X.blk s3 H3 scope ce fp) pins H' b := fun hn b hb => ⟨hn b hb, (f2 b hb).2⟩
    have hnx : ∀ g', G[j + 1 + 1]? = some g' → g'.is_async = 0 ∧ ∀ x, foldedSetIterable g'.iter ce x = pure x := by
      intro g' hg'
      cases Pr with
      | nil pk pe =>
        rw [drop_none hG2] at hg'
        cases hg'
      | cons a b c d e f =>
        rw [drop_cons hG2] at hg'
        cases hg'
        exact ⟨rfl, e ce⟩
    have loop : codeAny (model X.prog X.w) X.A (.compLoop (.DictComp kx vx G scope pos) (j + 1) (.ref it) (.ref D) ce) (fun r s' => match r with | .ok _ => ∃ H', Inv (X.blk s3 H3 scope ce fp) pins (wipe σ us) H' s' ∧ Nx H' | .error _ => False) s2 := by
      refine dloop_any e hnx (fun k s' => ∃ jj H', Inv (X.blk s3 H3 scope ce fp) pins (wipe σ us) H' s' ∧ tn jj s'.heap ∧ (∀ b ∈ fp1, H' b = none) ∧ W jj k H') ?_ m ⟨0, H2, I2.weak (wipe_length _ _) (fun j v e => (wipe_some e).1), st2, fun b hb => (f2 b hb).1, w0⟩
      rintro k s4 ⟨jj, H4, I4, st4, n4, w4⟩
      rcases turn jj k H4 w4 with ⟨stop, nx⟩ | ⟨go, Nx1, hNx1, step⟩
      · refine thnF (T.done (X.blk s3 H3 scope ce fp) rfl rfl rfl hc jj _ s4 (wipe σ us) H4 (fun _ _ => False) I4 (stat n4) st4 stop) fun r s5 ⟨hr, I5⟩ => ?_
        subst hr
        exact ⟨_, I5, nx⟩
      · refine thnF (T.item (X.blk s3 H3 scope ce fp) rfl rfl rfl hc jj _ s4 (wipe σ us) H4 (fun _ _ => False) I4 (stat n4) st4 go) fun r s5 ⟨u, hr, h5⟩ => ?_
        subst hr
        refine thnF h5 fun _ s6 ⟨x, H6, I6, r6, y6, st6, n6⟩ => ?_
        have I6' := I6.pinned (stat n6) (T.obj _ _ st6)
        refine thnF (pg.run _ s6 (wipe σ us) H6 x u _ I6' r6 (step x H6 y6)) fun _ s7 ⟨σ7, H7, I7, hw, q7⟩ => ?_
        refine thnF (pt.run _ s7 σ7 H7 _ I7 q7) fun b s8 ⟨H8, I8, q8⟩ => ?_
        have fin : ∀ {σ' : L2.St} {s' : Shared} {H' : Hp}, Inv (X.blk s3 H3 scope ce fp) (pins ++ pinsAt fp1 s6.heap) σ' H' s' → (wipe σ us).length = σ'.length → (∀ (n : Nat) v, (wipe σ us)[n]? = some (some v) → σ'[n]? = some (some v)) → Nx1 H' → ∃ m, m < k ∧ ∃ jj H', Inv (X.blk s3 H3 scope ce fp) pins (wipe σ us) H' s' ∧ tn jj s'.heap ∧ (∀ b ∈ fp1, H' b = none) ∧ W jj m H' := fun {σ' s' H'} I' hl hk nx => by
          obtain ⟨m', hm, w'⟩ := hNx1 H' nx
          have pin' : ∀ b ∈ fp1, ∀ o, s6.heap.get? b = some o → s'.heap.get? b = some o ∧ H' b = none := fun b hb o eo => by
            have z := I'.pin (b, o) (List.mem_append_right _ (List.mem_append_right _ (mem_pinsAt hb eo)))
            exact ⟨z.1, z.2.1⟩
          refine ⟨m', hm, jj + 1, H', I'.unpinned.weak hl hk, T.keep _ _ _ st6 fun b hb o eo => (pin' b hb o eo).1, fun b hb => ?_, w'⟩
          obtain ⟨o, eo, _⟩ := T.obj _ _ st6 b hb
          exact (pin' b hb o eo).2
        have hl7 : (wipe σ us).length = σ7.length := by rw [← hw, wipe_length]
        have hk7 : ∀ (n : Nat) v, (wipe σ us)[n]? = some (some v) → σ7[n]? = some (some v) := fun n v z => by
          rw [← hw] at z
          exact (wipe_some z).1
        cases b with
        | false =>
          simp only [Bool.false_eq_true, if_false] at q8 ⊢
          exact fin I8 hl7 hk7 q8
        | true =>
          simp only [if_true] at q8 ⊢
          refine (ih hG2 I8 q8).mono fun s' ⟨H', I', nx⟩ => fin I' (hl7.trans (wipe_length _ _).symm) (fun n v z => ?_) nx
          rw [← hw] at z
          obtain ⟨z1, z2⟩ := wipe_some z
          rw [wipe_out fun y => z2 (hv n y)]
          exact z1
    exact dstart_any ⟨_, e, rfl⟩ loop (T.self X.A 0 _ _ _ st2 loop)
/-- the whole block: the first clause's source is the def's own; us: all names of the block -/
def tDcN (wi : TI) (g : TG) (tt : TT) (t : TIn) (us : List Nat) : TE := fun σ H Q => wi σ H fun J H1 => ∀ D, H1 D = none → ∃ W : Nat → Nat → Hp → Prop, (∃ m, W 0 m (upd H1 D (.dT []))) ∧ ∀ i m H, W i m H →
  (J.stop i H ∧ Q (.ref D) H) ∨ (J.go i H ∧ ∃ Nx : Hp → Prop, (∀ H', Nx H' → ∃ m', m' < m ∧ W (i + 1) m' H') ∧ ∀ x H', J.yld i H x H' → g x (wipe σ us) H' fun σ2 H2 => wipe σ2 us = wipe σ us ∧ tt σ2 H2 fun b H3 => if b = true then t σ2 H3 D Nx else Nx H3)
theorem dcN_core {pins : List (Addr × Obj)} {s : Shared} {σ : L2.St} {H : Hp} {Q : VK} {kx vx tg iter : Expr} {ifs : List Expr} {rest : List Comprehension} {scope : Scope} {own : List (Str × Nat)} {vs : List Nat} {pos pos' : Pos} {wi : TI} {g : TG} {tt : TT} {t : TIn} {use : Option (Value → Sem Unit)} {Qf : Value → Shared → Prop}
    (hc : X.calm = true) (hu : X.A.units + 1 < cLine) (hN : X.N.Nodup) (I : Inv X pins σ H s) (hi : PI X tg iter wi) (ok : BlkOk X.N X.env.scope scope own) (hv : ∀ i ∈ vs, i ∈ own.map (·.2))
    (hq : ∀ (s : Shared) (H : Hp) (C : Addr) (cl : List (Str × Addr)) (fp : List Addr), PG (X.blk s H scope (compEnvC scope cl C X.env) fp) tg g ∧ PTs (X.blk s H scope (compEnvC scope cl C X.env) fp) ifs tt ∧ PInsD (X.blk s H scope (compEnvC scope cl C X.env) fp) kx vx rest vs t)
    (hs : ∀ x, foldedSetIterable iter X.env x = pure x) (h : tDcN wi g tt t (own.map (·.2)) σ H Q)
    (hRR : ∀ D C s' m H', Inv X pins σ H' s' → Q (.ref D) H' → s'.heap.Ns C m → FpOk X pins H' C → compPost (model X.prog X.w) X.A X.xe use Qf (.ref D) C (.ok .next) s') :
    wpAny (model X.prog X.w) X.A (comprehension (.DictComp kx vx (⟨tg, iter, ifs, 0⟩ :: rest) scope pos) scope X.env pos' newDict false (eval iter X.env) use) Qf X.xe s := by
  have hfree : ∀ y ∈ scope.names, y.2 = .free → ∃ c, X.env.cells.lookup y.1 = some c := fun y hy e => (ok.free y hy e).elim (fun k => I.ok.has _ (.inl k)) fun k => I.ok.has _ (.inr k)
  refine wpAny_comprehension_free (use := use) rfl hs (closure_ok hfree) ok.kind (fun y hy e => by rw [ok.uniq y hy, e]) (thn (hi.run pins s σ H _ I h) fun xv s1 hx => thn hx fun itv s2 h2 => ?_)
  obtain ⟨it, fp, tn, J, H2, e, I2, T, st2, f2, q⟩ := h2
  subst e
  refine wpAny_newObj_type (newEnv_comp ?_)
  generalize hD : s2.heap.objs.size = D
  obtain ⟨W, ⟨m0, w0⟩, turn⟩ := q D (I2.hok.fresh (Nat.le_of_eq hD))
  generalize hs3 : ({ s2 with heap := s2.heap.push { cls := .type "dict", data := .dict #[] } } : Shared) = s3
  have h3 : s3.heap = s2.heap.push { cls := .type "dict", data := .dict #[] } := by rw [← hs3]
  have I3 : Inv X pins σ (upd H2 D (.dT [])) s3 := by
    rw [← hs3]
    refine I2.laid (t' := s2.toks) (fun b o e => Heap.get?_push_of_some _ e) (Nat.le_of_eq hD) ?_
    rw [← hD]
    exact dt_empty s2.heap I2.big
  have f3 : ∀ b ∈ fp, FpOk X pins (upd H2 D (.dT [])) b ∧ b < s3.heap.objs.size := fun b hb => by
    obtain ⟨o, e, _⟩ := T.obj _ _ st2 b hb
    have lt := Heap.lt_size e
    exact ⟨⟨by rw [upd_ne (by rw [← hD]; exact Nat.ne_of_lt lt)]; exact (f2 b hb).1, (f2 b hb).2⟩, by rw [h3, Heap.size_push]; exact Nat.lt_succ_of_lt lt⟩
  have st3 : tn 0 s3.heap := T.keep _ _ _ st2 fun b _ o e => by rw [h3]; exact Heap.get?_push_of_some _ e
  have I4 := block_start I3 ok hN f3
  obtain ⟨pg, pt, pin⟩ := hq s3 (upd H2 D (.dT [])) s3.heap.objs.size (cellsFrom (s3.heap.objs.size + 1) scope.names (cloFrom X.env.cells scope.names [])) fp
  show codeAny _ _ (.compStart (.DictComp kx vx (⟨tg, iter, ifs, 0⟩ :: rest) scope pos) 0 (.ref it) (.ref D) (compEnvC scope (cellsFrom (s3.heap.objs.size + 1) scope.names (cloFrom X.env.cells scope.names [])) s3.heap.objs.size X.env)) (compPost (model X.prog X.w) X.A X.xe use Qf (.ref D) s3.heap.objs.size) { s3 with heap := pushCells (s3.heap.push { cls := .type "dict", data := .dict #[] }) scope.names }
  have nfp : ∀ b ∈ fp, (upd H2 D (.dT [])) b = none := fun b hb => (f3 b hb).1.1
  generalize hce : compEnvC scope (cellsFrom (s3.heap.objs.size + 1) scope.names (cloFrom X.env.cells scope.names [])) s3.heap.objs.size X.env = ce at I4 pg pt pin ⊢
  have cL : ce.locals = s3.heap.objs.size := by subst hce; rfl
  generalize hH3 : upd H2 D (.dT []) = H3 at I3 I4 pg pt pin w0 nfp f3
  generalize hs4 : ({ s3 with heap := pushCells (s3.heap.push { cls := .type "dict", data := .dict #[] }) scope.names } : Shared) = s4 at I4 ⊢
  have st4 : tn 0 s4.heap := T.keep _ _ _ st3 fun b _ o e => by rw [← hs4]; exact pushCells_keeps _ _ _ _ (Heap.get?_push_of_some _ e)
  have stat : ∀ {σ' : L2.St} {H' : Hp} {s' : Shared}, Inv (X.blk s3 H3 scope ce fp) [] σ' H' s' → (∀ b ∈ fp, H' b = none) → ∀ b ∈ fp, FpOk (X.blk s3 H3 scope ce fp) [] H' b := fun {σ' H' s'} I' hn b hb => ⟨hn b hb, (I'.ok.exf b hb).1, I'.ok.exfs b hb, .inl hb, fun x c e => (I'.ok.exf b hb).2 x c e, fun p hp => absurd (show p ∈ ([] : List (Addr × Obj)) ++ [] from hp) (by simp)⟩
  have hnx : ∀ g', (⟨tg, iter, ifs, 0⟩ :: rest : List Comprehension)[0 + 1]? = some g' → g'.is_async = 0 ∧ ∀ x, foldedSetIterable g'.iter ce x = pure x := by
    intro g' hg'
    cases pin with
    | nil pk pe => cases hg'
    | cons a b c d e f =>
      cases hg'
      exact ⟨rfl, e ce⟩
  have loop : codeAny (model X.prog X.w) X.A (.compLoop (.DictComp kx vx (⟨tg, iter, ifs, 0⟩ :: rest) scope pos) 0 (.ref it) (.ref D) ce) (compPost (model X.prog X.w) X.A X.xe use Qf (.ref D) s3.heap.objs.size) s4 := by
    refine dloop_any rfl hnx (fun n s' => ∃ i H', Inv (X.blk s3 H3 scope ce fp) [] (wipe σ (own.map (·.2))) H' s' ∧ tn i s'.heap ∧ (∀ b ∈ fp, H' b = none) ∧ W i n H') ?_ m0 ⟨0, H3, I4, st4, nfp, w0⟩
    rintro n s5 ⟨i, H5, I5, st5, n5, w5⟩
    rcases turn i n H5 w5 with ⟨stop, qq⟩ | ⟨go, Nx, hNx, step⟩
    · refine thnF (T.done (X.blk s3 H3 scope ce fp) rfl rfl rfl hc i [] s5 _ H5 (fun _ _ => False) I5 (stat I5 n5) st5 stop) fun r s6 ⟨hr, I6⟩ => ?_
      subst hr
      have I7 : Inv X pins σ H5 s6 := I3.call' (ch := fp) I6.os I6.base I6.hok I6.bare fun b hb => ⟨(f3 b hb).1.2.2.2.1, (f3 b hb).1.2.1, (f3 b hb).1.2.2.2.2.1, (f3 b hb).1.2.2.2.2.2⟩
      have nC : H5 s3.heap.objs.size = none := by
        have z : H5 ce.locals = none := I6.free
        rwa [cL] at z
      obtain ⟨m, hn, _⟩ := I6.loc
      have hn : s6.heap.Ns ce.locals m := hn
      rw [cL] at hn
      exact hRR D s3.heap.objs.size s6 m H5 I7 qq hn (I3.fpOk (Nat.le_refl _) nC)
    · refine thnF (T.item (X.blk s3 H3 scope ce fp) rfl rfl rfl hc i [] s5 _ H5 (fun _ _ => False) I5 (stat I5 n5) st5 go) fun r s6 ⟨u, hr, h6⟩ => ?_
      subst hr
      refine thnF h6 fun _ s7 ⟨x, H7, I7, r7, y7, st7, n7⟩ => ?_
      have I7' := I7.pinned (stat I7 n7) (T.obj _ _ st7)
      refine thnF (pg.run _ s7 _ H7 x u _ I7' r7 (step x H7 y7)) fun _ s8 ⟨σ8, H8, I8, hw8, q8⟩ => ?_
      refine thnF (pt.run _ s8 σ8 H8 _ I8 q8) fun b s9 ⟨H9, I9, q9⟩ => ?_
      have fin : ∀ {σ9 : L2.St} {s' : Shared} {H' : Hp}, Inv (X.blk s3 H3 scope ce fp) ([] ++ pinsAt fp s7.heap) σ9 H' s' → (wipe σ (own.map (·.2))).length = σ9.length → (∀ (j : Nat) v, (wipe σ (own.map (·.2)))[j]? = some (some v) → σ9[j]? = some (some v)) → Nx H' →
          ∃ m, m < n ∧ ∃ i H', Inv (X.blk s3 H3 scope ce fp) [] (wipe σ (own.map (·.2))) H' s' ∧ tn i s'.heap ∧ (∀ b ∈ fp, H' b = none) ∧ W i m H' := fun {σ9 s' H'} I' hl hk nx => by
        obtain ⟨m', hm, w'⟩ := hNx H' nx
        have pin' : ∀ b ∈ fp, ∀ o, s7.heap.get? b = some o → s'.heap.get? b = some o ∧ H' b = none := fun b hb o e => by
          have z := I'.pin (b, o) (List.mem_append_right _ (List.mem_append_right _ (mem_pinsAt hb e)))
          exact ⟨z.1, z.2.1⟩
        refine ⟨m', hm, i + 1, H', (I'.unpinned (pins := [])).weak hl hk, T.keep _ _ _ st7 fun b hb o e => (pin' b hb o e).1, fun b hb => ?_, w'⟩
        obtain ⟨o, e, _⟩ := T.obj _ _ st7 b hb
        exact (pin' b hb o e).2
      have hl8 : (wipe σ (own.map (·.2))).length = σ8.length := by rw [← hw8, wipe_length]
      cases b with
      | false =>
        simp only [Bool.false_eq_true, if_false] at q9 ⊢
        exact fin I9 hl8 (fun j v e => by rw [← hw8] at e; exact (wipe_some e).1) q9
      | true =>
        simp only [if_true] at q9 ⊢
        refine (dinner_ok (G := ⟨tg, iter, ifs, 0⟩ :: rest) hc hu rfl pin (j := 0) rfl I9 q9).mono fun s' ⟨H', I', nx⟩ => fin I' (hl8.trans (wipe_length _ _).symm) (fun n v z => ?_) nx
        rw [← hw8] at z
        obtain ⟨z1, z2⟩ := wipe_some z
        rw [wipe_out fun y => z2 (hv n y)]
        exact z1
  exact dstart_any ⟨_, rfl, rfl⟩ loop (T.self X.A 0 _ _ _ st4 loop)
/-- a block of several clauses as a value -/
theorem pe_dcN {kx vx tg iter : Expr} {ifs : List Expr} {rest : List Comprehension} {scope : Scope} {own : List (Str × Nat)} {vs : List Nat} {pos : Pos} {wi : TI} {g : TG} {tt : TT} {t : TIn} (hc : X.calm = true) (hu : X.A.units + 1 < cLine) (hN : X.N.Nodup) (hi : PI X tg iter wi) (ok : BlkOk X.N X.env.scope scope own) (hv : ∀ i ∈ vs, i ∈ own.map (·.2))
    (hq : ∀ (s : Shared) (H : Hp) (C : Addr) (cl : List (Str × Addr)) (fp : List Addr), PG (X.blk s H scope (compEnvC scope cl C X.env) fp) tg g ∧ PTs (X.blk s H scope (compEnvC scope cl C X.env) fp) ifs tt ∧ PInsD (X.blk s H scope (compEnvC scope cl C X.env) fp) kx vx rest vs t)
    (hs : ∀ x, foldedSetIterable iter X.env x = pure x := by intro _; rfl) : PE X (.DictComp kx vx (⟨tg, iter, ifs, 0⟩ :: rest) scope pos) (tDcN wi g tt t (own.map (·.2))) := by
  refine ⟨fun pins s σ H Q I h => ?_⟩; rw [arm_eval_DictComp]
  refine dcN_core hc hu hN I hi ok hv hq hs h fun D C s' m H' I' q hn f => ⟨m, hn, fun h'' sb => ?_⟩
  obtain ⟨f0, f1, f2, f3, f4, f5⟩ := f
  exact ⟨.ref D, H', I'.turned (t' := s'.toks) (fun b o hb e => (sb.2 b hb).trans e) f0 f1 f3 f4 f5, rfl, q⟩
end
end Pl
namespace Pl
open PySem PySem.Spec PyProof.Rows L2
section
variable {X : Cx}
theorem fold_size (a : Array Nat) : ∀ (n : Nat) (acc : Array Nat), ((List.replicate n a).foldl (· ++ ·) acc).size = acc.size + n * a.size
  | 0, acc => by simp
  | n + 1, acc => by
    rw [List.replicate_succ, List.foldl_cons, fold_size a n, Array.size_append, Nat.add_mul]
    omega
/-- a text times an int -/
def rMulS : R2 := fun x y H Q => ∃ (z : Str) (n : Int), x = .str z ∧ y = .int n ∧ 2 ≤ n ∧ n ≤ 1000 ∧ 1 ≤ z.length ∧ z.length ≤ 1000 ∧ ∀ z' : Str, Q (.str z') H
theorem op_mulS : OpR X (binaryOp .Mult) rMulS := by
  intro pins s σ H x y v u Q I rx ry h
  obtain ⟨z, n, rfl, rfl, n2, n1, z1, z2, q⟩ := h
  obtain ⟨t, rfl⟩ := rx
  obtain ⟨t2, rfl⟩ := ry
  have c1 : ¬ n < 1 := by omega
  have c2 : (n == 1 || z.length == 0) = false := by
    have a : (n == 1) = false := by rw [beq_eq_false_iff_ne]; omega
    have b : (z.length == 0) = false := by rw [beq_eq_false_iff_ne]; omega
    rw [a, b]; rfl
  have lz : z.length * n.toNat ≤ sizeLine := by
    rw [sizeLine_eq]
    have := Nat.mul_le_mul z2 (show n.toNat ≤ 1000 by omega)
    omega
  refine PySem.P.mul_str ?_ (fun _ _ => ?_) (fun _ _ => ?_) ?_
  · have a : ¬ n < -(2 ^ 63 : Int) := by omega
    have b : ¬ n ≥ (2 ^ 63 : Int) := by omega
    rw [decide_eq_false a, decide_eq_false b]; rfl
  · intro c
    have : (1000 : Int) ≤ (2 ^ 63 - 1) / n := Int.le_ediv_of_mul_le (by omega) (by omega)
    omega
  · have z : ¬ z.length * n.toNat > sizeLine := by omega
    exact decide_eq_false z
  · rw [if_neg c1, if_neg (by rw [c2]; exact Bool.false_ne_true)]
    refine ⟨?_, ⟨.str _, H, I.tok _, ⟨_, rfl⟩, q _⟩⟩
    show ((List.replicate n.toNat z.cps).foldl (· ++ ·) #[]).size ≤ sizeLine
    rw [fold_size]
    have e : z.cps.size = z.length := rfl
    rw [e, Nat.mul_comm]
    show 0 + _ ≤ _
    omega
/-! repr of data with dicts -/
/-- ints that are not too long -/
def Sm (i : Int) : Prop := -1000000 ≤ i ∧ i ≤ 1000000001000
/-- ints and empty dicts -/
inductive PX (H : Hp) : List V → List PyData → Prop
  | nil : PX H [] []
  | int {i : Int} {vs : List V} {ds : List PyData} : Sm i → PX H vs ds → PX H (.int i :: vs) (.int i :: ds)
  | dic {a : Addr} {vs : List V} {ds : List PyData} : H a = some (.dK []) → PX H vs ds → PX H (.ref a :: vs) (.dict [] :: ds)
theorem reads_dic0 {pins : List (Addr × Obj)} {σ : L2.St} {H : Hp} {s : Shared} {a : Addr} (I : Inv X pins σ H s) (ea : H a = some (.dK [])) : Reads s.heap (.ref a) (PyData.dict []) (a :: [] ++ []) ∧ a ≠ sysModules := by
  obtain ⟨_, hm, vs, kv, o, es, ep, h1, h2, h3, h4, h5, h6⟩ := (show ObjOk X.prog X.w H s.heap a (.dK []) from I.hok a _ ea)
  refine ⟨?_, fun z => ?_⟩
  · generalize hes : es.toList = l at h5
    have key : ∀ {kvs : List (Key × V)}, kvs = [] → KV kvs vs → vs = [] := fun {kvs} e z => by
      cases z with
      | nil => rfl
      | cons hp hr => cases e
    obtain rfl := key rfl kv
    cases h5
    refine .dict h1 h2.1 h3 ?_ ?_
    · rw [hes]
      exact .nil
    · rw [hes]
      exact .nil
  · rw [z] at hm
    simp at hm
theorem reads_px {pins : List (Addr × Obj)} {σ : L2.St} {H : Hp} {s : Shared} (I : Inv X pins σ H s) : ∀ {vs : List V} {ds : List PyData} {us : List Value}, PX H vs ds → Vals vs us → ∃ as, ReadsAll s.heap us ds as ∧ sysModules ∉ as
  | _, _, _, .nil, r => by
    cases r
    exact ⟨[], .nil, fun z => nomatch z⟩
  | _, _, _, .int (i := i) _ h, r => by
    cases r with
    | cons r1 r2 =>
      obtain ⟨t, rfl⟩ := (show ∃ t, _ = Value.int i t from r1)
      obtain ⟨as, h1, h2⟩ := reads_px I h r2
      exact ⟨_, .cons (.int i t) h1, by simpa using h2⟩
  | _, _, _, .dic (a := a) ea h, r => by
    cases r with
    | cons r1 r2 =>
      cases r1
      obtain ⟨as, h1, h2⟩ := reads_px I h r2
      obtain ⟨g1, g2⟩ := reads_dic0 I ea
      exact ⟨_, .cons g1 h1, by simpa using ⟨fun z => g2 z.symm, h2⟩⟩
/-- a value and its text -/
def ShT (d : PyData) : Prop := d.showable = true ∧ d.depth ≤ 60 ∧ d.shown.length ≤ sizeLine
inductive ThT (K : PySem.W.Frag) (H : Hp) : V → Str → Prop
  | dp {x : V} {d : PyData} : Dp K H x d → ShV x d → ThT K H x d.shown
  | dic0 {a : Addr} : H a = some (.dK []) → ThT K H (.ref a) (PyData.dict []).shown
  | dic1 {a t : Addr} {k : Int} {ns : List Int} : H a = some (.dK [(.inl k, .ref t)]) → H t = some (.tup (ns.map V.int)) → ShT (dicD k ns) → ThT K H (.ref a) (dicD k ns).shown
  | px {a : Addr} {xs : List V} {ds : List PyData} : H a = some (.tup xs) → PX H xs ds → ShT (.tuple ds) → ThT K H (.ref a) (PyData.tuple ds).shown
def rReprT (K : PySem.W.Frag) : List V → Hp → VK → Prop := fun xs H Q => ∃ (x : V) (z : Str), xs = [x] ∧ ThT K H x z ∧ Q (.str z) H
theorem call_reprT (gd : X.A.guards = some []) (hu : X.A.units + 66 < cLine) : CallR X (.builtin "repr") (rReprT X.K) := by
  intro pins s σ H xs us Q I r h
  obtain ⟨x, z, rfl, h, q⟩ := h
  cases h with
  | dp dp sv => exact call_reprV gd hu pins s σ H [x] us Q I r ⟨x, _, rfl, dp, sv, q⟩
  | dic0 ea =>
    obtain ⟨u, rfl, ru⟩ := vals1 r
    cases ru
    obtain ⟨g1, g2⟩ := reads_dic0 I ea
    refine repr_of_reads' g1 (by decide +kernel) (fun _ z => ?_) gd (by have : PyData.depth (PyData.dict []) ≤ 1 := by decide +kernel
                                                                        omega) (fun _ _ e => e) (fun h' v tk hk => ?_) (by decide +kernel)
    · exact g2 (by simpa using z : sysModules = _).symm
    · exact ⟨.str _, H, I.kept hk, ⟨_, rfl⟩, q⟩
  | dic1 ea et sh => exact call_repr1 gd hu pins s σ H _ us Q I r ⟨_, _, _, _, rfl, ea, et, sh.1, sh.2.1, sh.2.2, q⟩
  | @px a xs ds ea px sh =>
    obtain ⟨u, rfl, ru⟩ := vals1 r
    cases ru
    obtain ⟨_, its, rv, ot, g1, g2, n, g3⟩ := (show ObjOk X.prog X.w H s.heap a (.tup xs) from I.hok a _ ea)
    obtain ⟨as, h1, h2⟩ := reads_px I px rv
    have sd := sh.2.1
    refine repr_of_reads' (.tuple g1 g2 g3 (by simpa using h1)) sh.1 (fun _ z => h2 z) gd (by omega) (fun _ _ e => e) (fun h' v tk hk => ?_) sh.2.2
    exact ⟨.str _, H, I.kept hk, ⟨_, rfl⟩, q⟩
end
theorem PX.same {H H' : Hp} (k : Same H H') : ∀ {vs : List V} {ds : List PyData}, PX H vs ds → PX H' vs ds
  | _, _, .nil => .nil
  | _, _, .int b h => .int b (h.same k)
  | _, _, .dic e h => .dic (k _ _ e) (h.same k)
theorem Sm.log {i : Int} (h : Sm i) : i.natAbs.log2 < 40 := by
  obtain ⟨a, b⟩ := h
  rcases Nat.eq_zero_or_pos i.natAbs with z | z
  · rw [z]; decide
  · exact (Nat.log2_lt (by omega)).mpr (by omega)
theorem Sm.text {i : Int} (h : Sm i) : (PyData.shown (.int i)).length ≤ 13 := by
  obtain ⟨a, b⟩ := h
  by_cases c : i < 0
  · exact PyData.shown_int_le (by omega)
  · show (Str.ofString (toString i)).length ≤ 13
    rw [PySem.ofString_length]
    cases i with
    | ofNat m =>
      have e : toString (Int.ofNat m) = Nat.repr m := rfl
      rw [e]
      have em : (Int.ofNat m) = (m : Int) := rfl
      rw [em] at b
      exact (Nat.length_repr_le_iff (by decide)).mpr (show m < 10 ^ 13 by omega)
    | negSucc m => omega
theorem px_all {H : Hp} : ∀ {vs : List V} {ds : List PyData}, PX H vs ds → PyData.showableAll ds = true ∧ PyData.depthAll ds ≤ 2 ∧ PyData.leavesShortAll 13 ds = true ∧ PyData.weightAll ds ≤ 60 * vs.length
  | _, _, .nil => by simp [PyData.showableAll, PyData.depthAll, PyData.leavesShortAll, PyData.weightAll]
  | _, _, .int (i := i) b h => by
    obtain ⟨a1, a2, a3, a4⟩ := px_all h
    have lg := b.log
    have tx := b.text
    refine ⟨?_, ?_, ?_, ?_⟩
    · simp only [PyData.showableAll, PyData.showable, a1, Bool.and_true, decide_eq_true_eq]
      omega
    · simp only [PyData.depthAll, PyData.depth]; omega
    · simp only [PyData.leavesShortAll, PyData.leavesShort, a3, Bool.and_true, decide_eq_true_eq]
      exact tx
    · simp only [PyData.weightAll, PyData.weight, List.length_cons]
      split <;> omega
  | _, _, .dic (a := a) e h => by
    obtain ⟨a1, a2, a3, a4⟩ := px_all h
    refine ⟨?_, ?_, ?_, ?_⟩
    · simp only [PyData.showableAll, PyData.showable, PyData.showableKv, a1, Bool.and_true]
    · simp only [PyData.depthAll, PyData.depth, PyData.depthKv]; omega
    · simp only [PyData.leavesShortAll, PyData.leavesShort, PyData.leavesShortKv, a3, Bool.and_true]
    · simp only [PyData.weightAll, PyData.weight, PyData.weightKv, List.length_cons]
      omega
theorem px_sh {H : Hp} {vs : List V} {ds : List PyData} (h : PX H vs ds) (l : vs.length ≤ 1000) : ShT (.tuple ds) := by
  obtain ⟨a1, a2, a3, a4⟩ := px_all h
  refine ⟨by simp only [PyData.showable]; exact a1, by simp only [PyData.depth]; omega, PyData.shown_fits (B := 13) (by decide) (by decide) ?_ ?_⟩
  · simp only [PyData.leavesShort]; exact a3
  · simp only [PyData.weight]; omega
end Pl
/-! list(zip(s, t)) of two tuples -/
namespace ZL
open PySem PySem.W PySem.Calls PySem.Spec
section
variable {prog : Program} {w : World} {A : Around} {E : Value → Shared → Prop} {s : Shared}
/-- zip.__next__ while the tuple that it gave out is held, over tuples -/
theorem held {z TI TO T i1 i2 l1 l2 : Addr} {f : Bool} {oT : Obj} {k1 k2 : Nat} {xs ys : Array Value} {Q : Value → Shared → Prop} (hh : A.handled = none) (D : ZipApart z TI TO i1 i2 l1 l2)
    (hz : IsZipHeld s.heap z TI TO T f) (hT : s.heap.get? T = some oT) (hTI : PySem.IsPair s.heap TI (.ref i1) (.ref i2))
    (h1 : s.heap.IsTupleIter i1 l1 k1) (h2 : s.heap.IsTupleIter i2 l2 k2) (hl1 : s.heap.IsTuple l1 xs) (hl2 : s.heap.IsTuple l2 ys)
    (hQ : ∀ x y, xs[k1]? = some x → ys[k2]? = some y → ∀ h', IsZipHeld h' z TI TO T true → h'.IsTupleIter i1 l1 (k1 + 1) → h'.IsTupleIter i2 l2 (k2 + 1) → PySem.IsPair h' s.heap.objs.size x y → h'.objs.size = s.heap.objs.size + 1 →
      (∀ c o, c ≠ z → c ≠ i1 → c ≠ i2 → s.heap.get? c = some o → h'.get? c = some o) → Q (.ref s.heap.objs.size) { s with heap := h' })
    (hE : (xs[k1]? = none ∨ ys[k2]? = none) → ∀ h' e, (∀ c o, c ≠ z → c ≠ i1 → c ≠ i2 → s.heap.get? c = some o → h'.get? c = some o) → (∃ o, h'.get? e = some o ∧ o.cls = .type "StopIteration") → E (.ref e) { s with heap := h' }) :
    wpAny (model prog w) A (Builtin.«zip.__next__» ⟨[.ref z], []⟩) (fun fin s' => ∃ v, fin = .done (.ret v) ∧ Q v s') E s := by
  show wpAny _ _ (field (.ref z) 2 >>= _) _ _ _
  refine wpAny_bind (wpAny_field hz rfl (x := .bool false) rfl ?_)
  show wpAny _ _ (field (.ref z) 3 >>= _) _ _ _
  refine wpAny_bind (wpAny_field hz rfl (x := .ref TI) rfl (wpAny_bind (wpAny_seqItems hTI rfl ?_)))
  show wpAny _ _ (Builtin.SmallTypes.ownedTupleIsFree (.ref z) >>= _) _ _ _
  refine wpAny_bind (wpAny_tupleHeld_zip hz hT fun h₁ hz₁ hs₁ => ?_)
  simp only [Bool.false_eq_true, if_false]
  refine wpAny_bind ?_
  rw [← Array.forIn_toList]
  simp only [List.forIn_cons, List.forIn_nil]
  refine wpAny_bind (wpAny_bind (wpAny_holding ?_))
  have g1 := h1.extBut hs₁.extBut D.i1z
  have p1 := hl1.extBut hs₁.extBut D.l1z
  show wpAny _ _ (Builtin.SmallTypes.nextOf (.ref i1) >>= _) _ _ _
  cases ex : xs[k1]? with
  | none => exact wpAny_bind (RZ.nextOf_tuple_end (s := { s with heap := h₁ }) hh g1 p1 ex fun h₂ e hs₂ he => hE (.inl ex) h₂ e (fun c o c1 c2 _ q => hs₂ _ _ c2 (hs₁.extBut _ _ c1 q)) he)
  | some x =>
    refine wpAny_bind (RZ.nextOf_tuple_item (s := { s with heap := h₁ }) g1 p1 ex fun h₂ h1₂ hs₂ => wpAny_pure (wpAny_pure ?_))
    refine wpAny_bind (wpAny_bind (wpAny_holding ?_))
    have g2 := (h2.extBut hs₁.extBut D.i2z).extBut hs₂.extBut D.i12.symm
    have p2 := (hl2.extBut hs₁.extBut D.l2z).extBut hs₂.extBut D.l2i1
    show wpAny _ _ (Builtin.SmallTypes.nextOf (.ref i2) >>= _) _ _ _
    cases ey : ys[k2]? with
    | none => exact wpAny_bind (RZ.nextOf_tuple_end (s := { s with heap := h₂ }) hh g2 p2 ey fun h₃ e hs₃ he => hE (.inr ey) h₃ e (fun c o c1 c2 c3 q => hs₃ _ _ c3 (hs₂.extBut _ _ c2 (hs₁.extBut _ _ c1 q))) he)
    | some y =>
      refine wpAny_bind (RZ.nextOf_tuple_item (s := { s with heap := h₂ }) g2 p2 ey fun h₃ h2₃ hs₃ => wpAny_pure (wpAny_pure (wpAny_pure ?_)))
      show wpAny _ _ (newTuple [x, y] >>= _) _ _ _
      refine wpAny_bind (wpAny_newTuple (wpAny_pure ⟨_, rfl, ?_⟩))
      have sz : h₃.objs.size = s.heap.objs.size := by rw [hs₃.1, hs₂.1, hs₁.1]
      have z3 : IsZipHeld h₃ z TI TO T true := hs₃.extBut _ _ D.i2z.symm (hs₂.extBut _ _ D.i1z.symm hz₁)
      have q1 := h1₂.extBut hs₃.extBut D.i12
      have np : PySem.IsPair (h₃.push { cls := .type "tuple", data := .seq #[x, y] }) h₃.objs.size x y := Heap.get?_push_size _ rfl
      have ns : (h₃.push { cls := .type "tuple", data := .seq #[x, y] }).objs.size = h₃.objs.size + 1 := Heap.size_push ..
      show Q (.ref h₃.objs.size) _
      rw [sz] at np ns ⊢
      exact hQ x y ex ey _ (Heap.get?_push_of_some _ z3) (q1.at fun o q => Heap.get?_push_of_some _ q) (h2₃.at fun o q => Heap.get?_push_of_some _ q) np ns fun c o c1 c2 c3 q => Heap.get?_push_of_some _ (hs₃.extBut _ _ c3 (hs₂.extBut _ _ c2 (hs₁.extBut _ _ c1 q)))
/-- what a zip over two tuples is between two turns -/
def St (h : Heap) (z TI TO i1 i2 l1 l2 S : Addr) (xs ys : Array Value) (k : Nat) : Prop :=
  PySem.IsPair h TI (.ref i1) (.ref i2) ∧ h.IsTupleIter i1 l1 k ∧ h.IsTupleIter i2 l2 k ∧ h.IsTuple l1 xs ∧ h.IsTuple l2 ys ∧
  ((IsZip h z TI TO .none ∧ ∃ a b, PySem.IsPair h TO a b) ∨ ∃ (T : Addr) (f : Bool) (oT : Obj), IsZipHeld h z TI TO T f ∧ h.get? T = some oT ∧ T ≠ z ∧ T ≠ i1 ∧ T ≠ i2 ∧ T ≠ S)
theorem St.keep {h h' : Heap} {z TI TO i1 i2 l1 l2 S : Addr} {xs ys : Array Value} {k : Nat} (x : St h z TI TO i1 i2 l1 l2 S xs ys k) (up : ∀ b o, b ≠ S → h.get? b = some o → h'.get? b = some o) (n : S ≠ z ∧ S ≠ TI ∧ S ≠ TO ∧ S ≠ i1 ∧ S ≠ i2 ∧ S ≠ l1 ∧ S ≠ l2) : St h' z TI TO i1 i2 l1 l2 S xs ys k := by
  obtain ⟨n1, n2, n3, n4, n5, n6, n7⟩ := n
  obtain ⟨a1, a2, a3, a4, a5, a6⟩ := x
  refine ⟨up _ _ n2.symm a1, a2.at fun o e => up _ _ n4.symm e, a3.at fun o e => up _ _ n5.symm e, ?_, ?_, ?_⟩
  · obtain ⟨o, ho, r⟩ := a4
    exact ⟨o, up _ _ n6.symm ho, r⟩
  · obtain ⟨o, ho, r⟩ := a5
    exact ⟨o, up _ _ n7.symm ho, r⟩
  · rcases a6 with ⟨b1, a, b, b2⟩ | ⟨T, f, oT, b1, b2, t1, t2, t3, t4⟩
    · exact .inl ⟨up _ _ n1.symm b1, a, b, up _ _ n3.symm b2⟩
    · exact .inr ⟨T, f, oT, up _ _ n1.symm b1, up _ _ t4 b2, t1, t2, t3, t4⟩
theorem tupAt {h h' : Heap} {l : Addr} {xs : Array Value} (x : h.IsTuple l xs) (up : ∀ o, h.get? l = some o → h'.get? l = some o) : h'.IsTuple l xs := by
  obtain ⟨o, ho, r⟩ := x
  exact ⟨o, up _ ho, r⟩
/-- the next pair -/
theorem nxt {z TI TO i1 i2 l1 l2 S : Addr} {xs ys : Array Value} {k : Nat} {x y : Value} {Q : Option Value → Shared → Prop} (hh : A.handled = none) (D : ZipApart z TI TO i1 i2 l1 l2) (st : St s.heap z TI TO i1 i2 l1 l2 S xs ys k) (hS : S < s.heap.objs.size) (ex : xs[k]? = some x) (ey : ys[k]? = some y)
    (hQ : ∀ h', St h' z TI TO i1 i2 l1 l2 S xs ys (k + 1) → PySem.IsPair h' s.heap.objs.size x y → h'.objs.size = s.heap.objs.size + 1 → (∀ c o, c ≠ z → c ≠ TO → c ≠ i1 → c ≠ i2 → s.heap.get? c = some o → h'.get? c = some o) → Q (some (.ref s.heap.objs.size)) { s with heap := h' }) :
    wpAny (model prog w) A (pyNext (.ref z)) Q E s := by
  obtain ⟨a1, a2, a3, a4, a5, a6⟩ := st
  have lz : ∀ {a : Addr} {o : Obj}, s.heap.get? a = some o → s.heap.objs.size ≠ a := fun e => Nat.ne_of_gt (Heap.lt_size e)
  have n1 : s.heap.objs.size ≠ i1 := by obtain ⟨o, e, _⟩ := a2; exact lz e
  have n2 : s.heap.objs.size ≠ i2 := by obtain ⟨o, e, _⟩ := a3; exact lz e
  rcases a6 with ⟨b1, a, b, b2⟩ | ⟨T, f, oT, b1, b2, t1, t2, t3, t4⟩
  · refine RZ.pyNext_zipT_item D b1 a1 b2 a2 a3 a4 a5 ex ey fun h' c1 c2 c3 c4 c5 c6 c7 => hQ h' ⟨c7 _ _ D.TIz D.TITO D.TIi1 D.TIi2 a1, c3, c4, tupAt a4 fun o e => c7 _ _ D.l1z D.l1TO D.l1i1 D.l1i2 e, tupAt a5 fun o e => c7 _ _ D.l2z D.l2TO D.l2i1 D.l2i2 e, .inr ⟨s.heap.objs.size, false, _, c1, c5, lz b1, n1, n2, Nat.ne_of_gt hS⟩⟩ c5 c6 c7
  · have hTy : s.TypeIs (.ref z) "zip" := ⟨_, b1, rfl⟩
    unfold pyNext
    refine wpAny_bind (wpAny_attempt (wpAny_callSpecial?_slot (name := Str.ofString "__next__") hTy F.slot_zip_next (wpAny_call_entry F.slot_zip_next hTy F.entry_zip_next (held hh D b1 b2 a1 a2 a3 a4 a5 (fun x' y' ex' ey' h' c1 c3 c4 c5 c6 c7 => ?_) (fun he => ?_)) (F.args_zip_next_1 _))))
    · rw [ex] at ex'
      rw [ey] at ey'
      cases ex'
      cases ey'
      exact wpAny_pure (hQ h' ⟨c7 _ _ D.TIz D.TIi1 D.TIi2 a1, c3, c4, tupAt a4 fun o e => c7 _ _ D.l1z D.l1i1 D.l1i2 e, tupAt a5 fun o e => c7 _ _ D.l2z D.l2i1 D.l2i2 e, .inr ⟨T, true, oT, c1, c7 _ _ t1 t2 t3 b2, t1, t2, t3, t4⟩⟩ c5 c6 fun c o d1 _ d3 d4 e => c7 c o d1 d3 d4 e)
    · rcases he with he | he
      · rw [ex] at he; cases he
      · rw [ey] at he; cases he
/-- no more pairs -/
theorem fin {z TI TO i1 i2 l1 l2 S : Addr} {xs ys : Array Value} {k : Nat} {Q : Option Value → Shared → Prop} (hh : A.handled = none) (D : ZipApart z TI TO i1 i2 l1 l2) (st : St s.heap z TI TO i1 i2 l1 l2 S xs ys k) (ex : xs[k]? = none)
    (hQ : ∀ h', (∀ c o, c ≠ z → c ≠ TO → c ≠ i1 → c ≠ i2 → s.heap.get? c = some o → h'.get? c = some o) → Q none { s with heap := h' }) : wpAny (model prog w) A (pyNext (.ref z)) Q E s := by
  obtain ⟨a1, a2, a3, a4, a5, a6⟩ := st
  rcases a6 with ⟨b1, a, b, b2⟩ | ⟨T, f, oT, b1, b2, t1, t2, t3, t4⟩
  · exact RZ.pyNext_zipT_end hh D b1 a1 b2 a2 a3 a4 a5 (.inl ex) hQ
  · have hTy : s.TypeIs (.ref z) "zip" := ⟨_, b1, rfl⟩
    unfold pyNext
    refine wpAny_bind (wpAny_attempt (wpAny_callSpecial?_slot (name := Str.ofString "__next__") hTy F.slot_zip_next (wpAny_call_entry F.slot_zip_next hTy F.entry_zip_next (held hh D b1 b2 a1 a2 a3 a4 a5 (fun x' y' ex' => ?_) (fun _ h' e hk he => ?_)) (F.args_zip_next_1 _))))
    · rw [ex] at ex'; cases ex'
    · obtain ⟨o, ho, hc⟩ := he
      exact wpAny_bind (wpAny_isInstance (T := "StopIteration") (b := true) ⟨o, ho, hc⟩ isSubtype_stop (wpAny_pure (hQ _ fun c o d1 _ d3 d4 q => hk c o d1 d3 d4 q)))
end
/-- the pairs made so far -/
structure Md (xs ys : Array Value) (lo : Addr) (h : Heap) (as : List Addr) : Prop where
  rise : as.Pairwise (· < ·)
  above : ∀ a ∈ as, lo ≤ a
  pairs : ∀ (j : Nat) (a : Addr), as[j]? = some a → ∃ x y, xs[j]? = some x ∧ ys[j]? = some y ∧ PySem.IsPair h a x y
section
variable {prog : Program} {w : World} {A : Around} {E : Value → Shared → Prop} {s : Shared} {R : Result → Shared → Prop} {z TI TO i1 i2 l1 l2 S lo : Addr} {xs ys : Array Value}
theorem loop (hh : A.handled = none) (D : ZipApart z TI TO i1 i2 l1 l2) (ln : xs.size = ys.size) (hn : xs.size ≤ sizeLine) (nS : S ≠ z ∧ S ≠ TI ∧ S ≠ TO ∧ S ≠ i1 ∧ S ≠ i2 ∧ S ≠ l1 ∧ S ≠ l2) (low : S < lo ∧ z < lo ∧ TO < lo ∧ i1 < lo ∧ i2 < lo) (res : Value) {h₁ : Heap}
    (hR : ∀ h' tk acc c as, (∀ b o, b ≠ S → b ≠ z → b ≠ TO → b ≠ i1 → b ≠ i2 → h₁.get? b = some o → h'.get? b = some o) → h'.get? S = some { cls := .type "list", dict := none, data := .seq acc c, slots := #[] } → as.length = xs.size → Md xs ys lo h' as → acc.toList = as.map Value.ref →
      R (.ok (.ret res)) { s with heap := h', toks := tk }) :
    ∀ (k i : Nat) (h : Heap) (tk c : Nat) (acc : Array Value) (as : List Addr), xs.size - i = k → i ≤ xs.size → St h z TI TO i1 i2 l1 l2 S xs ys i → (∀ b o, b ≠ S → b ≠ z → b ≠ TO → b ≠ i1 → b ≠ i2 → h₁.get? b = some o → h.get? b = some o) →
      h.get? S = some { cls := .type "list", dict := none, data := .seq acc c, slots := #[] } → acc.toList = as.map Value.ref → as.length = i → Md xs ys lo h as → lo ≤ h.objs.size →
      codeAny (model prog w) A (.builtin "list.extend.loop" ⟨[.ref S, .ref z, res], []⟩) R { s with heap := h, toks := tk } := by
  obtain ⟨lS, lz, lTO, l1', l2'⟩ := low
  intro k
  induction k with
  | zero =>
    intro i h tk c acc as hk hi st keep hS hacc hal md hl
    refine codeAny_builtin PySem.F.entry_extend_loop ?_
    rw [Around.under_plainId PySem.F.plain_extend_loop _]
    show wpAny _ A.in1 (pyNext (.ref z) >>= _) _ _ _
    refine wpAny_bind (fin (s := { s with heap := h, toks := tk }) (A := A.in1) hh D st (Array.getElem?_eq_none (by omega)) fun h' kp => wpAny_pure (hR h' tk acc c as (fun b o b1 b2 b3 b4 b5 e => kp b o b2 b3 b4 b5 (keep b o b1 b2 b3 b4 b5 e)) (kp S _ nS.1 nS.2.2.1 nS.2.2.2.1 nS.2.2.2.2.1 hS) (by omega) ⟨md.rise, md.above, fun j a hj => ?_⟩ hacc))
    obtain ⟨x, y, e1, e2, e3⟩ := md.pairs j a hj
    have ab := md.above a (List.mem_of_getElem? hj)
    exact ⟨x, y, e1, e2, kp a _ (Nat.ne_of_gt (Nat.lt_of_lt_of_le lz ab)) (Nat.ne_of_gt (Nat.lt_of_lt_of_le lTO ab)) (Nat.ne_of_gt (Nat.lt_of_lt_of_le l1' ab)) (Nat.ne_of_gt (Nat.lt_of_lt_of_le l2' ab)) e3⟩
  | succ k ih =>
    intro i h tk c acc as hk hi st keep hS hacc hal md hl
    have lt : i < xs.size := by omega
    have ex : xs[i]? = some xs[i] := Array.getElem?_eq_getElem lt
    have ey : ys[i]? = some (ys[i]'(by omega)) := Array.getElem?_eq_getElem (by omega)
    generalize xs[i] = x at ex
    generalize (ys[i]'(by omega)) = y at ey
    have sz : acc.size = i := by rw [← Array.length_toList, hacc, List.length_map, hal]
    refine codeAny_builtin PySem.F.entry_extend_loop ?_
    rw [Around.under_plainId PySem.F.plain_extend_loop _]
    show wpAny _ A.in1 (pyNext (.ref z) >>= _) _ _ _
    refine wpAny_bind (nxt (s := { s with heap := h, toks := tk }) (A := A.in1) (S := S) hh D st (Heap.lt_size hS) ex ey fun h' st' pr hz kp => ?_)
    dsimp only at pr hz kp ⊢
    have hS' := kp S _ nS.1 nS.2.2.1 nS.2.2.2.1 nS.2.2.2.2.1 hS
    have up : ∀ b o, b ≠ S → h'.get? b = some o → (h'.update S (Obj.mapSeq (·.push (Value.ref h.objs.size)))).get? b = some o := fun b o hb e => (Heap.get?_update_other _ _ (Ne.symm hb)).trans e
    have hSl : S < h.objs.size := Heap.lt_size hS
    show wpAny _ A.in1 (updateSeq S (·.push (Value.ref h.objs.size)) >>= _) _ _ _
    have new := up _ _ (Nat.ne_of_gt hSl) pr
    refine wpAny_bind ?_
    refine wpAny_updateSeq hS' rfl (wpAny_pure ⟨plainId_quiet PySem.F.plain_extend_loop _, ih (i + 1) _ tk _ (acc.push (Value.ref h.objs.size)) (as ++ [h.objs.size]) (by omega) lt (st'.keep up nS)
      (fun b o b1 b2 b3 b4 b5 e => up b o b1 (kp b o b2 b3 b4 b5 (keep b o b1 b2 b3 b4 b5 e))) (Heap.get?_update_self _ hS' rfl) (by rw [Array.toList_push, hacc, List.map_append]; rfl) (by rw [List.length_append, hal]; rfl) ⟨?_, ?_, ?_⟩ (Nat.le_of_lt (Nat.lt_of_le_of_lt hl (Heap.lt_size new)))⟩) (by rw [sz]; omega) (by show (acc.push (Value.ref h.objs.size)).size ≤ sizeLine + 1; rw [Array.size_push, sz]; omega)
    · refine List.pairwise_append.mpr ⟨md.rise, List.pairwise_singleton _ _, fun a ha b hb => ?_⟩
      rw [List.mem_singleton.mp hb]
      obtain ⟨j, hj⟩ := List.mem_iff_getElem?.mp ha
      obtain ⟨_, _, _, _, e⟩ := md.pairs j a hj
      exact Heap.lt_size e
    · intro a ha
      rcases List.mem_append.mp ha with ha | ha
      · exact md.above a ha
      · rw [List.mem_singleton.mp ha]; exact hl
    · intro j b hj
      by_cases c1 : j < as.length
      · rw [List.getElem?_append_left c1] at hj
        obtain ⟨x', y', e1, e2, e3⟩ := md.pairs j b hj
        have ab := md.above b (List.mem_of_getElem? hj)
        exact ⟨x', y', e1, e2, up b _ (Nat.ne_of_gt (Nat.lt_of_lt_of_le lS ab)) (kp b _ (Nat.ne_of_gt (Nat.lt_of_lt_of_le lz ab)) (Nat.ne_of_gt (Nat.lt_of_lt_of_le lTO ab)) (Nat.ne_of_gt (Nat.lt_of_lt_of_le l1' ab)) (Nat.ne_of_gt (Nat.lt_of_lt_of_le l2' ab)) e3)⟩
      · rw [List.getElem?_append_right (by omega)] at hj
        have j0 : j - as.length = 0 := by
          have := (List.getElem?_eq_some_iff.mp hj).1
          simp at this
          omega
        rw [j0] at hj
        have eb : h.objs.size = b := by simpa using hj
        subst eb
        have : j = i := by omega
        subst this
        exact ⟨x, y, ex, ey, new⟩
theorem zip_no_len : typeLookup (.type "zip") "__len__" = pure none := am_miss_of_fast (by decide +kernel)
theorem zip_no_hint : typeLookup (.type "zip") "__length_hint__" = pure none := am_miss_of_fast (by decide +kernel)
theorem hint {r : Addr} {Q : Bool → Shared → Prop} (hT : s.TypeIs (.ref r) "zip") (h : Q true s) : wpAny (model prog w) A (Builtin.List.listLengthHint (.ref r)) Q E s := by
  unfold Builtin.List.listLengthHint
  refine wpAny_bind (wpAny_specialOf hT zip_no_len ?_)
  wp_delta
  refine wpAny_ite_split (fun hab => absurd hab (by decide)) (fun _ => ?_)
  refine wpAny_ite_split (fun hab => absurd hab (by decide)) (fun _ => ?_)
  refine wpAny_bind (wpAny_specialOf hT zip_no_hint ?_)
  exact wpAny_pure h
theorem ext (hh : A.handled = none) (D : ZipApart z TI TO i1 i2 l1 l2) (ln : xs.size = ys.size) (hn : xs.size ≤ sizeLine) (nS : S ≠ z ∧ S ≠ TI ∧ S ≠ TO ∧ S ≠ i1 ∧ S ≠ i2 ∧ S ≠ l1 ∧ S ≠ l2) (res : Value) (c₀ : Nat) (hz : IsZip s.heap z TI TO .none)
    (st : St s.heap z TI TO i1 i2 l1 l2 S xs ys 0) (hS : s.heap.get? S = some { cls := .type "list", data := .seq #[] c₀ })
    (hR : ∀ h' tk acc c as, (∀ b o, b ≠ S → b ≠ z → b ≠ TO → b ≠ i1 → b ≠ i2 → s.heap.get? b = some o → h'.get? b = some o) → h'.get? S = some { cls := .type "list", dict := none, data := .seq acc c, slots := #[] } → as.length = xs.size → Md xs ys s.heap.objs.size h' as → acc.toList = as.map Value.ref →
      R (.ok (.ret res)) { s with heap := h', toks := tk }) :
    wpAny (model prog w) A.in1 (Builtin.List.listExtendWith (.ref S) (.ref z) res)
      (fun fin s' => match fin with | .done f => R (.ok f) s' | .again c' => c'.quiet = true ∧ codeAny (model prog w) A c' R s') (fun e s' => R (.error e) s') s := by
  have low : S < s.heap.objs.size ∧ z < s.heap.objs.size ∧ TO < s.heap.objs.size ∧ i1 < s.heap.objs.size ∧ i2 < s.heap.objs.size := by
    obtain ⟨a1, ⟨o1, e1, _⟩, ⟨o2, e2, _⟩, _, _, a6⟩ := id st
    refine ⟨Heap.lt_size hS, Heap.lt_size hz, ?_, Heap.lt_size e1, Heap.lt_size e2⟩
    rcases a6 with ⟨_, a, b, b2⟩ | ⟨T, f, oT, b1, _⟩
    · exact Heap.lt_size b2
    · have z1 : some _ = some _ := (show s.heap.get? z = some _ from hz).symm.trans (show s.heap.get? z = some _ from b1)
      injection z1 with z2
      injection z2 with _ _ z3
      injection z3 with z4
      simp [rawInt] at z4
  have key : ∀ (h : Heap) (c₁ tk : Nat), (∀ b o, b ≠ S → s.heap.get? b = some o → h.get? b = some o) → s.heap.objs.size ≤ h.objs.size → h.get? S = some { cls := .type "list", data := .seq #[] c₁ } →
      codeAny (model prog w) A (.builtin "list.extend.loop" ⟨[.ref S, .ref z, res], []⟩) R { s with heap := h, toks := tk } := fun h c₁ tk hk hl hS₁ =>
    loop (h₁ := s.heap) (lo := s.heap.objs.size) hh D ln hn nS low res hR xs.size 0 h tk c₁ #[] [] (Nat.sub_zero _) (Nat.zero_le _) (st.keep hk nS) (fun b o hb _ _ _ _ e => hk b o hb e) hS₁ rfl rfl ⟨List.Pairwise.nil, (fun _ ha => nomatch ha), (fun j a hj => by simp at hj)⟩ hl
  have hT : s.TypeIs (.ref z) "zip" := ⟨_, hz, rfl⟩
  unfold Builtin.List.listExtendWith
  refine wpAny_bind (wpAny_typeOf (T := "zip") hT ?_)
  have e1 : Builtin.List.listSameRef (.ref S) (.ref z) = false := by simp [Builtin.List.listSameRef, nS.1]
  have e2 : (Value.type "zip" == Value.type "list") = false := by decide
  have e3 : (Value.type "zip" == Value.type "tuple") = false := by decide
  simp only [e1, e2, e3, Bool.or_false, Bool.false_eq_true, if_false]
  refine wpAny_bind (wpAny_pyIter_zip hz ?_)
  refine wpAny_bind (wpAny_holding (hint hT ?_))
  refine wpAny_ite_split (fun _ => ?_) (fun hab => absurd rfl hab)
  refine wpAny_bind (wpAny_rule (wpAny_bind ?_))
  show wpAny _ _ (updateSeq S (·.push .none) >>= fun _ => updateSeq S (·.pop)) _ _ _
  refine wpAny_bind (wpAny_updateSeq hS rfl ?_)
  have hS₂ := Heap.get?_update_self (Obj.mapSeq (·.push Value.none)) hS rfl
  refine wpAny_updateSeq (hz := by seq_fits) hS₂ rfl ?_
  have hS₃ := Heap.get?_update_self (Obj.mapSeq (·.pop)) hS₂ rfl
  refine wpAny_pure ⟨plainId_quiet PySem.F.plain_extend_loop _, key _ _ _ (fun b o hb e => (Heap.get?_update_other _ _ (Ne.symm hb)).trans ((Heap.get?_update_other _ _ (Ne.symm hb)).trans e)) ?_ hS₃⟩
  exact Nat.le_of_eq ((Heap.SameBut.update _ S _).1.trans (Heap.SameBut.update _ S _).1).symm
theorem call {Q : Value → Shared → Prop} (hh : A.handled = none) (D : ZipApart z TI TO i1 i2 l1 l2) (ln : xs.size = ys.size) (hn : xs.size ≤ sizeLine) (hz : IsZip s.heap z TI TO .none) (hTI : PySem.IsPair s.heap TI (.ref i1) (.ref i2)) (hTO : PySem.IsPair s.heap TO .none .none)
    (h1 : s.heap.IsTupleIter i1 l1 0) (h2 : s.heap.IsTupleIter i2 l2 0) (hl1 : s.heap.IsTuple l1 xs) (hl2 : s.heap.IsTuple l2 ys)
    (hQ : ∀ h' tk acc c as, (∀ b o, b ≠ z → b ≠ TO → b ≠ i1 → b ≠ i2 → s.heap.get? b = some o → h'.get? b = some o) → h'.get? s.heap.objs.size = some { cls := .type "list", dict := none, data := .seq acc c, slots := #[] } → as.length = xs.size → Md xs ys (s.heap.objs.size + 1) h' as → acc.toList = as.map Value.ref →
      Q (.ref s.heap.objs.size) { s with heap := h', toks := tk }) : wpAny (model prog w) A (PySem.call (.type "list") [.ref z]) Q E s := by
  have lt : ∀ {a : Addr} {o : Obj}, s.heap.get? a = some o → s.heap.objs.size ≠ a := fun e => Nat.ne_of_gt (Heap.lt_size e)
  have nS : s.heap.objs.size ≠ z ∧ s.heap.objs.size ≠ TI ∧ s.heap.objs.size ≠ TO ∧ s.heap.objs.size ≠ i1 ∧ s.heap.objs.size ≠ i2 ∧ s.heap.objs.size ≠ l1 ∧ s.heap.objs.size ≠ l2 := by
    obtain ⟨o1, e1, _⟩ := h1
    obtain ⟨o2, e2, _⟩ := h2
    obtain ⟨o3, e3, _⟩ := hl1
    obtain ⟨o4, e4, _⟩ := hl2
    exact ⟨lt hz, lt hTI, lt hTO, lt e1, lt e2, lt e3, lt e4⟩
  refine callType_codes (Q₁ := fun obj s₁ => obj = .ref s.heap.objs.size ∧ s₁ = { s with heap := s.heap.push { cls := .type "list", data := .seq #[] } }) PySem.F.called_list (PySem.F.typeCall_list_1 _) PySem.F.entry_list_init (code_list_new _ ⟨rfl, rfl⟩) fun obj s₁ q₁ => ?_
  obtain ⟨rfl, rfl⟩ := q₁
  have hS : (s.heap.push { cls := .type "list", data := .seq #[] }).get? s.heap.objs.size = some { cls := .type "list", data := .seq #[] } := Heap.get?_push_size _ rfl
  refine ⟨⟨_, hS, rfl⟩, PySem.F.args_list_init_2 _ _, ?_⟩
  show wpAny _ _ (do let old ← Builtin.List.listItems (.ref s.heap.objs.size); Builtin.List.listUpdate (.ref s.heap.objs.size) (fun _ => #[]); letGo old.toList.reverse; Builtin.List.listExtendWith (.ref s.heap.objs.size) (.ref z) .none) _ _ _
  refine wpAny_bind ?_
  unfold Builtin.List.listItems
  refine wpAny_bind (wpAny_seqItems hS rfl (wpAny_pure ?_))
  show wpAny _ _ (updateSeq s.heap.objs.size (fun _ => #[]) >>= fun _ => letGo (#[] : Array Value).toList.reverse >>= fun _ => Builtin.List.listExtendWith (.ref s.heap.objs.size) (.ref z) .none) _ _ _
  refine wpAny_bind (wpAny_updateSeq hS rfl ?_)
  have hS₂ := Heap.get?_update_self (Obj.mapSeq (fun _ => (#[] : Array Value))) hS rfl
  have oth : ∀ b o, b ≠ s.heap.objs.size → s.heap.get? b = some o → ((s.heap.push { cls := .type "list", data := .seq #[] }).update s.heap.objs.size (Obj.mapSeq (fun _ => (#[] : Array Value)))).get? b = some o :=
    fun b o hb e => (Heap.get?_update_other _ _ (Ne.symm hb)).trans (Heap.get?_push_of_some _ e)
  have size2 : ((s.heap.push { cls := .type "list", data := .seq #[] }).update s.heap.objs.size (Obj.mapSeq (fun _ => (#[] : Array Value)))).objs.size = s.heap.objs.size + 1 := (Heap.SameBut.update _ _ _).1.trans (Heap.size_push ..)
  refine wpAny_bind (wpAny_letGo ?_)
  obtain ⟨n1, n2, n3, n4, n5, n6, n7⟩ := id nS
  refine ext (A := A.in1) hh D ln hn nS .none _ (oth _ _ n1.symm hz) ⟨oth _ _ n2.symm hTI, h1.at fun o e => oth _ _ n4.symm e, h2.at fun o e => oth _ _ n5.symm e, tupAt hl1 fun o e => oth _ _ n6.symm e, tupAt hl2 fun o e => oth _ _ n7.symm e, .inl ⟨oth _ _ n1.symm hz, _, _, oth _ _ n3.symm hTO⟩⟩ hS₂ fun h' tk acc c as hk hS' hl md hacc => ?_
  rw [size2] at md
  exact ⟨rfl, hQ h' tk acc c as (fun b o b1 b2 b3 b4 e => hk b o (Nat.ne_of_lt (Heap.lt_size e)) b1 b2 b3 b4 (oth b o (Nat.ne_of_lt (Heap.lt_size e)) e)) hS' hl md hacc⟩
end
end ZL
namespace Pl
open PySem PySem.Spec PyProof.Rows L2
/-- several objects laid at once -/
def updAll (H : Hp) : List (Addr × HO) → Hp
  | [] => H
  | p :: ps => upd (updAll H ps) p.1 p.2
theorem updAll_no {H : Hp} {b : Addr} : ∀ {ps : List (Addr × HO)}, b ∉ ps.map (·.1) → updAll H ps b = H b
  | [], _ => rfl
  | p :: ps, h => by
    rw [List.map_cons, List.mem_cons, not_or] at h
    show upd (updAll H ps) p.1 p.2 b = _
    rw [upd_ne h.1]
    exact updAll_no h.2
theorem updAll_get {H : Hp} : ∀ {ps : List (Addr × HO)} {p : Addr × HO}, (ps.map (·.1)).Nodup → p ∈ ps → updAll H ps p.1 = some p.2
  | [], _, _, h => nomatch h
  | q :: ps, p, nd, h => by
    rw [List.map_cons, List.nodup_cons] at nd
    show upd (updAll H ps) q.1 q.2 p.1 = _
    rcases List.mem_cons.mp h with rfl | h
    · exact upd_same
    · have ne : p.1 ≠ q.1 := fun e => nd.1 (by rw [← e]; exact List.mem_map.mpr ⟨p, h, rfl⟩)
      rw [upd_ne ne]
      exact updAll_get nd.2 h
theorem updAll_same {H : Hp} {ps : List (Addr × HO)} (h : ∀ p ∈ ps, H p.1 = none) : Same H (updAll H ps) := fun b o e => by
  rw [updAll_no]
  · exact e
  · intro hb
    obtain ⟨p, hp, rfl⟩ := List.mem_map.mp hb
    rw [h p hp] at e
    cases e
theorem adds {X : Cx} {pins : List (Addr × Obj)} {σ : L2.St} {H : Hp} {s : Shared} {tk : Nat} (I : Inv X pins σ H s) : ∀ (ps : List (Addr × HO)) (h' : Heap), (∀ b u, s.heap.get? b = some u → h'.get? b = some u) → (∀ p ∈ ps, s.heap.objs.size ≤ p.1) → (ps.map (·.1)).Nodup →
    (∀ p ∈ ps, ∀ (H' : Hp) (G : Heap), G.get? p.1 = h'.get? p.1 → ObjOk X.prog X.w H' G p.1 p.2) → Inv X pins σ (updAll H ps) { s with heap := h', toks := tk }
  | [], h', k, _, _, _ => I.kept k
  | p :: ps, h', k, lo, nd, ok => by
    rw [List.map_cons, List.nodup_cons] at nd
    obtain ⟨G, g1, g2⟩ := restrict h' fun b => decide (b ≠ p.1)
    have gk : ∀ b, b ≠ p.1 → G.get? b = h'.get? b := fun b hb => g1 b (decide_eq_true hb)
    have gn : G.get? p.1 = none := g2 p.1 (decide_eq_false (fun z => z rfl))
    have lp := lo p List.mem_cons_self
    have J := adds (tk := tk) I ps G (fun b u e => by
      rw [gk b (Nat.ne_of_lt (Nat.lt_of_lt_of_le (Heap.lt_size e) lp))]
      exact k b u e) (fun q hq => lo q (List.mem_cons_of_mem _ hq)) nd.2 (fun q hq H' G' e => ok q (List.mem_cons_of_mem _ hq) H' G' (by
        rw [e, gk]
        intro z
        exact nd.1 (by rw [← z]; exact List.mem_map.mpr ⟨q, hq, rfl⟩)))
    refine J.laidN (h' := h') (t' := tk) (fun b u e => ?_) gn ?_ (ok p List.mem_cons_self _ h' rfl)
    · by_cases z : b = p.1
      · rw [z] at e
        rw [show G.get? p.1 = some u from e] at gn
        cases gn
      · rw [← gk b z]
        exact e
    · rw [updAll_no nd.1]
      exact I.hok.fresh lp
/-- pairs in the heap -/
inductive PrA (H : Hp) : List V → List V → List V → Prop
  | nil : PrA H [] [] []
  | cons {q : Addr} {x y : V} {ws xs ys : List V} : H q = some (.tup [x, y]) → PrA H ws xs ys → PrA H (.ref q :: ws) (x :: xs) (y :: ys)
def prs : List Addr → List V → List V → List (Addr × HO)
  | a :: as, x :: xs, y :: ys => (a, .tup [x, y]) :: prs as xs ys
  | _, _, _ => []
theorem prs_fst : ∀ {as : List Addr} {xs ys : List V}, as.length = xs.length → as.length = ys.length → (prs as xs ys).map (·.1) = as
  | [], xs, ys, _, _ => by cases xs <;> cases ys <;> rfl
  | a :: as, [], _, h, _ => nomatch h
  | a :: as, x :: xs, [], _, h => nomatch h
  | a :: as, x :: xs, y :: ys, h1, h2 => by
    show a :: (prs as xs ys).map (·.1) = _
    rw [prs_fst (by simpa using h1) (by simpa using h2)]
theorem prs_mem {p : Addr × HO} : ∀ {as : List Addr} {xs ys : List V}, p ∈ prs as xs ys → ∃ (j : Nat) (a : Addr) (x y : V), as[j]? = some a ∧ xs[j]? = some x ∧ ys[j]? = some y ∧ p = (a, .tup [x, y])
  | [], _, _, h => nomatch h
  | a :: as, [], _, h => nomatch h
  | a :: as, x :: xs, [], h => nomatch h
  | a :: as, x :: xs, y :: ys, h => by
    rcases List.mem_cons.mp h with h | h
    · exact ⟨0, a, x, y, rfl, rfl, rfl, h⟩
    · obtain ⟨j, b, u, v, e1, e2, e3, e4⟩ := prs_mem h
      exact ⟨j + 1, b, u, v, e1, e2, e3, e4⟩
theorem prA_of {G : Hp} : ∀ {as : List Addr} {xs ys : List V}, as.length = xs.length → as.length = ys.length → (∀ p ∈ prs as xs ys, G p.1 = some p.2) → PrA G (as.map V.ref) xs ys
  | [], [], [], _, _, _ => .nil
  | [], x :: xs, _, h, _, _ => nomatch h
  | [], [], y :: ys, _, h, _ => nomatch h
  | a :: as, [], _, h, _, _ => nomatch h
  | a :: as, x :: xs, [], _, h, _ => nomatch h
  | a :: as, x :: xs, y :: ys, h1, h2, g => .cons (g (a, .tup [x, y]) List.mem_cons_self) (prA_of (by simpa using h1) (by simpa using h2) fun p hp => g p (List.mem_cons_of_mem _ hp))
theorem valsAt : ∀ {xs : List V} {us : List Value} {j : Nat} {x : V}, Vals xs us → xs[j]? = some x → ∃ u, us[j]? = some u ∧ RelV x u
  | _, _, _, _, .nil, h => by cases h
  | _, _, 0, _, .cons r _, h => by
    cases h
    exact ⟨_, rfl, r⟩
  | _, _, j + 1, _, .cons _ t, h => by
    obtain ⟨u, e, r⟩ := valsAt (j := j) t (by simpa using h)
    exact ⟨u, by simpa using e, r⟩
theorem valsRef : ∀ (as : List Addr), Vals (as.map V.ref) (as.map Value.ref)
  | [] => .nil
  | a :: as => .cons rfl (valsRef as)
def tLstZip (K : PySem.W.Frag) (ta : TA) : TE := fun σ H Q => ta σ H fun vs H1 => ∃ (a b : Addr) (xs ys : List V), vs = [.ref a, .ref b] ∧ SqT K H1 a xs ∧ SqT K H1 b ys ∧ xs.length = ys.length ∧
  ∀ (L : Addr) (ws : List V) (H2 : Hp), Same H1 H2 → H1 L = none → H2 L = some (.lst ws) → PrA H2 ws xs ys → Q (.ref L) H2
section
variable {X : Cx}
theorem pe_listZip {e e2 : Expr} {ta : TA} {p p2 pos pos2 : Pos} (hc : X.calm = true) (hgl : Gl X "list") (hml : X.mg "list" = none) (hgz : Gl X "zip") (hmz : X.mg "zip" = none) (ha : PA X [e, e2] ta)
    (na : starEach [.Call (.Name "zip" p2) [e, e2] [] pos2] X.env = (false, eval (.Call (.Name "zip" p2) [e, e2] [] pos2) X.env) :: starEach [] X.env := by rfl)
    (hs : starEach [e, e2] X.env = (false, eval e X.env) :: starEach [e2] X.env := by rfl) (hpl : (backTo pos2 (starEach [e2] X.env)).any (·.1) = false := by rfl) :
    PE X (.Call (.Name "list" p) [.Call (.Name "zip" p2) [e, e2] [] pos2] [] pos) (tLstZip X.K ta) := by
  refine ⟨fun pins s σ H Q I h => ?_⟩
  refine Call_ (ld_blt I hgl hml boot_list (PyProof.Rows.callWith_type1 (args_cons (thn (Q := fun v s2 => ∃ (s1 : Shared) (H1 : Hp) (a b : Addr) (xs ys : List V) (us vs : List Value) (h2 : Heap), v = .ref (s1.heap.objs.size + 4) ∧ s2 = { s1 with heap := h2 } ∧ Inv X pins σ H1 s1 ∧
      IsZip h2 (s1.heap.objs.size + 4) (s1.heap.objs.size + 2) (s1.heap.objs.size + 3) .none ∧ PySem.IsPair h2 (s1.heap.objs.size + 2) (.ref s1.heap.objs.size) (.ref (s1.heap.objs.size + 1)) ∧ PySem.IsPair h2 (s1.heap.objs.size + 3) .none .none ∧ h2.IsTupleIter s1.heap.objs.size a 0 ∧ h2.IsTupleIter (s1.heap.objs.size + 1) b 0 ∧ h2.objs.size = s1.heap.objs.size + 5 ∧
      (∀ c o, s1.heap.get? c = some o → h2.get? c = some o) ∧ s1.heap.IsTuple a us.toArray ∧ s1.heap.IsTuple b vs.toArray ∧ Vals xs us ∧ Vals ys vs ∧ xs.length ≤ sizeLine ∧ xs.length = ys.length ∧
      ∀ (L : Addr) (ws : List V) (H2 : Hp), Same H1 H2 → H1 L = none → H2 L = some (.lst ws) → PrA H2 ws xs ys → Q (.ref L) H2) ?_ fun v s2 q => args_nil ?_) na) na))
  · refine Call_ (ld_blt I hgz hmz PyProof.Rows.boot_zip (PyProof.Rows.callWith_type1 (thn (ha.run pos2 pins s σ H _ I h) fun us s1 ⟨vs, H1, I1, r1, q1⟩ => ?_) hs hpl))
    obtain ⟨a, b, xs, ys, rfl, sa, sb, ln, q⟩ := q1
    obtain ⟨u1, u2, rfl, ra, rb⟩ := vals2 r1
    cases ra
    cases rb
    obtain ⟨its, rv, p1, z1⟩ := I1.tuple sa
    obtain ⟨its2, rv2, p2', z2⟩ := I1.tuple sb
    refine RZ.call_zipT (show s1.heap.IsTuple a its.toArray from p1) (show s1.heap.IsTuple b its2.toArray from p2') fun h2 hz hTI hTO h1 h2' hsz hk => ?_
    exact ⟨s1, H1, a, b, xs, ys, its, its2, h2, rfl, rfl, I1, hz, hTI, hTO, h1, h2', hsz, hk, p1, p2', rv, rv2, by omega, ln, q⟩
  · obtain ⟨s1, H1, a, b, xs, ys, us, vs, h2, rfl, rfl, I1, hz, hTI, hTO, h1, h2', hsz, hk, p1, p2', rv, rv2, hn, ln, q⟩ := q
    have la : a < s1.heap.objs.size := by obtain ⟨o, ho, _⟩ := p1; exact Heap.lt_size ho
    have lb : b < s1.heap.objs.size := by obtain ⟨o, ho, _⟩ := p2'; exact Heap.lt_size ho
    have lx := rv.length
    have ly := rv2.length
    refine ZL.call (s := { s1 with heap := h2 }) (I1.ok.hd hc) (PySem.W.ktu_apart s1.heap.objs.size a b la lb) (by rw [List.size_toArray, List.size_toArray]; omega) (by rw [List.size_toArray]; omega) hz hTI hTO h1 h2' (ZL.tupAt p1 fun o e => hk _ _ e) (ZL.tupAt p2' fun o e => hk _ _ e) fun h' tk acc c as keep hS hl md hacc => ?_
    dsimp only at hS md keep ⊢
    rw [List.size_toArray] at hl
    rw [hsz] at hS md ⊢
    have asl : as.length = xs.length := by omega
    have nd : (((s1.heap.objs.size + 5, HO.lst (as.map V.ref)) :: prs as xs ys).map (·.1)).Nodup := by
      rw [List.map_cons, prs_fst asl (by omega), List.nodup_cons]
      refine ⟨fun z => ?_, md.rise.imp (fun h => Nat.ne_of_lt h)⟩
      exact Nat.not_succ_le_self _ (md.above _ z)
    have lo : ∀ p ∈ (s1.heap.objs.size + 5, HO.lst (as.map V.ref)) :: prs as xs ys, s1.heap.objs.size ≤ p.1 := fun p hp => by
      rcases List.mem_cons.mp hp with rfl | hp
      · exact Nat.le_add_right _ _
      · obtain ⟨j, a, x, y, e1, _, _, rfl⟩ := prs_mem hp
        exact Nat.le_trans (Nat.le_add_right _ 6) (md.above a (List.mem_of_getElem? e1))
    have ne : ∀ {b : Addr} {o : Obj}, s1.heap.get? b = some o → ∀ i, b ≠ s1.heap.objs.size + i := fun e i z => by
      have lt := Heap.lt_size e
      rw [z] at lt
      exact Nat.not_lt.mpr (Nat.le_add_right _ i) lt
    have J := adds (tk := tk) I1 ((s1.heap.objs.size + 5, HO.lst (as.map V.ref)) :: prs as xs ys) h' (fun b o e => keep b o (ne e 4) (ne e 3) (ne e 0) (ne e 1) (hk _ _ e)) lo nd (fun p hp H' G eG => by
      rcases List.mem_cons.mp hp with rfl | hp
      · refine ⟨by rw [List.length_map]; omega, as.map Value.ref, c, valsRef as, ?_⟩
        rw [← hacc, Array.toArray_toList]
        exact eG.trans hS
      · obtain ⟨j, a, x, y, e1, e2, e3, rfl⟩ := prs_mem hp
        obtain ⟨u, v, g1, g2, g3⟩ := md.pairs j a e1
        obtain ⟨u', g4, r1⟩ := valsAt rv e2
        obtain ⟨v', g5, r2⟩ := valsAt rv2 e3
        rw [List.getElem?_toArray] at g1 g2
        rw [g4] at g1
        rw [g5] at g2
        cases g1
        cases g2
        exact ⟨by show 2 ≤ sizeLine; decide, [u, v], .cons r1 (.cons r2 .nil), _, eG.trans g3, rfl, _, rfl⟩)
    refine ⟨.ref (s1.heap.objs.size + 5), _, J, rfl, q _ _ _ (updAll_same fun p hp => I1.hok.fresh (lo p hp)) (I1.hok.fresh (Nat.le_add_right _ _)) (updAll_get nd List.mem_cons_self) ?_⟩
    exact prA_of asl (by omega) fun p hp => updAll_get nd (List.mem_cons_of_mem _ hp)
end
end Pl
/-! min(xs, default=None) of a list of tuples of ints -/
namespace Pl
open PySem PySem.Spec PyProof.Rows L2
/-- the order of tuples of ints -/
def lx : List Int → List Int → Bool
  | [], [] => false
  | [], _ :: _ => true
  | _ :: _, [] => false
  | a :: as, b :: bs => decide (a < b) || (decide (a = b) && lx as bs)
theorem lx_irr : ∀ a : List Int, lx a a = false
  | [] => rfl
  | a :: as => by simp [lx, lx_irr as]
theorem lx_trans : ∀ {a b c : List Int}, lx a b = true → lx b c = true → lx a c = true
  | [], [], _, h, _ => nomatch h
  | [], _ :: _, [], _, h => nomatch h
  | [], _ :: _, _ :: _, _, _ => rfl
  | _ :: _, [], _, h, _ => nomatch h
  | _ :: _, _ :: _, [], _, h => nomatch h
  | a :: as, b :: bs, c :: cs, h1, h2 => by
    simp only [lx, Bool.or_eq_true, Bool.and_eq_true, decide_eq_true_eq] at h1 h2 ⊢
    rcases h1 with h1 | ⟨h1, h1'⟩ <;> rcases h2 with h2 | ⟨h2, h2'⟩
    · left; omega
    · left; omega
    · left; omega
    · right; exact ⟨by omega, lx_trans h1' h2'⟩
theorem lx_tri : ∀ {a b : List Int}, lx a b = false → lx b a = false → a = b
  | [], [], _, _ => rfl
  | [], _ :: _, h, _ => nomatch h
  | _ :: _, [], _, h => nomatch h
  | a :: as, b :: bs, h1, h2 => by
    simp only [lx, Bool.or_eq_false_iff, Bool.and_eq_false_iff, decide_eq_false_iff_not] at h1 h2
    have e : a = b := by omega
    subst e
    have e2 : as = bs := lx_tri (by simpa using h1.2) (by simpa using h2.2)
    rw [e2]
def tpD (g : List Int) : PyData := .tuple (g.map PyData.int)
theorem dataLt_lx : ∀ a b : List Int, PySem.W.dataLt (tpD a) (tpD b) = lx a b := by
  have key : ∀ a b : List Int, PyProof.Rows.lexLt itemOrd (PySem.W.keyToksAll (a.map PyData.int)) (PySem.W.keyToksAll (b.map PyData.int)) = lx a b := by
    intro a
    induction a with
    | nil =>
      intro b
      cases b with
      | nil =>
        show PyProof.Rows.lexLt itemOrd [Sum.inl 0] [Sum.inl 0] = false
        rw [lex_self (O := itemOrd)]
        rfl
      | cons b bs =>
        rw [List.map_cons, PySem.W.toks_all_cons]
        show PyProof.Rows.lexLt itemOrd [Sum.inl 0] (Sum.inl 1 :: _) = true
        rw [lex_diff (O := itemOrd) (by intro h; cases h)]
        rfl
    | cons a as ih =>
      intro b
      cases b with
      | nil =>
        rw [List.map_cons, PySem.W.toks_all_cons]
        show PyProof.Rows.lexLt itemOrd (Sum.inl 1 :: _) [Sum.inl 0] = false
        rw [lex_diff (O := itemOrd) (by intro h; cases h)]
        rfl
      | cons b bs =>
        rw [List.map_cons, List.map_cons, PySem.W.toks_all_cons, PySem.W.toks_all_cons, lex_self (O := itemOrd)]
        show PyProof.Rows.lexLt itemOrd (Sum.inl a :: PySem.W.keyToksAll _) (Sum.inl b :: PySem.W.keyToksAll _) = _
        by_cases e : a = b
        · subst e
          rw [lex_self (O := itemOrd), ih]
          simp [lx]
        · rw [lex_diff (O := itemOrd) (by intro h; cases h; exact e rfl)]
          show decide (a < b) = _
          simp [lx, e]
  intro a b
  show PyProof.Rows.lexLt itemOrd (PySem.W.keyToks (tpD a)) (PySem.W.keyToks (tpD b)) = _
  unfold tpD
  simp only [PySem.W.keyToks]
  exact key a b
theorem alikeInts : ∀ a b : List Int, PySem.W.alikeAll (a.map PyData.int) (b.map PyData.int) = true
  | [], b => by cases b <;> rfl
  | _ :: _, [] => rfl
  | a :: as, b :: bs => by
    show (PySem.W.alike (.int a) (.int b) && PySem.W.alikeAll (as.map PyData.int) (bs.map PyData.int)) = true
    rw [alikeInts as bs]
    rfl
theorem minD_lx : ∀ (ys : List (List Int)) (y : List Int), ∃ g, PySem.W.minD (tpD y) (ys.map tpD) = tpD g ∧ g ∈ y :: ys ∧ ∀ z ∈ y :: ys, lx z g = false := by
  intro ys
  induction ys with
  | nil => exact fun y => ⟨y, rfl, List.mem_cons_self, fun z hz => by rw [List.mem_singleton.mp hz]; exact lx_irr y⟩
  | cons k ys ih =>
    intro y
    have e : PySem.W.minD (tpD y) ((k :: ys).map tpD) = PySem.W.minD (if PySem.W.dataLt (tpD k) (tpD y) then tpD k else tpD y) (ys.map tpD) := rfl
    rw [e, dataLt_lx]
    cases c : lx k y with
    | true =>
      obtain ⟨g, e1, m, all⟩ := ih k
      refine ⟨g, by simpa using e1, ?_, fun z hz => ?_⟩
      · exact List.mem_cons_of_mem _ m
      · rcases List.mem_cons.mp hz with rfl | hz
        · cases d : lx z g with
          | false => rfl
          | true =>
            have := lx_trans c d
            rw [all k List.mem_cons_self] at this
            cases this
        · exact all z hz
    | false =>
      obtain ⟨g, e1, m, all⟩ := ih y
      refine ⟨g, by simpa using e1, ?_, fun z hz => ?_⟩
      · rcases List.mem_cons.mp m with rfl | m
        · exact List.mem_cons_self
        · exact List.mem_cons_of_mem _ (List.mem_cons_of_mem _ m)
      · rcases List.mem_cons.mp hz with rfl | hz
        · exact all z List.mem_cons_self
        · rcases List.mem_cons.mp hz with rfl | hz
          · cases d : lx z g with
            | false => rfl
            | true =>
              cases f : lx g y with
              | false =>
                have e2 := lx_tri (all y List.mem_cons_self) f
                subst e2
                rw [c] at d
                cases d
              | true =>
                have := lx_trans d f
                rw [c] at this
                cases this
          · exact all z (List.mem_cons_of_mem _ hz)
theorem depthTp : ∀ gs : List (List Int), PyData.depthAll (gs.map tpD) ≤ 2
  | [] => by simp [PyData.depthAll]
  | g :: gs => by
    have h := depthTp gs
    have h2 : ∀ l : List Int, PyData.depthAll (l.map PyData.int) ≤ 1 := fun l => by
      induction l with
      | nil => simp [PyData.depthAll]
      | cons x l ih => simp only [List.map_cons, PyData.depthAll, PyData.depth]; omega
    have h3 := h2 g
    simp only [List.map_cons, PyData.depthAll, tpD, PyData.depth]
    omega
def rMinDef (K : PySem.W.Frag) : List V → List V → Hp → VK → Prop := fun vs zs H Q => ∃ (a : Addr) (ws : List V) (gs : List (List Int)), vs = [V.ref a] ∧ zs = [.non] ∧ SqL K H a ws ∧ DpAll K H ws (gs.map tpD) ∧ (gs = [] → Q .non H) ∧
  ∀ (i : Nat) (v : V) (g : List Int), ws[i]? = some v → gs[i]? = some g → (∀ z ∈ gs, lx z g = false) → Q v H
theorem cr_minDef {X : Cx} (hc : X.calm = true) (hu : X.A.units + 64 < cLine) : CallRK X (.builtin "min") [Str.ofString "default"] (rMinDef X.K) := by
  intro pins s σ H vs zs us ws Q I r rz h
  obtain ⟨a, wv, gs, rfl, rfl, sq, dp, q0, q⟩ := h
  obtain rfl := Vals.ref1 r
  obtain ⟨w1, rfl, e1⟩ := vals1 rz
  obtain rfl : w1 = Value.none := e1
  obtain ⟨its, rv, hl, hz⟩ := I.list sq
  obtain ⟨as, rd⟩ := Dp.readsAll I _ _ _ dp rv
  have dt := depthTp gs
  refine PySem.W.min_list_default (I.ok.hd hc) hl.isList (by simpa using rd) ⟨fun x hx y hy => ?_, fun x hx e => ?_⟩ (by omega) (fun e h' tk hk => ?_) fun y ys i v h' tk bs e ev rd2 hk => ?_
  · obtain ⟨g, _, rfl⟩ := List.mem_map.mp hx
    obtain ⟨g', _, rfl⟩ := List.mem_map.mp hy
    exact alikeInts g g'
  · obtain ⟨g, _, rfl⟩ := List.mem_map.mp hx
    cases e
  · exact ⟨.non, H, I.kept hk, rfl, q0 (List.map_eq_nil_iff.mp e)⟩
  · cases gs with
    | nil => cases e
    | cons g0 gs =>
      rw [List.map_cons] at e
      obtain ⟨rfl, rfl⟩ := List.cons.inj e
      obtain ⟨g, eg, m, all⟩ := minD_lx gs g0
      rw [eg] at rd2
      rw [List.getElem?_toArray] at ev
      have il : i < wv.length := by
        have := (List.getElem?_eq_some_iff.mp ev).1
        have := rv.length
        omega
      have ew : wv[i]? = some wv[i] := List.getElem?_eq_getElem il
      obtain ⟨u, eu, ru⟩ := valsAt rv ew
      rw [ev] at eu
      cases eu
      obtain ⟨cs, r3, li, _, _⟩ := PySem.W.readsAll_at (by simpa using rd) i v ev
      have e4 := (Reads.unique (PySem.W.reads_keeps hk r3) _ _ rd2).1
      have lg : i < (g0 :: gs).length := by simpa using li
      have eg2 : (g0 :: gs)[i]? = some (g0 :: gs)[i] := List.getElem?_eq_getElem lg
      have e5 : (List.map tpD (g0 :: gs)).getD i .none = tpD (g0 :: gs)[i] := by
        rw [List.getD_eq_getElem?_getD, List.getElem?_map, eg2]
        rfl
      rw [List.map_cons] at e5
      rw [e5] at e4
      have e6 : (g0 :: gs)[i] = g := by
        have z := PyData.tuple.inj e4
        exact (List.map_inj_right (f := PyData.int) (fun _ _ h => PyData.int.inj h)).mp z
      rw [e6] at eg2
      exact ⟨wv[i], H, I.kept hk, ru, q i _ g ew eg2 all⟩
/-- a star among the items, within a block -/
theorem pa_starK {X : Cx} {K : PySem.W.Frag} {e : Expr} {es : List Expr} {te : TE} {t : TA} {p : Pos} (he : PE X e te) (hr : PA X es t) (hK : X.K = K := by rfl) (hs : starEach (.Starred e p :: es) X.env = (true, eval e X.env) :: starEach es X.env := by rfl) : PA X (.Starred e p :: es) (StX.tStar K te t) := by
  subst hK
  exact StX.pa_star he hr hs
end Pl
/-! zip(t, l) of a tuple and a list; len(set(t)) of a tuple of ints -/
namespace ZM
open PySem PySem.Spec
section
variable {prog : Program} {w : World} {A : Around} {E : Value → Shared → Prop} {s : Shared} {z TI TO i1 i2 l1 l2 : Addr} {k : Nat} {xs ys : Array Value} {x y a b : Value}
/-- the next pair of a zip over a tuple and a list -/
theorem next_item {Q : Value → Shared → Prop} (D : ZipApart z TI TO i1 i2 l1 l2) (hz : IsZip s.heap z TI TO .none) (hTI : IsPair s.heap TI (.ref i1) (.ref i2)) (hTO : IsPair s.heap TO a b)
    (h1 : s.heap.IsTupleIter i1 l1 k) (h2 : s.heap.IsListIter i2 l2 k) (hl1 : s.heap.IsTuple l1 xs) (hl2 : s.heap.IsList l2 ys) (hx : xs[k]? = some x) (hy : ys[k]? = some y)
    (hQ : ∀ h', IsZip h' z TI TO (rawInt s.heap.objs.size) → IsPair h' TO x y → h'.IsTupleIter i1 l1 (k + 1) → h'.IsListIter i2 l2 (k + 1) → IsPair h' s.heap.objs.size x y → h'.objs.size = s.heap.objs.size + 1 →
      (∀ c o, c ≠ z → c ≠ TO → c ≠ i1 → c ≠ i2 → s.heap.get? c = some o → h'.get? c = some o) → Q (.ref s.heap.objs.size) { s with heap := h' }) :
    wpAny (model prog w) A (Builtin.«zip.__next__» ⟨[.ref z], []⟩) (fun fin s' => ∃ v, fin = .done (.ret v) ∧ Q v s') E s := by
  show wpAny _ _ (field (.ref z) 2 >>= _) _ _ _
  refine wpAny_bind (wpAny_field hz rfl (x := .bool false) rfl ?_)
  show wpAny _ _ (field (.ref z) 3 >>= _) _ _ _
  refine wpAny_bind (wpAny_field hz rfl (x := .ref TI) rfl (wpAny_bind (wpAny_seqItems hTI rfl ?_)))
  show wpAny _ _ (Builtin.SmallTypes.ownedTupleIsFree (.ref z) >>= _) _ _ _
  refine wpAny_bind ?_
  unfold Builtin.SmallTypes.ownedTupleIsFree
  refine wpAny_bind (wpAny_field hz rfl (x := .none) rfl (wpAny_pure ?_))
  simp only [if_true]
  refine wpAny_bind (wpAny_rule (wpAny_bind (wpAny_field hz rfl (x := .ref TO) rfl (wpAny_bind (wpAny_setField_rec hz (by simp) fun g1 z1 c1 => ?_)))))
  have z1 : IsZip g1 z TI TO .ellipsis := z1
  refine wpAny_bind ?_
  simp only [List.zipIdx_cons, List.zipIdx_nil, List.forIn_cons, List.forIn_nil]
  refine wpAny_bind (wpAny_bind (wpAny_onRaise ?_))
  show wpAny _ _ (Builtin.SmallTypes.nextOf (.ref i1) >>= _) _ _ _
  refine wpAny_bind (RZ.nextOf_tuple_item (h1.extBut c1.extBut D.i1z) (hl1.extBut c1.extBut D.l1z) hx fun g2 n1 c2 => wpAny_pure ?_)
  have t2 : IsPair g2 TO a b := c2.extBut _ _ D.TOi1 (c1.extBut _ _ D.TOz hTO)
  refine wpAny_bind (wpAny_seqItems t2 rfl (wpAny_bind (wpAny_updateSeq_pair t2 fun g3 t3 c3 => wpAny_bind (wpAny_letGo (wpAny_pure ?_)))))
  have t3 : IsPair g3 TO x b := t3
  refine wpAny_bind (wpAny_bind (wpAny_onRaise ?_))
  show wpAny _ _ (Builtin.SmallTypes.nextOf (.ref i2) >>= _) _ _ _
  refine wpAny_bind (wpAny_nextOf_list_item (((h2.extBut c1.extBut D.i2z).extBut c2.extBut D.i12.symm).extBut c3.extBut D.TOi2.symm) (((hl2.extBut c1.extBut D.l2z).extBut c2.extBut D.l2i1).extBut c3.extBut D.l2TO) hy fun g4 n2 c4 => wpAny_pure ?_)
  have t4 : IsPair g4 TO x b := c4.extBut _ _ D.TOi2 t3
  refine wpAny_bind (wpAny_seqItems t4 rfl (wpAny_bind (wpAny_updateSeq_pair t4 fun g5 t5 c5 => wpAny_bind (wpAny_letGo (wpAny_pure (wpAny_pure ?_))))))
  have t5 : IsPair g5 TO x y := t5
  refine wpAny_bind (wpAny_seqItems t5 rfl (wpAny_bind (wpAny_newTuple ?_)))
  have sz : g5.objs.size = s.heap.objs.size := by rw [c5.1, c4.1, c3.1, c2.1, c1.1]
  have z5 : IsZip g5 z TI TO .ellipsis := c5.extBut _ _ D.TOz.symm (c4.extBut _ _ D.i2z.symm (c3.extBut _ _ D.TOz.symm (c2.extBut _ _ D.i1z.symm z1)))
  have m1 := ((n1.extBut c3.extBut D.TOi1.symm).extBut c4.extBut D.i12).extBut c5.extBut D.TOi1.symm
  have m2 := n2.extBut c5.extBut D.TOi2.symm
  have lz : z < g5.objs.size := Heap.lt_size z5
  show wpAny _ _ (Builtin.SmallTypes.ownedTupleHandOut (.ref z) (.ref g5.objs.size) >>= _) _ _ _
  refine wpAny_bind ?_
  unfold Builtin.SmallTypes.ownedTupleHandOut
  have z6 : IsZip (g5.push { cls := .type "tuple", data := .seq #[x, y] }) z TI TO .ellipsis := Heap.get?_push_of_some _ z5
  refine wpAny_bind (wpAny_setField_rec z6 (by simp) fun g7 z7 c7 => ?_)
  have z7 : IsZip g7 z TI TO (rawInt g5.objs.size) := z7
  refine wpAny_setField_rec z7 (by simp) fun g8 z8 c8 => wpAny_pure ⟨_, rfl, ?_⟩
  have z8 : IsZip g8 z TI TO (rawInt g5.objs.size) := z8
  have up : ∀ c o, c ≠ z → g5.get? c = some o → g8.get? c = some o := fun c o n e => c8.extBut _ _ n (c7.extBut _ _ n (Heap.get?_push_of_some _ e))
  have new : IsPair g8 g5.objs.size x y := c8.extBut _ _ (Nat.ne_of_gt lz) (c7.extBut _ _ (Nat.ne_of_gt lz) (Heap.get?_push_size _ rfl))
  have s8 : g8.objs.size = g5.objs.size + 1 := by rw [c8.1, c7.1, Heap.size_push]
  show Q (.ref g5.objs.size) _
  rw [sz] at z8 new s8 ⊢
  exact hQ g8 z8 (up _ _ D.TOz t5) (m1.at fun o e => up _ o D.i1z e) (m2.at fun o e => up _ o D.i2z e) new s8 fun c o n1 n2 n3 n4 e => up c o n1 (c5.extBut _ _ n2 (c4.extBut _ _ n4 (c3.extBut _ _ n2 (c2.extBut _ _ n3 (c1.extBut _ _ n1 e)))))
theorem next_end {Q : Fin → Shared → Prop} (hh : A.handled = none) (D : ZipApart z TI TO i1 i2 l1 l2) (hz : IsZip s.heap z TI TO .none) (hTI : IsPair s.heap TI (.ref i1) (.ref i2)) (hTO : IsPair s.heap TO a b)
    (h1 : s.heap.IsTupleIter i1 l1 k) (h2 : s.heap.IsListIter i2 l2 k) (hl1 : s.heap.IsTuple l1 xs) (hl2 : s.heap.IsList l2 ys) (hend : xs[k]? = none ∨ ys[k]? = none)
    (hE : ∀ h' e, (∀ c o, c ≠ z → c ≠ TO → c ≠ i1 → c ≠ i2 → s.heap.get? c = some o → h'.get? c = some o) → (∃ o, h'.get? e = some o ∧ o.cls = .type "StopIteration") → E (.ref e) { s with heap := h' }) :
    wpAny (model prog w) A (Builtin.«zip.__next__» ⟨[.ref z], []⟩) Q E s := by
  show wpAny _ _ (field (.ref z) 2 >>= _) _ _ _
  refine wpAny_bind (wpAny_field hz rfl (x := .bool false) rfl ?_)
  show wpAny _ _ (field (.ref z) 3 >>= _) _ _ _
  refine wpAny_bind (wpAny_field hz rfl (x := .ref TI) rfl (wpAny_bind (wpAny_seqItems hTI rfl ?_)))
  show wpAny _ _ (Builtin.SmallTypes.ownedTupleIsFree (.ref z) >>= _) _ _ _
  refine wpAny_bind ?_
  unfold Builtin.SmallTypes.ownedTupleIsFree
  refine wpAny_bind (wpAny_field hz rfl (x := .none) rfl (wpAny_pure ?_))
  simp only [if_true]
  refine wpAny_bind (wpAny_rule (wpAny_bind (wpAny_field hz rfl (x := .ref TO) rfl (wpAny_bind (wpAny_setField_rec hz (by simp) fun g1 z1 c1 => ?_)))))
  have z1 : IsZip g1 z TI TO .ellipsis := z1
  refine wpAny_bind ?_
  simp only [List.zipIdx_cons, List.zipIdx_nil, List.forIn_cons, List.forIn_nil]
  refine wpAny_bind (wpAny_bind (wpAny_onRaise ?_))
  show wpAny _ _ (Builtin.SmallTypes.nextOf (.ref i1) >>= _) _ _ _
  have stop : ∀ (g : Heap) (e : Addr), IsZip g z TI TO .ellipsis → (∃ o, g.get? e = some o ∧ o.cls = .type "StopIteration") → e ≠ z := fun g e gz ⟨o, ho, hc⟩ q => by
    subst q
    rw [gz] at ho
    cases ho
    simp at hc
  cases ex : xs[k]? with
  | none =>
    refine wpAny_bind (RZ.nextOf_tuple_end hh (h1.extBut c1.extBut D.i1z) (hl1.extBut c1.extBut D.l1z) ex fun g2 e c2 he => ?_)
    have z2 : IsZip g2 z TI TO .ellipsis := c2 _ _ D.i1z.symm z1
    have ne := stop g2 e z2 he
    obtain ⟨o, ho, hc⟩ := he
    exact wpAny_setField_rec z2 (by simp) fun g3 _ c3 => hE g3 e (fun c o n1 _ n3 _ q => c3.extBut _ _ n1 (c2 _ _ n3 (c1.extBut _ _ n1 q))) ⟨o, c3.extBut _ _ ne ho, hc⟩
  | some x =>
    have ey : ys[k]? = none := by
      rcases hend with q | q
      · rw [ex] at q; cases q
      · exact q
    refine wpAny_bind (RZ.nextOf_tuple_item (h1.extBut c1.extBut D.i1z) (hl1.extBut c1.extBut D.l1z) ex fun g2 n1 c2 => wpAny_pure ?_)
    have t2 : IsPair g2 TO a b := c2.extBut _ _ D.TOi1 (c1.extBut _ _ D.TOz hTO)
    refine wpAny_bind (wpAny_seqItems t2 rfl (wpAny_bind (wpAny_updateSeq_pair t2 fun g3 t3 c3 => wpAny_bind (wpAny_letGo (wpAny_pure ?_)))))
    refine wpAny_bind (wpAny_bind (wpAny_onRaise ?_))
    show wpAny _ _ (Builtin.SmallTypes.nextOf (.ref i2) >>= _) _ _ _
    refine wpAny_bind (wpAny_nextOf_list_end hh (((h2.extBut c1.extBut D.i2z).extBut c2.extBut D.i12.symm).extBut c3.extBut D.TOi2.symm) (((hl2.extBut c1.extBut D.l2z).extBut c2.extBut D.l2i1).extBut c3.extBut D.l2TO) ey fun g4 e c4 he => ?_)
    have z4 : IsZip g4 z TI TO .ellipsis := c4 _ _ D.i2z.symm (c3.extBut _ _ D.TOz.symm (c2.extBut _ _ D.i1z.symm z1))
    have ne := stop g4 e z4 he
    obtain ⟨o, ho, hc⟩ := he
    exact wpAny_setField_rec z4 (by simp) fun g5 _ c5 => hE g5 e (fun c o n1 n2 n3 n4 q => c5.extBut _ _ n1 (c4 _ _ n4 (c3.extBut _ _ n2 (c2.extBut _ _ n3 (c1.extBut _ _ n1 q))))) ⟨o, c5.extBut _ _ ne ho, hc⟩
theorem py_item {Q : Option Value → Shared → Prop} (D : ZipApart z TI TO i1 i2 l1 l2) (hz : IsZip s.heap z TI TO .none) (hTI : IsPair s.heap TI (.ref i1) (.ref i2)) (hTO : IsPair s.heap TO a b)
    (h1 : s.heap.IsTupleIter i1 l1 k) (h2 : s.heap.IsListIter i2 l2 k) (hl1 : s.heap.IsTuple l1 xs) (hl2 : s.heap.IsList l2 ys) (hx : xs[k]? = some x) (hy : ys[k]? = some y)
    (hQ : ∀ h', IsZip h' z TI TO (rawInt s.heap.objs.size) → IsPair h' TO x y → h'.IsTupleIter i1 l1 (k + 1) → h'.IsListIter i2 l2 (k + 1) → IsPair h' s.heap.objs.size x y → h'.objs.size = s.heap.objs.size + 1 →
      (∀ c o, c ≠ z → c ≠ TO → c ≠ i1 → c ≠ i2 → s.heap.get? c = some o → h'.get? c = some o) → Q (some (.ref s.heap.objs.size)) { s with heap := h' }) :
    wpAny (model prog w) A (pyNext (.ref z)) Q E s := by
  have hT : s.TypeIs (.ref z) "zip" := ⟨_, hz, rfl⟩
  unfold pyNext
  exact wpAny_bind (wpAny_attempt (wpAny_callSpecial?_slot (name := Str.ofString "__next__") hT F.slot_zip_next (wpAny_call_entry F.slot_zip_next hT F.entry_zip_next
    (next_item D hz hTI hTO h1 h2 hl1 hl2 hx hy fun h' a1 a2 a3 a4 a5 a6 a7 => wpAny_pure (hQ h' a1 a2 a3 a4 a5 a6 a7)) (F.args_zip_next_1 _))))
theorem py_end {Q : Option Value → Shared → Prop} (hh : A.handled = none) (D : ZipApart z TI TO i1 i2 l1 l2) (hz : IsZip s.heap z TI TO .none) (hTI : IsPair s.heap TI (.ref i1) (.ref i2)) (hTO : IsPair s.heap TO a b)
    (h1 : s.heap.IsTupleIter i1 l1 k) (h2 : s.heap.IsListIter i2 l2 k) (hl1 : s.heap.IsTuple l1 xs) (hl2 : s.heap.IsList l2 ys) (hend : xs[k]? = none ∨ ys[k]? = none)
    (hQ : ∀ h', (∀ c o, c ≠ z → c ≠ TO → c ≠ i1 → c ≠ i2 → s.heap.get? c = some o → h'.get? c = some o) → Q none { s with heap := h' }) : wpAny (model prog w) A (pyNext (.ref z)) Q E s := by
  have hT : s.TypeIs (.ref z) "zip" := ⟨_, hz, rfl⟩
  unfold pyNext
  refine wpAny_bind (wpAny_attempt (wpAny_callSpecial?_slot (name := Str.ofString "__next__") hT F.slot_zip_next (wpAny_call_entry F.slot_zip_next hT F.entry_zip_next (next_end hh D hz hTI hTO h1 h2 hl1 hl2 hend fun h' e hk ⟨o, ho, hc⟩ => ?_) (F.args_zip_next_1 _))))
  exact wpAny_bind (wpAny_isInstance (T := "StopIteration") (b := true) ⟨o, ho, hc⟩ isSubtype_stop (wpAny_pure (hQ _ hk)))
end
/-- the five objects of zip(t, l) -/
def objs5 (h : Heap) (l1 l2 : Addr) : Heap :=
  ((((h.push { cls := .type "tuple_iterator", data := .fields #[.ref l1, .int 0 0] }).push { cls := .type "list_iterator", data := .fields #[.ref l2, .int 0 0] }).push { cls := .type "tuple", data := .seq #[.ref h.objs.size, .ref (h.objs.size + 1)] }).push { cls := .type "tuple", data := .seq #[.none, .none] }).push
    { cls := .type "zip", data := .fields #[.none, .bool false, .bool false, .ref (h.objs.size + 2), .ref (h.objs.size + 3)] }
theorem meets_new (l1 l2 : Addr) (xs ys : Array Value) :
    Meets (Builtin.«zip.__new__» ⟨[.type "zip", .ref l1, .ref l2], []⟩) (fun _ R s => s.heap.IsTuple l1 xs ∧ s.heap.IsList l2 ys ∧ R (.ok (.ret (.ref (s.heap.objs.size + 4)))) { s with heap := objs5 s.heap l1 l2 }) :=
  .of_wp fun prog w A R s h => by
    obtain ⟨hp, g, d, tk, os⟩ := s
    obtain ⟨hl1, hl2, h⟩ := h
    have hsub := sub_zip
    have hL1 : Heap.IsTuple (Shared.heap ⟨hp, g, d, tk, os⟩) l1 xs := hl1
    have hL2 : Heap.IsList (Shared.heap ⟨hp.push { cls := .type "tuple_iterator", data := .fields #[.ref l1, .int 0 0] }, g, d, tk, os⟩) l2 ys := hl2.push _
    have e1 : (hp.push { cls := .type "tuple_iterator", data := .fields #[.ref l1, .int 0 0] }).objs.size = hp.objs.size + 1 := Heap.size_push ..
    have e2 : ((hp.push { cls := .type "tuple_iterator", data := .fields #[.ref l1, .int 0 0] }).push { cls := .type "list_iterator", data := .fields #[.ref l2, .int 0 0] }).objs.size = hp.objs.size + 2 := by rw [Heap.size_push, e1]
    wp_walk using wpAny_pyIter_tuple hL1, wpAny_pyIter_list hL2
    refine ⟨_, rfl, ?_⟩
    simp only [Heap.size_push]
    exact h
theorem call_new {l1 l2 : Addr} {xs ys : Array Value} {prog : Program} {w : World} {A : Around} {E : Value → Shared → Prop} {s : Shared} {Q : Value → Shared → Prop} (hl1 : s.heap.IsTuple l1 xs) (hl2 : s.heap.IsList l2 ys)
    (h : ∀ h', IsZip h' (s.heap.objs.size + 4) (s.heap.objs.size + 2) (s.heap.objs.size + 3) .none → IsPair h' (s.heap.objs.size + 2) (.ref s.heap.objs.size) (.ref (s.heap.objs.size + 1)) → IsPair h' (s.heap.objs.size + 3) .none .none →
      h'.IsTupleIter s.heap.objs.size l1 0 → h'.IsListIter (s.heap.objs.size + 1) l2 0 → h'.objs.size = s.heap.objs.size + 5 → (∀ c o, s.heap.get? c = some o → h'.get? c = some o) → Q (.ref (s.heap.objs.size + 4)) { s with heap := h' }) :
    wpAny (model prog w) A (call (.type "zip") [.ref l1, .ref l2]) Q E s := by
  refine callType_new F.called_zip (by decide) (F.typeCall_zip_2 _ _) (F.newCall_zip_2 _ _) (fun obj => F.args_object_init_3 obj _ _) F.entry_zip_new (meets_new l1 l2 xs ys) ⟨hl1, hl2, ?_⟩
  generalize ho1 : ({ cls := .type "tuple_iterator", data := .fields #[.ref l1, .int 0 0] } : Obj) = o1
  generalize ho2 : ({ cls := .type "list_iterator", data := .fields #[.ref l2, .int 0 0] } : Obj) = o2
  generalize ho3 : ({ cls := .type "tuple", data := .seq #[.ref s.heap.objs.size, .ref (s.heap.objs.size + 1)] } : Obj) = o3
  generalize ho4 : ({ cls := .type "tuple", data := .seq #[.none, .none] } : Obj) = o4
  generalize ho5 : ({ cls := .type "zip", data := .fields #[.none, .bool false, .bool false, .ref (s.heap.objs.size + 2), .ref (s.heap.objs.size + 3)] } : Obj) = o5
  have e : objs5 s.heap l1 l2 = ((((s.heap.push o1).push o2).push o3).push o4).push o5 := by rw [← ho1, ← ho2, ← ho3, ← ho4, ← ho5]; rfl
  have z1 : (s.heap.push o1).objs.size = s.heap.objs.size + 1 := Heap.size_push ..
  have z2 : ((s.heap.push o1).push o2).objs.size = s.heap.objs.size + 2 := by rw [Heap.size_push, z1]
  have z3 : (((s.heap.push o1).push o2).push o3).objs.size = s.heap.objs.size + 3 := by rw [Heap.size_push, z2]
  have z4 : ((((s.heap.push o1).push o2).push o3).push o4).objs.size = s.heap.objs.size + 4 := by rw [Heap.size_push, z3]
  have n1 : o1.isFreed = false := by rw [← ho1]; rfl
  have n2 : o2.isFreed = false := by rw [← ho2]; rfl
  have n3 : o3.isFreed = false := by rw [← ho3]; rfl
  have n4 : o4.isFreed = false := by rw [← ho4]; rfl
  have n5 : o5.isFreed = false := by rw [← ho5]; rfl
  have g5 := Heap.get?_push_size ((((s.heap.push o1).push o2).push o3).push o4) n5
  have g4 := Heap.get?_push_of_some o5 (Heap.get?_push_size (((s.heap.push o1).push o2).push o3) n4)
  have g3 := Heap.get?_push_of_some o5 (Heap.get?_push_of_some o4 (Heap.get?_push_size ((s.heap.push o1).push o2) n3))
  have g2 := Heap.get?_push_of_some o5 (Heap.get?_push_of_some o4 (Heap.get?_push_of_some o3 (Heap.get?_push_size (s.heap.push o1) n2)))
  have g1 := Heap.get?_push_of_some o5 (Heap.get?_push_of_some o4 (Heap.get?_push_of_some o3 (Heap.get?_push_of_some o2 (Heap.get?_push_size s.heap n1))))
  rw [z4] at g5
  rw [z3] at g4
  rw [z2] at g3
  rw [z1] at g2
  rw [← e] at g1 g2 g3 g4 g5
  subst ho1 ho2 ho3 ho4 ho5
  exact ⟨⟨_, g5, rfl⟩, h _ g5 g3 g4 ⟨_, g1, rfl, rfl⟩ ⟨_, g2, rfl, rfl⟩ (by rw [e, Heap.size_push, z4]) fun c o x => by
    rw [e]
    exact Heap.get?_push_of_some _ (Heap.get?_push_of_some _ (Heap.get?_push_of_some _ (Heap.get?_push_of_some _ (Heap.get?_push_of_some _ x))))⟩
end ZM
namespace Pl
open PySem PySem.Spec PyProof.Rows L2
/-- the tuple at a and the list at b as they stand at each turn, the items in new pairs -/
def ItzM (K : PySem.W.Frag) (a b : Addr) : It :=
  ⟨fun i H => ∃ (xs ys : List V) (x y : V), SqT K H a xs ∧ SqL K H b ys ∧ xs[i]? = some x ∧ ys[i]? = some y,
    fun i H v H' => ∃ T x y, v = .ref T ∧ H T = none ∧ H' = upd H T (.tup [x, y]) ∧ (∀ xs, SqT K H a xs → xs[i]? = some x) ∧ ∀ ys, SqL K H b ys → ys[i]? = some y,
    fun i H => ∃ xs ys : List V, SqT K H a xs ∧ SqL K H b ys ∧ (xs.length ≤ i ∨ ys.length ≤ i)⟩
theorem list_inj {X : Cx} {pins : List (Addr × Obj)} {σ : L2.St} {H : Hp} {s : Shared} {a : Addr} {xs ys : List V} (I : Inv X pins σ H s) (h : SqL X.K H a xs) (h' : SqL X.K H a ys) : xs = ys := I.list_inj h h'
theorem turn_zipM {P : Program} {w : World} {K : PySem.W.Frag} {elts : List Expr} {kk : Nat} {tpos : Pos} {a b z TI TO i1 i2 : Addr} (D : ZipApart z TI TO i1 i2 a b) :
    Turn P w K (.Tuple elts kk tpos) (ItzM K a b) [z, TI, TO, i1, i2] z (fun i h => IsZip h z TI TO .none ∧ PySem.IsPair h TI (.ref i1) (.ref i2) ∧ (∃ x y, PySem.IsPair h TO x y) ∧ h.IsTupleIter i1 a i ∧ h.IsListIter i2 b i) where
  mem := by simp
  obj := fun i h st c hc => by
    obtain ⟨hz, hTI, ⟨x, y, hTO⟩, ⟨o1, e1, _, d1⟩, ⟨o2, e2, _, d2⟩⟩ := st
    rcases (by simpa using hc : c = z ∨ c = TI ∨ c = TO ∨ c = i1 ∨ c = i2) with q | q | q | q | q <;> rw [q]
    · exact ⟨_, hz, fun v q => nomatch q⟩
    · exact ⟨_, hTI, fun v q => nomatch q⟩
    · exact ⟨_, hTO, fun v q => nomatch q⟩
    · exact ⟨o1, e1, fun v q => by rw [d1] at q; cases q⟩
    · exact ⟨o2, e2, fun v q => by rw [d2] at q; cases q⟩
  keep := fun i h h' st k => by
    obtain ⟨hz, hTI, ⟨x, y, hTO⟩, h1, h2⟩ := st
    exact ⟨k z (by simp) _ hz, k TI (by simp) _ hTI, ⟨x, y, k TO (by simp) _ hTO⟩, h1.at fun o q => k i1 (by simp) o q, h2.at fun o q => k i2 (by simp) o q⟩
  item := by
    intro X hP hw hK hc i pins s σ H E I hf st hg
    subst hP hw hK
    obtain ⟨hz, hTI, ⟨x0, y0, hTO⟩, h1, h2⟩ := st
    obtain ⟨xs, ys, x, y, hqx, hqy, hx, hy⟩ := hg
    obtain ⟨its, rv, p, _⟩ := I.tuple hqx
    obtain ⟨its2, rv2, p2, _⟩ := I.list hqy
    obtain ⟨u, hu, ru⟩ := rv.get hx
    obtain ⟨u2, hu2, ru2⟩ := rv2.get hy
    have hzl : z < s.heap.objs.size := Heap.lt_size hz
    refine ZM.py_item D hz hTI hTO h1 h2 p p2.isList (x := u) (y := u2) (by simpa using hu) (by simpa using hu2) fun h' z' TO' h1' h2' hT hsz hk => ?_
    refine ⟨_, rfl, wpAny_letOwnedTupleGo_zip (s := { s with heap := h' }) z' fun h'' z'' sb => ?_⟩
    have hT2 : h''.get? s.heap.objs.size = some { cls := .type "tuple", data := .seq #[u, u2] } := (sb.2 _ (Nat.ne_of_gt hzl)).trans hT
    have new : ObjOk X.prog X.w (upd H s.heap.objs.size (.tup [x, y])) h'' s.heap.objs.size (.tup [x, y]) := ⟨by show 2 ≤ sizeLine; decide, [u, u2], .cons ru (.cons ru2 .nil), ⟨_, hT2, rfl, _, rfl⟩⟩
    have I1 : Inv X pins σ (upd H s.heap.objs.size (.tup [x, y])) { s with heap := h'' } :=
      I.turnedNew (t' := s.toks) (ch := [z, TI, TO, i1, i2]) (fun c o hb q => (sb.2 c (fun q' => hb (by simp [q']))).trans (hk c o (fun q' => hb (by simp [q'])) (fun q' => hb (by simp [q'])) (fun q' => hb (by simp [q'])) (fun q' => hb (by simp [q'])) q)) hf (Nat.le_refl _) new
    refine ⟨.ref s.heap.objs.size, _, I1, rfl, ⟨_, x, y, rfl, I.hok.fresh (Nat.le_refl _), rfl, fun l hl => by rw [I.tuple_inj hl hqx]; exact hx, fun l hl => by rw [list_inj I hl hqy]; exact hy⟩, ⟨z'', ?_, ⟨u, u2, ?_⟩, ?_, ?_⟩, fun c hcm => ?_⟩
    · exact (sb.2 _ D.TIz).trans (hk _ _ D.TIz D.TITO D.TIi1 D.TIi2 hTI)
    · exact (sb.2 _ D.TOz).trans TO'
    · exact h1'.at fun o q => (sb.2 _ D.i1z).trans q
    · exact h2'.at fun o q => (sb.2 _ D.i2z).trans q
    · have hlt : c < s.heap.objs.size := by
        rcases (by simpa using hcm : c = z ∨ c = TI ∨ c = TO ∨ c = i1 ∨ c = i2) with q | q | q | q | q <;> rw [q]
        · exact hzl
        · exact Heap.lt_size hTI
        · exact Heap.lt_size hTO
        · obtain ⟨_, e1, _⟩ := h1; exact Heap.lt_size e1
        · obtain ⟨_, e2, _⟩ := h2; exact Heap.lt_size e2
      rw [upd_ne (Nat.ne_of_lt hlt)]
      exact (hf c hcm).1
  done := by
    intro X hP hw hK hc i pins s σ H E I hf st hg
    subst hP hw hK
    obtain ⟨hz, hTI, ⟨x0, y0, hTO⟩, h1, h2⟩ := st
    obtain ⟨xs, ys, hqx, hqy, hend⟩ := hg
    obtain ⟨its, rv, p, _⟩ := I.tuple hqx
    obtain ⟨its2, rv2, p2, _⟩ := I.list hqy
    have l1 := rv.length
    have l2 := rv2.length
    have he : its.toArray[i]? = none ∨ its2.toArray[i]? = none := by
      rcases hend with q | q
      · exact .inl (by simp; omega)
      · exact .inr (by simp; omega)
    exact ZM.py_end (I.ok.hd hc) D hz hTI hTO h1 h2 p p2.isList he fun h' hk => ⟨rfl, I.turnedL (t' := s.toks) (ch := [z, TI, TO, i1, i2]) (fun c o hb q =>
      hk c o (fun q' => hb (by simp [q'])) (fun q' => hb (by simp [q'])) (fun q' => hb (by simp [q'])) (fun q' => hb (by simp [q'])) q) hf⟩
  self := fun A i s Q E st h => wpAny_pyIter_zip st.1 h
def iZipM (K : PySem.W.Frag) (ta : TA) : TI := fun σ H R => ta σ H fun vs H1 => ∃ a b xs ys, vs = [.ref a, .ref b] ∧ SqT K H1 a xs ∧ SqL K H1 b ys ∧ R (ItzM K a b) H1
theorem pi_zipM {X : Cx} {e e2 : Expr} {ta : TA} {p pos tpos : Pos} {elts : List Expr} {kk : Nat} (hg : Gl X "zip") (hm : X.mg "zip" = none) (ha : PA X [e, e2] ta)
    (hs : starEach [e, e2] X.env = (false, eval e X.env) :: starEach [e2] X.env := by rfl) (hpl : (backTo pos (starEach [e2] X.env)).any (·.1) = false := by rfl) :
    PI X (.Tuple elts kk tpos) (.Call (.Name "zip" p) [e, e2] [] pos) (iZipM X.K ta) := by
  refine ⟨fun pins s σ H R I h => ?_⟩
  refine Call_ (ld_blt I hg hm PyProof.Rows.boot_zip (PyProof.Rows.callWith_type1 (thn (ha.run pos pins s σ H _ I h) fun us s1 ⟨vs, H1, I1, r1, q1⟩ => ?_) hs hpl))
  obtain ⟨a, b, xs, ys, rfl, hqx, hqy, q⟩ := q1
  obtain ⟨u1, u2, rfl, ra, rb⟩ := vals2 r1
  cases ra
  cases rb
  obtain ⟨its, rv, p1, _⟩ := I1.tuple hqx
  obtain ⟨its2, rv2, p2, _⟩ := I1.list hqy
  obtain ⟨o1, ho1, _⟩ := id p1
  have fresh5 : ∀ c, c ∈ [s1.heap.objs.size + 4, s1.heap.objs.size + 2, s1.heap.objs.size + 3, s1.heap.objs.size, s1.heap.objs.size + 1] → FpOk X pins H1 c := fun c hcm => by
    have hle : s1.heap.objs.size ≤ c := by
      rcases (by simpa using hcm : c = s1.heap.objs.size + 4 ∨ c = s1.heap.objs.size + 2 ∨ c = s1.heap.objs.size + 3 ∨ c = s1.heap.objs.size ∨ c = s1.heap.objs.size + 1) with z | z | z | z | z <;> rw [z]
      · exact Nat.le_add_right _ _
      · exact Nat.le_add_right _ _
      · exact Nat.le_add_right _ _
      · exact Nat.le_refl _
      · exact Nat.le_add_right _ _
    exact I1.fpOk hle (I1.hok.fresh hle)
  refine ZM.call_new (show s1.heap.IsTuple a its.toArray from p1) p2.isList fun h' hz hTI hTO h1 h2 hsz hk => wpAny_pyIter_zip hz ?_
  have I2 : Inv X pins σ H1 { s1 with heap := h' } := I1.kept (t' := s1.toks) hk
  exact ⟨s1.heap.objs.size + 4, [s1.heap.objs.size + 4, s1.heap.objs.size + 2, s1.heap.objs.size + 3, s1.heap.objs.size, s1.heap.objs.size + 1], _, _, H1, rfl, I2, turn_zipM (PySem.W.ktu_apart s1.heap.objs.size a b (Heap.lt_size ho1) p2.lt), ⟨hz, hTI, ⟨_, _, hTO⟩, h1, h2⟩, fresh5, q⟩
theorem walk_zipM {K : PySem.W.Frag} {a b : Addr} {xs ys : List V} (ln : xs.length = ys.length) : Walk (ItzM K a b) xs.length (fun H => SqT K H a xs ∧ SqL K H b ys) (YPair (fun i => xs[i]?) (fun i => ys[i]?)) := by
  refine ⟨?_, ?_, ?_⟩
  · intro i H hi q
    exact ⟨xs, ys, xs[i], ys[i]'(by omega), q.1, q.2, List.getElem?_eq_getElem hi, List.getElem?_eq_getElem (by omega)⟩
  · intro H q
    exact ⟨xs, ys, q.1, q.2, .inl (Nat.le_refl _)⟩
  · rintro i H v H' hi q ⟨T, x, y, e, n, e2, h1, h2⟩
    exact ⟨T, x, y, e, n, e2, h1 xs q.1, h2 ys q.2⟩
/-! len(set(t)) of a tuple of ints -/
def tLenSetT (K : PySem.W.Frag) (ta : TE) : TE := fun σ H Q => ta σ H fun x H1 => ∃ (l : Addr) (ns : List Int), x = .ref l ∧ SqT K H1 l (ns.map V.int) ∧ ns.length ≤ 1000 ∧ ∀ ks : List Int, ks.Nodup → (∀ k, k ∈ ks ↔ k ∈ ns) → Q (.int (ks.length : Nat)) H1
theorem pe_lenSetT {X : Cx} {a : Expr} {ta : TE} {p p2 q pos : Pos} (hg : Gl X "len") (hm : X.mg "len" = none) (hg2 : Gl X "set") (hm2 : X.mg "set" = none) (ha : PE X a ta) (hc : X.calm = true := by rfl)
    (na : starEach [a] X.env = (false, eval a X.env) :: starEach [] X.env := by rfl) : PE X (.Call (.Name "len" p) [.Call (.Name "set" p2) [a] [] q] [] pos) (tLenSetT X.K ta) := by
  refine ⟨fun pins s σ H Q I h => ?_⟩
  refine Call_ (ld_blt I hg hm boot_len ?_)
  refine PyProof.Rows.callWith_builtin1 (PyProof.Rows.args_cons ?_ rfl) rfl rfl
  refine Call_ (ld_blt I hg2 hm2 PyProof.Rows.boot_set ?_)
  refine PyProof.Rows.callWith_type1 (PyProof.Rows.args_cons (thn (ha.run pins s σ H _ I h) fun v s1 ⟨x, H1, I1, r1, q1⟩ => PyProof.Rows.args_nil ?_) na) na rfl
  obtain ⟨l, ns, rfl, hq, hl, q1⟩ := q1
  cases r1
  obtain ⟨its, rv, pt, hz⟩ := I1.tuple hq
  have hi : IntsAre its.toArray.toList ns := by
    have := rv.ints
    simpa using this
  refine call_set_tupI ns (I1.ok.hd hc) (show s1.heap.IsTuple l its.toArray from pt) hi (by unfold scanBound; omega) fun h' tk c R1 hcn k => ?_
  obtain ⟨o, es, ep, t, ho, hex, hdt, g, nd, hm3, hb, hf, hn, hr, hl2⟩ := R1
  refine PyProof.Rows.args_nil ?_
  have I2 : Inv X pins σ H1 { s1 with heap := h', toks := tk } := I1.kept k
  have le : (es.toList.map keyOf).length = es.size := by rw [List.length_map, Array.length_toList]
  refine call_len_set ho hex hdt hf (by rw [hn]; omega) ⟨.int ((es.toList.map keyOf).length : Nat), H1, I2.tok _, ⟨_, by rw [le]⟩, q1 _ nd fun j => ?_⟩
  rw [← hm3 j]
  exact decide_eq_true_iff
/-- b is not True -/
def rIsntBl : R2 := fun x y H Q => ∃ b c : Bool, x = .bl b ∧ y = .bl c ∧ Q (.bl (!decide (b = c))) H
theorem op_isnotBl {X : Cx} : OpR X (compareOp .IsNot) rIsntBl := by
  intro pins s σ H x y v u Q I rx ry h
  obtain ⟨b, c, rfl, rfl, q⟩ := h
  cases rx
  cases ry
  show wpAny _ _ ((isSame (Value.bool b) (Value.bool c)) >>= fun z => pure (Value.bool (!z))) _ _ s
  exact wpAny_bind (wpAny_isSame_plain (by cases b <;> cases c <;> rfl) (wpAny_pure (fin_bl I q (by cases b <;> cases c <;> rfl))))
end Pl

namespace Pl
open PySem PySem.Spec PyProof.Rows L2
/-! methods of lists within a comprehension -/
theorem pe_bmK {X : Cx} {K : PySem.W.Frag} {o e : Expr} {es : List Expr} {to : TE} {t : TA} {name : Str} {apos cpos : Pos} {T id : String} {r : V → List V → Hp → VK → Prop} (pa : PlainAttrs T) (slot : Slot T name id) (hty : typeOf (.builtin id) = pure (.type "method_descriptor")) (hm : MtR X id r) (ho : PE X o to) (ha : PA X (e :: es) t) (hK : X.K = K := by rfl)
    (hbase : attributeBase o name X.env (eval o X.env) = eval o X.env := by rfl)
    (hfew : ((backTo cpos (starEach (e :: es) X.env)).all (fun x => !x.1) && (backToKw cpos (keywordEach [] X.env)).all (fun x => x.1.isSome)
      && decide ((e :: es).length + ([] : List Keyword).length + (if ([] : List Keyword).isEmpty then 0 else 1) < 30)) = true := by rfl)
    (hline : (apos.endLine == cpos.line) = true := by rfl) (hs : starEach (e :: es) X.env = (false, eval e X.env) :: starEach es X.env := by rfl) (hplain : (backTo cpos (starEach es X.env)).any (·.1) = false := by rfl) :
    PE X (.Call (.Attribute o name apos) (e :: es) [] cpos) (tBM K T r to t) := by
  subst hK
  exact pe_bm pa slot hty hm ho ha hbase hfew hline hs hplain
end Pl
namespace Pl
open PySem PySem.Spec PyProof.Rows L2
/-! str of a list or a tuple -/
section
variable {X : Cx}
def rStrD (K : PySem.W.Frag) : List V → Hp → VK → Prop := fun xs H Q => ∃ (a : Addr) (d : PyData), xs = [.ref a] ∧ Dp K H (.ref a) d ∧ d.showable = true ∧ d.hasDict = false ∧ d.depth ≤ 60 ∧ d.shown.length ≤ sizeLine ∧ Q (.str d.shown) H
theorem call_strD (gd : X.A.guards = some []) (hu : X.A.units + 66 < cLine) : CallR X (.type "str") (rStrD X.K) := by
  intro pins s σ H xs us Q I r h
  obtain ⟨a, d, rfl, dp, sh, nd, dep, sz, q⟩ := h
  obtain ⟨u, rfl, ru⟩ := vals1 r
  obtain rfl : u = Value.ref a := ru
  obtain ⟨as, rd⟩ := Dp.reads I d _ _ dp rfl
  refine str_of_reads rd sh (PyData.noDict_hsm nd) gd (by omega) (fun _ _ e => e) (fun h' v tk hk => ?_) sz
  exact ⟨.str d.shown, H, I.kept hk, ⟨_, rfl⟩, q⟩
end
end Pl
namespace Pl
open PySem PySem.Spec PyProof.Rows L2
/-! t.count(x) of a tuple of flat values -/
def rCountT (K : PySem.W.Frag) : V → List V → Hp → VK → Prop := fun x xs H Q => ∃ (a : Addr) (ys : List V) (y : V), x = V.ref a ∧ xs = [y] ∧ SqT K H a ys ∧ flatV y = true ∧ ys.all flatV = true ∧ Q (.int (ys.countP (fun z => eqV z y) : Nat)) H
theorem countU {y : V} : ∀ {ys : List V} {us : List Value}, Vals ys us → ys.all flatV = true → us.countP (eqU y) = ys.countP (fun z => eqV z y)
  | _, _, .nil, _ => rfl
  | z :: ys, u :: us, .cons r t, f => by
    rw [List.all_cons, Bool.and_eq_true] at f
    rw [List.countP_cons, List.countP_cons, countU t f.2, eqU_of r f.1]
theorem mt_countT {X : Cx} : MtR X "tuple.count" (rCountT X.K) := by
  intro pins s σ H x xs v us Q I rx rxs h
  obtain ⟨a, ys, y, rfl, rfl, hs, fy, fys, q⟩ := h
  cases rx
  cases rxs with
  | cons ry rt =>
    rename_i uy ut
    cases rt
    obtain ⟨its, rv, ⟨⟨cls, dd, data, sl⟩, ho, hc, n, hd⟩, hlen⟩ := I.tuple hs
    simp only at hc hd
    subst hc hd
    refine call_meets PySem.F.slot_tuple_count ⟨_, ho, rfl⟩ PySem.F.entry_tuple_count (PySem.F.args_tuple_count_2 _ _)
      (SeqAt.tuple_countAt a its.toArray n dd sl uy (eqU y)) ⟨ho, fun u' hu' => mem_eqAt ry fy rv fys u' (by simpa using hu'), ?_⟩
    rw [show its.toArray.toList = its from rfl, countU rv fys]
    exact ⟨.int _, H, I.tok _, ⟨_, rfl⟩, q⟩
end Pl
/-! a run that is told nothing of what sleeping generators would do leaves them asleep -/
namespace GenZ
open PySem
open Sem (wp)
/-- none of these frames wakes anybody -/
def Own1 (F : Frame) : Prop := ∀ g k l c p, F ≠ .gen g k l c p
def OwnF (fs : List Frame) : Prop := ∀ F ∈ fs, Own1 F
theorem OwnF.split : ∀ {fs : List Frame}, OwnF fs → splitAtGen fs = none
  | [], _ => rfl
  | .ret k h g l c p kp :: fs, o => by
    show (splitAtGen fs).map _ = none
    rw [OwnF.split fun F hF => o F (List.mem_cons_of_mem _ hF)]
    rfl
  | .gen g k l c p :: fs, o => absurd rfl (o _ List.mem_cons_self g k l c p)
theorem OwnF.nil : OwnF [] := fun _ h => (nomatch h)
theorem own_of_split : ∀ {fs : List Frame}, splitAtGen fs = none → OwnF fs
  | [], _ => OwnF.nil
  | .ret k h g l c p kp :: fs, e => by
    have e' : (splitAtGen fs).map (fun x => (Frame.ret k h g l c p kp :: x.1, x.2.1, x.2.2)) = none := e
    rw [Option.map_eq_none_iff] at e'
    intro F hF
    rcases List.mem_cons.mp hF with z | z
    · rw [z]; intro _ _ _ _ _ q; cases q
    · exact own_of_split e' F z
  | .gen g k l c p :: fs, e => by cases e
def OwnG (y : GenState) : Prop := ∀ k l c p fs cl, y = .suspended k l c p fs cl → OwnF fs
def OwnE (e : End) : Prop := ∀ v g l k c p fs, e = .susp v g l k c p fs → OwnF fs
theorem OwnE.ret {r : Result} : OwnE (.ret r) := fun _ _ _ _ _ _ _ z => (nomatch z)
theorem OwnE.gs {e : End} (h : OwnE e) : OwnG e.genState := by
  cases e with
  | ret r => intro _ _ _ _ _ _ z; cases z
  | susp v g l k c p fs => intro _ _ _ _ _ _ z; cases z; exact h _ _ _ _ _ _ _ rfl
def dumb (F : Frame) : Frame := .ret (fun _ => .unsupported "") none false [] F.where_.1 F.where_.2 []
/-- looks the same, but what it would do is not told -/
def hid : GenState → GenState
  | .suspended _ l c p fs cl => .suspended (fun _ => .unsupported "") l c p (fs.map dumb) cl
  | x => x
theorem hid_seen (x : GenState) : (hid x).seen = x.seen := by
  cases x with
  | suspended k l c p fs cl =>
    show (GenStatus.suspended, some ((c, p) :: (fs.map dumb).map Frame.where_)) = (GenStatus.suspended, some ((c, p) :: fs.map Frame.where_))
    rw [List.map_map]
    have e : (Frame.where_ ∘ dumb) = Frame.where_ := funext fun F => by cases F <;> rfl
    rw [e]
  | _ => rfl
theorem hid_bare (x : GenState) : (hid x).bare = x.bare := by cases x <;> rfl
/-- these sleep -/
def Slp (x : GenState) : Prop := ∃ k l c p fs cl, x = .suspended k l c p fs cl
/-- the told table and the true one -/
structure Rl (φ : Nat → Option GenState) (G G' : Array GenState) : Prop where
  size : G'.size = G.size
  old : ∀ i x, φ i = some x → Slp x ∧ G[i]? = some (hid x) ∧ G'[i]? = some x
  new : ∀ i y, φ i = none → G[i]? = some y → G'[i]? = some y ∧ OwnG y
variable {φ : Nat → Option GenState} {G G' : Array GenState}
theorem Rl.push (r : Rl φ G G') {y : GenState} (o : OwnG y) : Rl φ (G.push y) (G'.push y) := by
  have sz := r.size
  refine ⟨by rw [Array.size_push, Array.size_push, sz], fun i x e => ?_, fun i z e h => ?_⟩
  · obtain ⟨h1, h2, h3⟩ := r.old i x e
    have l1 := (Array.getElem?_eq_some_iff.mp h2).1
    refine ⟨h1, ?_, ?_⟩
    · rw [Array.getElem?_push, if_neg (by omega)]; exact h2
    · rw [Array.getElem?_push, if_neg (by omega)]; exact h3
  · rw [Array.getElem?_push] at h ⊢
    rw [sz]
    by_cases c : i = G.size
    · rw [if_pos c] at h ⊢
      cases h
      exact ⟨rfl, o⟩
    · rw [if_neg c] at h ⊢
      exact r.new i z e h
theorem Rl.set (r : Rl φ G G') {g : Nat} {y : GenState} (n : φ g = none) (o : OwnG y) : Rl φ (G.setIfInBounds g y) (G'.setIfInBounds g y) := by
  have sz := r.size
  refine ⟨by simp [sz], fun i x e => ?_, fun i z e h => ?_⟩
  · obtain ⟨h1, h2, h3⟩ := r.old i x e
    have ne : g ≠ i := fun q => by rw [q, e] at n; cases n
    rw [Array.getElem?_setIfInBounds_ne ne, Array.getElem?_setIfInBounds_ne ne]
    exact ⟨h1, h2, h3⟩
  · by_cases c : g = i
    · subst c
      rw [Array.getElem?_setIfInBounds_self] at h ⊢
      rw [sz]
      split at h
      · cases h
        rename_i q
        rw [if_pos q]
        exact ⟨rfl, o⟩
      · cases h
    · rw [Array.getElem?_setIfInBounds_ne c] at h ⊢
      exact r.new i z e h
theorem ownRun : OwnG .running := fun _ _ _ _ _ _ z => (nomatch z)
theorem ownFin : OwnG .finished := fun _ _ _ _ _ _ z => (nomatch z)
theorem ownFresh {c : Code} : OwnG (.fresh c) := fun _ _ _ _ _ _ z => (nomatch z)
/-- what is not asleep is told as it is -/
theorem Rl.awake (r : Rl φ G G') {g : Nat} {y : GenState} (h : G[g]? = some y) (n : ¬ Slp y) : φ g = none ∧ G'[g]? = some y := by
  cases e : φ g with
  | none => exact ⟨rfl, (r.new g y e h).1⟩
  | some x =>
    obtain ⟨⟨k, l, c, p, fs, cl, rfl⟩, h2, _⟩ := r.old g x e
    rw [h] at h2
    cases h2
    exact absurd ⟨_, _, _, _, _, _, rfl⟩ n
variable {M : Model}
theorem no_unsup {Γ : Ctx} {p : Pos} {t : Sem PySem.Fin} {fs : List Frame} {s s' : Shared} {e : End} (h : Runs M Γ p t fs s e s') : ∀ m, t ≠ .unsupported m := by
  induction h with
  | segRet _ _ ih _ => exact ih
  | segGen _ _ ih _ => exact ih
  | segSuspOut _ _ ih => exact ih
  | segSuspGen _ _ _ _ ih _ => exact ih
  | _ => intro m z; cases z
def sw (s : Shared) (G : Array GenState) : Shared := { s with gens := G }
theorem sim {Γ : Ctx} {p : Pos} {t : Sem PySem.Fin} {fs : List Frame} {s s' : Shared} {e : End} (h : Runs M Γ p t fs s e s') : OwnF fs → ∀ G', Rl φ s.gens G' → OwnE e ∧ ∃ G1, Rl φ s'.gens G1 ∧ Runs M Γ p t fs (sw s G') e (sw s' G1) := by
  induction h with
  | done => exact fun _ G' r => ⟨.ret, G', r, .done⟩
  | raise => exact fun _ G' r => ⟨.ret, G', r, .raise⟩
  | again hq _ ih => exact fun o G' r => let ⟨a, G1, b, c⟩ := ih o G' r; ⟨a, G1, b, .again hq c⟩
  | rule _ ih => exact fun o G' r => let ⟨a, G1, b, c⟩ := ih o G' r; ⟨a, G1, b, .rule c⟩
  | «at» _ ih => exact fun o G' r => let ⟨a, G1, b, c⟩ := ih o G' r; ⟨a, G1, b, .at c⟩
  | load h1 _ ih => exact fun o G' r => let ⟨a, G1, b, c⟩ := ih o G' r; ⟨a, G1, b, .load h1 c⟩
  | update h1 _ ih => exact fun o G' r => let ⟨a, G1, b, c⟩ := ih o G' r; ⟨a, G1, b, .update h1 c⟩
  | loadIfAlive _ ih => exact fun o G' r => let ⟨a, G1, b, c⟩ := ih o G' r; ⟨a, G1, b, .loadIfAlive c⟩
  | point _ ih => exact fun o G' r => let ⟨a, G1, b, c⟩ := ih o G' r; ⟨a, G1, b, .point c⟩
  | alloc _ ih => exact fun o G' r => let ⟨a, G1, b, c⟩ := ih o G' r; ⟨a, G1, b, .alloc c⟩
  | fresh _ ih => exact fun o G' r => let ⟨a, G1, b, c⟩ := ih o G' r; ⟨a, G1, b, .fresh c⟩
  | ask _ ih => exact fun o G' r => let ⟨a, G1, b, c⟩ := ih o G' r; ⟨a, G1, b, .ask c⟩
  | choose h1 _ ih => exact fun o G' r => let ⟨a, G1, b, c⟩ := ih o G' r; ⟨a, G1, b, .choose h1 c⟩
  | os _ ih => exact fun o G' r => let ⟨a, G1, b, c⟩ := ih o G' r; ⟨a, G1, b, .os c⟩
  | handled _ ih => exact fun o G' r => let ⟨a, G1, b, c⟩ := ih o G' r; ⟨a, G1, b, .handled c⟩
  | stack _ ih => exact fun o G' r => let ⟨a, G1, b, c⟩ := ih o G' r; ⟨a, G1, b, .stack c⟩
  | thread _ ih => exact fun o G' r => let ⟨a, G1, b, c⟩ := ih o G' r; ⟨a, G1, b, .thread c⟩
  | @genState g st Γ p k s e s1 h1 _ ih =>
    intro o G' r
    obtain ⟨a, G1, b, c⟩ := ih o G' r
    refine ⟨a, G1, b, ?_⟩
    cases q : φ g with
    | none => exact .genState (r.new g st q h1).1 c
    | some x =>
      obtain ⟨_, h2, h3⟩ := r.old g x q
      rw [h1] at h2
      cases h2
      rw [hid_seen] at c
      exact .genState h3 c
  | @newGen Γ p k s e s' c _ ih =>
    intro o G' r
    obtain ⟨a, G1, b, d⟩ := ih o (G'.push (.fresh c)) (r.push ownFresh)
    refine ⟨a, G1, b, .newGen ?_⟩
    show Runs M Γ p (k G'.size) [] _ _ _
    rw [r.size]
    exact d
  | call _ _ ih1 ih2 =>
    intro o G' r
    obtain ⟨_, G1, b, c⟩ := ih1 OwnF.nil G' r
    obtain ⟨a, G2, b2, c2⟩ := ih2 OwnF.nil G1 b
    exact ⟨a, G2, b2, .call c c2⟩
  | callSusp _ ih =>
    intro o G' r
    obtain ⟨a, G1, b, c⟩ := ih OwnF.nil G' r
    refine ⟨?_, G1, b, .callSusp c⟩
    intro _ _ _ _ _ _ _ z
    cases z
    intro F hF
    rcases List.mem_append.mp hF with q | q
    · exact a _ _ _ _ _ _ _ rfl F q
    · rw [List.mem_singleton.mp q]; intro _ _ _ _ _ z; cases z
  | yield => exact fun _ G' r => ⟨fun _ _ _ _ _ _ _ z => by cases z; exact OwnF.nil, G', r, .yield⟩
  | resumeFresh h1 _ hq _ ih1 ih2 =>
    intro o G' r
    obtain ⟨n, h2⟩ := r.awake h1 fun ⟨_, _, _, _, _, _, z⟩ => (nomatch z)
    obtain ⟨a, G1, b, c⟩ := ih1 OwnF.nil _ (r.set n ownRun)
    obtain ⟨a2, G2, b2, c2⟩ := ih2 OwnF.nil _ (b.set n a.gs)
    exact ⟨a2, G2, b2, .resumeFresh h2 c hq c2⟩
  | @resumeSuspended Γ p g rr l k s k0 l0 c0 p0 fs0 cl e1 s1 e s' h1 hr hq _ ih1 ih2 =>
    intro o G' r
    cases q : φ g with
    | none =>
      obtain ⟨h2, og⟩ := r.new g _ q h1
      obtain ⟨a, G1, b, c⟩ := ih1 (og _ _ _ _ _ _ rfl) _ (r.set q ownRun)
      obtain ⟨a2, G2, b2, c2⟩ := ih2 OwnF.nil _ (b.set q a.gs)
      exact ⟨a2, G2, b2, .resumeSuspended h2 c hq c2⟩
    | some x =>
      obtain ⟨⟨k', l', c', p', fs', cl', rfl⟩, h2, _⟩ := r.old g x q
      rw [h1] at h2
      cases h2
      exact absurd rfl (no_unsup hr "")
  | resumeJustStarted h1 hv _ ih =>
    intro o G' r
    obtain ⟨n, h2⟩ := r.awake h1 fun ⟨_, _, _, _, _, _, z⟩ => (nomatch z)
    obtain ⟨a, G1, b, c⟩ := ih o G' r
    exact ⟨a, G1, b, .resumeJustStarted h2 hv c⟩
  | resumeThrowFresh h1 _ ih =>
    intro o G' r
    obtain ⟨n, h2⟩ := r.awake h1 fun ⟨_, _, _, _, _, _, z⟩ => (nomatch z)
    obtain ⟨a, G1, b, c⟩ := ih o _ (r.set n ownFin)
    exact ⟨a, G1, b, .resumeThrowFresh h2 c⟩
  | resumeRunning h1 _ ih =>
    intro o G' r
    obtain ⟨n, h2⟩ := r.awake h1 fun ⟨_, _, _, _, _, _, z⟩ => (nomatch z)
    obtain ⟨a, G1, b, c⟩ := ih o G' r
    exact ⟨a, G1, b, .resumeRunning h2 c⟩
  | resumeFinished h1 _ ih =>
    intro o G' r
    obtain ⟨n, h2⟩ := r.awake h1 fun ⟨_, _, _, _, _, _, z⟩ => (nomatch z)
    obtain ⟨a, G1, b, c⟩ := ih o G' r
    exact ⟨a, G1, b, .resumeFinished h2 c⟩
  | segRet _ _ ih1 ih2 =>
    intro o G' r
    obtain ⟨_, G1, b, c⟩ := ih1 OwnF.nil G' r
    obtain ⟨a, G2, b2, c2⟩ := ih2 (fun F hF => o F (List.mem_cons_of_mem _ hF)) G1 b
    exact ⟨a, G2, b2, .segRet c c2⟩
  | segGen _ _ ih1 ih2 => exact fun o _ _ => absurd rfl (o _ List.mem_cons_self _ _ _ _ _)
  | segSuspOut hs _ ih =>
    intro o G' r
    obtain ⟨a, G1, b, c⟩ := ih OwnF.nil G' r
    refine ⟨?_, G1, b, .segSuspOut hs c⟩
    intro _ _ _ _ _ _ _ z
    cases z
    intro F hF
    rcases List.mem_append.mp hF with q | q
    · exact a _ _ _ _ _ _ _ rfl F q
    · exact o F q
  | segSuspGen hs _ _ _ ih1 ih2 =>
    intro o G' r
    rw [o.split] at hs
    cases hs
/-- the true run, by the told one -/
def Tr (φ : Nat → Option GenState) (s s' : Shared) : Prop := ∃ G', Rl φ s.gens G' ∧ s' = sw s G'
theorem wk_sim {Γ : Ctx} {p : Pos} {g : Nat} {r : Resume} {s s' : Shared} {res : GenResult} (h : Wakes M Γ p g r s res s') {G' : Array GenState} (rl : Rl φ s.gens G') : ∃ G1, Rl φ s'.gens G1 ∧ Wakes M Γ p g r (sw s G') res (sw s' G1) := by
  unfold Wakes at h ⊢
  cases hg : s.gens[g]? with
  | none => rw [hg] at h; exact h.elim
  | some y =>
    rw [hg] at h
    cases y with
    | fresh c =>
      obtain ⟨n, h2⟩ := rl.awake hg fun ⟨_, _, _, _, _, _, z⟩ => (nomatch z)
      have h2' : (sw s G').gens[g]? = some (.fresh c) := h2
      rw [h2']
      cases r with
      | send v =>
        cases v with
        | none =>
          obtain ⟨e1, s1, hr, hq, rfl, rfl⟩ := h
          obtain ⟨a, G1, b, c1⟩ := sim hr OwnF.nil _ (rl.set n ownRun)
          exact ⟨_, b.set n a.gs, e1, sw s1 G1, c1, hq, rfl, rfl⟩
        | _ =>
          obtain ⟨rfl, rfl⟩ := h
          exact ⟨G', rl, rfl, rfl⟩
      | throw x =>
        obtain ⟨rfl, rfl⟩ := h
        exact ⟨_, rl.set n ownFin, rfl, rfl⟩
    | suspended k l c p' fs cl =>
      obtain ⟨e1, s1, hr, hq, rfl, rfl⟩ := h
      cases q : φ g with
      | some x =>
        obtain ⟨⟨k', l', c', p2, fs', cl', rfl⟩, h2, _⟩ := rl.old g x q
        rw [hg] at h2
        cases h2
        exact absurd rfl (no_unsup hr "")
      | none =>
        obtain ⟨h2, og⟩ := rl.new g _ q hg
        have h2' : (sw s G').gens[g]? = some (.suspended k l c p' fs cl) := h2
        rw [h2']
        obtain ⟨a, G1, b, c1⟩ := sim hr (og _ _ _ _ _ _ rfl) _ (rl.set q ownRun)
        exact ⟨_, b.set q a.gs, e1, sw s1 G1, c1, hq, rfl, rfl⟩
    | running =>
      obtain ⟨n, h2⟩ := rl.awake hg fun ⟨_, _, _, _, _, _, z⟩ => (nomatch z)
      have h2' : (sw s G').gens[g]? = some .running := h2
      rw [h2']
      obtain ⟨rfl, rfl⟩ := h
      exact ⟨G', rl, rfl, rfl⟩
    | finished =>
      obtain ⟨n, h2⟩ := rl.awake hg fun ⟨_, _, _, _, _, _, z⟩ => (nomatch z)
      have h2' : (sw s G').gens[g]? = some .finished := h2
      rw [h2']
      obtain ⟨rfl, rfl⟩ := h
      exact ⟨G', rl, rfl, rfl⟩
theorem wp_sim {α : Type} (Γ : Ctx) (t : Sem α) : ∀ (Q : α → Pos → Shared → Prop) (E : Value → Pos → Shared → Prop) (p : Pos) (s : Shared) (G' : Array GenState), Rl φ s.gens G' → wp M Γ t Q E p s →
    wp M Γ t (fun a p' s' => ∃ s1, Tr φ s1 s' ∧ Q a p' s1) (fun x p' s' => ∃ s1, Tr φ s1 s' ∧ E x p' s1) p (sw s G') := by
  induction t with
  | pure a => exact fun Q E p s G' r h => ⟨s, ⟨G', r, rfl⟩, h⟩
  | raise e => exact fun Q E p s G' r h => ⟨s, ⟨G', r, rfl⟩, h⟩
  | unsupported _ => exact fun Q E p s G' r h => h
  | finish _ => exact fun Q E p s G' r h => h
  | rule _ k ih => exact fun Q E p s G' r h => ih () Q E p s G' r h
  | «at» p' k ih => exact fun Q E p s G' r h => ih () Q E p' s G' r h
  | load a _ k ih => exact fun Q E p s G' r ⟨o, ho, h⟩ => ⟨o, ho, ih o Q E p s G' r h⟩
  | update a _ f k ih => exact fun Q E p s G' r h => ⟨h.1, ih () Q E p { s with heap := s.heap.update a f } G' r h.2⟩
  | loadIfAlive a k ih => exact fun Q E p s G' r h => ih _ Q E p s G' r h
  | point _ k ih => exact fun Q E p s G' r h => ih () Q E p s G' r h
  | register _ _ => exact fun Q E p s G' r h => h
  | alloc o k ih => exact fun Q E p s G' r h => ih _ Q E p { s with heap := s.heap.push o } G' r h
  | fresh k ih => exact fun Q E p s G' r h => ih _ Q E p { s with toks := s.toks + 1 } G' r h
  | ask k ih => exact fun Q E p s G' r h => ih _ Q E p s G' r h
  | choose src m k ih => exact fun Q E p s G' r h => ⟨h.1, ih _ Q E p { s with drawn := s.drawn.bump src } G' r h.2⟩
  | os q _ k ih => exact fun Q E p s G' r h => ih _ Q E p { s with os := (Os.step s.os q).1 } G' r h
  | call c hd _ _ k ih =>
    intro Q E p s G' r h
    obtain ⟨res, s', hr, h⟩ := h
    obtain ⟨_, G1, b, c1⟩ := sim (φ := φ) hr OwnF.nil G' r
    exact ⟨res, sw s' G1, c1, ih res Q E p s' G1 b h⟩
  | handled own k ih => exact fun Q E p s G' r h => ih _ Q E p s G' r h
  | genState g k ih =>
    intro Q E p s G' r h
    obtain ⟨st, hs, h⟩ := h
    cases q : φ g with
    | none => exact ⟨st, (r.new g st q hs).1, ih _ Q E p s G' r h⟩
    | some x =>
      obtain ⟨_, h2, h3⟩ := r.old g x q
      rw [hs] at h2
      cases h2
      rw [hid_seen] at h
      exact ⟨x, h3, ih _ Q E p s G' r h⟩
  | newGen c k ih =>
    intro Q E p s G' r h
    have z := ih _ Q E p { s with gens := s.gens.push (.fresh c) } (G'.push (.fresh c)) (r.push ownFresh) h
    show wp M Γ (k G'.size) _ _ p _
    rw [r.size]
    exact z
  | resume g rr _ k ih =>
    intro Q E p s G' r h
    obtain ⟨res, s', hw, h⟩ := h
    obtain ⟨G1, b, w1⟩ := wk_sim hw r
    exact ⟨res, sw s' G1, w1, ih res Q E p s' G1 b h⟩
  | yield _ _ _ _ => exact fun Q E p s G' r h => h
  | stack k ih => exact fun Q E p s G' r h => ih _ Q E p s G' r h
  | fork _ _ => exact fun Q E p s G' r h => h
  | thread k ih => exact fun Q E p s G' r h => ih _ Q E p s G' r h
  | await _ _ _ _ _ => exact fun Q E p s G' r h => h
/-! all that sleep, hidden -/
def asleep (s : Shared) (i : Nat) : Option GenState := match s.gens[i]? with
  | some (.suspended k l c p fs cl) => some (.suspended k l c p fs cl)
  | _ => none
def veil (s : Shared) : Shared := sw s (s.gens.map hid)
theorem rl_veil (s : Shared) : Rl (asleep s) (s.gens.map hid) s.gens := by
  refine ⟨by simp, fun i x e => ?_, fun i y e h => ?_⟩
  · unfold asleep at e
    split at e
    · rename_i q
      cases e
      exact ⟨⟨_, _, _, _, _, _, rfl⟩, by rw [Array.getElem?_map, q]; rfl, q⟩
    · cases e
  · rw [Array.getElem?_map] at h
    cases q : s.gens[i]? with
    | none => rw [q] at h; cases h
    | some x =>
      rw [q] at h
      unfold asleep at e
      rw [q] at e
      cases x with
      | suspended k l c p fs cl => cases e
      | _ => cases h; exact ⟨rfl, fun _ _ _ _ _ _ z => (nomatch z)⟩
theorem bare_veil {s : Shared} (h : PyProof.Rows.AllBare s.gens) : PyProof.Rows.AllBare (veil s).gens := fun y hy => by
  obtain ⟨x, hx, rfl⟩ := Array.mem_map.mp hy
  rw [hid_bare]
  exact h x hx
/-- what was asleep is as it was -/
structure Kept (s s1 s' : Shared) : Prop where
  same : s' = sw s1 s'.gens
  bare : PyProof.Rows.AllBare s.gens → PyProof.Rows.AllBare s1.gens → PyProof.Rows.AllBare s'.gens
  slept : ∀ (i : Nat) (x : GenState), s.gens[i]? = some x → Slp x → s'.gens[i]? = some x
theorem kept_of {s s1 s' : Shared} (t : Tr (asleep s) s1 s') : Kept s s1 s' := by
  obtain ⟨G', r, rfl⟩ := t
  refine ⟨rfl, fun b0 b1 y hy => ?_, fun i x e sl => ?_⟩
  · obtain ⟨i, hi, e⟩ := Array.mem_iff_getElem.mp hy
    have e' : G'[i]? = some y := by rw [← e]; exact Array.getElem?_eq_getElem hi
    have hi1 : i < s1.gens.size := by
      have : i < G'.size := hi
      rw [r.size] at this
      exact this
    cases q : asleep s i with
    | none =>
      have e1 : s1.gens[i]? = some s1.gens[i] := Array.getElem?_eq_getElem hi1
      have h1 := (r.new i _ q e1).1
      rw [e'] at h1
      rw [Option.some.inj h1]
      exact b1 _ (Array.getElem_mem hi1)
    | some x =>
      obtain ⟨_, _, h3⟩ := r.old i x q
      rw [e'] at h3
      rw [Option.some.inj h3]
      unfold asleep at q
      split at q
      · rename_i z
        cases q
        exact b0 _ (Array.mem_of_getElem? z)
      · cases q
  · obtain ⟨k, l, c, p, fs, cl, rfl⟩ := sl
    exact (r.old i _ (by unfold asleep; rw [e])).2.2
theorem wpAny_veil {α : Type} {A : Around} {t : Sem α} {Q : α → Shared → Prop} {E : Value → Shared → Prop} {s : Shared} (h : wpAny M A t Q E (veil s)) : wpAny M A t (fun a s' => ∃ s1, Kept s s1 s' ∧ Q a s1) (fun e s' => ∃ s1, Kept s s1 s' ∧ E e s1) s :=
  wpAny_mono (fun Γ p hΓ => wp_sim Γ t _ _ p (veil s) s.gens (rl_veil s) (h Γ p hΓ) : wpAny M A t (fun a s' => ∃ s1, Tr (asleep s) s1 s' ∧ Q a s1) (fun e s' => ∃ s1, Tr (asleep s) s1 s' ∧ E e s1) s) (fun _ _ ⟨s1, a, b⟩ => ⟨s1, kept_of a, b⟩) fun _ _ ⟨s1, a, b⟩ => ⟨s1, kept_of a, b⟩
end GenZ
/-! a generator that is walked while its walker makes objects: the generator's side -/
namespace GenZ
open PySem PySem.Spec PyProof.Rows L2
open Sem (wp)
/-- one stretch of a generator's run -/
def S1 (M : Model) (A : Around) (Φ : End → Shared → Prop) (c : Code) (t : Sem PySem.Fin) (fs : List Frame) (s : Shared) : Prop :=
  ∀ Γ p, Γ.code = c → Γ.Woken A → ∃ e s', Runs M Γ p t fs s e s' ∧ Φ e s'
section
variable {M : Model} {A : Around} {Φ : End → Shared → Prop} {c : Code} {fs : List Frame} {s : Shared}
theorem s1_wrap {α : Type} {m : Sem α} {K : α → Sem PySem.Fin} {J : Value → Sem PySem.Fin} {gd : Bool → Bool} {lv : List Value → List Value}
    (h : wpAny M (A.over c fs) m (fun a s' => S1 M A Φ c (K a) fs s') (fun x s' => S1 M A Φ c (J x) fs s') s) : S1 M A Φ c (m.wrap K J gd lv) fs s := by
  rintro Γ p rfl hΓ
  exact runs_wrap_of_wp K J gd lv m (h (Γ.over fs) p (hΓ.over fs)) (fun a p' s' q => q Γ p' rfl hΓ) fun x p' s' q => q Γ p' rfl hΓ
theorem s1_at {p' : Pos} {k : Unit → Sem PySem.Fin} (h : S1 M A Φ c (k ()) fs s) : S1 M A Φ c (.at p' k) fs s :=
  s1_wrap (m := standAt p') (K := k) (J := .raise) (gd := id) (lv := id) (wpAny_standAt h)
theorem s1_point {l : List Value} {k : Unit → Sem PySem.Fin} (h : S1 M A Φ c (k ()) fs s) : S1 M A Φ c (.point l k) fs s :=
  s1_wrap (m := point) (K := k) (J := .raise) (gd := id) (lv := fun _ => l) (wpAny_point h)
theorem s1_call {c' : Code} {h : Option Value} {g : Bool} {l : List Value} {k : Result → Sem PySem.Fin} (hc : ∀ p, S1 M A Φ c' (M.den c') (.ret k h g l c p [] :: fs) s) : S1 M A Φ c (.call c' h g l k) fs s := by
  rintro Γ p rfl hΓ
  obtain ⟨e, s', hr, he⟩ := hc p (Γ.goto c') p rfl (hΓ.goto c')
  exact ⟨e, s', runs_call_seg hr, he⟩
theorem s1_leaf {k : Result → Sem PySem.Fin} {h : Option Value} {g : Bool} {l kp : List Value} {c₁ : Code} {p₁ : Pos} (r : Result) (hk : S1 M A Φ c₁ (k r) fs s) : S1 M A Φ c (leafOf r) (.ret k h g l c₁ p₁ kp :: fs) s := by
  rintro Γ p rfl hΓ
  obtain ⟨e, s', hr, he⟩ := hk (Γ.goto c₁) p₁ rfl (hΓ.goto c₁)
  exact ⟨e, s', Runs.pop r hr, he⟩
theorem s1_again {c' : Code} (hq : c'.quiet = true) (hc : S1 M A Φ c' (M.den c') fs s) : S1 M A Φ c (.pure (.again c')) fs s := by
  rintro Γ p rfl hΓ
  obtain ⟨e, s', hr, he⟩ := hc (Γ.goto c') p rfl (hΓ.goto c')
  exact ⟨e, s', Runs.head (c₁ := c') (fun _ _ x => .again hq x) hr, he⟩
theorem s1_end (r : Result) (h : Φ (.ret r) s) : S1 M A Φ c (leafOf r) [] s := by
  rintro Γ p rfl _
  exact ⟨.ret r, s, Runs.leaf r, h⟩
theorem s1_yield {v : Value} {g : Bool} {l : List Value} {k : Resume → Sem PySem.Fin} (hs : splitAtGen fs = none) (h : ∀ p, Φ (.susp v g l k c p fs) s) : S1 M A Φ c (.yield v g l k) fs s := by
  rintro Γ p rfl _
  exact ⟨_, s, Runs.yield' fs hs, h p⟩
theorem s1_cons {env : Env} {K : Flow → Sem PySem.Fin} {J : Value → Sem PySem.Fin} {gd : Bool → Bool} {lv : List Value → List Value} {st : Stmt} {rest : List Stmt}
    (h : S1 M A Φ c ((exec st env).wrap (fun f => match f with | .next => (execs rest env).wrap K J gd lv | f => K f) J gd lv) fs s) : S1 M A Φ c ((execs (st :: rest) env).wrap K J gd lv) fs s := by
  rw [execs_cons_wrap]
  exact h
end
/-- what a loop's turn does with an exception -/
def noted (env : Env) (e : Value) : Sem PySem.Fin := (do noteFrame e env; theTreesLotGoes e : Sem Unit).wrap (fun _ => .raise e) .raise id id
/-- how a turn of a loop ends -/
def turnEnd (c : Code) : Flow → Sem PySem.Fin
  | .next | .cont => .pure (.again c)
  | .brk => .pure (.done .next)
  | .ret v => .pure (.done (.ret v))
section
variable {prog : Program} {w : World} {A : Around} {Φ : End → Shared → Prop} {fs : List Frame} {s : Shared} {env : Env}
theorem s1_loop {test : Expr} {body : List Stmt}
    (h : wpAny (model prog w) (A.over (.whileLoop test body [] env) fs) (isTrue test env (eval test env)) (fun b s' =>
        if b = true then S1 (model prog w) A Φ (.whileLoop test body [] env) ((execs body env).wrap (turnEnd (.whileLoop test body [] env)) (noted env) id id) fs s'
        else S1 (model prog w) A Φ (.whileLoop test body [] env) (leafOf (.ok .next)) fs s') (fun _ _ => False) s) :
    S1 (model prog w) A Φ (.whileLoop test body [] env) ((model prog w).den (.whileLoop test body [] env)) fs s := by
  show S1 _ A Φ _ ((whileTurn test body [] env).onRaise (fun x => do noteFrame x env; theTreesLotGoes x)) fs s
  unfold whileTurn
  rw [Sem.onRaise_eq_wrap, Sem.bind_eq_wrap', Sem.wrap_wrap]
  refine s1_wrap (wpAny_mono h (fun b s' hb => ?_) fun x s' hx => hx.elim)
  cases b with
  | true =>
    rw [if_pos rfl] at hb
    show S1 _ A Φ _ (Sem.wrap _ _ _ _ (if true = true then _ else _)) fs s'
    rw [if_pos rfl, Sem.bind_eq_wrap', Sem.wrap_wrap]
    rw [Sem.wrap_congr (execs body env) _ _ (K' := turnEnd (.whileLoop test body [] env)) (H' := noted env) (fun f => by cases f <;> rfl)
      (fun e => by first | exact Sem.bind_eq_wrap _ _ | (show (do noteFrame e env; theTreesLotGoes e : Sem Unit).bind (fun _ => .raise e) = _; rw [Sem.bind_eq_wrap]; rfl))]
    exact hb
  | false =>
    rw [if_neg Bool.false_ne_true] at hb
    show S1 _ A Φ _ (Sem.wrap _ _ _ _ (if false = true then _ else _)) fs s'
    rw [if_neg Bool.false_ne_true]
    exact hb
theorem s1_func {body : List Stmt} (h : S1 (model prog w) A Φ (.func body env) ((execs body env).wrap (fun f => leafOf (.ok (.ret (match f with | .ret v => v | _ => .none)))) (fun e => (leaving env e).wrap (fun _ => .raise e) .raise id id) id id) fs s) :
    S1 (model prog w) A Φ (.func body env) ((model prog w).den (.func body env)) fs s := by
  show S1 _ A Φ _ (.point [] fun _ => ((execs body env).onRaise (leaving env)) >>= _) fs s
  refine s1_point ?_
  rw [Sem.onRaise_eq_wrap, Sem.bind_eq_wrap', Sem.wrap_wrap]
  rw [Sem.wrap_congr (execs body env) _ _ (K' := fun f => leafOf (.ok (.ret (match f with | .ret v => v | _ => .none)))) (H' := fun e => (leaving env e).wrap (fun _ => .raise e) .raise id id) (fun f => by cases f <;> rfl)
    (fun e => by rw [Sem.bind_eq_wrap, Sem.wrap_wrap]; rfl)]
  exact h
end
/-! the generator's frame, over what stood when it was woken last -/
def cut (n : Nat) (h : Heap) : Heap := { h with objs := h.objs.extract 0 n }
theorem cut_get {n : Nat} {h : Heap} {b : Addr} (l : b < n) : (cut n h).get? b = h.get? b := by
  unfold cut Heap.get?
  have e : (h.objs.extract 0 n)[b]? = h.objs[b]? := by
    have l' : b < n := l
    rw [Array.getElem?_extract]
    by_cases q : b < h.objs.size
    · have q' : b < min n h.objs.size - 0 := by
        have := Nat.lt_min.mpr ⟨l', q⟩
        exact this
      rw [if_pos q', Nat.zero_add]
    · have q' : ¬ b < min n h.objs.size - 0 := fun z => q (Nat.lt_of_lt_of_le z (by rw [Nat.sub_zero]; exact Nat.min_le_right _ _))
      rw [if_neg q', Array.getElem?_eq_none (Nat.le_of_not_lt q)]
  simp only [e]
theorem cut_some {n : Nat} {h : Heap} {b : Addr} {o : Obj} (e : (cut n h).get? b = some o) : h.get? b = some o := by
  have l : b < (h.objs.extract 0 n).size := Heap.lt_size e
  have l2 : b < n := by
    rw [Array.size_extract] at l
    exact Nat.lt_of_lt_of_le l (by rw [Nat.sub_zero]; exact Nat.min_le_left _ _)
  rw [cut_get l2] at e
  exact e
structure Gn where
  P : Program
  w : World
  K : PySem.W.Frag
  mg : Str → Option Value
  base : Heap
  N : List Str
  qual : Str
  scope : Scope
  f : Addr
  cd : Value
  A : Around
  outer : List Env
  n0 : Nat
  pn : List (Addr × Obj)
def Gn.env (G : Gn) : Env := envOfC G.qual G.scope G.n0 G.f G.cd
def Gn.cx (G : Gn) (s : Shared) (H : Hp) : Cx where
  prog := G.P
  w := G.w
  K := G.K
  mg := G.mg
  base := G.base
  A := G.A.deeper G.env
  N := G.N
  s_0 := { s with heap := cut G.n0 s.heap }
  H_0 := H
  env := G.env
  outer := G.outer
  stack := G.env :: G.outer
  ex := []
  calm := true
  fn := fun _ => true
  pn := G.pn
  xe := fun _ _ => False
/-- the generator's own: its frame, its cells, what is pinned -/
def Gn.own (G : Gn) (b : Addr) : Prop := b = G.env.locals ∨ (∃ x, G.env.cells.lookup x = some b) ∨ ∃ o, (b, o) ∈ G.pn
/-- it slept at s, and is woken at s' -/
structure Wake (G : Gn) (s : Shared) (H : Hp) (s' : Shared) (H' : Hp) : Prop where
  os : s'.os = s.os
  same : Same H H'
  e0 : Env0 G.P G.w G.K G.mg G.base G.A G.outer s' H'
  keep : ∀ b o, G.own b → s.heap.get? b = some o → s'.heap.get? b = some o ∧ H' b = none
theorem cut_size {n : Nat} {h : Heap} (l : n ≤ h.objs.size) : (cut n h).objs.size = n := by
  show (h.objs.extract 0 n).size = _
  rw [Array.size_extract]; omega
theorem funs_cut {n : Nat} {h base : Heap} : ∀ {l : List Env}, h.FunFrames base l → (∀ b ∈ frs l, b < n) → (cut n h).FunFrames base l
  | [], _, _ => trivial
  | env :: rest, ⟨hk, ⟨L, o, hf, hn, ho, hd⟩, hr⟩, hb => by
    have hm : L ∈ frs (env :: rest) := by
      unfold frs
      rw [List.mem_filterMap]
      exact ⟨env, List.mem_cons_self, hf⟩
    refine ⟨hk, ⟨L, o, hf, hn, by rw [cut_get (hb L hm)]; exact ho, hd⟩, funs_cut hr fun b q => hb b ?_⟩
    unfold frs at q ⊢
    rw [List.mem_filterMap] at q ⊢
    obtain ⟨e, he, z⟩ := q
    exact ⟨e, List.mem_cons_of_mem _ he, z⟩
/-- what holds of the generator at all times -/
structure Gn.Ok (G : Gn) : Prop where
  base : G.base.objs.size ≤ G.n0
  frs : ∀ b ∈ frs G.outer, b < G.n0
  cells : ∀ x c, G.env.cells.lookup x = some c → G.n0 ≤ c
theorem woken {G : Gn} {s₀ s s' : Shared} {Hw H H' : Hp} {σ : L2.St} (go : G.Ok) (I : Inv (G.cx s₀ Hw) [] σ H s) (wk : Wake G s H s' H') : Inv (G.cx s' H') [] σ H' s' := by
  obtain ⟨m, hn, hl⟩ := I.loc
  obtain ⟨oL, es, ep, hoL, r⟩ := hn
  have kL := wk.keep _ _ (.inl rfl) hoL
  have sz : G.n0 ≤ s'.heap.objs.size := Nat.le_of_lt (Heap.lt_size kL.1)
  have csz := cut_size sz
  have e0 := wk.e0
  have ok := I.ok
  have kc : ∀ x c, G.env.cells.lookup x = some c → ∀ o, s.heap.get? c = some o → s'.heap.get? c = some o ∧ H' c = none := fun x c e o h => wk.keep c o (.inr (.inl ⟨x, e⟩)) h
  have cu : ∀ b o, b < G.n0 → s'.heap.get? b = some o → (cut G.n0 s'.heap).get? b = some o := fun b o l h => by rw [cut_get l]; exact h
  refine ⟨⟨ok.mod, ok.kind, ok.glob, ok.blt, ?_, ok.inj, ok.has, fun x c _ h => ?_, ok.hd, ok.frames, ok.stk, fun b hb => absurd hb (by simp [Gn.cx]), fun b o h => ?_, ?_, fun b o _ hb => absurd hb (by simp [Gn.cx]), fun b hb => absurd hb (by simp [Gn.cx]), ?_, e0.frf⟩, rfl, e0.bare, ?_, ?_, fun x c h => ?_, kL.2, fun x c h => ?_, fun p hp => ?_, e0.hok, I.len⟩
  · show (cut G.n0 s'.heap).objs.size ≤ G.n0
    omega
  · show (cut G.n0 s'.heap).objs.size ≤ c
    rw [csz]
    exact go.cells x c h
  · obtain ⟨q1, q2⟩ := e0.bs b o h
    exact ⟨cu b o (Nat.lt_of_lt_of_le (Heap.lt_size h) go.base) q1, q2⟩
  · show G.base.objs.size ≤ (cut G.n0 s'.heap).objs.size
    rw [csz]
    exact go.base
  · exact funs_cut e0.funs go.frs
  · exact ⟨fun b o e _ _ _ => cut_some e, fun b o e _ _ _ => ⟨o.slots, cut_some e⟩, fun b o _ n _ => n, fun b o e _ => ⟨o, cut_some e⟩, fun b xs e => e, fun b o u e => e, fun b ps e => ⟨#[], (show H' b = some (.tbl ps) from e).trans (by simp)⟩⟩
  · refine ⟨m, ⟨oL, es, ep, kL.1, r⟩, fun i x v h1 h2 h3 => ?_⟩
    obtain ⟨u, rv, lk⟩ := hl i x v h1 h2 h3
    refine ⟨u, rv, ?_⟩
    rcases lk with lk | ⟨kk, c, e, o, ho, hd⟩
    · exact .inl lk
    · exact .inr ⟨kk, c, e, o, (kc x c e o ho).1, hd⟩
  · obtain ⟨v, o, ho, hd⟩ := I.cell x c h
    exact ⟨v, o, (kc x c h o ho).1, hd⟩
  · obtain ⟨v, o, ho, hd⟩ := I.cell x c h
    exact (kc x c h o ho).2
  · obtain ⟨h1, h2, h3, h4, h5⟩ := I.pin p hp
    obtain ⟨b, o⟩ := p
    have hp' : (b, o) ∈ G.pn := by
      rcases List.mem_append.mp hp with z | z
      · exact z
      · cases z
    obtain ⟨q1, q2⟩ := wk.keep b o (.inr (.inr ⟨o, hp'⟩)) h1
    exact ⟨q1, q2, h3, h4, h5⟩
end GenZ
/-! a generator that is walked while its walker makes objects: its body -/
namespace GenZ
open PySem PySem.Spec PyProof.Rows L2
open Sem (wp)
/-- how a stretch ends: m are to be handed out still -/
def Go (G : Gn) (Yd : Nat → V → Hp → Prop) (En : Hp → Prop) : Nat → Shared → Hp → End → Shared → Prop
  | 0, s₀, Hw => fun e s₁ => (e = .ret (.ok (.ret .none)) ∨ e = .ret (.ok .next)) ∧ ∃ σ H1, Inv (G.cx s₀ Hw) [] σ H1 s₁ ∧ Same Hw H1 ∧ En H1
  | m + 1, s₀, Hw => fun e s₁ => ∃ v g l k c p fs, e = .susp v g l k c p fs ∧ e.quiet = true ∧ ∃ x σ H1, RelV x v ∧ Inv (G.cx s₀ Hw) [] σ H1 s₁ ∧ Same Hw H1 ∧ Yd m x H1 ∧
      ∀ s' H', Wake G s₁ H1 s' H' → S1 (model G.P G.w) G.A (Go G Yd En m s' H') c (k (.send .none)) fs s'
/-- where the generator's code stands -/
structure GC2 (G : Gn) (c : Code) (fs : List Frame) (gd : Bool → Bool) : Prop where
  over : G.A.over c fs = G.A.deeper G.env
  split : splitAtGen fs = none
  guard : fs.any Frame.guarded = false
  gd : gd false = false
/-- what is wanted behind a statement: how many are left, the heap at the last waking, the slots, the heap -/
structure GE2 where
  nx : Nat → Hp → L2.St → Hp → Prop
  rt : Nat → Hp → VK
  bk : Nat → Hp → L2.St → Hp → Prop := fun _ _ _ _ => False
  ct : Nat → Hp → L2.St → Hp → Prop := fun _ _ _ _ => False
abbrev TG2 := GE2 → Nat → Hp → L2.St → Hp → Prop
def GE2.at (D : GE2) (m : Nat) (Hw : Hp) : Ends := { nx := D.nx m Hw, rt := D.rt m Hw, bk := D.bk m Hw, ct := D.ct m Hw }
def GK2 (G : Gn) (Yd : Nat → V → Hp → Prop) (En : Hp → Prop) (c : Code) (fs : List Frame) (K : Flow → Sem PySem.Fin) (D : GE2) : Prop :=
  ∀ m s₀ Hw s f, SP (G.cx s₀ Hw) [] (D.at m Hw) f s → S1 (model G.P G.w) G.A (Go G Yd En m s₀ Hw) c (K f) fs s
structure GS2 (G : Gn) (Yd : Nat → V → Hp → Prop) (En : Hp → Prop) (st : Stmt) (t : TG2) : Prop where
  run : ∀ (c : Code) (fs : List Frame) (K : Flow → Sem PySem.Fin) (J : Value → Sem PySem.Fin) (gd : Bool → Bool) (lv : List Value → List Value) (m : Nat) (s₀ : Shared) (Hw : Hp) (s : Shared) (σ : L2.St) (H : Hp) (D : GE2),
    GC2 G c fs gd → GK2 G Yd En c fs K D → Inv (G.cx s₀ Hw) [] σ H s → t D m Hw σ H → S1 (model G.P G.w) G.A (Go G Yd En m s₀ Hw) c ((exec st G.env).wrap K J gd lv) fs s
structure GSs2 (G : Gn) (Yd : Nat → V → Hp → Prop) (En : Hp → Prop) (st : List Stmt) (t : TG2) : Prop where
  run : ∀ (c : Code) (fs : List Frame) (K : Flow → Sem PySem.Fin) (J : Value → Sem PySem.Fin) (gd : Bool → Bool) (lv : List Value → List Value) (m : Nat) (s₀ : Shared) (Hw : Hp) (s : Shared) (σ : L2.St) (H : Hp) (D : GE2),
    GC2 G c fs gd → GK2 G Yd En c fs K D → Inv (G.cx s₀ Hw) [] σ H s → t D m Hw σ H → S1 (model G.P G.w) G.A (Go G Yd En m s₀ Hw) c ((execs st G.env).wrap K J gd lv) fs s
section
variable {G : Gn} {Yd : Nat → V → Hp → Prop} {En : Hp → Prop} {st : Stmt} {rest : List Stmt}
def tPl (t : TS) : TG2 := fun D m Hw σ H => t (D.at m Hw) σ H
theorem gs2_ps {t : TS} (h : ∀ s₀ Hw, PS (G.cx s₀ Hw) st t) : GS2 G Yd En st (tPl t) := by
  refine ⟨fun c fs K J gd lv m s₀ Hw s σ H D g k I ht => ?_⟩
  refine s1_wrap ?_
  rw [g.over]
  exact wpAny_mono ((h s₀ Hw).run [] s σ H (D.at m Hw) I ht) (fun f s' hs => k m s₀ Hw s' f hs) fun x s' hx => hx.elim
theorem gss2_pss {t : TS} (h : ∀ s₀ Hw, PSs (G.cx s₀ Hw) rest t) : GSs2 G Yd En rest (tPl t) := by
  refine ⟨fun c fs K J gd lv m s₀ Hw s σ H D g k I ht => ?_⟩
  refine s1_wrap ?_
  rw [g.over]
  exact wpAny_mono ((h s₀ Hw).run [] s σ H (D.at m Hw) I ht) (fun f s' hs => k m s₀ Hw s' f hs) fun x s' hx => hx.elim
def tTh (t u : TG2) : TG2 := fun D m Hw σ H => t { D with nx := fun m' Hw' σ' H' => u D m' Hw' σ' H' } m Hw σ H
theorem gss2_cons {t u : TG2} (a : GS2 G Yd En st t) (b : GSs2 G Yd En rest u) : GSs2 G Yd En (st :: rest) (tTh t u) := by
  refine ⟨fun c fs K J gd lv m s₀ Hw s σ H D g k I ht => ?_⟩
  refine s1_cons ?_
  refine a.run c fs _ J gd lv m s₀ Hw s σ H _ g (fun m' s₀' Hw' s' f hs => ?_) I ht
  cases f with
  | next =>
    obtain ⟨σ', H', I', q⟩ := hs
    exact b.run c fs K J gd lv m' s₀' Hw' s' σ' H' D g k I' q
  | brk => exact k m' s₀' Hw' s' .brk hs
  | cont => exact k m' s₀' Hw' s' .cont hs
  | ret u => exact k m' s₀' Hw' s' (.ret u) hs
def t0 : TG2 := fun D m Hw σ H => D.nx m Hw σ H
theorem gss2_nil : GSs2 G Yd En [] t0 := ⟨fun c fs K J gd lv m s₀ Hw s σ H D g k I ht => k m s₀ Hw s .next ⟨σ, H, I, ht⟩⟩
def tWh (tc : TT) (tb : TG2) : TG2 := fun D m Hw σ H => ∃ W : Nat → Nat → Hp → L2.St → Hp → Prop, (∃ j, W j m Hw σ H) ∧ ∀ j m Hw σ H, W j m Hw σ H →
  tc σ H fun b H1 => if b = true then ∃ Nx : Nat → Hp → L2.St → Hp → Prop, (∀ m' Hw' σ' H', Nx m' Hw' σ' H' → ∃ j', j' < j ∧ W j' m' Hw' σ' H') ∧ tb { D with nx := Nx, ct := Nx, bk := D.nx } m Hw σ H1 else D.nx m Hw σ H1
theorem gc2_loop {c c' : Code} {fs : List Frame} {gd : Bool → Bool} {k : Result → Sem PySem.Fin} {l kp : List Value} {p : Pos} (g : GC2 G c fs gd) (hw : c'.weight = 0) (hu : c'.cUnits = 0) : GC2 G c' (.ret k none (gd false) l c p kp :: fs) id where
  over := (GenW.over_loop hw hu).trans g.over
  split := by
    show (splitAtGen fs).map _ = none
    rw [g.split]; rfl
  guard := by
    show (gd false || fs.any Frame.guarded) = false
    rw [g.gd, g.guard]; rfl
  gd := rfl
theorem gs2_while {test : Expr} {body : List Stmt} {pos : Pos} {tc : TT} {tb : TG2} (hc : ∀ s₀ Hw, PT (G.cx s₀ Hw) test tc) (hb : GSs2 G Yd En body tb) : GS2 G Yd En (.While test body [] pos) (tWh tc tb) := by
  refine ⟨fun c fs K J gd lv m s₀ Hw s σ H D g k I ht => ?_⟩
  obtain ⟨W, ⟨j0, w0⟩, turn⟩ := ht
  refine s1_at (s1_call fun p => ?_)
  have gl := fun (kk : Result → Sem PySem.Fin) => gc2_loop (k := kk) (c' := .whileLoop test body [] G.env) (l := lv []) (kp := []) (p := p) g rfl rfl
  have loop : ∀ (j m : Nat) (s₀ : Shared) (Hw : Hp) (s : Shared) (σ : L2.St) (H : Hp), W j m Hw σ H → Inv (G.cx s₀ Hw) [] σ H s →
      S1 (model G.P G.w) G.A (Go G Yd En m s₀ Hw) (.whileLoop test body [] G.env) ((model G.P G.w).den (.whileLoop test body [] G.env))
        (.ret (fun r => ((match r with | .ok f => (.pure f : Sem Flow) | .error e => .raise e).onRaise (cameBack G.env)).wrap K J gd lv) none (gd false) (lv []) c p [] :: fs) s := by
    intro j
    induction j using Nat.strongRecOn with
    | ind j ih =>
      intro m s₀ Hw s σ H w I
      refine s1_loop ?_
      rw [(gl _).over]
      refine wpAny_mono ((hc s₀ Hw).run [] s σ H _ I (turn j m Hw σ H w)) (fun b s' hb' => ?_) fun x s' hx => hx.elim
      obtain ⟨H2, I2, q2⟩ := hb'
      cases b with
      | true =>
        obtain ⟨Nx, hN, q2⟩ := q2
        rw [if_pos rfl]
        refine hb.run _ _ _ _ id id m s₀ Hw s' σ H2 _ (gl _) (fun m' s₀' Hw' s3 f hs => ?_) I2 q2
        cases f with
        | next =>
          obtain ⟨σ3, H3, I3, n3⟩ := hs
          obtain ⟨j', hj, w3⟩ := hN m' Hw' σ3 H3 n3
          exact s1_again rfl (ih j' hj m' s₀' Hw' s3 σ3 H3 w3 I3)
        | cont =>
          obtain ⟨σ3, H3, I3, n3⟩ := hs
          obtain ⟨j', hj, w3⟩ := hN m' Hw' σ3 H3 n3
          exact s1_again rfl (ih j' hj m' s₀' Hw' s3 σ3 H3 w3 I3)
        | brk => exact s1_leaf (.ok .next) (k m' s₀' Hw' s3 .next hs)
        | ret v => exact s1_leaf (.ok (.ret v)) (k m' s₀' Hw' s3 (.ret v) hs)
      | false =>
        rw [if_neg Bool.false_ne_true]
        exact s1_leaf (.ok .next) (k m s₀ Hw s' .next ⟨σ, H2, I2, q2⟩)
  exact loop j0 m s₀ Hw s σ H w0 I
def tYl (Yd : Nat → V → Hp → Prop) (te : TE) : TG2 := fun D m Hw σ H => te σ H fun x H1 => Same Hw H1 ∧ ∃ m', m = m' + 1 ∧ Yd m' x H1 ∧ ∀ H2, Same H1 H2 → D.nx m' H2 σ H2
theorem gs2_yield {e : Expr} {yp pos : Pos} {te : TE} (go : G.Ok) (he : ∀ s₀ Hw, PE (G.cx s₀ Hw) e te) (hco : G.env.scope.isCoroutine = false) (hi : interactive G.env = false) : GS2 G Yd En (.Expr (.Yield (some e) yp) pos) (tYl Yd te) := by
  refine ⟨fun c fs K J gd lv m s₀ Hw s σ H D g k I ht => ?_⟩
  rw [exec_Expr G.env _ pos hi rfl]
  show S1 _ _ _ _ (.at pos fun _ => ((eval e G.env >>= fun v => (standAt yp >>= fun _ => yieldOut G.env v)) >>= fun x => dropValue (.Yield (some e) yp) pos x).wrap K J gd lv) _ _
  have hy : ∀ v, yieldOut G.env v = yieldValue v := fun v => by simp only [yieldOut, hco, Bool.false_eq_true, if_false]
  simp only [hy]
  refine s1_at ?_
  rw [Sem.bind_eq_wrap', Sem.bind_eq_wrap', Sem.wrap_wrap, Sem.wrap_wrap]
  refine s1_wrap ?_
  rw [g.over]
  refine wpAny_mono ((he s₀ Hw).run [] s σ H _ I ht) (fun v s' hv => ?_) fun x s' hx => hx.elim
  obtain ⟨x, H1, I1, rv, sm, m', rfl, yd, q⟩ := hv
  refine s1_at (s1_yield g.split fun p => ?_)
  refine ⟨v, _, _, _, c, p, fs, rfl, ?_, x, σ, H1, rv, I1, sm, yd, fun s'' H'' wk => ?_⟩
  · show (!(gd false || fs.any Frame.guarded)) = true
    rw [g.gd, g.guard]
    rfl
  · exact k m' s'' H'' s'' .next ⟨σ, H'', woken go I1 wk, q H'' wk.same⟩
end
end GenZ
/-! a generator that is walked while its walker makes objects: its call, next -/
namespace GenZ
open PySem PySem.Spec PyProof.Rows L2
open Sem (wp)
/-- it may be woken now -/
def Ready (M : Model) (A : Around) (Φ : End → Shared → Prop) (s : Shared) : GenState → Prop
  | .fresh c => S1 M A Φ c (M.den c) [] s
  | .suspended k _ c _ fs _ => S1 M A Φ c (k (.send .none)) fs s
  | _ => False
theorem wpAny_wake {M : Model} {A : Around} {Φ : End → Shared → Prop} {E : Value → Shared → Prop} {s : Shared} {g : Nat} {gs : GenState} {l : List Value} {α : Type} {k : GenResult → Sem α} {Q : α → Shared → Prop} (hg : s.gens[g]? = some gs)
    (hr : Ready M A Φ (s.setGen g .running) gs) (hq : ∀ e s₁, Φ e s₁ → e.quiet = true ∧ wpAny M A (k e.result) Q E (s₁.setGen g e.genState)) : wpAny M A (.resume g (.send .none) l k) Q E s := by
  intro Γ p hΓ
  rw [Sem.wp_resume]
  cases gs with
  | fresh c =>
    obtain ⟨e, s₁, h1, h2⟩ := hr (Γ.wake c p) p rfl (hΓ.wake c p)
    obtain ⟨q1, q2⟩ := hq e s₁ h2
    exact ⟨e.result, s₁.setGen g e.genState, by unfold Wakes; rw [hg]; exact ⟨e, s₁, h1, q1, rfl, rfl⟩, q2 Γ p hΓ⟩
  | suspended k₀ l₀ c₀ p₀ fs₀ cl =>
    obtain ⟨e, s₁, h1, h2⟩ := hr (Γ.wake c₀ p) p₀ rfl (hΓ.wake c₀ p)
    obtain ⟨q1, q2⟩ := hq e s₁ h2
    exact ⟨e.result, s₁.setGen g e.genState, by unfold Wakes; rw [hg]; exact ⟨e, s₁, h1, q1, rfl, rfl⟩, q2 Γ p hΓ⟩
  | running => exact hr.elim
  | finished => exact hr.elim
/-- next of a generator that raises nothing -/
theorem next1 {P : Program} {w : World} {A : Around} {E : Value → Shared → Prop} {s : Shared} {a : Addr} {g : Nat} {gs : GenState} {Φ : End → Shared → Prop} {Q : Option Value → Shared → Prop} (hh : A.handled = none) (hl : s.heap.NoLimit) (hroom : A.depth < recursionLimit)
    (hg : s.heap.IsGen a g) (hgs : s.gens[g]? = some gs) (hr : Ready (model P w) A.in1 Φ (s.setGen g .running) gs)
    (hY : ∀ v gg l k c p fs s₁, Φ (.susp v gg l k c p fs) s₁ → (End.susp v gg l k c p fs).quiet = true ∧ Q (some v) (s₁.setGen g (End.susp v gg l k c p fs).genState))
    (hR : ∀ r s₁, Φ (.ret r) s₁ → (r = .ok (.ret .none) ∨ r = .ok .next) ∧ ∀ h', (∀ b o, s₁.heap.get? b = some o → h'.get? b = some o) → Q none { s₁.setGen g .finished with heap := h' }) :
    wpAny (model P w) A (pyNext (.ref a)) Q E s := by
  unfold pyNext
  refine wpAny_bind (wpAny_attempt (wpAny_callSpecial?_slot (name := Str.ofString "__next__") hg.typeIs slot_gen_next (wpAny_call_entry slot_gen_next hg.typeIs entry_gen_next ?_ (args_gen_next _))))
  show wpAny _ A.in1 (Builtin.Generator.genWake (.ref a) (.send .none)) _ _ s; unfold Builtin.Generator.genWake
  refine wpAny_bind (wpAny_holding (wpAny_genNumber hg (wpAny_bind (wpAny_genState hgs ?_)))); have hr0 := hr
  cases gs with
  | running => exact hr.elim
  | finished => exact hr.elim
  | _ =>
    refine wpAny_bind (wpAny_roomToWake hl hroom ?_); show wpAny _ A.in1 (.resume g (.send .none) [] _) _ _ s
    refine wpAny_wake hgs hr0 fun e s₁ he => ?_
    cases e with
    | susp v gg l k c p fs =>
      obtain ⟨q1, q2⟩ := hY v gg l k c p fs s₁ he
      exact ⟨q1, wpAny_pure ⟨v, rfl, wpAny_pure q2⟩⟩
    | ret r =>
      refine ⟨rfl, ?_⟩
      obtain ⟨hx, hp⟩ := hR r s₁ he
      have hres : End.result (.ret r) = .returned .none := by rcases hx with z | z <;> rw [z] <;> rfl
      first | rw [hres] | simp only [hres]
      show wpAny _ A.in1 (newExc (.type "StopIteration") [] >>= _) _ _ _; refine wpAny_bind ?_
      simp only [newExc, newTuple]; refine wpAny_bind (wpAny_newObj_type ?_ (by size_fits))
      refine wpAny_bind (m := firstArgMember _ _) (wpAny_of_eq (a := Value.none) (by first | rfl | (simp only [firstArgMember]; rfl)) ?_); refine wpAny_newObj_type ?_ (by size_fits)
      simp only [raiseNew]; refine wpAny_bind (wpAny_bind (wpAny_handled ?_))
      first | rw [show A.in1.handled = none from hh] | rw [hh]
      refine wpAny_throw ?_
      refine wpAny_bind (wpAny_isInstance (T := "StopIteration") (b := true) ⟨_, Heap.get?_push_size _ rfl, rfl⟩ isSubtype_stop ?_); exact wpAny_pure (hp _ fun b o hb => Heap.get?_push_of_some _ (Heap.get?_push_of_some _ hb))
/-! the call -/
structure Nm where
  N : List Str
  qual : Str
  scope : Scope
  f : Addr
  cd : Value
def gnOf (P : Program) (w : World) (K : PySem.W.Frag) (mg : Str → Option Value) (base : Heap) (outer : List Env) (n0 : Nat) (q : Nm) (pn : List (Addr × Obj)) (A : Around) : Gn :=
  { P := P, w := w, K := K, mg := mg, base := base, N := q.N, qual := q.qual, scope := q.scope, f := q.f, cd := q.cd, A := A, outer := outer, n0 := n0, pn := pn }
/-- what a call gives -/
structure Made (P : Program) (w : World) (K : PySem.W.Frag) (mg : Str → Option Value) (base : Heap) (k : Nat) (outer : List Env) (H : Hp) (s : Shared) (m : Nat) (Yd : Nat → V → Hp → Prop) (En : Hp → Prop) (q : Nm) (a : Addr) (g : Nat) (c : Code) (ob : Obj) (s' : Shared) : Prop where
  young : s.heap.objs.size < a
  at_ : s'.heap.get? a = some ob
  gen : ∀ h : Heap, h.get? a = some ob → h.IsGen a g
  nocell : ∀ v, ob.data ≠ .cell v
  fresh : s'.gens[g]? = some (.fresh c)
  os : s'.os = s.os
  bare : AllBare s'.gens
  keep : ∀ b o, s.heap.get? b = some o → s'.heap.get? b = some o
  ok : ∀ A, (gnOf P w K mg base outer s.heap.objs.size q [(a, ob)] A).Ok
  nocells : ∀ x, (cellsFrom (s.heap.objs.size + 1) q.scope.names []).lookup x = none
  none_ : H a = none
  start : ∀ A s2 H2, Room k A → A.frames = some outer → Wake (gnOf P w K mg base outer s.heap.objs.size q [(a, ob)] A) s' H s2 H2 → S1 (model P w) A (Go (gnOf P w K mg base outer s.heap.objs.size q [(a, ob)] A) Yd En m s2 H2) c ((model P w).den c) [] s2
abbrev SpG2 := List V → Hp → Nat → (Nat → V → Hp → Prop) → (Hp → Prop) → Prop
structure GFn2 (P : Program) (w : World) (K : PySem.W.Frag) (mg : Str → Option Value) (base : Heap) (k : Nat) (f : Addr) (fd : FuncData) (ps : List Str) (sp : SpG2) : Prop where
  len : ∀ vs H m Yd En, sp vs H m Yd En → vs.length = ps.length
  run : ∀ (A : Around) (outer : List Env) (s : Shared) (H : Hp) (args : Args) (us : List Value) (vs : List V) (m : Nat) (Yd : Nat → V → Hp → Prop) (En : Hp → Prop), Room k A → Env0 P w K mg base A outer s H → BindsTo s fd args (ps.zip us) → Vals vs us → sp vs H m Yd En →
    codeAny (model P w) A (.call (.ref f) args) (fun r s' => ∃ q a g c ob, r = .ok (.ret (.ref a)) ∧ Made P w K mg base k outer H s m Yd En q a g c ob s') s
theorem cut_self {h : Heap} : cut h.objs.size h = h := by
  unfold cut
  rw [Array.extract_size]
theorem gfn2_of {P : Program} {w : World} {K : PySem.W.Frag} {mg : Str → Option Value} {base : Heap} {k : Nat} {f : Addr} {name qual : Str} {params : Arguments} {body : List Stmt} {scope : Scope} {dV kV doc pm cdv ct oc : Value} {an od : Option Addr}
    {osl : Array (Option Value)} {N ps : List Str} {sp : SpG2} (lk : K.lookup f = some ⟨oc, od, .func (PySem.W.fnOf name qual params body scope dV kV doc pm an cdv ct), osl⟩) (hcd : PySem.W.codeIn K cdv qual = true) (S : GScope N ps scope)
    (hcl : ∀ n x, (cellsFrom n scope.names []).lookup x = none)
    (len : ∀ vs H m Yd En, sp vs H m Yd En → vs.length = ps.length)
    (hbody : ∀ (G : Gn) (vs : List V) (H : Hp) (m : Nat) (Yd : Nat → V → Hp → Prop) (En : Hp → Prop), G.P = P → G.w = w → G.K = K → G.mg = mg → G.base = base → G.N = N → G.qual = qual → G.scope = scope → G.f = f → G.cd = cdv → G.Ok → Room k (G.A.deeper G.env) → sp vs H m Yd En →
      ∃ t, GSs2 G Yd En body t ∧ ∀ H2, Same H H2 → t { nx := fun m Hw _ H' => m = 0 ∧ Same Hw H' ∧ En H', rt := fun m Hw v H' => v = .non ∧ m = 0 ∧ Same Hw H' ∧ En H' } m H2 (start N vs) H2) :
    GFn2 P w K mg base (k + 1) f (PySem.W.fnOf name qual params body scope dV kV doc pm an cdv ct) ps sp := by
  refine ⟨len, fun A outer s H args us vs m Yd En hr e0 hb r hsp => ?_⟩
  have hl := len _ _ _ _ _ hsp
  have KX : K.In s.heap := e0.mod.kin.keeps fun b o e => (e0.bs b o e).1; have lim : s.heap.NoLimit := e0.mod.nolimit.keeps fun b o e => (e0.bs b o e).1
  have hkind : ∀ y ∈ ps.zip us, scope.names.lookup y.1 = some .local ∨ (scope.names.lookup y.1 = some .cell ∧ ((cellsFrom (s.heap.objs.size + 1) scope.names []).lookup y.1).isSome = true) := fun ⟨n, v⟩ hy => (S.par n (List.of_mem_zip hy).1).imp id fun q => ⟨q, PySem.W.cellsFrom_some _ _ _ (.inl q)⟩
  refine codeAny_call_generator hr.depth (KX _ _ lk) rfl S.co S.gen rfl (PySem.W.codeRec_of KX hcd) (hb _ _ _ _ ?_); refine wpAny_newFunctionEnv_cells S.kind hkind fun env he s1 x => ?_
  subst he
  have lim1 : s1.heap.NoLimit := lim.keeps x.toInCall.keep
  refine ⟨lim1, ?_⟩
  obtain ⟨h1, tk, es1, hk1⟩ := x.done
  have lt1 : s.heap.objs.size < s1.heap.objs.size := x.toInCall.ns.lt; have kp1 := x.toInCall.keep
  generalize hgo : ({ cls := .type "generator", data := _ } : Obj) = go
  have hgc : go.cls = .type "generator" := by rw [← hgo]
  have hgd : ∀ v, go.data ≠ .cell v := by rw [← hgo]; intro v z; cases z
  have hpu : ∀ h : Heap, (h.push go).get? h.objs.size = some go := by rw [← hgo]; exact fun h => Heap.get?_push_size _ rfl
  have hgen : ∀ h : Heap, h.get? s1.heap.objs.size = some go → h.IsGen s1.heap.objs.size s1.gens.size := by rw [← hgo]; exact fun h e => ⟨_, _, _, e, rfl, rfl, rfl⟩
  clear hgo
  have Gok : ∀ Aw, (gnOf P w K mg base outer s.heap.objs.size ⟨N, qual, scope, f, cdv⟩ [(s1.heap.objs.size, go)] Aw).Ok := fun Aw => ⟨e0.bsz, fun b hb => by
    obtain ⟨_, o, ho, _⟩ := e0.funs.mem hb
    exact Heap.lt_size ho, fun y c e => by
    have z : (cellsFrom (s.heap.objs.size + 1) scope.names []).lookup y = some c := e
    rw [hcl] at z
    cases z⟩
  refine ⟨⟨N, qual, scope, f, cdv⟩, s1.heap.objs.size, s1.gens.size, _, go, rfl, ⟨lt1, hpu _, hgen, hgd, Array.getElem?_push_size .., by rw [es1], ?_, fun b o e => Heap.get?_push_of_some _ (kp1 b o e), Gok, fun y => hcl _ y, ?_, fun Aw s2 H2 hrw hfr wk => ?_⟩⟩
  · exact AllBare.push (by rw [es1]; exact e0.bare) rfl
  · exact e0.hok.fresh (Nat.le_of_lt lt1)
  have e0w : Env0 P w K mg base Aw outer s H := ⟨hfr, e0.mod, e0.bs, e0.bsz, e0.funs, e0.frf, e0.hok, e0.bare⟩
  have I1 : Inv (gcxOf P w K mg base N qual scope f cdv Aw outer s H E0 []) [] (start N vs) H s1 := inv_startG S hrw.hd e0w hl r x
  generalize hs' : ({ s1 with gens := _, toks := _, heap := _ } : Shared) = s' at wk
  have ks' : ∀ b o, s1.heap.get? b = some o → s'.heap.get? b = some o := by rw [← hs']; exact fun b o e => Heap.get?_push_of_some _ e
  have os' : s'.os = s1.os := by rw [← hs']
  have at' : s'.heap.get? s1.heap.objs.size = some go := by rw [← hs']; exact hpu _
  have ba' : AllBare s'.gens := by rw [← hs']; exact AllBare.push (by rw [es1]; exact e0.bare) rfl
  have I2 : Inv (gcxOf P w K mg base N qual scope f cdv Aw outer s H E0 []) [] (start N vs) H s' := I1.call' (ch := []) os' (Un.kept ks') (I1.hok.kept ks') ba' fun b z => by simp at z
  clear hs'
  have I3 : Inv ((gnOf P w K mg base outer s.heap.objs.size ⟨N, qual, scope, f, cdv⟩ [(s1.heap.objs.size, go)] Aw).cx s H) [] (start N vs) H s' := by
    have ec : ({ s with heap := cut s.heap.objs.size s.heap } : Shared) = s := by rw [cut_self]
    have ex : (gnOf P w K mg base outer s.heap.objs.size ⟨N, qual, scope, f, cdv⟩ [(s1.heap.objs.size, go)] Aw).cx s H = { gcxOf P w K mg base N qual scope f cdv Aw outer s H E0 [] with pn := [(s1.heap.objs.size, go)], xe := fun _ _ => False } := by
      show ({ prog := P, w := w, K := K, mg := mg, base := base, A := _, N := N, s_0 := ({ s with heap := cut s.heap.objs.size s.heap } : Shared), H_0 := H, env := _, outer := outer, stack := _, ex := [], calm := true, fn := fun _ => true, pn := _, xe := fun _ _ => False } : Cx) = _
      rw [ec]
      rfl
    rw [ex]
    refine ⟨⟨I2.ok.mod, I2.ok.kind, I2.ok.glob, I2.ok.blt, I2.ok.above, I2.ok.inj, I2.ok.has, I2.ok.cab, I2.ok.hd, I2.ok.frames, I2.ok.stk, I2.ok.exf, I2.ok.bs, I2.ok.bsz, I2.ok.noex, I2.ok.exfs, I2.ok.funs, I2.ok.frf⟩, I2.os, I2.bare, I2.base, I2.loc, I2.cell, I2.free, I2.freeC, fun p hp => ?_, I2.hok, I2.len⟩
    have hp' : p ∈ [(s1.heap.objs.size, go)] := by simpa using hp
    rw [List.mem_singleton.mp hp']
    exact ⟨at', I1.hok.fresh (Nat.le_refl _), Nat.ne_of_gt lt1, I1.nofs (Nat.le_refl _), hgd⟩
  have I4 := woken (Gok Aw) I3 wk
  obtain ⟨t, ht, hq⟩ := hbody (gnOf P w K mg base outer s.heap.objs.size ⟨N, qual, scope, f, cdv⟩ [(s1.heap.objs.size, go)] Aw) vs H m Yd En rfl rfl rfl rfl rfl rfl rfl rfl rfl rfl (Gok Aw) (hrw.deeper _) hsp
  refine s1_func ?_
  refine ht.run _ [] _ _ id id m s2 H2 s2 (start N vs) H2 _ ⟨GenW.over_func, rfl, rfl, rfl⟩ (fun m' s₀ Hw s3 fl hs => ?_) I4 (hq H2 wk.same)
  cases fl with
  | next =>
    obtain ⟨σ', H', I', rfl, sm, en⟩ := hs
    exact s1_end (.ok (.ret .none)) ⟨.inl rfl, σ', H', I', sm, en⟩
  | brk => obtain ⟨_, _, _, z⟩ := hs; exact z.elim
  | cont => obtain ⟨_, _, _, z⟩ := hs; exact z.elim
  | ret u =>
    obtain ⟨v, σ', H', I', rv, ev, rfl, sm, en⟩ := hs
    subst ev
    have eu : u = Value.none := rv
    subst eu
    exact s1_end (.ok (.ret .none)) ⟨.inl rfl, σ', H', I', sm, en⟩
end GenZ
/-! for x in f(..), f a generator def, where the body makes objects alone -/
namespace GenZ
open PySem PySem.Spec PyProof.Rows L2
open Sem (wp)
theorem inv_sw {X : Cx} {pins : List (Addr × Obj)} {σ : L2.St} {H : Hp} {s : Shared} (I : Inv X pins σ H s) {G : Array GenState} (b : AllBare G) : Inv X pins σ H (sw s G) :=
  ⟨I.ok, I.os, b, I.base, I.loc, I.cell, I.free, I.freeC, I.pin, I.hok, I.len⟩
theorem inv_kept {X : Cx} {pins : List (Addr × Obj)} {σ : L2.St} {H : Hp} {s s1 s' : Shared} (I : Inv X pins σ H s1) (k : Kept s s1 s') (b : AllBare s.gens) : Inv X pins σ H s' := by
  rw [k.same]
  exact inv_sw I (k.bare b I.bare)
/-- behind a stretch of the generator its walker stands as before -/
theorem back {X : Cx} {pins : List (Addr × Obj)} {σ σg : L2.St} {H H1 : Hp} {s s0 s₁ : Shared} {G : Gn} (I : Inv X pins σ H s) (Ig : Inv (G.cx s0 H) [] σg H1 s₁) (hP : G.P = X.prog) (hw : G.w = X.w) (ho : G.outer = X.stack) (h0 : s0.heap = s.heap) (h0o : s0.os = s.os)
    (hL : X.env.locals < G.n0) (hc : ∀ x c, X.env.cells.lookup x = some c → c < G.n0) (hp : ∀ p ∈ X.pn ++ pins, p.1 < G.n0) (hz : X.s_0.heap.objs.size ≤ G.n0) : Inv X pins σ H1 s₁ := by
  obtain ⟨hh, gg, dd, tt, oo⟩ := s₁
  have eo : oo = s.os := (show oo = s0.os from Ig.os).trans h0o
  subst eo
  generalize hch : (List.range s.heap.objs.size).filter (fun b => decide (G.n0 ≤ b)) = ch
  have inch : ∀ b, b ∈ ch → G.n0 ≤ b := fun b hb => by
    rw [← hch] at hb
    exact of_decide_eq_true (List.mem_filter.mp hb).2
  have low : ∀ b o, b ∉ ch → s.heap.get? b = some o → (G.cx s0 H).s_0.heap.get? b = some o := fun b o hb e => by
    have l : b < G.n0 := by
      refine Nat.lt_of_not_le fun z => hb ?_
      rw [← hch]
      exact List.mem_filter.mpr ⟨List.mem_range.mpr (Heap.lt_size e), decide_eq_true z⟩
    show (cut G.n0 s0.heap).get? b = some o
    rw [cut_get l, h0]
    exact e
  have Lch : X.env.locals ∉ ch := fun z => Nat.lt_irrefl _ (Nat.lt_of_lt_of_le hL (inch _ z))
  have nx : ∀ b : Addr, b ∉ (G.cx s0 H).ex := fun b z => absurd (show b ∈ ([] : List Addr) from z) (by simp)
  have un := Ig.base
  have fs : (G.cx s0 H).fs = frs X.stack := by
    show frs G.outer = _
    rw [ho]
  refine I.step (ch := ch) (g' := gg) (t' := tt) (d' := dd) (fun b hb => ⟨.inr (Nat.le_trans hz (inch b hb)), fun z => Lch (z ▸ hb), fun x c e z => ?_, fun p hp' z => ?_⟩) (fun b o nL nf nc e n => ?_) (fun b o nL inf nc e n => ?_) (fun b o nc e n => ?_) (fun b o nc e => ?_) un.tups un.frzs un.tbls (fun m hm => ?_) ?_ Ig.bare
  · have z1 := hc x c e
    rw [z] at z1
    exact Nat.lt_irrefl _ (Nat.lt_of_lt_of_le z1 (inch b hb))
  · have z1 := hp p hp'
    rw [z] at z1
    exact Nat.lt_irrefl _ (Nat.lt_of_lt_of_le z1 (inch b hb))
  · refine un.keep b o (low b o nc e) n (fun z => ?_) (nx b)
    rw [fs] at z
    rcases List.mem_cons.mp (I.stkSub b z) with q | q
    · exact nL q
    · exact nf q
  · refine un.slot b o (low b o nc e) n ?_ (nx b)
    rw [fs]
    rcases I.ok.stk with z | ⟨z, hf⟩
    · rw [z]; exact inf
    · rw [z]
      unfold frs
      rw [List.filterMap_cons, hf]
      exact List.mem_cons_of_mem _ inf
  · exact un.free b o (low b o nc e) n (nx b)
  · exact un.there b o (low b o nc e) (nx b)
  · obtain ⟨o, es, ep, ho', r⟩ := hm
    obtain ⟨sl, e1⟩ := un.any (low _ o Lch ho') I.free (nx _)
    exact ⟨_, es, ep, e1, r⟩
  · have z : HOk G.P G.w H1 hh := Ig.hok
    rw [hP, hw] at z
    exact z
structure GCal (P : Program) (w : World) (K : PySem.W.Frag) (mg : Str → Option Value) (base : Heap) (k : Nat) (x : Str) (ps : List Str) (sp : SpG2) : Prop where
  ex : ∃ f fd, GFn2 P w K mg base k f fd ps sp ∧ mg x = some (.ref f) ∧ PySem.W.keepIn K (.ref f) = true ∧ Binds K fd ps []
def tForG (sp : SpG2) (t : TA) (g : TG) (tb : TS) : TS := fun D σ H => t σ H fun vs H1 => ∃ m Yd En, sp vs H1 m Yd En ∧ ∃ W : Nat → L2.St → Hp → Prop, W m σ H1 ∧
  (∀ j σ H2 x H3, W (j + 1) σ H2 → Same H2 H3 → Yd j x H3 → g x σ H3 fun σ' H4 => tb { nx := fun σ5 H5 => Same H3 H5 ∧ W j σ5 H5, ct := fun σ5 H5 => Same H3 H5 ∧ W j σ5 H5, bk := D.nx, rt := D.rt } σ' H4) ∧
  (∀ σ H2 H3, W 0 σ H2 → Same H2 H3 → En H3 → D.nx σ H3)
section
variable {X : Cx} {k : Nat} {x : Str} {ps : List Str} {sp : SpG2} {p pos pos' : Pos} {e tg : Expr} {es : List Expr} {body : List Stmt} {t : TA} {g : TG} {tb : TS}
theorem ps_forG (hX : X.xe = fun _ _ => False) (c : GCal X.prog X.w X.K X.mg X.base k x ps sp) (hr : Room (k + 1) X.A) (ha : PA X (e :: es) t) (hg : PG X tg g) (hb : PSs X body tb) (gl : Gl X x := by rfl) (hdb : (x == ("__debug__" : Str)) = false := by decide)
    (he : starEach (e :: es) X.env = (false, eval e X.env) :: starEach es X.env := by rfl) (hpl : (backTo pos' (starEach es X.env)).any (·.1) = false := by rfl) (hs : ∀ v, foldedSetIterable (.Call (.Name x p) (e :: es) [] pos') X.env v = pure v := by intro _; rfl) (ht : ∀ it v, letOwnedTupleGo tg it v = pure () := by intro _ _; rfl) :
    PS X (.For tg (.Call (.Name x p) (e :: es) [] pos') body [] pos) (tForG sp t g tb) := by
  obtain ⟨f, fd, F, hm, kp, hbd⟩ := c.ex
  have hp : PassesOwn (model X.prog X.w) X.A X.env X.xe := by rw [hX]; exact PassesOwn.never
  have noX : ∀ v s, ¬ X.xe v s := fun v s => by rw [hX]; exact id
  refine ⟨fun pins s σ H D I h => ?_⟩
  refine wpAny_For (wpAny_Call_Name_kw (ld_glob I gl hm ?_ hdb)) hs
  refine PySem.W.callWith_K (h₀ := X.base) I.ok.mod.kin kp (thn (ha.run pos' pins s σ H _ I h) ?_) he hpl
  rintro us s1 ⟨vs, H1, I1, r, m, Yd, En, hsp, W, w0, turn, fin⟩
  refine ⟨I1.kIn, ?_⟩
  have hl : us.length = ps.length := by rw [← r.length]; exact F.len _ _ _ _ _ hsp
  have bt : BindsTo s1 fd ⟨us, []⟩ (ps.zip us) := by simpa using hbd s1 us I1.kIn (by simpa using hl)
  refine wpAny_call (codeAny_mono (F.run X.A X.stack s1 H1 ⟨us, []⟩ us vs m Yd En (hr.mono (Nat.le_succ k)) I1.env0 bt r hsp) fun res s' z => ?_)
  obtain ⟨q, a, gi, cc, ob, rfl, md⟩ := z
  have hL : X.env.locals < s1.heap.objs.size := I1.lt
  have hcl : ∀ x c, X.env.cells.lookup x = some c → c < s1.heap.objs.size := fun x c e => by
    obtain ⟨v, o, ho, _⟩ := I1.cell x c e
    exact Heap.lt_size ho
  have hpi : ∀ p ∈ X.pn ++ pins, p.1 < s1.heap.objs.size := fun p hp => Heap.lt_size (I1.pin p hp).1
  have hz := I1.sz
  have hLn : H1 s1.heap.objs.size = none := I1.hok.fresh (Nat.le_refl _)
  have nfs : ∀ b, s1.heap.objs.size ≤ b → b ∉ X.fs := fun b hb => I1.nofs hb
  have I2 : Inv X pins σ H1 s' := I1.call' (ch := []) md.os (Un.kept md.keep) (I1.hok.kept md.keep) md.bare fun b z => by simp at z
  have frA : X.A.in1.frames = some X.stack := I1.ok.frames
  generalize hG : gnOf X.prog X.w X.K X.mg X.base X.stack s1.heap.objs.size q [(a, ob)] X.A.in1 = G
  have gP : G.P = X.prog := by rw [← hG]; rfl
  have gw : G.w = X.w := by rw [← hG]; rfl
  have gA : G.A = X.A.in1 := by rw [← hG]; rfl
  have go : G.outer = X.stack := by rw [← hG]; rfl
  have gn : G.n0 = s1.heap.objs.size := by rw [← hG]; rfl
  have gpn : G.pn = [(a, ob)] := by rw [← hG]; rfl
  have gown : ∀ b, G.own b → b = s1.heap.objs.size ∨ b = a := fun b h => by
    rw [← hG] at h
    rcases h with h | ⟨y, h⟩ | ⟨o, h⟩
    · exact .inl h
    · have z : (cellsFrom (s1.heap.objs.size + 1) q.scope.names []).lookup y = some b := h
      rw [md.nocells] at z
      cases z
    · have z : (b, o) ∈ [(a, ob)] := h
      have z2 : (b, o) = (a, ob) := List.mem_singleton.mp z
      cases z2
      exact .inr rfl
  have ge0 : ∀ {σ' : L2.St} {H' : Hp} {pins' : List (Addr × Obj)} {s2 : Shared} {x : GenState}, Inv X pins' σ' H' s2 → x.bare = true → Env0 G.P G.w G.K G.mg G.base G.A G.outer (s2.setGen gi x) H' := fun {σ' H' pins' s2 x} I hx => by
    rw [← hG]
    have z := I.env0
    exact ⟨frA, z.mod, z.bs, z.bsz, z.funs, z.frf, z.hok, allBare_setGen z.bare hx⟩
  have start : S1 (model X.prog X.w) X.A.in1 (Go G Yd En m (s'.setGen gi .running) H1) cc ((model X.prog X.w).den cc) [] (s'.setGen gi .running) := by
    rw [← hG]
    refine md.start X.A.in1 _ H1 hr.in1 frA ⟨rfl, Same.refl _, ?_, fun b o ob' e => ⟨e, ?_⟩⟩
    · rw [hG]; exact ge0 I2 rfl
    · rcases gown b (by rw [← hG]; exact ob') with z | z
      · rw [z]; exact hLn
      · rw [z]; exact md.none_
  have aL : s1.heap.objs.size < a := md.young
  show wpAny _ _ (pyIter (.ref a)) _ _ s'
  refine wpAny_pyIter_gen (md.gen _ md.at_) ?_
  refine codeAny_forLoop (fun j s3 => ∃ σ3 H3 gs, Inv X pins σ3 H3 s3 ∧ W j σ3 H3 ∧ s3.gens[gi]? = some gs ∧ Ready (model X.prog X.w) X.A.in1 (Go G Yd En j (s3.setGen gi .running) H3) (s3.setGen gi .running) gs ∧ s3.heap.get? a = some ob ∧ H3 a = none) ?_ m ⟨σ, H1, .fresh cc, I2, w0, md.fresh, start, md.at_, md.none_⟩ (ht _)
  rintro j s3 ⟨σ3, H3, gs, I3, w3, hgs, rdy, ha3, hn3⟩
  have hgl : gi + 1 ≤ s3.gens.size := (Array.getElem?_eq_some_iff.mp hgs).1
  refine wpAny_passesOwn hp (GenW.wpAny_gsz hgl (next1 (hr.hd) I3.nolimit (by have := hr.dp; omega) (md.gen _ ha3) hgs rdy (fun v gg l k c p fs s₁ hgo => ?_) (fun r s₁ hgo => ?_)))
  · cases j with
    | zero =>
      obtain ⟨z, _⟩ := hgo
      rcases z with z | z <;> cases z
    | succ j' =>
      obtain ⟨v', g', l', k', c', p', fs', ee, hq, x, σg, H4, rv, Ig, sm, yd, kap⟩ := hgo
      cases ee
      refine ⟨hq, fun hsz => ?_⟩
      have hsz1 : gi < s₁.gens.size := by
        rw [GenW.setGen_size] at hsz
        exact hsz
      have I4 : Inv X pins σ3 H4 s₁ := back I3 Ig gP gw go rfl rfl (by rw [gn]; exact hL) (by rw [gn]; exact hcl) (by rw [gn]; exact hpi) (by rw [gn]; exact hz)
      obtain ⟨mL, ⟨oL, esL, epL, hoL, hdL, _⟩, _⟩ := Ig.loc
      have eL : (G.cx (s3.setGen gi .running) H3).env.locals = s1.heap.objs.size := by
        show G.n0 = _
        exact gn
      rw [eL] at hoL
      have hnL : H4 s1.heap.objs.size = none := by
        have z := Ig.free
        rw [eL] at z
        exact z
      have pA : s₁.heap.get? a = some ob ∧ H4 a = none := by
        have z := Ig.pin (a, ob) (List.mem_append_left _ (by show (a, ob) ∈ G.pn; rw [gpn]; exact List.mem_singleton.mpr rfl))
        exact ⟨z.1, z.2.1⟩
      have slp : Slp (End.susp v gg l k c p fs).genState := ⟨_, _, _, _, _, _, rfl⟩
      have bgs : (End.susp v gg l k c p fs).genState.bare = true := End.bare_of_quiet hq
      have rdy' : ∀ (s4 : Shared) (H5 : Hp), Wake G s₁ H4 (s4.setGen gi .running) H5 → Ready (model X.prog X.w) X.A.in1 (Go G Yd En j' (s4.setGen gi .running) H5) (s4.setGen gi .running) (End.susp v gg l k c p fs).genState := fun s4 H5 wk => by
        have z := kap (s4.setGen gi .running) H5 wk
        rw [gP, gw, gA] at z
        exact z
      generalize (End.susp v gg l k c p fs).genState = gs' at *
      have hg4 : (s₁.setGen gi gs').gens[gi]? = some gs' := setGen_at hsz1
      have b4 : AllBare (s₁.setGen gi gs').gens := allBare_setGen I4.bare bgs
      have I4' : Inv X pins σ3 H4 (s₁.setGen gi gs') := inv_sw I4 b4
      have I5 : Inv X (pins ++ [(s1.heap.objs.size, oL), (a, ob)]) σ3 H4 (s₁.setGen gi gs') := I4'.pins_of fun p hp' => by
        rcases List.mem_append.mp hp' with z | z
        · exact I4'.pin p (List.mem_append_right _ z)
        · simp only [List.mem_cons, List.not_mem_nil, or_false] at z
          rcases z with rfl | rfl
          · exact ⟨hoL, hnL, Nat.ne_of_gt hL, nfs _ (Nat.le_refl _), fun v z => by rw [hdL] at z; cases z⟩
          · exact ⟨pA.1, pA.2, Nat.ne_of_gt (Nat.lt_trans hL aL), nfs _ (Nat.le_of_lt aL), md.nocell⟩
      generalize hs4 : s₁.setGen gi gs' = s4 at *
      have os4 : s4.os = s₁.os := by rw [← hs4]; rfl
      -- the name is set, then the body runs
      refine wpAny_passesOwn hp (wpAny_mono (wpAny_veil (hg.run _ (veil s4) σ3 H4 x v _ (inv_sw I5 (bare_veil b4)) rv (turn j' σ3 H3 x H4 w3 sm yd))) (fun _ s5 ⟨t5, k5, σ6, H6, I6, q6⟩ => ?_) fun v s ⟨_, _, z⟩ => absurd z (noX _ _))
      have I6 := inv_kept I6 k5 b4
      have hg5 := k5.slept gi gs' hg4 slp
      refine wpAny_passesOwn hp (wpAny_mono (wpAny_veil (hb.run _ (veil s5) σ6 H6 _ (inv_sw I6 (bare_veil I6.bare)) q6)) (fun f s7 ⟨t7, k7, q7⟩ => ?_) fun v s ⟨_, _, z⟩ => absurd z (noX _ _))
      have hg7 := k7.slept gi gs' hg5 slp
      have b5 := I6.bare
      have again : ∀ {σ7 : L2.St} {H7 : Hp}, Inv X (pins ++ [(s1.heap.objs.size, oL), (a, ob)]) σ7 H7 t7 → Same H4 H7 ∧ W j' σ7 H7 → ∃ m', m' < j' + 1 ∧ ∃ σ3 H3 gs, Inv X pins σ3 H3 s7 ∧ W m' σ3 H3 ∧ s7.gens[gi]? = some gs ∧ Ready (model X.prog X.w) X.A.in1 (Go G Yd En m' (s7.setGen gi .running) H3) (s7.setGen gi .running) gs ∧ s7.heap.get? a = some ob ∧ H3 a = none := fun {σ7 H7} I7 ⟨sm7, w7⟩ => by
        have I7 := inv_kept I7 k7 b5
        have pL7 := I7.pin (s1.heap.objs.size, oL) (List.mem_append_right _ (List.mem_append_right _ List.mem_cons_self))
        have pA7 := I7.pin (a, ob) (List.mem_append_right _ (List.mem_append_right _ (List.mem_cons_of_mem _ List.mem_cons_self)))
        refine ⟨j', Nat.lt_succ_self _, σ7, H7, gs', I7.unpinned, w7, hg7, rdy' s7 H7 ⟨?_, sm7, ge0 I7 rfl, fun b o ob' e => ?_⟩, pA7.1, pA7.2.1⟩
        · show s7.os = s₁.os
          rw [I7.os, ← os4, I5.os]
        · rcases gown b ob' with rfl | rfl
          · rw [hoL] at e
            cases e
            exact ⟨pL7.1, pL7.2.1⟩
          · rw [pA.1] at e
            cases e
            exact ⟨pA7.1, pA7.2.1⟩
      cases f with
      | next => obtain ⟨σ7, H7, I7, n7⟩ := q7; exact again I7 n7
      | cont => obtain ⟨σ7, H7, I7, n7⟩ := q7; exact again I7 n7
      | brk => obtain ⟨σ7, H7, I7, n7⟩ := q7; exact ⟨σ7, H7, (inv_kept I7 k7 b5).unpinned, n7⟩
      | ret u => obtain ⟨x7, σ7, H7, I7, r7, n7⟩ := q7; exact ⟨x7, σ7, H7, (inv_kept I7 k7 b5).unpinned, r7, n7⟩
  · cases j with
    | succ j' =>
      obtain ⟨_, _, _, _, _, _, _, ee, _⟩ := hgo
      cases ee
    | zero =>
      obtain ⟨z, σg, H4, Ig, sm, en⟩ := hgo
      refine ⟨z.imp (fun z => by cases z; rfl) (fun z => by cases z; rfl), fun h' hk _ => ?_⟩
      have I4 : Inv X pins σ3 H4 s₁ := back I3 Ig gP gw go rfl rfl (by rw [gn]; exact hL) (by rw [gn]; exact hcl) (by rw [gn]; exact hpi) (by rw [gn]; exact hz)
      have I5 : Inv X pins σ3 H4 (s₁.setGen gi .finished) := inv_sw I4 (allBare_setGen I4.bare rfl)
      exact wpAny_execs_nil ⟨σ3, H4, I5.kept (t' := s₁.toks) hk, fin σ3 H3 H4 w3 sm en⟩
end
end GenZ
/-! generator defs by their names: for over them, list of them -/
namespace Pl
open PySem PySem.Spec PyProof.Rows L2 GenZ
/-- a generator def by its name, as the kit's list(g) wants it -/
structure CalL (P : Program) (w : World) (K : PySem.W.Frag) (mg : Str → Option Value) (base : Heap) (k : Nat) (x : Str) (ps : List Str) (sp : SpG) : Prop where
  ex : ∃ f fd, GFn P w K mg base k f fd ps sp ∧ mg x = some (.ref f) ∧ PySem.W.keepIn K (.ref f) = true ∧ Binds K fd ps []
section
variable {P : Program} {w : World} {K : PySem.W.Frag} {mg : Str → Option Value} {base : Heap} {x : Str} {st : Stmt} {N ps : List Str} {k : Nat}
theorem Df.gcal {sp : SpG2} (D : Df K mg x st ps) (S : GScope N ps (defScope st)) (hcl : ∀ n y, (cellsFrom n (defScope st).names []).lookup y = none) (len : ∀ vs H m Yd En, sp vs H m Yd En → vs.length = ps.length)
    (bod : ∀ (f : Addr) (cdv : Value) (A : Around) (out : List Env) (n0 : Nat) (pn : List (Addr × Obj)) (vs : List V) (H : Hp) (m : Nat) (Yd : Nat → V → Hp → Prop) (En : Hp → Prop),
      (Gn.mk P w K mg base N x (defScope st) f cdv A out n0 pn).Ok → Room k (A.deeper (envOfC x (defScope st) n0 f cdv)) → sp vs H m Yd En →
      ∃ t, GSs2 (Gn.mk P w K mg base N x (defScope st) f cdv A out n0 pn) Yd En (defBody st) t ∧ ∀ H2, Same H H2 → t { nx := fun m Hw _ H' => m = 0 ∧ Same Hw H' ∧ En H', rt := fun m Hw v H' => v = .non ∧ m = 0 ∧ Same Hw H' ∧ En H' } m H2 (start N vs) H2) :
    GCal P w K mg base (k + 1) x ps sp := by
  obtain ⟨f, fd, F, hm, hb⟩ := D.ex
  have kp := F.kp
  obtain ⟨oc, od, kV, doc, pm, an, cdv, ct, osl, rfl, lk, hcd⟩ := F.ex
  refine ⟨f, _, gfn2_of lk hcd S hcl len fun G vs H m Yd En e1 e2 e3 e4 e5 e6 e7 e8 e9 e10 go rm h => ?_, hm, kp, hb⟩
  obtain ⟨P', w', K', mg', base', N', q', sc', f', cd', A', out', n0', pn'⟩ := G
  obtain rfl : P' = P := e1
  obtain rfl : w' = w := e2
  obtain rfl : K' = K := e3
  obtain rfl : mg' = mg := e4
  obtain rfl : base' = base := e5
  obtain rfl : N' = N := e6
  obtain rfl : q' = x := e7
  obtain rfl : sc' = _ := e8
  obtain rfl : f' = f := e9
  obtain rfl : cd' = cdv := e10
  exact bod f' cd' A' out' n0' pn' vs H m Yd En go rm h
theorem Df.gcalL {sp : SpG} (D : Df K mg x st ps) (S : GScope N ps (defScope st)) (len : ∀ vs H Q E, sp vs H Q E → vs.length = ps.length)
    (bod : ∀ (f : Addr) (cdv : Value) (A : Around) (out : List Env) (s : Shared) (H : Hp) (vs : List V) (Q : List V → Hp → Prop) (E : XK) (pn : List (Addr × Obj)), Room k (A.deeper (envOfC x (defScope st) s.heap.objs.size f cdv)) → sp vs H Q E →
      ∃ t, GSs (gcxOf P w K mg base N x (defScope st) f cdv A out s H E pn) (defBody st) t ∧ t { nx := fun ys _ H' => Q ys H', rt := fun ys v H' => v = .non ∧ Q ys H' } [] (start N vs) H) : CalL P w K mg base (k + 1) x ps sp := by
  obtain ⟨f, fd, F, hm, hb⟩ := D.ex
  have kp := F.kp
  obtain ⟨oc, od, kV, doc, pm, an, cdv, ct, osl, rfl, lk, hcd⟩ := F.ex
  exact ⟨f, _, gfn_of lk hcd S len fun A out s H vs Q E pn rm h => bod f cdv A out s H vs Q E pn rm h, hm, kp, hb⟩
end
section
variable {X : Cx} {k : Nat} {x : Str} {ps : List Str} {sp : SpG} {p q pos pos' : Pos} {e : Expr} {es : List Expr} {t : TA}
theorem passE0 : Passes (CX X.prog X.w) X E0 := fun _ _ _ _ _ _ _ h => by
  obtain ⟨_, _, _, _, _, _, _, _, _, _, _, _, z⟩ := h
  exact z.elim
/-- list(x(e, ..)), x a generator def -/
theorem pe_listL (c : CalL X.prog X.w X.K X.mg X.base k x ps sp) (hr : Room (k + 3) X.A) (hml : X.mg "list" = none) (ha : PA X (e :: es) t) (hgl : Gl X "list" := by rfl) (hg : Gl X x := by rfl) (hdb : (x == ("__debug__" : Str)) = false := by decide)
    (he : starEach (e :: es) X.env = (false, eval e X.env) :: starEach es X.env := by rfl) (hpl : (backTo pos' (starEach es X.env)).any (·.1) = false := by rfl)
    (he1 : starEach [.Call (.Name x p) (e :: es) [] pos'] X.env = (false, eval (.Call (.Name x p) (e :: es) [] pos') X.env) :: starEach [] X.env := by rfl) :
    PE X (.Call (.Name "list" q) [.Call (.Name x p) (e :: es) [] pos'] [] pos) (tListG (tCallG sp [] E0 t)) := by
  obtain ⟨f, fd, F, hm, kp, hb⟩ := c.ex
  exact pe_listG (pgen_call F (hr.mono (by omega)) hg hm kp hb .nil ha hdb he hpl) passE0 (fun _ _ _ h => h.elim) hr hgl hml rfl (by decide) (by decide) he1
end
end Pl
/-! == of tuples whose items have an own ==, whatever comes out -/
namespace Pl
section
open PySem PySem.SeqAt
open AutoSeq1 (wpAny_loadPart')
open MeetsSeq MeetsSeq2 MeetsSeq3 SeqRoads2
variable {prog : Program} {w : World} {A : Around} {R : Result → Shared → Prop}
/-- item by item: either on, or it ends with False -/
theorem tup_walk (l b : Addr) (xs ys : Array Value) (n m : Nat) (dl db : Option Addr) (sa sb : Array (Option Value)) (J : Nat → Shared → Prop)
    (each : ∀ i (h1 : i < xs.size) (h2 : i < ys.size) s, J i s → wpAny (model prog w) A.in1 (eqBool xs[i] ys[i]) (fun r s' => (r = true → J (i + 1) s') ∧ (r = false → R (.ok (.ret (.bool false))) s')) (fun e s' => R (.error e) s') s)
    (last : ∀ s, J (min xs.size ys.size) s → R (.ok (.ret (.bool (xs.size == ys.size)))) s) {s : Shared} (gl : s.heap.get? l = some { cls := .type "tuple", dict := dl, data := .seq xs n, slots := sa }) (gb : s.heap.get? b = some { cls := .type "tuple", dict := db, data := .seq ys m, slots := sb }) (h : J 0 s) :
    wpAny (model prog w) A.in1 (Builtin.«tuple.__eq__» ⟨[.ref l, .ref b], []⟩) (GQ.FinOf prog w A R) (fun e s' => R (.error e) s') s := by
  have f2 := AutoSeq1.sub_tuple_tuple
  have hZ : (xs.toList.zip ys.toList).length = min xs.size ys.size := by simp
  have h0 := h
  obtain ⟨hp, g, d, tk, os⟩ := s
  wp_walk using wpAny_loadPart' gl, wpAny_loadPart' gb, wpAny_forIn_list _ (fun rest z s' => z.1 = none ∧ ∃ i, rest = (xs.toList.zip ys.toList).drop i ∧ i ≤ min xs.size ys.size ∧ J i s') _
  case turn =>
    rintro ⟨y, x⟩ rest z s' ⟨hz', i, hz, hi, hJ⟩
    have hlt : i < (xs.toList.zip ys.toList).length := by
      rcases Nat.lt_or_ge i (xs.toList.zip ys.toList).length with h' | h'
      · exact h'
      · rw [List.drop_of_length_le h'] at hz
        cases hz
    have hm : i < min xs.size ys.size := hZ ▸ hlt
    have h1 : i < xs.size := by omega
    have h2 : i < ys.size := by omega
    rw [List.drop_eq_getElem_cons hlt] at hz
    injection hz with hyx hrest
    have hy : y = xs[i] := by
      have := congrArg Prod.fst hyx
      simpa using this
    have hx : x = ys[i] := by
      have := congrArg Prod.snd hyx
      simpa using this
    subst hy hx
    refine wpAny_bind (wpAny_mono (each i h1 h2 s' hJ) (fun r s2 q2 => ?_) fun _ _ x => x)
    obtain ⟨qt, qf⟩ := q2
    cases r with
    | true =>
      wp_walk
      exact ⟨rfl, i + 1, hrest, hm, qt rfl⟩
    | false =>
      have q := qf rfl
      wp_walk
      first | exact ⟨_, rfl, q⟩ | exact q | simpa using q
  case fin =>
    rintro ⟨b1, b2⟩ s' ⟨hz', i, hz, hi, hJ⟩
    simp only at hz'
    subst hz'
    have hge : min xs.size ys.size ≤ i := by
      rcases Nat.lt_or_ge i (xs.toList.zip ys.toList).length with h' | h'
      · rw [List.drop_eq_getElem_cons h'] at hz
        cases hz
      · exact hZ ▸ h'
    have hi' : i = min xs.size ys.size := by omega
    have hR : R (.ok (.ret (.bool (xs.size == ys.size)))) s' := last s' (hi' ▸ hJ)
    wp_walk
    first | exact ⟨_, rfl, by simpa [Builtin.Tuple.tupleCompareSizes] using hR⟩ | simpa [Builtin.Tuple.tupleCompareSizes] using hR
  case h =>
    exact ⟨rfl, 0, rfl, Nat.zero_le _, h0⟩
variable {E : Value → Shared → Prop} {s : Shared}
theorem tup_cmp {l b : Addr} {xs ys : Array Value} {Q : Value → Shared → Prop} (hu : A.units < cLine) (J : Nat → Shared → Prop) (hl : s.heap.IsTuple l xs) (hb : s.heap.IsTuple b ys)
    (each : ∀ i (h1 : i < xs.size) (h2 : i < ys.size) s, J i s → wpAny (model prog w) A.in1 (eqBool xs[i] ys[i]) (fun r s' => (r = true → J (i + 1) s') ∧ (r = false → Q (.bool false) s')) E s)
    (last : ∀ s, J (min xs.size ys.size) s → Q (.bool (xs.size == ys.size)) s) (h : J 0 s) : wpAny (model prog w) A (richCompare .Eq (.ref l) (.ref b)) Q E s := by
  obtain ⟨⟨c1, d1, t1, s1⟩, o1, e1, n1, f1⟩ := id hl
  obtain ⟨⟨c2, d2, t2, s2⟩, o2, e2, n2, f2⟩ := id hb
  simp only at e1 f1 e2 f2
  subst e1 f1 e2 f2
  refine wpAny_richCompare_same_room (op := .Eq) ⟨_, o1, rfl⟩ ⟨_, o2, rfl⟩ F.slot_tuple_eq (GQ.call_here F.slot_tuple_eq ⟨_, o1, rfl⟩ F.entry_tuple_eq (F.args_tuple_eq_2 _ _) ?_) hu
  exact tup_walk (R := wants (fun v s' => v ≠ .notImplemented ∧ Q v s') E) l b xs ys n1 n2 d1 d2 s1 s2 J (fun i h1 h2 s' j => wpAny_mono (each i h1 h2 s' j) (fun r s2 q => ⟨q.1, fun e => ⟨(fun x => nomatch x), q.2 e⟩⟩) fun _ _ x => x) (fun s' q => ⟨(fun x => nomatch x), last s' q⟩) o1 o2 h
end
open PySem PySem.Spec PyProof.Rows L2
section
variable {X : Cx} {k : Nat} {C : Addr} {ps : List Str} {sp : Sp}
/-- own ==, somewhere below -/
theorem rcO_at (c : MCal X.prog X.w X.K X.mg X.base k C "__eq__" ps sp) {A : Around} (sb : Sub X k A) {pins : List (Addr × Obj)} {σ : L2.St} {H : Hp} {s : Shared} {a dx : Addr} {fs : List (Str × V)} {y : V} {u : Value} {Qb : Bool → Hp → Prop}
    (I : Inv X pins σ H s) (ea : H a = some (.ins C dx fs)) (ey : EqY X.K C H y) (ry : RelV y u) (q : sp [.ref a, y] H (fun v H' => ∃ r, v = .bl r ∧ Qb r H') E0) :
    wpAny (model X.prog X.w) A (richCompare .Eq (.ref a) u) (fun v s' => ∃ r, v = .bool r ∧ ∃ H', Inv X pins σ H' s' ∧ Qb r H') X.xe s := by
  obtain ⟨f, fd, F, h1, h2, kp, hb⟩ := c.ex
  obtain ⟨tb, lk, nf⟩ := ey.looks I ry
  obtain ⟨mA, O, _⟩ := ins_get I.hok ea
  obtain ⟨od, J, _⟩ := O.look
  obtain ⟨m, fr⟩ := I.fr
  have e0 : Env0 X.prog X.w X.K X.mg X.base A X.stack s H := by
    have e := I.env0
    exact ⟨by rw [sb.fr]; exact e.frames, e.mod, e.bs, e.bsz, e.funs, e.frf, e.hok, e.bare⟩
  refine PySem.W.cmp_K (op := .Eq) sb.room.units0 fr I.ok.mod.kin J lk nf h1 h2 ?_
  have hl : [V.ref a, y].length = ps.length := F.len _ _ _ _ q
  have bt : BindsTo s fd ⟨[.ref a, u], []⟩ (ps.zip [Value.ref a, u]) := by simpa using hb s [.ref a, u] I.kIn (by simpa using hl)
  refine wpAny_call (codeAny_mono (F.run A X.stack s H ⟨[.ref a, u], []⟩ [.ref a, u] [.ref a, y] _ E0 sb.room e0 bt (.cons rfl (.cons ry .nil)) q) ?_)
  intro res s' z
  match res, z with
  | .ok (.ret u'), z =>
    obtain ⟨v', H', J2, rv, r, rfl, q2⟩ := I.after z
    obtain rfl : u' = Value.bool r := rv
    exact ⟨r, rfl, H', J2, q2⟩
  | .ok .next, z => exact False.elim z
  | .ok .brk, z => exact False.elim z
  | .ok .cont, z => exact False.elim z
  | .error er, z => exact False.elim z
/-- tuples of instances of C, the i-th two equal where e says so -/
def rEqT (K : PySem.W.Frag) (C : Addr) (sp : Sp) : R2 := fun x y H Q => ∃ (a b : Addr) (ss tt : List Addr) (e : Nat → Bool), x = .ref a ∧ y = .ref b ∧ SqT K H a (ss.map V.ref) ∧ SqT K H b (tt.map V.ref) ∧
  (∀ i u v, ss[i]? = some u → tt[i]? = some v → (u = v → e i = true) ∧ (∃ dx fs, H u = some (.ins C dx fs)) ∧ (∃ dx fs, H v = some (.ins C dx fs)) ∧ sp [.ref u, .ref v] H (fun z H' => z = .bl (e i) ∧ H' = H) E0) ∧
  Q (.bl ((List.range (min ss.length tt.length)).all e && decide (ss.length = tt.length))) H
theorem mapRef {ss : List Addr} {its : List Value} (r : Vals (ss.map V.ref) its) : its = ss.map Value.ref := by
  induction ss generalizing its with
  | nil =>
    cases r
    rfl
  | cons u ss ih =>
    rw [List.map_cons] at r
    cases r with
    | cons r1 r2 =>
      obtain rfl := r1
      rw [ih r2]
      rfl
theorem op_eqT (c : MCal X.prog X.w X.K X.mg X.base k C "__eq__" ps sp) (im : ∀ vs H Q Q', (∀ v H', Q v H' → Q' v H') → sp vs H Q E0 → sp vs H Q' E0) (hr : Room (k + 1) X.A) : OpR X (compareOp .Eq) (rEqT X.K C sp) := by
  intro pins s σ H x y v u Q I rx ry h
  obtain ⟨a, b, ss, tt, e, rfl, rfl, ha, hb, one, q⟩ := h
  obtain rfl : v = Value.ref a := rx
  obtain rfl : u = Value.ref b := ry
  obtain ⟨i1, r1, e1, z1⟩ := I.tuple ha
  obtain ⟨i2, r2, e2, z2⟩ := I.tuple hb
  obtain rfl := mapRef r1
  obtain rfl := mapRef r2
  show wpAny (model X.prog X.w) X.A (richCompare .Eq (.ref a) (.ref b)) (EP X pins σ Q) X.xe s
  have sz1 : (ss.map Value.ref).toArray.size = ss.length := by simp
  have sz2 : (tt.map Value.ref).toArray.size = tt.length := by simp
  refine tup_cmp hr.units0 (fun i s' => Inv X pins σ H s' ∧ ∀ j, j < i → e j = true) e1 e2 (fun i l1 l2 s' j => ?_) (fun s' j => ?_) ⟨I, fun j hj => absurd hj (Nat.not_lt_zero _)⟩
  · rw [sz1] at l1
    rw [sz2] at l2
    obtain ⟨I1, tr⟩ := j
    have g1 : ss[i]? = some ss[i] := List.getElem?_eq_getElem l1
    have g2 : tt[i]? = some tt[i] := List.getElem?_eq_getElem l2
    have w1 : ((ss.map Value.ref).toArray)[i]'(by rw [sz1]; exact l1) = Value.ref ss[i] := by simp
    have w2 : ((tt.map Value.ref).toArray)[i]'(by rw [sz2]; exact l2) = Value.ref tt[i] := by simp
    rw [w1, w2]
    obtain ⟨same, ⟨dx, fs, eu⟩, ⟨dy, gs, ev⟩, spq⟩ := one i _ _ g1 g2
    have done : ∀ s2, Inv X pins σ H s2 → (e i = true → Inv X pins σ H s2 ∧ ∀ j, j < i + 1 → e j = true) ∧ (e i = false → EP X pins σ Q (.bool false) s2) := fun s2 I2 => by
      refine ⟨fun ei => ⟨I2, fun j hj => ?_⟩, fun ei => ⟨.bl false, H, I2, rfl, ?_⟩⟩
      · rcases Nat.lt_or_ge j i with l | l
        · exact tr j l
        · have : j = i := by omega
          rw [this]
          exact ei
      · have f : ((List.range (min ss.length tt.length)).all e && decide (ss.length = tt.length)) = false := by
          have z : (List.range (min ss.length tt.length)).all e = false := by
            rw [List.all_eq_false]
            exact ⟨i, List.mem_range.mpr (by omega), by rw [ei]; decide⟩
          rw [z, Bool.false_and]
        rw [← f]
        exact q
    by_cases hab : ss[i] = tt[i]
    · rw [← hab]
      have t := same hab
      have d := done s' I1
      rw [t] at d
      exact SeqAt.EqAt.same (A := X.A.in1) (s := s') (.ref ss[i]) X.prog X.w X.xe _ ⟨fun _ => d.1 rfl, fun z => nomatch z⟩
    · have sb : Sub X k X.A.in1 := ⟨hr.in1, rfl⟩
      refine GQ.eqBool_refG hab (wpAny_mono (rcO_at (Qb := fun r H' => r = e i ∧ H' = H) c sb I1 eu (.inl ⟨_, dy, gs, rfl, ev⟩) rfl (im _ _ _ _ (fun z H' ⟨z1, z2⟩ => ⟨e i, z1, rfl, z2⟩) spq)) (fun v2 s2 z => ?_) fun _ _ x => x)
      obtain ⟨r, rfl, H', I2, rfl, rfl⟩ := z
      exact ⟨e i, rfl, done s2 I2⟩
  · rw [sz1, sz2] at j ⊢
    obtain ⟨I1, tr⟩ := j
    refine ⟨.bl (ss.length == tt.length), H, I1, rfl, ?_⟩
    have z : (List.range (min ss.length tt.length)).all e = true := by
      rw [List.all_eq_true]
      exact fun j hj => tr j (List.mem_range.mp hj)
    rw [z, Bool.true_and] at q
    have d : (ss.length == tt.length) = decide (ss.length = tt.length) := by
      by_cases h : ss.length = tt.length
      · rw [decide_eq_true h, h]
        simp
      · rw [decide_eq_false h]
        simpa using h
    rw [d]
    exact q
end
end Pl
namespace Pl
namespace ZL
open PySem PySem.Spec PyProof.Rows L2
/-! zip(a, b, ..) of lists -/
def tiO (l : Addr) : Obj := { cls := .type "list_iterator", data := .fields #[.ref l, .int 0 0] }
/-- the iterators laid one after another -/
def itH (h : Heap) : List Addr → Heap
  | [] => h
  | l :: r => itH (h.push (tiO l)) r
def itV (n : Nat) : List Addr → List Value
  | [] => []
  | l :: r => .ref n :: itV (n + 1) r
theorem itH_keep : ∀ {ls : List Addr} {h : Heap} {b : Addr} {o : Obj}, h.get? b = some o → (itH h ls).get? b = some o
  | [], _, _, _, e => e
  | l :: r, h, b, o, e => itH_keep (ls := r) (Heap.get?_push_of_some _ e)
theorem itH_size : ∀ {ls : List Addr} {h : Heap}, (itH h ls).objs.size = h.objs.size + ls.length
  | [], _ => rfl
  | l :: r, h => by
    show (itH (h.push (tiO l)) r).objs.size = _
    rw [itH_size, Heap.size_push, List.length_cons]
    omega
theorem itH_at : ∀ {ls : List Addr} {h : Heap} {j : Nat} {l : Addr}, ls[j]? = some l → (itH h ls).get? (h.objs.size + j) = some (tiO l)
  | l :: r, h, 0, _, e => by
    cases e
    exact itH_keep (ls := r) (h := h.push (tiO l)) (Heap.get?_push_size _ rfl)
  | l :: r, h, j + 1, x, e => by
    have z := itH_at (ls := r) (h := h.push (tiO l)) (j := j) e
    rw [Heap.size_push] at z
    rw [show h.objs.size + (j + 1) = h.objs.size + 1 + j by omega]
    exact z
theorem itV_at : ∀ {ls : List Addr} {n j : Nat}, j < ls.length → (itV n ls)[j]? = some (.ref (n + j))
  | l :: r, n, 0, _ => rfl
  | l :: r, n, j + 1, h => by
    have z := itV_at (ls := r) (n := n + 1) (j := j) (by simpa using h)
    rw [show n + (j + 1) = n + 1 + j by omega]
    exact z
theorem itV_len : ∀ {ls : List Addr} {n : Nat}, (itV n ls).length = ls.length
  | [], _ => rfl
  | l :: r, n => by
    show (itV (n + 1) r).length + 1 = _
    rw [itV_len]
    rfl
section
variable {prog : Program} {w : World} {A : Around} {E : Value → Shared → Prop}
theorem iterAll_go {f : Value → Array Value → Sem (ForInStep (Array Value))} (hf : ∀ x a, f x a = (do let v ← holding a.toList (pyIter x); pure (.yield (a.push v)))) : ∀ (ls : List Addr) (acc : Array Value) (s : Shared) (Q : Array Value → Shared → Prop),
    (∀ l ∈ ls, ∃ xs, s.heap.IsList l xs) → Q (acc ++ (itV s.heap.objs.size ls).toArray) { s with heap := itH s.heap ls } → wpAny (model prog w) A (forIn (ls.map Value.ref) acc f) Q E s
  | [], acc, s, Q, _, h => by
    rw [List.map_nil, List.forIn_nil]
    refine wpAny_pure ?_
    have e : acc ++ (itV s.heap.objs.size []).toArray = acc := by simp [itV]
    rw [e] at h
    exact h
  | l :: r, acc, s, Q, ht, h => by
    rw [List.map_cons, List.forIn_cons, hf]
    obtain ⟨xs, hl⟩ := ht l List.mem_cons_self
    refine wpAny_bind (wpAny_bind (wpAny_holding (wpAny_pyIter_list hl (wpAny_pure ?_))))
    refine iterAll_go hf r _ _ Q (fun b hb => ?_) ?_
    · obtain ⟨ys, z⟩ := ht b (List.mem_cons_of_mem _ hb)
      exact ⟨ys, z.push _⟩
    · have e : (acc.push (Value.ref s.heap.objs.size)) ++ (itV (s.heap.push (tiO l)).objs.size r).toArray = acc ++ (itV s.heap.objs.size (l :: r)).toArray := by
        rw [Heap.size_push]
        apply Array.toList_inj.mp
        simp [itV]
      show Q ((acc.push (Value.ref s.heap.objs.size)) ++ (itV (s.heap.push (tiO l)).objs.size r).toArray) { s with heap := itH (s.heap.push (tiO l)) r }
      rw [e]
      exact h
theorem iterAll_wp {ls : List Addr} {s : Shared} {Q : List Value → Shared → Prop} (ht : ∀ l ∈ ls, ∃ xs, s.heap.IsList l xs) (h : Q (itV s.heap.objs.size ls) { s with heap := itH s.heap ls }) :
    wpAny (model prog w) A (Builtin.SmallTypes.iterAll (ls.map Value.ref)) Q E s := by
  unfold Builtin.SmallTypes.iterAll
  refine wpAny_bind (iterAll_go (fun x a => rfl) ls #[] s _ ht (wpAny_pure ?_))
  have e : (#[] ++ (itV s.heap.objs.size ls).toArray : Array Value).toList = itV s.heap.objs.size ls := by simp
  show Q (#[] ++ (itV s.heap.objs.size ls).toArray : Array Value).toList _
  rw [e]
  exact h
end
abbrev zN3 (h : Heap) (ls : List Addr) : Heap := (itH h ls).push { cls := .type "tuple", data := .seq (itV h.objs.size ls).toArray }
abbrev zN4 (h : Heap) (ls : List Addr) : Heap := (zN3 h ls).push { cls := .type "tuple", data := .seq ((itV h.objs.size ls).map fun _ => Value.none).toArray }
abbrev zN5 (h : Heap) (ls : List Addr) : Heap := (zN4 h ls).push { cls := .type "zip", data := .fields #[.none, .bool false, .bool false, .ref (itH h ls).objs.size, .ref (zN3 h ls).objs.size] }
theorem meets_zipN (ls : List Addr) (hn : ls.length ≤ 100) :
    Meets (Builtin.«zip.__new__» ⟨.type "zip" :: ls.map Value.ref, []⟩) (fun _ R s => (∀ l ∈ ls, ∃ xs, s.heap.IsList l xs) ∧ R (.ok (.ret (.ref (zN4 s.heap ls).objs.size))) { s with heap := zN5 s.heap ls }) :=
  .of_wp fun prog w A R s h => by
    obtain ⟨hp, g, d, tk, os⟩ := s
    obtain ⟨ht, h⟩ := h
    have ht : ∀ l ∈ ls, ∃ xs, Heap.IsList (Shared.heap ⟨hp, g, d, tk, os⟩) l xs := ht
    have hsub := sub_zip
    unfold Builtin.«zip.__new__»
    refine wpAny_bind (wpAny_of_eq (a := ((.type "zip" : Value), ls.map Value.ref)) ?_ ?_)
    · unfold Builtin.SmallTypes.newClass
      show (isType (.type "zip") >>= _) = _
      rw [show isType (.type "zip") = pure true from rfl]
      show (isSubtype (.type "zip") (.type "zip") >>= _) = _
      rw [hsub]
      rfl
    dsimp only
    rw [if_neg (by simp)]
    have z1 : (itV hp.objs.size ls).length ≤ sizeLine := by rw [itV_len]; exact Nat.le_trans hn (by decide)
    have z2 : ((itV hp.objs.size ls).map fun _ => Value.none).length ≤ sizeLine := by rw [List.length_map]; exact z1
    refine wpAny_bind (iterAll_wp ht (wpAny_bind (wpAny_newTuple (wpAny_bind (wpAny_newTuple (wpAny_bind ?_) z2)) z1)))
    show wpAny _ _ (newObj (.type "zip") (.fields #[.none, .bool false, .bool false, .ref (itH hp ls).objs.size, .ref (zN3 hp ls).objs.size])) _ _ _
    exact wpAny_newObj_type (wpAny_pure ⟨_, rfl, h⟩) (by size_fits)
/-- the checks of the call's form -/
theorem zip_checks : ∀ us : List Value, 2 ≤ us.length → us.length ≤ 4 → checkTypeCall "zip" ⟨us, []⟩ = pure () ∧ checkBuiltinCall "zip.__new__" ⟨.type "zip" :: us, []⟩ = pure () ∧ ∀ obj, argsOk "object.__init__" ⟨obj :: us, []⟩
  | [a, b], _, _ => ⟨F.typeCall_zip_2 _ _, F.newCall_zip_2 _ _, fun obj => F.args_object_init_3 obj _ _⟩
  | [a, b, c], _, _ => ⟨by kernel_rfl, by kernel_rfl, fun obj => by unfold argsOk; kernel_rfl⟩
  | [a, b, c, d], _, _ => ⟨by kernel_rfl, by kernel_rfl, fun obj => by unfold argsOk; kernel_rfl⟩
  | [], h, _ => absurd h (by simp)
  | [_], h, _ => absurd h (by simp)
  | _ :: _ :: _ :: _ :: _ :: _, _, h => absurd h (by simp)
section
variable {prog : Program} {w : World} {A : Around} {E : Value → Shared → Prop} {s : Shared}
theorem call_zipN {ls : List Addr} {Q : Value → Shared → Prop} (h2 : 2 ≤ ls.length) (h4 : ls.length ≤ 4) (ht : ∀ l ∈ ls, ∃ xs, s.heap.IsList l xs)
    (h : Q (.ref (zN4 s.heap ls).objs.size) { s with heap := zN5 s.heap ls }) : wpAny (model prog w) A (call (.type "zip") (ls.map Value.ref)) Q E s := by
  obtain ⟨c1, c2, c3⟩ := zip_checks (ls.map Value.ref) (by simpa using h2) (by simpa using h4)
  exact callType_new F.called_zip (by decide) c1 c2 c3 F.entry_zip_new (meets_zipN ls (by omega)) ⟨ht, ⟨_, Heap.get?_push_size _ rfl, rfl⟩, h⟩
end
abbrev ZR (h : Heap) (z TI TO : Addr) (f0 : Value) (f1 : Bool) : Prop := h.get? z = some { cls := .type "zip", dict := none, data := .fields #[f0, .bool f1, .bool false, .ref TI, .ref TO], slots := #[] }
abbrev TupO (h : Heap) (T : Addr) (us : List Value) : Prop := h.get? T = some { cls := .type "tuple", data := .seq us.toArray }
/-- the iterators stand at i, the first j of them one further -/
def ItsJ (h : Heap) (its ls : List Addr) (i j : Nat) : Prop := ∀ (m : Nat) (it l : Addr), its[m]? = some it → ls[m]? = some l → h.IsListIter it l (if m < j then i + 1 else i)
def Fld0 (f0 : Value) : Prop := f0 = .none ∨ ∃ T : Nat, f0 = rawInt T
theorem take_set {α : Type} {xs olds : List α} {j : Nat} {x : α} (h : xs[j]? = some x) (l : olds.length = xs.length) : (xs.take j ++ olds.drop j).set j x = xs.take (j + 1) ++ olds.drop (j + 1) := by
  have lt : j < xs.length := (List.getElem?_eq_some_iff.mp h).1
  have e1 : (xs.take j).length = j := by rw [List.length_take]; omega
  rw [List.set_append_right _ _ (by omega), e1, Nat.sub_self, List.drop_eq_getElem_cons (show j < olds.length by omega), List.set_cons_zero, List.take_add_one, h]
  simp
theorem ItsJ.start {h : Heap} {its ls : List Addr} {i n : Nat} (q : ItsJ h its ls i n) (l : its.length ≤ n) : ItsJ h its ls (i + 1) 0 := fun m it l' e1 e2 => by
  have z := q m it l' e1 e2
  rw [if_pos (Nat.lt_of_lt_of_le (List.getElem?_eq_some_iff.mp e1).1 l)] at z
  rw [if_neg (by omega)]
  exact z
/-- one of them moves -/
theorem ItsJ.next {h h' : Heap} {its ls : List Addr} {i j : Nat} {it l : Addr} (q : ItsJ h its ls i j) (nd : its.Nodup) (e1 : its[j]? = some it) (e2 : ls[j]? = some l) (k : ∀ b ∈ its, b ≠ it → ∀ o, h.get? b = some o → h'.get? b = some o) (a : h'.IsListIter it l (i + 1)) : ItsJ h' its ls i (j + 1) := fun m b l' f1 f2 => by
  by_cases c : m = j
  · subst c
    rw [e1] at f1
    rw [e2] at f2
    cases f1
    cases f2
    rw [if_pos (Nat.lt_succ_self _)]
    exact a
  · have z := q m b l' f1 f2
    have n : b ≠ it := fun z => by
      rw [z] at f1
      exact c ((List.getElem?_inj (List.getElem?_eq_some_iff.mp f1).1 nd).mp (f1.trans e1.symm))
    have e : (if m < j + 1 then i + 1 else i) = (if m < j then i + 1 else i) := by
      by_cases d : m < j
      · rw [if_pos d, if_pos (by omega)]
      · rw [if_neg d, if_neg (by omega)]
    rw [e]
    exact z.at fun o q => k b (List.mem_of_getElem? f1) n o q
section
variable {prog : Program} {w : World} {A : Around} {E : Value → Shared → Prop} {s : Shared} {z TI TO : Addr} {its ls : List Addr}
theorem free_or_held {f0 : Value} {f1 : Bool} {Q : Bool → Shared → Prop} (hz : ZR s.heap z TI TO f0 f1) (hf : Fld0 f0) (yes : Q true s) (no : ∀ h1, ZR h1 z TI TO f0 true → Heap.SameBut z s.heap h1 → Q false { s with heap := h1 }) :
    wpAny (model prog w) A (Builtin.SmallTypes.ownedTupleIsFree (.ref z)) Q E s := by
  rcases hf with rfl | ⟨T, rfl⟩
  · unfold Builtin.SmallTypes.ownedTupleIsFree
    exact wpAny_bind (wpAny_field hz rfl (x := .none) rfl (wpAny_pure yes))
  · cases e : s.heap.get? T with
    | some o => exact wpAny_tupleHeld_zip hz e no
    | none =>
      unfold Builtin.SmallTypes.ownedTupleIsFree
      refine wpAny_bind (wpAny_field hz rfl (x := rawInt T) rfl ?_)
      show wpAny _ _ (loadIfAlive ((T : Int).toNat) >>= _) _ _ _
      rw [Int.toNat_natCast]
      refine wpAny_bind ?_
      have k : (fun (a : Option Obj) (s' : Shared) => wpAny (model prog w) A (if a.isNone = true then pure true else do
          if (← field (.ref z) 1) != .bool true then setField (.ref z) 1 (.bool true)
          return false) Q E s') (s.heap.get? T) s := by
        rw [e]
        exact wpAny_pure yes
      exact fun _ _ _ => k
theorem zipN_item {f0 : Value} {f1 : Bool} {i : Nat} {olds xs : List Value} {Q : Value → Shared → Prop} (ap : (z :: TI :: TO :: its).Nodup) (al : ∀ l ∈ ls, l ∉ z :: TI :: TO :: its) (ne : its ≠ []) (few : its.length ≤ 100) (ll : its.length = ls.length)
    (hz : ZR s.heap z TI TO f0 f1) (hf : Fld0 f0) (hTI : TupO s.heap TI (its.map Value.ref)) (hTO : TupO s.heap TO olds) (lo : olds.length = its.length) (hi : ItsJ s.heap its ls i 0) (lx : xs.length = its.length)
    (hx : ∀ (j : Nat) (l : Addr) (x : Value), ls[j]? = some l → xs[j]? = some x → ∃ items, s.heap.IsList l items ∧ items[i]? = some x)
    (hQ : ∀ h' g0 g1 olds', ZR h' z TI TO g0 g1 → Fld0 g0 → TupO h' TI (its.map Value.ref) → TupO h' TO olds' → olds'.length = its.length → ItsJ h' its ls (i + 1) 0 → TupO h' s.heap.objs.size xs → h'.objs.size = s.heap.objs.size + 1 →
      (∀ c o, c ∉ z :: TI :: TO :: its → s.heap.get? c = some o → h'.get? c = some o) → Q (.ref s.heap.objs.size) { s with heap := h' }) :
    wpAny (model prog w) A (Builtin.«zip.__next__» ⟨[.ref z], []⟩) (fun fin s' => ∃ v, fin = .done (.ret v) ∧ Q v s') E s := by
  show wpAny _ _ (field (.ref z) 2 >>= _) _ _ _
  refine wpAny_bind (wpAny_field hz rfl (x := .bool false) rfl ?_)
  show wpAny _ _ (field (.ref z) 3 >>= _) _ _ _
  refine wpAny_bind (wpAny_field hz rfl (x := .ref TI) rfl ?_)
  refine wpAny_bind (wpAny_seqItems hTI rfl ?_)
  have emp : ((its.map Value.ref).toArray).isEmpty = false := by
    cases its with
    | nil => exact absurd rfl ne
    | cons a r => simp
  simp only [emp, Bool.false_eq_true, if_false]
  have nd : (z ≠ TI ∧ z ≠ TO ∧ z ∉ its) ∧ (TI ≠ TO ∧ TI ∉ its) ∧ TO ∉ its ∧ its.Nodup := by simpa [not_or] using ap
  refine wpAny_bind (free_or_held hz hf ?_ fun h1 hz1 sb1 => ?_)
  · simp only [if_true]
    refine wpAny_bind (wpAny_rule ?_)
    refine wpAny_bind (wpAny_field hz rfl (x := .ref TO) rfl ?_)
    refine wpAny_bind (wpAny_setField_rec hz (by simp) fun h1 hz1 sb1 => ?_)
    replace hz1 : ZR h1 z TI TO .ellipsis f1 := hz1
    refine wpAny_bind (wpAny_mono (forIn_wp (its.map Value.ref).zipIdx (fun _ => (none, ())) (fun j s' => ∃ h, s' = { s with heap := h } ∧ h.objs.size = s.heap.objs.size ∧ ZR h z TI TO .ellipsis f1 ∧ TupO h TI (its.map Value.ref) ∧
      TupO h TO (xs.take j ++ olds.drop j) ∧ ItsJ h its ls i j ∧ ∀ c o, c ∉ z :: TI :: TO :: its → s.heap.get? c = some o → h.get? c = some o) _ ?_ ?_) ?_ fun _ _ e => e)
    · rintro j ⟨v, k⟩ s2 hj ⟨h, rfl, sz, hz2, hTI2, hTO2, hi2, kp⟩
      obtain ⟨it, e1, rfl, rfl⟩ : ∃ it, its[j]? = some it ∧ v = .ref it ∧ k = j := by
        rw [List.getElem?_zipIdx, List.getElem?_map] at hj
        cases q : its[j]? with
        | none => rw [q] at hj; cases hj
        | some it =>
          rw [q] at hj
          simp at hj
          exact ⟨it, rfl, hj.1.symm, hj.2.symm⟩
      have lt : k < its.length := (List.getElem?_eq_some_iff.mp e1).1
      have e2 : ls[k]? = some ls[k] := List.getElem?_eq_getElem (by omega)
      have e3 : xs[k]? = some xs[k] := List.getElem?_eq_getElem (by omega)
      obtain ⟨items, hl, hx2⟩ := hx k _ _ e2 e3
      have ml := al _ (List.mem_of_getElem? e2)
      have mi := List.mem_of_getElem? e1
      have it0 := hi2 k it _ e1 e2
      rw [if_neg (Nat.lt_irrefl _)] at it0
      have nTO : TO ≠ it := fun q => nd.2.2.1 (by rw [q]; exact mi)
      have nTI : TI ≠ it := fun q => nd.2.1.2 (by rw [q]; exact mi)
      have nz : z ≠ it := fun q => nd.1.2.2 (by rw [q]; exact mi)
      refine wpAny_bind (wpAny_onRaise ?_)
      show wpAny _ _ (Builtin.SmallTypes.nextOf (.ref it) >>= _) _ _ _
      refine wpAny_bind (wpAny_nextOf_list_item (s := { s with heap := h }) it0 (hl.at fun o q => kp _ o ml q) hx2 fun h3 it3 sb3 => wpAny_pure ?_)
      have hTO3 : TupO h3 TO (xs.take k ++ olds.drop k) := (sb3.2 _ nTO).trans hTO2
      refine wpAny_bind (wpAny_seqItems hTO3 rfl ?_)
      have lz : (xs.take k ++ olds.drop k).length ≤ 100 := by rw [List.length_append, List.length_take, List.length_drop]; omega
      refine wpAny_bind (wpAny_updateSeq hTO3 rfl ?_ (by rw [List.size_toArray]; exact Nat.le_trans lz (by decide)) (by rw [Array.size_setIfInBounds, List.size_toArray]; exact Nat.le_trans lz (by decide)))
      refine wpAny_bind (wpAny_letGo (wpAny_pure ⟨rfl, _, rfl, ?_, ?_, ?_, ?_, ?_, ?_⟩))
      · rw [(Heap.SameBut.update ..).1, sb3.1, sz]
      · exact ((Heap.SameBut.update ..).2 _ nd.1.2.1).trans ((sb3.2 _ nz).trans hz2)
      · exact ((Heap.SameBut.update ..).2 _ nd.2.1.1).trans ((sb3.2 _ nTI).trans hTI2)
      · show (Heap.update _ TO _).get? TO = _
        rw [Heap.get?_update_self _ hTO3 rfl]
        simp only [Obj.mapSeq]
        rw [← take_set e3 (by omega), ← List.setIfInBounds_toArray]
        rw [if_pos (by simp)]
      · refine hi2.next nd.2.2.2 e1 e2 (fun b hb nb o q => ?_) (it3.at fun o q => ((Heap.SameBut.update ..).2 _ (Ne.symm nTO)).trans q)
        exact ((Heap.SameBut.update ..).2 _ (fun q => nd.2.2.1 (by rw [← q]; exact hb))).trans ((sb3.2 _ nb).trans q)
      · intro c o hc q
        simp only [List.mem_cons, not_or] at hc
        exact ((Heap.SameBut.update ..).2 _ hc.2.2.1).trans ((sb3.2 _ (fun y => hc.2.2.2 (by rw [y]; exact mi))).trans (kp c o (by simp only [List.mem_cons, not_or]; exact hc) q))
    · refine ⟨h1, rfl, sb1.1, hz1, (sb1.2 _ (Ne.symm nd.1.1)).trans hTI, (sb1.2 _ (Ne.symm nd.1.2.1)).trans hTO, fun m it l f1 f2 => ?_, fun c o hc q => ?_⟩
      · exact (hi m it l f1 f2).at fun o q => (sb1.2 _ (fun y => nd.1.2.2 (by rw [← y]; exact List.mem_of_getElem? f1))).trans q
      · simp only [List.mem_cons, not_or] at hc
        exact (sb1.2 _ hc.1).trans q
    · rintro t s2 ⟨rfl, h, rfl, sz, hz2, hTI2, hTO2, hi2, kp⟩
      have ez : (its.map Value.ref).zipIdx.length = its.length := by simp
      rw [ez] at hTO2 hi2
      rw [← lx, List.take_length, lx, ← lo, List.drop_length, List.append_nil] at hTO2
      dsimp only
      refine wpAny_bind (wpAny_seqItems hTO2 rfl ?_)
      have lxz : xs.length ≤ sizeLine := Nat.le_trans (show xs.length ≤ 100 by omega) (by decide)
      show wpAny _ _ (newTuple xs.toArray.toList >>= _) _ _ _
      rw [show xs.toArray.toList = xs by simp]
      refine wpAny_bind (wpAny_newTuple ?_ lxz)
      have zlt : z < h.objs.size := Heap.lt_size hz2
      have hz3 : ZR (h.push { cls := .type "tuple", data := .seq xs.toArray }) z TI TO .ellipsis f1 := Heap.get?_push_of_some _ hz2
      refine wpAny_bind ?_
      show wpAny _ _ (Builtin.SmallTypes.ownedTupleHandOut (.ref z) (.ref h.objs.size)) _ _ _
      unfold Builtin.SmallTypes.ownedTupleHandOut
      refine wpAny_bind (wpAny_setField_rec hz3 (by simp) fun h4 hz4 sb4 => ?_)
      replace hz4 : ZR h4 z TI TO (rawInt h.objs.size) f1 := hz4
      refine wpAny_setField_rec hz4 (by simp) fun h5 hz5 sb5 => ?_
      replace hz5 : ZR h5 z TI TO (rawInt h.objs.size) false := hz5
      have up : ∀ c o, c ≠ z → h.get? c = some o → h5.get? c = some o := fun c o n e => (sb5.2 _ n).trans ((sb4.2 _ n).trans (Heap.get?_push_of_some _ e))
      have hT5 : TupO h5 h.objs.size xs := (sb5.2 _ (Nat.ne_of_gt zlt)).trans ((sb4.2 _ (Nat.ne_of_gt zlt)).trans (Heap.get?_push_size _ rfl))
      have s5 : h5.objs.size = h.objs.size + 1 := by rw [sb5.1, sb4.1, Heap.size_push]
      refine wpAny_pure ⟨_, rfl, ?_⟩
      rw [sz] at hT5 s5 ⊢
      refine hQ h5 _ _ xs hz5 (.inr ⟨_, rfl⟩) (up _ _ (Ne.symm nd.1.1) hTI2) (up _ _ (Ne.symm nd.1.2.1) hTO2) lx ?_ hT5 s5 fun c o hc q => up c o (fun y => hc (by rw [y]; exact List.mem_cons_self)) (kp c o hc q)
      intro m it l g1 g2
      exact (hi2.start (Nat.le_refl _) m it l g1 g2).at fun o q => up it o (fun y => nd.1.2.2 (by rw [← y]; exact List.mem_of_getElem? g1)) q
  · simp only [Bool.false_eq_true, if_false]
    refine wpAny_bind ?_
    rw [← Array.forIn_toList]
    show wpAny _ _ (forIn (its.map Value.ref) _ _) _ _ _
    refine wpAny_mono (forIn_wp (its.map Value.ref) (fun j => (none, (xs.take j).toArray)) (fun j s' => ∃ h, s' = { s with heap := h } ∧ h.objs.size = s.heap.objs.size ∧ ZR h z TI TO f0 true ∧ TupO h TI (its.map Value.ref) ∧
      TupO h TO olds ∧ ItsJ h its ls i j ∧ ∀ c o, c ∉ z :: TI :: TO :: its → s.heap.get? c = some o → h.get? c = some o) _ ?_ ?_) ?_ fun _ _ e => e
    · rintro k v s2 hj ⟨h, rfl, sz, hz2, hTI2, hTO2, hi2, kp⟩
      obtain ⟨it, e1, rfl⟩ : ∃ it, its[k]? = some it ∧ v = .ref it := by
        rw [List.getElem?_map] at hj
        cases q : its[k]? with
        | none => rw [q] at hj; cases hj
        | some it =>
          rw [q] at hj
          exact ⟨it, rfl, (Option.some.inj hj).symm⟩
      have lt : k < its.length := (List.getElem?_eq_some_iff.mp e1).1
      have e2 : ls[k]? = some ls[k] := List.getElem?_eq_getElem (by omega)
      have e3 : xs[k]? = some xs[k] := List.getElem?_eq_getElem (by omega)
      obtain ⟨items, hl, hx2⟩ := hx k _ _ e2 e3
      have ml := al _ (List.mem_of_getElem? e2)
      have mi := List.mem_of_getElem? e1
      have it0 := hi2 k it _ e1 e2
      rw [if_neg (Nat.lt_irrefl _)] at it0
      refine wpAny_bind (wpAny_holding ?_)
      show wpAny _ _ (Builtin.SmallTypes.nextOf (.ref it) >>= _) _ _ _
      refine wpAny_bind (wpAny_nextOf_list_item (s := { s with heap := h }) it0 (hl.at fun o q => kp _ o ml q) hx2 fun h3 it3 sb3 => wpAny_pure ?_)
      refine wpAny_pure ⟨?_, h3, rfl, sb3.1.trans sz, (sb3.2 _ (fun q => nd.1.2.2 (by rw [q]; exact mi))).trans hz2, (sb3.2 _ (fun q => nd.2.1.2 (by rw [q]; exact mi))).trans hTI2,
        (sb3.2 _ (fun q => nd.2.2.1 (by rw [q]; exact mi))).trans hTO2, hi2.next nd.2.2.2 e1 e2 (fun b hb nb o q => (sb3.2 _ nb).trans q) it3, fun c o hc q => ?_⟩
      · show ForInStep.yield (none, ((xs.take k).toArray).push xs[k]) = _
        rw [List.take_add_one, e3]
        simp
      · exact (sb3.2 _ (fun y => hc (by rw [y]; simp [mi]))).trans (kp c o hc q)
    · refine ⟨h1, rfl, sb1.1, hz1, (sb1.2 _ (Ne.symm nd.1.1)).trans hTI, (sb1.2 _ (Ne.symm nd.1.2.1)).trans hTO, fun m it l f1 f2 => ?_, fun c o hc q => ?_⟩
      · exact (hi m it l f1 f2).at fun o q => (sb1.2 _ (fun y => nd.1.2.2 (by rw [← y]; exact List.mem_of_getElem? f1))).trans q
      · simp only [List.mem_cons, not_or] at hc
        exact (sb1.2 _ hc.1).trans q
    · rintro t s2 ⟨rfl, h, rfl, sz, hz2, hTI2, hTO2, hi2, kp⟩
      rw [List.length_map] at hi2
      have lxz : xs.length ≤ sizeLine := Nat.le_trans (show xs.length ≤ 100 by omega) (by decide)
      dsimp only
      have ex : xs.take (its.map Value.ref).length = xs := by rw [List.length_map, ← lx, List.take_length]
      rw [ex]
      refine wpAny_bind (wpAny_newTuple ?_ lxz)
      refine wpAny_pure ⟨_, rfl, ?_⟩
      show Q (.ref h.objs.size) _
      have s5 : (h.push { cls := .type "tuple", data := .seq xs.toArray }).objs.size = h.objs.size + 1 := Heap.size_push _ _
      have hT5 : TupO (h.push { cls := .type "tuple", data := .seq xs.toArray }) h.objs.size xs := Heap.get?_push_size _ rfl
      rw [sz] at s5 hT5 ⊢
      refine hQ _ _ _ olds (Heap.get?_push_of_some _ hz2) hf (Heap.get?_push_of_some _ hTI2) (Heap.get?_push_of_some _ hTO2) lo ?_ hT5 s5 fun c o hc q => Heap.get?_push_of_some _ (kp c o hc q)
      intro m it l g1 g2
      exact (hi2.start (Nat.le_refl _) m it l g1 g2).at fun o q => Heap.get?_push_of_some _ q
theorem zipN_end {f0 : Value} {f1 : Bool} {i : Nat} {it0 l0 : Addr} {itr : List Addr} {items : Array Value} {Q : Fin → Shared → Prop} (hh : A.handled = none) (ap : (z :: TI :: TO :: (it0 :: itr)).Nodup) (al : l0 ∉ z :: TI :: TO :: (it0 :: itr))
    (hz : ZR s.heap z TI TO f0 f1) (hf : Fld0 f0) (hTI : TupO s.heap TI ((it0 :: itr).map Value.ref)) (hi : s.heap.IsListIter it0 l0 i) (hl : s.heap.IsList l0 items) (he : items[i]? = none)
    (hE : ∀ h' e, (∀ c o, c ∉ z :: TI :: TO :: (it0 :: itr) → s.heap.get? c = some o → h'.get? c = some o) → (∃ o, h'.get? e = some o ∧ o.cls = .type "StopIteration") → E (.ref e) { s with heap := h' }) :
    wpAny (model prog w) A (Builtin.«zip.__next__» ⟨[.ref z], []⟩) Q E s := by
  have nd : z ≠ it0 := fun q => by
    rw [q] at ap
    simp at ap
  have ml : l0 ≠ z := fun q => al (by rw [q]; exact List.mem_cons_self)
  show wpAny _ _ (field (.ref z) 2 >>= _) _ _ _
  refine wpAny_bind (wpAny_field hz rfl (x := .bool false) rfl ?_)
  show wpAny _ _ (field (.ref z) 3 >>= _) _ _ _
  refine wpAny_bind (wpAny_field hz rfl (x := .ref TI) rfl ?_)
  refine wpAny_bind (wpAny_seqItems hTI rfl ?_)
  have emp : (((it0 :: itr).map Value.ref).toArray).isEmpty = false := by simp
  simp only [emp, Bool.false_eq_true, if_false]
  refine wpAny_bind (free_or_held hz hf ?_ fun h1 hz1 sb1 => ?_)
  · simp only [if_true]
    refine wpAny_bind (wpAny_rule ?_)
    refine wpAny_bind (wpAny_field hz rfl (x := .ref TO) rfl ?_)
    refine wpAny_bind (wpAny_setField_rec hz (by simp) fun h1 hz1 sb1 => ?_)
    replace hz1 : ZR h1 z TI TO .ellipsis f1 := hz1
    refine wpAny_bind ?_
    simp only [List.map_cons, List.zipIdx_cons, List.forIn_cons]
    refine wpAny_bind (wpAny_bind (wpAny_onRaise ?_))
    show wpAny _ _ (Builtin.SmallTypes.nextOf (.ref it0) >>= _) _ _ _
    refine wpAny_bind (wpAny_nextOf_list_end (s := { s with heap := h1 }) hh (hi.at fun o q => (sb1.2 _ (Ne.symm nd)).trans q) (hl.at fun o q => (sb1.2 _ ml).trans q) he fun h2 e k2 ⟨oe, ho, hc⟩ => ?_)
    have hz2 : ZR h2 z TI TO .ellipsis f1 := k2 _ _ nd hz1
    have ez : e ≠ z := fun x => by
      subst x
      rw [hz2] at ho
      cases ho
      simp at hc
    refine wpAny_setField_rec hz2 (by simp) fun h3 _ sb3 => hE h3 e (fun c o hc q => ?_) ⟨oe, (sb3.2 _ ez).trans ho, hc⟩
    simp only [List.mem_cons, not_or] at hc
    exact (sb3.2 _ hc.1).trans (k2 _ _ hc.2.2.2.1 ((sb1.2 _ hc.1).trans q))
  · simp only [Bool.false_eq_true, if_false]
    refine wpAny_bind ?_
    rw [← Array.forIn_toList]
    simp only [List.map_cons, List.forIn_cons]
    refine wpAny_bind (wpAny_bind (wpAny_holding ?_))
    show wpAny _ _ (Builtin.SmallTypes.nextOf (.ref it0) >>= _) _ _ _
    refine wpAny_bind (wpAny_nextOf_list_end (s := { s with heap := h1 }) hh (hi.at fun o q => (sb1.2 _ (Ne.symm nd)).trans q) (hl.at fun o q => (sb1.2 _ ml).trans q) he fun h2 e k2 ho => hE h2 e (fun c o hc q => ?_) ho)
    simp only [List.mem_cons, not_or] at hc
    exact k2 _ _ hc.2.2.2.1 ((sb1.2 _ hc.1).trans q)
end
/-- the tuples at ls side by side, the items in new tuples -/
def ItzN (K : PySem.W.Frag) (ls : List Addr) : It :=
  ⟨fun i H => ∀ a ∈ ls, ∃ xs x, SqL K H a xs ∧ xs[i]? = some x,
    fun i H v H' => ∃ (T : Addr) (vs : List V), v = .ref T ∧ H T = none ∧ H' = upd H T (.tup vs) ∧ vs.length = ls.length ∧ ∀ (j : Nat) (a : Addr) (xs : List V), ls[j]? = some a → SqL K H a xs → xs[i]? = vs[j]?,
    fun i H => ∃ a r xs, ls = a :: r ∧ SqL K H a xs ∧ xs.length ≤ i⟩
/-- what stands in each of them at i -/
theorem cols {X : Cx} {pins : List (Addr × Obj)} {σ : L2.St} {H : Hp} {s : Shared} {i : Nat} (I : Inv X pins σ H s) : ∀ {ls : List Addr}, (∀ a ∈ ls, ∃ xs x, SqL X.K H a xs ∧ xs[i]? = some x) →
    ∃ (vs : List V) (us : List Value), Vals vs us ∧ vs.length = ls.length ∧ us.length = ls.length ∧ (∀ (j : Nat) (a : Addr) (xs : List V), ls[j]? = some a → SqL X.K H a xs → xs[i]? = vs[j]?) ∧
      ∀ (j : Nat) (l : Addr) (x : Value), ls[j]? = some l → us[j]? = some x → ∃ items, s.heap.IsList l items ∧ items[i]? = some x
  | [], _ => ⟨[], [], .nil, rfl, rfl, fun j a xs e => by simp at e, fun j l x e => by simp at e⟩
  | a :: r, h => by
    obtain ⟨vs, us, rv, l1, l2, k1, k2⟩ := cols I (ls := r) fun b hb => h b (List.mem_cons_of_mem _ hb)
    obtain ⟨xs, x, sq, hx⟩ := h a List.mem_cons_self
    obtain ⟨its, rv2, tp0, _⟩ := I.list sq
    have tp := tp0.isList
    obtain ⟨u, hu, ru⟩ := rv2.get hx
    refine ⟨x :: vs, u :: us, .cons ru rv, by simp [l1], by simp [l2], fun j b ys e q => ?_, fun j b y e q => ?_⟩
    · cases j with
      | zero =>
        obtain rfl : a = b := Option.some.inj e
        rw [I.list_inj q sq]
        exact hx
      | succ j => exact k1 j b ys e q
    · cases j with
      | zero =>
        obtain rfl : a = b := Option.some.inj e
        obtain rfl : u = y := Option.some.inj q
        exact ⟨_, tp, by simpa using hu⟩
      | succ j => exact k2 j b y e q
theorem turn_zipN {P : Program} {w : World} {K : PySem.W.Frag} {x : Str} {tpos : Pos} {z TI TO : Addr} {its ls : List Addr} (ap : (z :: TI :: TO :: its).Nodup) (al : ∀ l ∈ ls, l ∉ z :: TI :: TO :: its) (ne : its ≠ []) (few : its.length ≤ 100) (ll : its.length = ls.length) :
    Turn P w K (.Name x tpos) (ItzN K ls) (z :: TI :: TO :: its) z (fun i h => ∃ f0 f1 olds, ZR h z TI TO f0 f1 ∧ Fld0 f0 ∧ TupO h TI (its.map Value.ref) ∧ TupO h TO olds ∧ olds.length = its.length ∧ ItsJ h its ls i 0) where
  mem := List.mem_cons_self
  obj := fun i h ⟨f0, f1, olds, hz, hf, hTI, hTO, lo, hi⟩ c hc => by
    rcases List.mem_cons.mp hc with rfl | hc
    · exact ⟨_, hz, fun v q => nomatch q⟩
    rcases List.mem_cons.mp hc with rfl | hc
    · exact ⟨_, hTI, fun v q => nomatch q⟩
    rcases List.mem_cons.mp hc with rfl | hc
    · exact ⟨_, hTO, fun v q => nomatch q⟩
    · obtain ⟨m, lt, e⟩ := List.getElem_of_mem hc
      obtain ⟨o, e1, _, d1⟩ := hi m c ls[m] (by rw [← e]; exact List.getElem?_eq_getElem lt) (List.getElem?_eq_getElem (by omega))
      exact ⟨o, e1, fun v q => by rw [d1] at q; cases q⟩
  keep := fun i h h' ⟨f0, f1, olds, hz, hf, hTI, hTO, lo, hi⟩ k => by
    refine ⟨f0, f1, olds, k z (by simp) _ hz, hf, k TI (by simp) _ hTI, k TO (by simp) _ hTO, lo, fun m it l e1 e2 => ?_⟩
    exact (hi m it l e1 e2).at fun o q => k it (by simp [List.mem_of_getElem? e1]) o q
  item := by
    rintro X hP hw hK hc i pins s σ H E I hfp ⟨f0, f1, olds, hz, hf, hTI, hTO, lo, hi⟩ hg
    subst hP hw hK
    obtain ⟨vs, us, rv, l1, l2, k1, k2⟩ := cols I hg
    have hT : s.TypeIs (.ref z) "zip" := ⟨_, hz, rfl⟩
    unfold pyNext
    refine wpAny_bind (wpAny_attempt (wpAny_callSpecial?_slot (name := Str.ofString "__next__") hT F.slot_zip_next (wpAny_call_entry F.slot_zip_next hT F.entry_zip_next
      (zipN_item (xs := us) ap al ne few ll hz hf hTI hTO lo hi (by omega) k2 fun h' g0 g1 olds' a1 a2 a3 a4 a5 a6 a7 a8 a9 => wpAny_pure ?_) (F.args_zip_next_1 _))))
    refine ⟨_, rfl, ?_⟩
    show wpAny _ _ (pure ()) _ _ _
    refine wpAny_pure ?_
    have new : ObjOk X.prog X.w (upd H s.heap.objs.size (.tup vs)) h' s.heap.objs.size (.tup vs) := ⟨by exact Nat.le_trans (show vs.length ≤ 100 by omega) (by decide), us, rv, ⟨_, a7, rfl, _, rfl⟩⟩
    have I1 : Inv X pins σ (upd H s.heap.objs.size (.tup vs)) { s with heap := h' } := I.turnedNew (t' := s.toks) (ch := z :: TI :: TO :: its) (fun c o hb q => a9 c o hb q) hfp (Nat.le_refl _) new
    refine ⟨.ref s.heap.objs.size, _, I1, rfl, ⟨_, vs, rfl, I.hok.fresh (Nat.le_refl _), rfl, l1, k1⟩, ⟨g0, g1, olds', a1, a2, a3, a4, a5, a6⟩, fun c hcm => ?_⟩
    have hlt : c < s.heap.objs.size := by
      rcases List.mem_cons.mp hcm with rfl | hc
      · exact Heap.lt_size hz
      rcases List.mem_cons.mp hc with rfl | hc
      · exact Heap.lt_size hTI
      rcases List.mem_cons.mp hc with rfl | hc
      · exact Heap.lt_size hTO
      · obtain ⟨m, lt, e⟩ := List.getElem_of_mem hc
        obtain ⟨o, e1, _, d1⟩ := hi m c ls[m] (by rw [← e]; exact List.getElem?_eq_getElem lt) (List.getElem?_eq_getElem (by omega))
        exact Heap.lt_size e1
    rw [upd_ne (Nat.ne_of_lt hlt)]
    exact (hfp c hcm).1
  done := by
    rintro X hP hw hK hc i pins s σ H E I hfp ⟨f0, f1, olds, hz, hf, hTI, hTO, lo, hi⟩ ⟨a, r, xs, rfl, sq, le⟩
    subst hP hw hK
    obtain ⟨itl, rv, tp0, _⟩ := I.list sq
    have tp := tp0.isList
    have l1 := rv.length
    cases its with
    | nil => exact absurd rfl ne
    | cons it0 itr =>
      have hT : s.TypeIs (.ref z) "zip" := ⟨_, hz, rfl⟩
      have i0 : s.heap.IsListIter it0 a i := hi 0 it0 a rfl rfl
      unfold pyNext
      refine wpAny_bind (wpAny_attempt (wpAny_callSpecial?_slot (name := Str.ofString "__next__") hT F.slot_zip_next (wpAny_call_entry F.slot_zip_next hT F.entry_zip_next
        (zipN_end (I.ok.hd hc) ap (al a List.mem_cons_self) hz hf hTI i0 tp (by simp; omega) fun h' e hk he => ?_) (F.args_zip_next_1 _))))
      obtain ⟨o, ho, hc2⟩ := he
      refine wpAny_bind (wpAny_isInstance (T := "StopIteration") (b := true) ⟨o, ho, hc2⟩ isSubtype_stop ?_)
      exact wpAny_pure ⟨rfl, I.turnedL (t' := s.toks) (ch := z :: TI :: TO :: (it0 :: itr)) (fun c o hb q => hk c o hb q) hfp⟩
  self := fun A i s Q E ⟨f0, f1, olds, hz, _⟩ h => by
    have hT : s.TypeIs (.ref z) "zip" := ⟨_, hz, rfl⟩
    refine wpAny_pyIter_slot hT F.slot_zip_iter (wpAny_call_entry F.slot_zip_iter hT F.entry_zip_iter ?_ (F.args_zip_iter_1 _))
    show wpAny _ _ (ret (.ref z)) _ _ s
    exact wpAny_pure ⟨_, rfl, "zip", _, hT, F.slot_zip_next.lookup, h⟩
def itA (n : Nat) : List Addr → List Addr
  | [] => []
  | _ :: r => n :: itA (n + 1) r
theorem itA_map : ∀ {ls : List Addr} {n : Nat}, (itA n ls).map Value.ref = itV n ls
  | [], _ => rfl
  | l :: r, n => by
    show Value.ref n :: (itA (n + 1) r).map Value.ref = Value.ref n :: itV (n + 1) r
    rw [itA_map]
theorem itA_len {ls : List Addr} {n : Nat} : (itA n ls).length = ls.length := by rw [← List.length_map (f := Value.ref), itA_map, itV_len]
theorem itA_mem : ∀ {ls : List Addr} {n b : Nat}, b ∈ itA n ls → n ≤ b ∧ b < n + ls.length
  | l :: r, n, b, h => by
    rcases List.mem_cons.mp h with rfl | h
    · simp
    · have z := itA_mem (ls := r) h
      simp only [List.length_cons]
      omega
theorem itA_nodup : ∀ {ls : List Addr} {n : Nat}, (itA n ls).Nodup
  | [], _ => List.nodup_nil
  | l :: r, n => by
    refine List.nodup_cons.mpr ⟨fun h => ?_, itA_nodup⟩
    have z := itA_mem (ls := r) h
    omega
theorem itA_at {ls : List Addr} {n j it : Nat} (h : (itA n ls)[j]? = some it) : it = n + j ∧ j < ls.length := by
  have lt := (List.getElem?_eq_some_iff.mp h).1
  rw [itA_len] at lt
  have e := itV_at (ls := ls) (n := n) lt
  rw [← itA_map, List.getElem?_map, h] at e
  exact ⟨Value.ref.inj (Option.some.inj e), lt⟩
theorem vals_refs : ∀ {ls : List Addr} {us : List Value}, Vals (ls.map V.ref) us → us = ls.map Value.ref
  | [], _, .nil => rfl
  | l :: r, _, .cons h t => by
    rw [vals_refs t]
    exact congrArg (· :: r.map Value.ref) (show _ = Value.ref l from h)
/-- zip(a, b, ..) of lists, a plain name for its tuples -/
def iZipL (K : PySem.W.Frag) (ta : TA) : TI := fun σ H R => ta σ H fun vs H1 => ∃ ls : List Addr, vs = ls.map V.ref ∧ 2 ≤ ls.length ∧ ls.length ≤ 4 ∧ (∀ a ∈ ls, ∃ xs, SqL K H1 a xs) ∧ R (ItzN K ls) H1
theorem pi_zipL {X : Cx} {e : Expr} {es : List Expr} {ta : TA} {x : Str} {p pos tpos : Pos} (hg : Gl X "zip") (hm : X.mg "zip" = none) (ha : PA X (e :: es) ta) (hs : starEach (e :: es) X.env = (false, eval e X.env) :: starEach es X.env := by rfl) (hpl : (backTo pos (starEach es X.env)).any (·.1) = false := by rfl) :
    PI X (.Name x tpos) (.Call (.Name "zip" p) (e :: es) [] pos) (iZipL X.K ta) := by
  refine ⟨fun pins s σ H R I h => ?_⟩
  refine Call_ (ld_blt I hg hm PyProof.Rows.boot_zip (PyProof.Rows.callWith_type1 (thn (ha.run pos pins s σ H _ I h) fun us s2 ⟨vs, H1, I2, rv, q1⟩ => ?_) hs hpl))
  obtain ⟨ls, rfl, l2, l4, ht, q⟩ := q1
  obtain rfl := vals_refs rv
  have tt : ∀ l ∈ ls, ∃ xs, s2.heap.IsList l xs := fun l hl => by
    obtain ⟨xs, sq⟩ := ht l hl
    obtain ⟨its, _, tp0, _⟩ := I2.list sq
    have tp := tp0.isList
    exact ⟨_, tp⟩
  refine call_zipN l2 l4 tt ?_
  have z0 : (itH s2.heap ls).objs.size = s2.heap.objs.size + ls.length := itH_size
  have z3 : (zN3 s2.heap ls).objs.size = s2.heap.objs.size + ls.length + 1 := by rw [Heap.size_push, z0]
  have z4 : (zN4 s2.heap ls).objs.size = s2.heap.objs.size + ls.length + 2 := by rw [Heap.size_push, z3]
  have g5 : (zN5 s2.heap ls).get? (zN4 s2.heap ls).objs.size = some _ := Heap.get?_push_size _ rfl
  have g4 : (zN5 s2.heap ls).get? (zN3 s2.heap ls).objs.size = some _ := Heap.get?_push_of_some _ (Heap.get?_push_size _ rfl)
  have g3 : (zN5 s2.heap ls).get? (itH s2.heap ls).objs.size = some _ := Heap.get?_push_of_some _ (Heap.get?_push_of_some _ (Heap.get?_push_size _ rfl))
  have kp : ∀ b o, s2.heap.get? b = some o → (zN5 s2.heap ls).get? b = some o := fun b o e => Heap.get?_push_of_some _ (Heap.get?_push_of_some _ (Heap.get?_push_of_some _ (itH_keep e)))
  have I3 : Inv X pins σ H1 { s2 with heap := zN5 s2.heap ls } := I2.kept (t' := s2.toks) kp
  have ap : ((zN4 s2.heap ls).objs.size :: (itH s2.heap ls).objs.size :: (zN3 s2.heap ls).objs.size :: itA s2.heap.objs.size ls).Nodup := by
    rw [z4, z0, z3]
    refine List.nodup_cons.mpr ⟨fun h => ?_, List.nodup_cons.mpr ⟨fun h => ?_, List.nodup_cons.mpr ⟨fun h => ?_, itA_nodup⟩⟩⟩
    · rcases List.mem_cons.mp h with h | h
      · omega
      rcases List.mem_cons.mp h with h | h
      · omega
      · have := itA_mem h
        omega
    · rcases List.mem_cons.mp h with h | h
      · omega
      · have := itA_mem h
        omega
    · have := itA_mem h
      omega
  have ge : ∀ b ∈ (zN4 s2.heap ls).objs.size :: (itH s2.heap ls).objs.size :: (zN3 s2.heap ls).objs.size :: itA s2.heap.objs.size ls, s2.heap.objs.size ≤ b := by
    rw [z4, z0, z3]
    intro b hb
    rcases List.mem_cons.mp hb with h | h
    · omega
    rcases List.mem_cons.mp h with h | h
    · omega
    rcases List.mem_cons.mp h with h | h
    · omega
    · exact (itA_mem h).1
  have st : ∃ f0 f1 olds, ZR (zN5 s2.heap ls) (zN4 s2.heap ls).objs.size (itH s2.heap ls).objs.size (zN3 s2.heap ls).objs.size f0 f1 ∧ Fld0 f0 ∧ TupO (zN5 s2.heap ls) (itH s2.heap ls).objs.size ((itA s2.heap.objs.size ls).map Value.ref) ∧
      TupO (zN5 s2.heap ls) (zN3 s2.heap ls).objs.size olds ∧ olds.length = (itA s2.heap.objs.size ls).length ∧ ItsJ (zN5 s2.heap ls) (itA s2.heap.objs.size ls) ls 0 0 := by
    refine ⟨.none, false, _, g5, .inl rfl, by rw [itA_map]; exact g3, g4, by rw [List.length_map, itV_len, itA_len], fun m it l e1 e2 => ?_⟩
    obtain ⟨rfl, _⟩ := itA_at e1
    exact ⟨_, Heap.get?_push_of_some _ (Heap.get?_push_of_some _ (Heap.get?_push_of_some _ (itH_at e2))), rfl, rfl⟩
  have T : Turn X.prog X.w X.K (.Name x tpos) (ItzN X.K ls) _ _ _ := turn_zipN (its := itA s2.heap.objs.size ls) (ls := ls) ap (fun l hl hm => by
    obtain ⟨xs, o, e, _⟩ := tt l hl
    exact absurd (Nat.lt_of_lt_of_le (Heap.lt_size e) (ge l hm)) (Nat.lt_irrefl _)) (fun z => by
    have := itA_len (ls := ls) (n := s2.heap.objs.size)
    rw [z] at this
    simp at this
    omega) (by rw [itA_len]; omega) itA_len
  exact T.self X.A 0 _ _ _ st ⟨_, _, _, _, H1, rfl, I3, T, st, fun b hb => I2.fpOk (ge b hb) (I2.hok.fresh (ge b hb)), q⟩
end ZL
end Pl
namespace Pl
open PySem PySem.Spec PyProof.Rows L2
/-! The end of a law some of whose defs make lambdas: each such def's code object has a table, empty at first. -/
theorem noTab {K : PySem.W.Frag} {h : Heap} {P : Addr} (X : K.In h) (n : PySem.W.noTabs K = true) (e : h.get? P = some (PySem.W.tabObj #[])) : K.lookup P = none := by
  cases q : K.lookup P with
  | none => rfl
  | some o =>
    have z := X _ _ q
    rw [e] at z
    cases z
    have mem : ∀ {L : PySem.W.Frag} {o : Obj}, L.lookup P = some o → (P, o) ∈ L := fun {L o} q => by
      induction L with
      | nil => cases q
      | cons p L ih =>
        rw [List.lookup_cons] at q
        split at q
        · rename_i hh
          have e1 : P = p.1 := beq_iff_eq.mp hh
          have e2 : p.2 = o := Option.some.inj q
          rw [e1, ← e2]
          exact List.mem_cons_self
        · exact List.mem_cons_of_mem _ (ih q)
    have := List.all_eq_true.mp n _ (mem q)
    simp [PySem.W.tabObj] at this
/-- the end -/
theorem walkT {l : PySem.W.OpenLaw} {n k : Nat} {q : Program} {loose : List Str} {XP : (Str → Option Value) → Heap → Prop} {YP : World → Heap → Prop} {d : DefRec} {K : Params → PySem.W.Frag} {sp : PySem.W.Frag → Sp} {x : Str} {st : Stmt} (names : List Str)
    (hn : l.most = some n) (small : n ≤ sizeLine) (hdf : d.params.defaults = []) (hr : Room k callerA) (hY : ∀ (w : World) (h : Heap), YP w h → (K w.params).In h)
    (hrec : ∀ y ∈ names, ((recsOf q).find? fun e => e.name == y).isSome = true) (htab : ∀ w : World, ∀ y ∈ names, (PySem.W.tabIn (K w.params) y).isSome = true) (hno : ∀ w : World, PySem.W.noTabs (K w.params) = true)
    (hname : d.name = "law") (D : ∀ w : World, DfK (K w.params) "law" st) (bo : BindOk "law" "law" st [x])
    (F : ∀ (w : World) (mg : Str → Option Value) (h : Heap), (K w.params).In h → h.Ns mainGlobals mg →
      ∀ base : Heap, (K w.params).In base → base.Ns mainGlobals mg → (∀ y ∈ names, ∀ c T : Addr, PySem.W.tabIn (K w.params) y = some (c, T) → LamX.TabB base mg c T) →
        ∀ (f : Addr) (fd : FuncData), L2.Fun (K w.params) "law" "law" st f fd → FnOk l.prog w (K w.params) mg base CX0 k f fd [x] (sp (K w.params)))
    (prom : ∀ (K : PySem.W.Frag) (H : Hp) (a : Addr) (ns : List Int), ns.length ≤ n → (∀ y ∈ names, ∀ c T : Addr, PySem.W.tabIn K y = some (c, T) → H T = some (.tbl #[])) → SqL K H a (ns.map V.int) → sp K [.ref a] H (fun v _ => v = .bl true) fun _ _ _ => False) :
    PySem.W.WalkO q loose XP YP l.row.toRowW d [] (fun f vs => PySem.call f vs) := by
  refine Att.attach_call hn hdf ?_
  intro w s0 s1 mg mb fa o pm cd doc a vs ns G Y ho hd hcd hmg hobj hints hlen hg
  have KX := hY w _ Y
  obtain ⟨f, ea, od, an, sl, oc, kV, dc, pm', cd', ct, lk, cc, kp⟩ := (D w).ex
  have Fl := fun_mk (st := st) lk cc kp
  have ef : fa = f := by
    have z := PySem.W.mg_of KX G.T.g ea
    rw [hname] at hmg
    rw [hmg] at z
    cases z
    rfl
  subst ef
  have bb : Binds (K w.params) _ [x] [] := Fl.binds bo
  have key : ∀ y ∈ names, ∃ p : Addr × Addr, PySem.W.tabIn (K w.params) y = some p ∧ PySem.W.CodeHd s1.heap p.1 p.2 ∧ s1.heap.get? p.2 = some (PySem.W.tabObj #[]) := fun y hy => by
    obtain ⟨p, hp⟩ := Option.isSome_iff_exists.mp (htab w y hy)
    obtain ⟨r, hr'⟩ := Option.isSome_iff_exists.mp (hrec y hy)
    have z := PySem.W.tab_of (c := p.1) (P := p.2) G.T KX hr' hp
    exact ⟨p, hp, z.1, z.2⟩
  have mem : ∀ p ∈ names.filterMap (PySem.W.tabIn (K w.params)), ∃ y ∈ names, PySem.W.tabIn (K w.params) y = some p := fun p hp => by
    obtain ⟨y, hy, e⟩ := List.mem_filterMap.mp hp
    exact ⟨y, hy, e⟩
  have got : ∀ p ∈ names.filterMap (PySem.W.tabIn (K w.params)), PySem.W.CodeHd s1.heap p.1 p.2 ∧ s1.heap.get? p.2 = some (PySem.W.tabObj #[]) := fun p hp => by
    obtain ⟨y, hy, e⟩ := mem p hp
    obtain ⟨p', e', a, b⟩ := key y hy
    rw [e] at e'
    cases e'
    exact ⟨a, b⟩
  exact LamX.law_callTs (cs := names.filterMap (PySem.W.tabIn (K w.params))) (CX := CX0) KX G.T.g G.T.b G.T.builtins G.T.nolimit hg (fun p hp => (got p hp).2) (fun p hp => noTab KX (hno w) (got p hp).2) (fun p hp => (got p hp).1) G.T.bmain hobj hints (Nat.le_trans hlen small) hr
    (fun base kb nb tb => F w mg s1.heap KX G.T.g base kb nb (fun y hy c T e => tb (c, T) (List.mem_filterMap.mpr ⟨y, hy, e⟩)) fa _ Fl) (fun s u => BindsTo.of_eq (bo kV dc pm' an cd' ct [u] rfl))
    (fun H hH hS => prom _ H a ns hlen (fun y hy c T e => hH (c, T) (List.mem_filterMap.mpr ⟨y, hy, e⟩)) hS) fun H e s' z => z
end Pl
namespace Pl
open PySem PySem.Spec PyProof.Rows L2
/-! methods with arguments -/
section
variable {X : Cx} {k : Nat} {C : Addr} {ps : List Str} {sp : Sp} {E : XK} {pos apos : Pos} {m : Str} {o e : Expr} {es : List Expr} {ta : TE} {t : TA} {pl : Sem Bool}
theorem pe_mtN (c : MCal X.prog X.w X.K X.mg X.base k C m ps sp) (cl : Cls X.K C) (hr : Room k X.A) (he : PE X o ta) (ha : PA X (e :: es) t)
    (ht : eval (.Call (.Attribute o m apos) (e :: es) [] pos) X.env = (do
      let ov ← eval o X.env
      standAt apos.atName
      let (f, first) ← holding [ov] (getMethod ov m pl)
      callWith pos f first (backTo pos (starEach (e :: es) X.env)) (backToKw pos (keywordEach [] X.env))) := by rfl)
    (hst : starEach (e :: es) X.env = (false, eval e X.env) :: starEach es X.env := by rfl) (hpl : (backTo pos (starEach es X.env)).any (·.1) = false := by rfl) :
    PE X (.Call (.Attribute o m apos) (e :: es) [] pos) (tMeth C m sp [] E0 ta t) := by
  obtain ⟨f, fd, F, h1, h2, kp, hb⟩ := c.ex
  exact pe_meth (dvs := []) he cl ⟨h1, h2, kp⟩ F hr hb .nil pass0 ha hst hpl ht
theorem pe_mtNX (c : MCalX X.prog X.w X.K X.mg X.base k C m ps sp) (hx : Passes (L2.CX X.prog X.w) X E) (cl : Cls X.K C) (hr : Room k X.A) (he : PE X o ta) (ha : PA X (e :: es) t)
    (ht : eval (.Call (.Attribute o m apos) (e :: es) [] pos) X.env = (do
      let ov ← eval o X.env
      standAt apos.atName
      let (f, first) ← holding [ov] (getMethod ov m pl)
      callWith pos f first (backTo pos (starEach (e :: es) X.env)) (backToKw pos (keywordEach [] X.env))) := by rfl)
    (hst : starEach (e :: es) X.env = (false, eval e X.env) :: starEach es X.env := by rfl) (hpl : (backTo pos (starEach es X.env)).any (·.1) = false := by rfl) :
    PE X (.Call (.Attribute o m apos) (e :: es) [] pos) (tMeth C m sp [] E ta t) := by
  obtain ⟨f, fd, F, h1, h2, kp, hb⟩ := c.ex
  exact pe_meth (dvs := []) he cl ⟨h1, h2, kp⟩ F hr hb .nil hx ha hst hpl ht
end
/-! a def whose code object is known -/
structure DfT (K : PySem.W.Frag) (mg : Str → Option Value) (x : Str) (st : Stmt) (ps : List Str) (c : Addr) : Prop where
  ex : ∃ (f : Addr) (oc : Value) (od : Option Addr) (kV doc pm : Value) (an : Option Addr) (ct : Value) (osl : Array (Option Value)),
    K.lookup f = some ⟨oc, od, .func (PySem.W.fnOf x x (defArgs st) (defBody st) (defScope st) .none kV doc pm an (.ref c) ct), osl⟩ ∧ PySem.W.codeIn K (.ref c) x = true ∧ PySem.W.keepIn K (.ref f) = true ∧ mg x = some (.ref f) ∧
      Binds K (PySem.W.fnOf x x (defArgs st) (defBody st) (defScope st) .none kV doc pm an (.ref c) ct) ps []
theorem DfK.dfT {K : PySem.W.Frag} {h : Heap} {mg : Str → Option Value} {x : Str} {st : Stmt} {ps : List Str} {c T : Addr} (d : DfK K x st) (X : K.In h) (G : h.Ns mainGlobals mg) (b : BindOk x x st ps) (ht : PySem.W.tabIn K x = some (c, T)) : DfT K mg x st ps c := by
  obtain ⟨f, a, od, an, sl, oc, kV, dc, pm, cd, ct, l, cc, kp⟩ := d.ex
  have F := fun_mk (st := st) l cc kp
  have e : cd = .ref c := by
    unfold PySem.W.tabIn at ht
    rw [a] at ht
    dsimp only at ht
    rw [l] at ht
    dsimp only [PySem.W.fnOf] at ht
    cases cd <;> first | (simp at ht; done) | skip
    rename_i c1
    dsimp only at ht
    split at ht
    · split at ht
      · cases ht
        rfl
      · cases ht
    · cases ht
  subst e
  exact ⟨f, oc, od, kV, dc, pm, an, ct, sl, l, cc, kp, PySem.W.mg_of X G a, F.binds b⟩
section
variable {P : Program} {w : World} {K : PySem.W.Frag} {mg : Str → Option Value} {base : Heap} {x : Str} {st : Stmt} {N ps : List Str} {k : Nat} {sp : Sp} {c : Addr}
theorem DfT.cal (D : DfT K mg x st ps c) (S : FnScope N ps (defScope st)) (lng : ∀ vs H Q E, sp vs H Q E → vs.length = ps.length)
    (bod : ∀ (f : Addr) (A : Around) (out : List Env) (s : Shared) (H : Hp) (vs : List V) (Q : VK) (E : XK),
      Room k (A.deeper (envOfC x (defScope st) s.heap.objs.size f (.ref c))) → sp vs H Q E →
      ∃ t, PSs (cxOf CX0 P w K mg base N x (defScope st) f (.ref c) A out s H E).nox (defBody st) t ∧
        t { nx := fun _ H' => Q .non H', rt := Q } (start N vs) H) : Cal P w K mg base (k + 1) x ps sp := by
  obtain ⟨f, oc, od, kV, doc, pm, an, ct, osl, lk, hcd, kp, hm, hb⟩ := D.ex
  refine ⟨f, _, fn_of lk hcd S lng fun A out s H vs Q E hr h => ?_, hm, kp, hb⟩
  obtain ⟨t, h1, h2⟩ := bod f A out s H vs Q E hr h
  exact ⟨t, h1.nox, h2⟩
end
/-! a lambda handed to a def that calls it in a try with several clauses: what it returns stands in a list behind "told", else the clause's own name -/
def qLam (x : Str) : Str := x ++ ".<locals>." ++ "<lambda>"
/-- what the clauses make of an exception -/
def clW (K : PySem.W.Frag) (R : Str → Hp → Prop) : List (Addr × Str) → XK
  | [] => fun _ _ _ => False
  | (C, nm) :: r => fun cls d H => ∃ b, PySem.W.exmOne K cls (.ref C) = some b ∧ (b = true → R nm H) ∧ (b = false → clW K R r cls d H)
def TTs (K : PySem.W.Frag) (cs : List (Addr × Str)) : (XK → Hp → VK → Prop) → Hp → VK → Prop := fun tl H Q =>
  tl (clW K (fun nm H' => ∀ p, H' p = none → Q (.ref p) (upd H' p (.lst [.str nm]))) cs) H fun v H' => 2 ≤ sizeLine ∧ ∀ p, H' p = none → Q (.ref p) (upd H' p (.lst [.str "told", v]))
end Pl
namespace Pl
open PySem PySem.Spec PyProof.Rows L2
/-- walkT, with the tables' facts laid out -/
theorem walkT2 {l : PySem.W.OpenLaw} {n k : Nat} {q : Program} {loose : List Str} {XP : (Str → Option Value) → Heap → Prop} {YP : World → Heap → Prop} {d : DefRec} {K : Params → PySem.W.Frag} {sp : PySem.W.Frag → Sp} {x : Str} {st : Stmt} (names : List Str)
    (hn : l.most = some n) (small : n ≤ sizeLine) (hdf : d.params.defaults = []) (hr : Room k callerA) (hY : ∀ (w : World) (h : Heap), YP w h → (K w.params).In h)
    (hrec : ∀ y ∈ names, ((recsOf q).find? fun e => e.name == y).isSome = true) (htab : ∀ w : World, ∀ y ∈ names, (PySem.W.tabIn (K w.params) y).isSome = true) (hno : ∀ w : World, PySem.W.noTabs (K w.params) = true)
    (hdis : ∀ w : World, (names.all fun y => names.all fun z => y == z || !((PySem.W.tabIn (K w.params) y).map (·.2) == (PySem.W.tabIn (K w.params) z).map (·.2))) = true)
    (hname : d.name = "law") (D : ∀ w : World, DfK (K w.params) "law" st) (bo : BindOk "law" "law" st [x])
    (F : ∀ (w : World) (mg : Str → Option Value) (h : Heap), (K w.params).In h → h.Ns mainGlobals mg →
      ∀ base : Heap, (K w.params).In base → base.Ns mainGlobals mg → (∀ y ∈ names, ∃ c T : Addr, PySem.W.tabIn (K w.params) y = some (c, T) ∧ LamX.TabB base mg c T) →
        (∀ y ∈ names, ∀ z ∈ names, y ≠ z → ∀ c T c' T' : Addr, PySem.W.tabIn (K w.params) y = some (c, T) → PySem.W.tabIn (K w.params) z = some (c', T') → T ≠ T') →
        ∀ (f : Addr) (fd : FuncData), L2.Fun (K w.params) "law" "law" st f fd → FnOk l.prog w (K w.params) mg base CX0 k f fd [x] (sp (K w.params)))
    (prom : ∀ (K : PySem.W.Frag) (H : Hp) (a : Addr) (ns : List Int), ns.length ≤ n → (∀ y ∈ names, ∀ c T : Addr, PySem.W.tabIn K y = some (c, T) → H T = some (.tbl #[])) → SqL K H a (ns.map V.int) → sp K [.ref a] H (fun v _ => v = .bl true) fun _ _ _ => False) :
    PySem.W.WalkO q loose XP YP l.row.toRowW d [] (fun f vs => PySem.call f vs) := by
  refine walkT names hn small hdf hr hY hrec htab hno hname D bo (fun w mg h KX G base kb nb tb f fd Df => F w mg h KX G base kb nb (fun y hy => ?_) (fun y hy z hz ne c T c' T' e1 e2 eT => ?_) f fd Df) prom
  · obtain ⟨p, hp⟩ := Option.isSome_iff_exists.mp (htab w y hy)
    exact ⟨p.1, p.2, hp, tb y hy p.1 p.2 hp⟩
  · have a := List.all_eq_true.mp (List.all_eq_true.mp (hdis w) y hy) z hz
    rw [e1, e2, eT] at a
    simp at a
    exact ne a
end Pl
namespace Pl
open PySem PySem.Spec PyProof.Rows L2
/-! super() in a method: evaluation at the method's own activation -/
structure PEt (X : Cx) (body : List Stmt) (e : Expr) (t : TE) : Prop where
  run : ∀ (pins : List (Addr × Obj)) (s : Shared) (σ : L2.St) (H : Hp) (Q : VK), Inv X pins σ H s → t σ H Q → _root_.PySem.wpAt (model X.prog X.w) X.A (.func body X.env) (eval e X.env) (EP X pins σ Q) X.xe s
structure PSt (X : Cx) (body : List Stmt) (st : Stmt) (t : TS) : Prop where
  run : ∀ (pins : List (Addr × Obj)) (s : Shared) (σ : L2.St) (H : Hp) (D : Ends), Inv X pins σ H s → t D σ H → _root_.PySem.wpAt (model X.prog X.w) X.A (.func body X.env) (exec st X.env) (SP X pins D) X.xe s
structure PSst (X : Cx) (body : List Stmt) (st : List Stmt) (t : TS) : Prop where
  run : ∀ (pins : List (Addr × Obj)) (s : Shared) (σ : L2.St) (H : Hp) (D : Ends), Inv X pins σ H s → t D σ H → _root_.PySem.wpAt (model X.prog X.w) X.A (.func body X.env) (execs st X.env) (SP X pins D) X.xe s
section
variable {X : Cx} {body rest sts : List Stmt} {st : Stmt} {t u : TS} {te : TE} {e : Expr} {pos : Pos}
theorem psst_of (h : PSs X sts t) : PSst X body sts t := ⟨fun pins s σ H D I q => PySem.wpAt_of_wpAny (h.run pins s σ H D I q)⟩
theorem pst_of (h : PS X st t) : PSt X body st t := ⟨fun pins s σ H D I q => PySem.wpAt_of_wpAny (h.run pins s σ H D I q)⟩
theorem psst_cons (h1 : PSt X body st t) (h2 : PSst X body rest u) : PSst X body (st :: rest) (tSeq t u) := by
  refine ⟨fun pins s σ H D I h => ?_⟩
  refine PySem.ks_wpAt_execs_cons (PySem.ks_wpAt_mono (h1.run pins s σ H { D with nx := u D } I h) (fun f s1 q => ?_) fun _ _ x => x)
  cases f with
  | next =>
    obtain ⟨σ', H', I', q⟩ := q
    exact h2.run pins s1 σ' H' D I' q
  | ret v => exact q
  | brk => exact q
  | cont => exact q
theorem psst_one (h1 : PSt X body st t) : PSst X body [st] t := by
  refine ⟨fun pins s σ H D I h => ?_⟩
  refine PySem.ks_wpAt_execs_cons (PySem.ks_wpAt_mono (h1.run pins s σ H D I h) (fun f s1 q => ?_) fun _ _ x => x)
  cases f with
  | next => exact PySem.wpAt_of_wpAny (wpAny_execs_nil q)
  | ret v => exact q
  | brk => exact q
  | cont => exact q
theorem pst_ret (he : PEt X body e te) : PSt X body (.Return (some e) pos) (tRet te) := by
  refine ⟨fun pins s σ H D I h => ?_⟩
  exact PySem.ks_wpAt_Return_some (PySem.ks_wpAt_mono (he.run pins s σ H _ I h) (fun v s1 ⟨x, H1, I1, r1, q1⟩ => ⟨x, σ, H1, I1, r1, q1⟩) fun _ _ x => x)
theorem pst_expr (he : PEt X body e te) (hs : swapsWith e none pos.line X.env = pure false := by rfl) : PSt X body (.Expr e pos) (tDrop te) := by
  refine ⟨fun pins s σ H D I h => ?_⟩
  exact PySem.ks_wpAt_Expr_any (PySem.ks_wpAt_mono (he.run pins s σ H _ I h) (fun v s1 ⟨x, H1, I1, r1, q1⟩ => ⟨σ, H1, I1, q1⟩) fun _ _ x => x) I.quiet hs
end
/-- what the rule of super() asks of the method's activation; C: the instance's class, D: the class of the text -/
structure SupX (X : Cx) (C D : Addr) (sf : Str) : Prop where
  ks : X.env.kindOf "super" = some .globalImplicit
  kc : X.env.kindOf "__class__" = some .free
  kself : X.env.kindOf sf = some .local
  n0 : X.N[0]? = some sf
  fn : ∃ f of fd ar, X.env.func = some f ∧ X.K.lookup f = some of ∧ of.data = .func fd ∧ (fd.params.posonlyargs ++ fd.params.args).head? = some ar ∧ ar.arg = sf
  code : ∃ cda oc vs file tf, X.env.code = .ref cda ∧ X.K.lookup cda = some oc ∧ oc.data = .fields vs ∧ vs[2]? = some (.str file tf) ∧ ((X.prog.main.file : Str) == file) = true
  top : (X.prog.main.scope.names.lookup ("super" : Str)).isSome = false
  cell : ∃ cc ocl, X.env.cells.lookup ("__class__" : Str) = some cc ∧ X.K.lookup cc = some ocl ∧ ocl.data = .cell (some (.ref D))
  mgs : X.mg "super" = none
  sub : PySem.W.mroIn X.K C (.ref D) = some true
  clD : ∃ cd, PySem.W.clsIn X.K D = some cd
  clC : ∃ cd, PySem.W.clsIn X.K C = some cd
  op : PySem.W.nsIn X.K cStatics "thirdparty.any" = some none
/-- super().m(..): the instance in the first slot, its method above D -/
def tSup (C : Addr) (sp : Sp) (E : XK) (t : TA) : TE := fun σ H Q => ∃ a dx fs, σ[0]? = some (some (V.ref a)) ∧ H a = some (.ins C dx fs) ∧ t σ H fun vs H1 => sp (V.ref a :: vs) H1 Q E
theorem ks_objs {K : PySem.W.Frag} {h : Heap} {D : Addr} {cdD : ClassData} (X : K.In h) (hD : PySem.W.clsIn K D = some cdD) : ∃ oD, h.get? D = some oD ∧ oD.data = .cls cdD := by
  unfold PySem.W.clsIn at hD
  split at hD
  · rename_i c d cd' sl ho
    cases hD
    exact ⟨_, X _ _ ho, rfl⟩
  · cases hD
section
variable {X : Cx} {body : List Stmt} {C D : Addr} {sf m : Str} {p0 p1 p2 p3 : Pos} {args : List Expr} {t : TA} {sp : Sp} {E : XK} {k : Nat} {f2 : Addr} {CX : CXT}
theorem sup_base {pins : List (Addr × Obj)} {s : Shared} {σ : L2.St} {H : Hp} {a dx : Addr} {fs : List (Str × V)} {whole : Sem Value} {Q : Value → Shared → Prop} (S : SupX X C D sf) (I : Inv X pins σ H s) (h0 : σ[0]? = some (some (V.ref a))) (ha : H a = some (.ins C dx fs)) (hat : (m == ("__class__" : Str)) = false)
    (h : ∀ so s', Inv X pins σ H s' → s'.heap.get? so = some (PySem.W.ks_superObj D a C) → Q (.ref so) s') :
    _root_.PySem.wpAt (model X.prog X.w) X.A (.func body X.env) (attributeBase (.Call (.Name "super" p0) [] [] p1) m X.env whole) Q X.xe s := by
  obtain ⟨f, of, fd, ar, e1, e2, e3, e4, e5⟩ := S.fn
  obtain ⟨cda, oc, vs, file, tf, c1, c2, c3, c4, c5⟩ := S.code
  obtain ⟨cc, ocl, d1, d2, d3⟩ := S.cell
  obtain ⟨cdD, hD⟩ := S.clD
  have KX := I.kIn
  obtain ⟨oD, hD1, hD2⟩ := ks_objs KX hD
  obtain ⟨mb, hb, hbb⟩ := I.mod.blt
  obtain ⟨mA, O, _⟩ := ins_get I.hok ha
  obtain ⟨ml, hn, hl⟩ := I.loc
  have hN := S.n0
  obtain ⟨u, ru, lu⟩ := hl 0 sf (.ref a) hN h0 (.inl S.kself)
  obtain rfl : u = Value.ref a := ru
  have hm0 : ml sf = some (Value.ref a) := by
    rcases lu with ⟨_, q⟩ | ⟨q | q, _⟩
    · exact q
    · rw [S.kself] at q
      cases q
    · rw [S.kself] at q
      cases q
  refine PySem.ks_wpAt_super_base (env := X.env) S.ks S.kc hat e1 (KX _ _ e2) e3 e4 c1 (KX _ _ c2) c3 c4 c5 S.top ?_
  rw [e5]
  refine PySem.W.ks_loadName_global I.ok.kind S.ks (Calls.loadGlobal_builtin (env := X.env) (by rw [I.ok.glob]; exact I.mod.glob.keeps I.bk) S.mgs (by rw [I.ok.blt]; exact hb.keeps I.bk) ((hbb _ (by decide +kernel)).trans (by first | rfl | kernel_rfl)) ⟨rfl, ?_⟩)
  refine wpAny_loadName_free I.ok.kind S.kc d1 ⟨_, KX _ _ d2, d3⟩ ?_
  refine wpAny_loadName_local I.ok.kind S.kself hn hm0 ?_
  obtain ⟨hh, g, d, tk, os⟩ := s
  refine PySem.ks_wpAny_isType_cls hD1 hD2 ⟨rfl, ?_⟩
  refine PySem.ks_wpAny_call_super hD1 hD2 O.obj rfl (fun c z => nomatch z) (PySem.W.looks_mroIn KX S.sub) (fun h' e k => ?_)
  exact h _ _ (I.kept (t' := tk) k) e
theorem pt_super {pl : Sem Bool} (S : SupX X C D sf) (hat : (m == ("__class__" : Str)) = false) (hm : PySem.W.ks_superIn X.K C D m = some (some (.ref f2))) (hty : PySem.W.typeIn X.K (.ref f2) = some (.type "function")) (hf : PySem.W.fnIn X.K f2 = true)
    (F : FnR X.prog X.w X.K X.mg X.base CX k f2 sp) (hr : Room k X.A) (hx : Passes CX X E) (ha : PA X args t)
    (hst : args = [] ∧ t = tNil ∨ ∃ e es, args = e :: es ∧ starEach (e :: es) X.env = (false, eval e X.env) :: starEach es X.env ∧ (backTo p3 (starEach es X.env)).any (·.1) = false)
    (ht : eval (.Call (.Attribute (.Call (.Name "super" p0) [] [] p1) m p2) args [] p3) X.env = (do
      let ov ← attributeBase (.Call (.Name "super" p0) [] [] p1) m X.env (eval (.Call (.Name "super" p0) [] [] p1) X.env)
      standAt p2.atName
      let (f, first) ← holding [ov] (getMethod ov m pl)
      callWith p3 f first (backTo p3 (starEach args X.env)) []) := by rfl) :
    PEt X body (.Call (.Attribute (.Call (.Name "super" p0) [] [] p1) m p2) args [] p3) (tSup C sp E t) := by
  refine ⟨fun pins s σ H Q I h => ?_⟩
  obtain ⟨a, dx, fs, h0, hH, h⟩ := h
  refine PySem.ks_wpAt_MethodCall (pl := pl) (sup_base S I h0 hH hat fun so s1 I1 hso => ?_) ht
  obtain ⟨cd, hC⟩ := S.clC
  have KX := I1.kIn
  obtain ⟨mA, O, _⟩ := ins_get I1.hok hH
  have hxC : a ≠ C := by
    intro z
    obtain ⟨oC, q1, q2⟩ := ks_objs KX hC
    rw [← z, O.obj] at q1
    cases q1
    cases q2
  obtain ⟨of, hof, hofc⟩ : ∃ of, s1.heap.get? f2 = some of ∧ of.cls = .type "function" := by
    have ht' : (X.K.lookup f2).map (·.cls) = some (.type "function") := hty
    cases z : X.K.lookup f2 with
    | none => rw [z] at ht'; cases ht'
    | some of => rw [z] at ht'; exact ⟨of, KX _ _ z, Option.some.inj ht'⟩
  unfold PySem.W.ks_superIn at hm
  rw [hC] at hm
  have I2 : Inv X ((s1.heap.objs.size, PySem.W.methodObj (.ref f2) (.ref a)) :: pins) σ H { s1 with heap := s1.heap.push (PySem.W.methodObj (.ref f2) (.ref a)), toks := s1.toks + 1 } := ClX.met_new I1
  have hb := ClX.base_none I1 (Nat.le_refl _)
  obtain ⟨hh, g, d, tk, os⟩ := s1
  refine PySem.ks_wpAny_getMethod_super hso (PySem.W.looks_opaque KX S.op) (l₀ := cd.mro) ?_ rfl KX hm hof hofc hxC hat ?_
  · exact fun A Q E s k q => wpAny_bind ((PySem.W.looks_clsIn KX hC) A _ E s k (wpAny_pure q))
  · rcases hst with ⟨rfl, rfl⟩ | ⟨e, es, rfl, he, hpl⟩
    · refine PySem.W.callWith_M0 (first := []) ⟨ClX.pin_at I2, I2.kIn⟩ hf ?_
      exact ClX.run_cm F hr hx I2 .nil h
    · refine ClX.callwith_cm I2 hb hf (thn (ha.run p3 _ _ σ H _ I2 h) fun us s3 ⟨vs, H2, I3, rv, q2⟩ => ⟨⟨ClX.pin_at I3, I3.kIn⟩, ?_⟩) he hpl
      exact ClX.run_cm F hr hx I3 rv q2
end
/-! a method that says super(): its function, its cell, its code object -/
structure FsK (K : PySem.W.Frag) (D : Addr) (file : Str) (x qual : Str) (st : Stmt) (f : Addr) : Prop where
  ex : ∃ (cda cc : Addr) (oc kV dc pm ct : Value) (od an : Option Addr) (sl : Array (Option Value)) (o1 o2 : Obj) (vs : Array Value) (tf : Tok),
    K.lookup f = some ⟨oc, od, .func (PySem.W.ksFn x qual (defArgs st) (defBody st) (defScope st) .none kV dc pm an (.ref cda) ct cc), sl⟩ ∧ PySem.W.codeIn K (.ref cda) qual = true ∧
    K.lookup cc = some o1 ∧ o1.data = .cell (some (.ref D)) ∧ K.lookup cda = some o2 ∧ o2.data = .fields vs ∧ vs[2]? = some (.str file tf)
  kp : PySem.W.keepIn K (.ref f) = true
/-- the classes: C the instance's, D the text's -/
structure SubK (K : PySem.W.Frag) (C D : Addr) : Prop where
  sub : PySem.W.mroIn K C (.ref D) = some true
  clD : PySem.W.isClsIn K D = true
  clC : PySem.W.isClsIn K C = true
  op : PySem.W.nsIn K cStatics "thirdparty.any" = some none
  su : PySem.W.nsIn K mainGlobals "super" = some none
/-- the program's own part -/
structure SupP (P : Program) (file : Str) : Prop where
  file : ((P.main.file : Str) == file) = true
  top : (P.main.scope.names.lookup ("super" : Str)).isSome = false
abbrev nfS (x qual : Str) (st : Stmt) (cda cc : Addr) : NdefX.NF := ⟨x, qual, defArgs st, defBody st, defScope st, [("__class__", cc)], cda⟩
section
variable {CX : CXT} {P : Program} {w : World} {K : PySem.W.Frag} {mg : Str → Option Value} {base : Heap} {N ps : List Str} {x qual : Str} {st : Stmt} {f C D cda cc : Addr} {A : Around} {outer : List Env} {s : Shared} {H : Hp} {E : XK} {file sf : Str}
theorem cells_s {o1 : Obj} (e0 : Env0 P w K mg base A outer s H) (h1 : K.lookup cc = some o1) (h2 : o1.data = .cell (some (.ref D))) : NdefX.CellsAt [("__class__", cc)] ["__class__"] [none] s.heap H := by
  have b := e0.mod.kin _ _ h1
  have key : ∀ (y : Str) (c : Addr), List.lookup y [(("__class__" : Str), cc)] = some c → y = "__class__" ∧ c = cc := by
    intro y c e
    rw [List.lookup_cons] at e
    split at e
    · rename_i q
      cases e
      exact ⟨eq_of_beq q, rfl⟩
    · cases e
  refine ⟨rfl, fun y c e => ?_, fun y z c e1 e2 => ?_, fun i y e => ?_⟩
  · obtain ⟨rfl, rfl⟩ := key y c e
    exact ⟨(e0.bs _ _ b).2, _, _, (e0.bs _ _ b).1, h2⟩
  · rw [(key y c e1).1, (key z c e2).1]
  · cases i with
    | zero =>
      cases e
      exact ⟨cc, rfl, fun v q => by cases q⟩
    | succ i => simp at e
theorem supX_of {fd : FuncData} {of : Obj} {o1 o2 : Obj} {vs : Array Value} {tf : Tok} {ar : Arg} (G : mg "super" = none) (SP : SupP P file) (U : SubK K C D) (hf : K.lookup f = some of) (hfd : of.data = .func fd) (hp : (fd.params.posonlyargs ++ fd.params.args).head? = some ar) (ha : ar.arg = sf)
    (h1 : K.lookup cc = some o1) (h2 : o1.data = .cell (some (.ref D))) (h3 : K.lookup cda = some o2) (h4 : o2.data = .fields vs) (h5 : vs[2]? = some (.str file tf)) (n0 : N[0]? = some sf)
    (k1 : (defScope st).names.lookup ("super" : Str) = some .globalImplicit) (k2 : (defScope st).names.lookup ("__class__" : Str) = some .free) (k3 : (defScope st).names.lookup sf = some .local) :
    SupX (NdefX.ncx CX P w K mg base N (nfS x qual st cda cc) f A outer s H E) C D sf :=
  ⟨k1, k2, k3, n0, ⟨f, of, fd, ar, rfl, hf, hfd, hp, ha⟩, ⟨cda, o2, vs, file, tf, rfl, h3, h4, h5, SP.file⟩, SP.top, ⟨cc, o1, rfl, h1, h2⟩, G, U.sub, Option.isSome_iff_exists.mp U.clD, Option.isSome_iff_exists.mp U.clC, U.op⟩
end
section
variable {CX : CXT} {P : Program} {w : World} {K : PySem.W.Frag} {mg : Str → Option Value} {base : Heap} {N ps : List Str} {x qual : Str} {st : Stmt} {f C D : Addr} {file sf : Str} {k : Nat} {sp : Sp}
/-- THE RULE for a method that says super() -/
theorem FsK.ok {ar : Arg} (F : FsK K D file x qual st f) (SP : SupP P file) (U : SubK K C D) (G : mg "super" = none) (S : NdefX.NScope N ps ["__class__"] (defScope st)) (hp : ((defArgs st).posonlyargs ++ (defArgs st).args).head? = some ar) (ha : ar.arg = sf) (n0 : N[0]? = some sf)
    (k1 : (defScope st).names.lookup ("super" : Str) = some .globalImplicit) (k3 : (defScope st).names.lookup sf = some .local) (hbind : ∀ (kV doc pm : Value) (an : Option Addr) (cdv ct : Value) (cc : Addr) (us : List Value), us.length = ps.length → bindArgs (PySem.W.ksFn x qual (defArgs st) (defBody st) (defScope st) .none kV doc pm an cdv ct cc) ⟨us, []⟩ = pure (ps.zip us))
    (len : ∀ vs H Q E, sp vs H Q E → vs.length = ps.length)
    (hbody : ∀ (cda cc : Addr) (A : Around) (outer : List Env) (s : Shared) (H : Hp) (vs : List V) (Q : VK) (E : XK), Room k (A.deeper (NdefX.envF (nfS x qual st cda cc) f s.heap.objs.size)) → SupX (NdefX.ncx CX P w K mg base N (nfS x qual st cda cc) f A outer s H E) C D sf → sp vs H Q E →
      ∃ t, PSst (NdefX.ncx CX P w K mg base N (nfS x qual st cda cc) f A outer s H E) (defBody st) (defBody st) t ∧ t { nx := fun _ H' => Q .non H', rt := Q } (NdefX.startF N vs [none]) H) :
    ∃ fd, FnOk P w K mg base CX (k + 1) f fd ps sp ∧ Binds K fd ps [] := by
  obtain ⟨cda, cc, oc, kV, dc, pm, ct, od, an, sl, o1, o2, vs, tf, l, hcd, h1, h2, h3, h4, h5⟩ := F.ex
  refine ⟨_, ⟨len, fun A outer s H args us vs Q E hr e0 hb r hsp => ?_⟩, .all (fun us hl => hbind kV dc pm an (.ref cda) ct cc us hl)⟩
  have hl := len _ _ _ _ hsp
  have KX : K.In s.heap := e0.mod.kin.keeps fun b o e => (e0.bs b o e).1
  have lim : s.heap.NoLimit := e0.mod.nolimit.keeps fun b o e => (e0.bs b o e).1
  refine PySem.ks_codeAny_call_defAt (body := defBody st) (binds := ps.zip us) hr.depth (KX _ _ l) rfl lim (PySem.W.codeRec_of KX hcd) rfl hb S.nocell (fun y hy => S.par y.1 (List.of_mem_zip hy).1) (fun h₁ hns hk => ?_) S.co S.gen S.kind
  have SX : SupX (NdefX.ncx CX P w K mg base N (nfS x qual st cda cc) f A outer s H E) C D sf := supX_of G SP U l rfl hp ha h1 h2 h3 h4 h5 n0 k1 (S.frk _ (by simp)) k3
  obtain ⟨t, ht, hq⟩ := hbody cda cc A outer s H vs Q E (hr.deeper _) SX hsp
  have I : Inv (NdefX.ncx CX P w K mg base N (nfS x qual st cda cc) f A outer s H E) [] (NdefX.startF N vs [none]) H { s with heap := h₁, toks := s.toks + (ps.zip us).length } := NdefX.inv_startN S hr.hd e0 hl r (cells_s e0 h1 h2) hns hk
  have fin : ∀ {σ' : L2.St} {H' : Hp} {v : V} {u : Value} {s' : Shared}, Inv (NdefX.ncx CX P w K mg base N (nfS x qual st cda cc) f A outer s H E) [] σ' H' s' → L2.RelV v u → Q v H' → CE outer P w H s Q u s' :=
    fun {σ' H' v u s'} J rv q => ⟨v, H', J.os, J.bare, J.base, J.hok, rv, q⟩
  refine PySem.ks_wpAt_mono (ht.run [] _ _ H _ I hq) (fun fl s' hs => ?_) (fun e s' hs => hs)
  cases fl with
  | ret u =>
    obtain ⟨v, σ', H', J, rv, q⟩ := hs
    exact fin J rv q
  | next =>
    obtain ⟨σ', H', J, q⟩ := hs
    exact fin (v := V.non) (u := Value.none) J rfl q
  | brk =>
    obtain ⟨_, _, _, q⟩ := hs
    exact False.elim q
  | cont =>
    obtain ⟨_, _, _, q⟩ := hs
    exact False.elim q
end
/-! methods found by super() -/
structure Sh (K : PySem.W.Frag) (C D : Addr) (m qual : Str) (st : Stmt) (ps : List Str) : Prop where
  ex : ∃ f fd, Fun K m qual st f fd ∧ PySem.W.ks_superIn K C D m = some (some (.ref f)) ∧ PySem.W.typeIn K (.ref f) = some (.type "function") ∧ PySem.W.fnIn K f = true ∧ Binds K fd ps []
structure SCal (CX : CXT) (P : Program) (w : World) (K : PySem.W.Frag) (mg : Str → Option Value) (base : Heap) (k : Nat) (C D : Addr) (m : Str) (ps : List Str) (sp : Sp) : Prop where
  ex : ∃ f fd, FnOk P w K mg base CX k f fd ps sp ∧ PySem.W.ks_superIn K C D m = some (some (.ref f)) ∧ PySem.W.typeIn K (.ref f) = some (.type "function") ∧ PySem.W.fnIn K f = true ∧ Binds K fd ps []
section
variable {P : Program} {w : World} {K : PySem.W.Frag} {mg : Str → Option Value} {base : Heap} {C Dd : Addr} {x qual : Str} {st : Stmt} {N ps : List Str} {k : Nat} {sp : Sp}
theorem Sh.cal (D : Sh K C Dd x qual st ps) (S : FnScope N ps (defScope st)) (lng : ∀ vs H Q E, sp vs H Q E → vs.length = ps.length)
    (bod : ∀ (f : Addr) (cdv : Value) (A : Around) (out : List Env) (s : Shared) (H : Hp) (vs : List V) (Q : VK) (E : XK),
      Room k (A.deeper (envOfC qual (defScope st) s.heap.objs.size f cdv)) → sp vs H Q E →
      ∃ t, PSs (cxOf CX0 P w K mg base N qual (defScope st) f cdv A out s H E).nox (defBody st) t ∧
        t { nx := fun _ H' => Q .non H', rt := Q } (start N vs) H) : SCal CX0 P w K mg base (k + 1) C Dd x ps sp := by
  obtain ⟨f, fd, F, h1, h2, h3, hb⟩ := D.ex
  exact ⟨f, fd, F.ok S lng (bod f), h1, h2, h3, hb⟩
theorem Sh.calX (D : Sh K C Dd x qual st ps) (S : FnScope N ps (defScope st)) (lng : ∀ vs H Q E, sp vs H Q E → vs.length = ps.length)
    (bod : ∀ (f : Addr) (cdv : Value) (A : Around) (out : List Env) (s : Shared) (H : Hp) (vs : List V) (Q : VK) (E : XK),
      Room k (A.deeper (envOfC qual (defScope st) s.heap.objs.size f cdv)) → sp vs H Q E →
      ∃ t, PSs (cxOf (L2.CX P w) P w K mg base N qual (defScope st) f cdv A out s H E) (defBody st) t ∧
        t { nx := fun _ H' => Q .non H', rt := Q } (start N vs) H) : SCal (L2.CX P w) P w K mg base (k + 1) C Dd x ps sp := by
  obtain ⟨f, fd, F, h1, h2, h3, hb⟩ := D.ex
  exact ⟨f, fd, F.okX S lng (bod f), h1, h2, h3, hb⟩
end
section
variable {X : Cx} {body : List Stmt} {C D : Addr} {sf m : Str} {p0 p1 p2 p3 : Pos} {e : Expr} {es : List Expr} {t : TA} {sp : Sp} {E : XK} {k : Nat} {CX : CXT} {ps : List Str} {pl : Sem Bool}
/-- super().m() -/
theorem pt_sup0 (S : SupX X C D sf) (c : SCal CX X.prog X.w X.K X.mg X.base k C D m ps sp) (hr : Room k X.A) (hx : Passes CX X E) (hat : (m == ("__class__" : Str)) = false := by decide)
    (ht : eval (.Call (.Attribute (.Call (.Name "super" p0) [] [] p1) m p2) [] [] p3) X.env = (do
      let ov ← attributeBase (.Call (.Name "super" p0) [] [] p1) m X.env (eval (.Call (.Name "super" p0) [] [] p1) X.env)
      standAt p2.atName
      let (f, first) ← holding [ov] (getMethod ov m pl)
      callWith p3 f first (backTo p3 (starEach [] X.env)) []) := by rfl) :
    PEt X body (.Call (.Attribute (.Call (.Name "super" p0) [] [] p1) m p2) [] [] p3) (tSup C sp E tNil) := by
  obtain ⟨f, fd, F, h1, h2, h3, hb⟩ := c.ex
  refine pt_super S hat h1 h2 h3 ((F.raw hb .nil).imp fun vs H Q E h => by simpa using h) hr hx pa_nil (.inl ⟨rfl, rfl⟩) ht
/-- super().m(e, ..) -/
theorem pt_supN (S : SupX X C D sf) (c : SCal CX X.prog X.w X.K X.mg X.base k C D m ps sp) (hr : Room k X.A) (hx : Passes CX X E) (ha : PA X (e :: es) t) (hat : (m == ("__class__" : Str)) = false := by decide)
    (hst : starEach (e :: es) X.env = (false, eval e X.env) :: starEach es X.env := by rfl) (hpl : (backTo p3 (starEach es X.env)).any (·.1) = false := by rfl)
    (ht : eval (.Call (.Attribute (.Call (.Name "super" p0) [] [] p1) m p2) (e :: es) [] p3) X.env = (do
      let ov ← attributeBase (.Call (.Name "super" p0) [] [] p1) m X.env (eval (.Call (.Name "super" p0) [] [] p1) X.env)
      standAt p2.atName
      let (f, first) ← holding [ov] (getMethod ov m pl)
      callWith p3 f first (backTo p3 (starEach (e :: es) X.env)) []) := by rfl) :
    PEt X body (.Call (.Attribute (.Call (.Name "super" p0) [] [] p1) m p2) (e :: es) [] p3) (tSup C sp E t) := by
  obtain ⟨f, fd, F, h1, h2, h3, hb⟩ := c.ex
  refine pt_super S hat h1 h2 h3 ((F.raw hb .nil).imp fun vs H Q E h => by simpa using h) hr hx ha (.inr ⟨e, es, rfl, hst, hpl⟩) ht
end
/-! what the head shows -/
theorem FsK.of {K : PySem.W.Frag} {D f cda cc : Addr} {file x qual : Str} {st : Stmt} {oc kV dc pm ct cl1 cl2 : Value} {od an od1 od2 : Option Addr} {sl sl1 sl2 : Array (Option Value)} {vs : Array Value} {tf : Tok}
    (l : K.lookup f = some ⟨oc, od, .func (PySem.W.ksFn x qual (defArgs st) (defBody st) (defScope st) .none kV dc pm an (.ref cda) ct cc), sl⟩) (c : PySem.W.codeIn K (.ref cda) qual = true)
    (h1 : K.lookup cc = some ⟨cl1, od1, .cell (some (.ref D)), sl1⟩) (h3 : K.lookup cda = some ⟨cl2, od2, .fields vs, sl2⟩) (h5 : vs[2]? = some (.str file tf)) (k : PySem.W.keepIn K (.ref f) = true) : FsK K D file x qual st f :=
  ⟨⟨cda, cc, oc, kV, dc, pm, ct, od, an, sl, _, _, vs, tf, l, c, h1, rfl, h3, rfl, h5⟩, k⟩
/-- a method of C that says super(), its text in D -/
structure MsK (K : PySem.W.Frag) (C D : Addr) (file x qual : Str) (st : Stmt) : Prop where
  ex : ∃ f, PySem.W.findIn K (.ref C) x = some (some (.ref f)) ∧ PySem.W.isFn K (.ref f) = true ∧ FsK K D file x qual st f
structure ShK2 (K : PySem.W.Frag) (C D : Addr) (x qual : Str) (st : Stmt) : Prop where
  ex : ∃ f, PySem.W.ks_superIn K C D x = some (some (.ref f)) ∧ PySem.W.typeIn K (.ref f) = some (.type "function") ∧ PySem.W.fnIn K f = true ∧ FnAt K f x qual st
theorem ShK2.sh {K : PySem.W.Frag} {C D : Addr} {x qual : Str} {st : Stmt} {ps : List Str} (d : ShK2 K C D x qual st) (b : BindOk x qual st ps) : Sh K C D x qual st ps := by
  obtain ⟨f, a, i, j, od, an, sl, oc, kV, dc, pm, cd, ct, l, c, k⟩ := d.ex
  have F := fun_mk (st := st) l c k
  exact ⟨f, _, F, a, i, j, F.binds b⟩
theorem ShK2.of {K : PySem.W.Frag} {C D : Addr} {x qual : Str} {st : Stmt} {f : Addr} {od an : Option Addr} {sl : Array (Option Value)} {oc kV dc pm cd ct : Value}
    (a : PySem.W.ks_superIn K C D x = some (some (.ref f))) (i : PySem.W.typeIn K (.ref f) = some (.type "function")) (j : PySem.W.fnIn K f = true) (l : K.lookup f = some ⟨oc, od, .func (PySem.W.fnOf x qual (defArgs st) (defBody st) (defScope st) .none kV dc pm an cd ct), sl⟩) (c : PySem.W.codeIn K cd qual = true) (k : PySem.W.keepIn K (.ref f) = true) : ShK2 K C D x qual st := ⟨⟨f, a, i, j, od, an, sl, oc, kV, dc, pm, cd, ct, l, c, k⟩⟩
end Pl
namespace Pl
open PySem PySem.Spec PyProof.Rows L2
/-! methods that say super(), with defaults -/
structure FsD (K : PySem.W.Frag) (D : Addr) (file : Str) (x qual : Str) (st : Stmt) (dvs : List V) (f : Addr) : Prop where
  ex : ∃ (cda cc T : Addr) (oc kV dc pm ct : Value) (od an : Option Addr) (sl : Array (Option Value)) (o1 o2 oT : Obj) (vs : Array Value) (tf : Tok) (its : List Value) (m : Nat),
    K.lookup f = some ⟨oc, od, .func (PySem.W.ksFn x qual (defArgs st) (defBody st) (defScope st) (.ref T) kV dc pm an (.ref cda) ct cc), sl⟩ ∧ PySem.W.codeIn K (.ref cda) qual = true ∧
    K.lookup cc = some o1 ∧ o1.data = .cell (some (.ref D)) ∧ K.lookup cda = some o2 ∧ o2.data = .fields vs ∧ vs[2]? = some (.str file tf) ∧ K.lookup T = some oT ∧ oT.data = .seq its.toArray m ∧ Vals dvs its
  kp : PySem.W.keepIn K (.ref f) = true
/-- how its calls bind -/
structure BdD (K : PySem.W.Frag) (fd : FuncData) (x qual : Str) (st : Stmt) (dvs : List V) : Prop where
  ex : ∃ (T : Addr) (oT : Obj) (its : List Value) (m : Nat) (kV dc pm cdv ct : Value) (an : Option Addr) (cc : Addr), fd = PySem.W.ksFn x qual (defArgs st) (defBody st) (defScope st) (.ref T) kV dc pm an cdv ct cc ∧ K.lookup T = some oT ∧ oT.data = .seq its.toArray m ∧ Vals dvs its
section
variable {P : Program} {w : World} {K : PySem.W.Frag} {mg : Str → Option Value} {base : Heap} {C D f : Addr} {file x qual sf : Str} {st : Stmt} {N ps : List Str} {k : Nat} {sp : Sp} {CX : CXT} {dvs : List V} {fd : FuncData}
theorem FsD.ok {ar : Arg} (F : FsD K D file x qual st dvs f) (SP : SupP P file) (U : SubK K C D) (G : mg "super" = none) (S : NdefX.NScope N ps ["__class__"] (defScope st)) (hp : ((defArgs st).posonlyargs ++ (defArgs st).args).head? = some ar) (ha : ar.arg = sf) (n0 : N[0]? = some sf)
    (k1 : (defScope st).names.lookup ("super" : Str) = some .globalImplicit) (k3 : (defScope st).names.lookup sf = some .local)
    (len : ∀ vs H Q E, sp vs H Q E → vs.length = ps.length)
    (hbody : ∀ (cda cc : Addr) (A : Around) (outer : List Env) (s : Shared) (H : Hp) (vs : List V) (Q : VK) (E : XK), Room k (A.deeper (NdefX.envF (nfS x qual st cda cc) f s.heap.objs.size)) → SupX (NdefX.ncx CX P w K mg base N (nfS x qual st cda cc) f A outer s H E) C D sf → sp vs H Q E →
      ∃ t, PSst (NdefX.ncx CX P w K mg base N (nfS x qual st cda cc) f A outer s H E) (defBody st) (defBody st) t ∧ t { nx := fun _ H' => Q .non H', rt := Q } (NdefX.startF N vs [none]) H) :
    ∃ fd, FnOk P w K mg base CX (k + 1) f fd ps sp ∧ BdD K fd x qual st dvs := by
  obtain ⟨cda, cc, T, oc, kV, dc, pm, ct, od, an, sl, o1, o2, oT, vs, tf, its, m, l, hcd, h1, h2, h3, h4, h5, lT, eT, rT⟩ := F.ex
  refine ⟨_, ⟨len, fun A outer s H args us vs Q E hr e0 hb r hsp => ?_⟩, ⟨T, oT, its, m, kV, dc, pm, .ref cda, ct, an, cc, rfl, lT, eT, rT⟩⟩
  have hl := len _ _ _ _ hsp
  have KX : K.In s.heap := e0.mod.kin.keeps fun b o e => (e0.bs b o e).1
  have lim : s.heap.NoLimit := e0.mod.nolimit.keeps fun b o e => (e0.bs b o e).1
  refine PySem.ks_codeAny_call_defAt (body := defBody st) (binds := ps.zip us) hr.depth (KX _ _ l) rfl lim (PySem.W.codeRec_of KX hcd) rfl hb S.nocell (fun y hy => S.par y.1 (List.of_mem_zip hy).1) (fun h₁ hns hk => ?_) S.co S.gen S.kind
  have SX : SupX (NdefX.ncx CX P w K mg base N (nfS x qual st cda cc) f A outer s H E) C D sf := supX_of G SP U l rfl hp ha h1 h2 h3 h4 h5 n0 k1 (S.frk _ (by simp)) k3
  obtain ⟨t, ht, hq⟩ := hbody cda cc A outer s H vs Q E (hr.deeper _) SX hsp
  have I : Inv (NdefX.ncx CX P w K mg base N (nfS x qual st cda cc) f A outer s H E) [] (NdefX.startF N vs [none]) H { s with heap := h₁, toks := s.toks + (ps.zip us).length } := NdefX.inv_startN S hr.hd e0 hl r (cells_s e0 h1 h2) hns hk
  have fin : ∀ {σ' : L2.St} {H' : Hp} {v : V} {u : Value} {s' : Shared}, Inv (NdefX.ncx CX P w K mg base N (nfS x qual st cda cc) f A outer s H E) [] σ' H' s' → L2.RelV v u → Q v H' → CE outer P w H s Q u s' :=
    fun {σ' H' v u s'} J rv q => ⟨v, H', J.os, J.bare, J.base, J.hok, rv, q⟩
  refine PySem.ks_wpAt_mono (ht.run [] _ _ H _ I hq) (fun fl s' hs => ?_) (fun e s' hs => hs)
  cases fl with
  | ret u =>
    obtain ⟨v, σ', H', J, rv, q⟩ := hs
    exact fin J rv q
  | next =>
    obtain ⟨σ', H', J, q⟩ := hs
    exact fin (v := V.non) (u := Value.none) J rfl q
  | brk =>
    obtain ⟨_, _, _, q⟩ := hs
    exact False.elim q
  | cont =>
    obtain ⟨_, _, _, q⟩ := hs
    exact False.elim q
/-- all parameters but the last j defaults are written -/
theorem BdD.binds (b : BdD K fd x qual st dvs) (n j : Nat) (hn : n + (dvs.length - j) = ps.length)
    (h : ∀ (T : Addr) (kV doc pm : Value) (an : Option Addr) (cdv ct : Value) (cc : Addr) (us its : List Value), us.length = n → its.length = dvs.length →
      ∃ k, bindArgs (PySem.W.ksFn x qual (defArgs st) (defBody st) (defScope st) (.ref T) kV doc pm an cdv ct cc) ⟨us, []⟩ = seqItems? (.ref T) >>= k ∧ k (some its.toArray) = pure (ps.zip (us ++ its.drop j))) : ∃ ds, Vals (dvs.drop j) ds ∧ Binds K fd ps ds := by
  obtain ⟨T, o, its, m, kV, doc, pm, cdv, ct, an, cc, rfl, lT, oT, rT⟩ := b.ex
  refine ⟨its.drop j, rT.drop j, fun s us X hlen => ?_⟩
  have l1 : its.length = dvs.length := rT.length.symm
  have l2 : us.length = n := by
    rw [List.length_append, List.length_drop, l1] at hlen
    omega
  obtain ⟨k, e1, e2⟩ := h T kV doc pm an cdv ct cc us its l2 l1
  refine BindsTo.of_looks fun M => ?_
  rw [e1]
  exact looks_items X lT oT (.of_pure e2)
theorem BdD.kbinds (b : BdD K fd x qual st dvs) (n : Nat) (ks : List Str)
    (h : ∀ (T : Addr) (kV doc pm : Value) (an : Option Addr) (cdv ct : Value) (cc : Addr) (us its ws : List Value), us.length = n → its.length = dvs.length → ws.length = ks.length →
      ∃ k, bindArgs (PySem.W.ksFn x qual (defArgs st) (defBody st) (defScope st) (.ref T) kV doc pm an cdv ct cc) ⟨us, ks.zip ws⟩ = seqItems? (.ref T) >>= k ∧ k (some its.toArray) = pure (ps.zip (us ++ ws))) :
    KBn K fd ps n ks (fun us ws => us ++ ws) (fun vs zs => vs ++ zs) := by
  obtain ⟨T, o, its, m, kV, doc, pm, cdv, ct, an, cc, rfl, lT, oT, rT⟩ := b.ex
  refine ⟨fun s us ws X l1 l2 => ?_, fun r1 r2 => r1.append r2⟩
  obtain ⟨k, e1, e2⟩ := h T kV doc pm an cdv ct cc us its ws l1 rT.length.symm l2
  refine BindsTo.of_looks fun M => ?_
  rw [e1]
  exact looks_items X lT oT (.of_pure e2)
/-- __init__(self, a, b = v) -/
theorem BdD.b3 {p q r : Str} (b : BdD K fd x qual st [d]) (h : ∀ (T : Addr) (kV doc pm : Value) (an : Option Addr) (cdv ct : Value) (cc : Addr) (a1 a2 a3 e : Value),
      ∃ k, bindArgs (PySem.W.ksFn x qual (defArgs st) (defBody st) (defScope st) (.ref T) kV doc pm an cdv ct cc) ⟨[a1, a2, a3], []⟩ = seqItems? (.ref T) >>= k ∧ k (some #[e]) = pure ([p, q, r].zip [a1, a2, a3])) : Binds K fd [p, q, r] [] := by
  obtain ⟨ds, hv, hb⟩ := b.binds (ps := [p, q, r]) 3 1 rfl fun T kV doc pm an cdv ct cc us its l1 l2 => by
    match us, its, l1, l2 with
    | [a1, a2, a3], [e], _, _ => exact h T kV doc pm an cdv ct cc a1 a2 a3 e
  cases ds with
  | nil => exact hb
  | cons _ _ => exact absurd hv.length (by simp)
end
/-- what the head shows -/
theorem FsD.of {K : PySem.W.Frag} {D f cda cc T : Addr} {file x qual : Str} {st : Stmt} {oc kV dc pm ct cl1 cl2 cl3 e : Value} {od an od1 od2 od3 : Option Addr} {sl sl1 sl2 sl3 : Array (Option Value)} {vs : Array Value} {tf : Tok} {m : Nat} {dv : V}
    (l : K.lookup f = some ⟨oc, od, .func (PySem.W.ksFn x qual (defArgs st) (defBody st) (defScope st) (.ref T) kV dc pm an (.ref cda) ct cc), sl⟩) (c : PySem.W.codeIn K (.ref cda) qual = true)
    (h1 : K.lookup cc = some ⟨cl1, od1, .cell (some (.ref D)), sl1⟩) (h3 : K.lookup cda = some ⟨cl2, od2, .fields vs, sl2⟩) (h5 : vs[2]? = some (.str file tf)) (h6 : K.lookup T = some ⟨cl3, od3, .seq #[e] m, sl3⟩) (h7 : RelV dv e) (k : PySem.W.keepIn K (.ref f) = true) : FsD K D file x qual st [dv] f :=
  ⟨⟨cda, cc, T, oc, kV, dc, pm, ct, od, an, sl, _, _, _, vs, tf, [e], m, l, c, h1, rfl, h3, rfl, h5, h6, rfl, .cons h7 .nil⟩, k⟩
end Pl
namespace Pl
open PySem PySem.Spec PyProof.Rows L2
/-! The end of a law that asks repr and some of whose defs make lambdas. -/
/-- what is tracked at first: the tables, and the script where K does not hold it -/
def fstH (K : PySem.W.Frag) (a : Addr) (ns : List Int) (ob : Obj) (ts : List Addr) : Hp := fun b => if b ∈ ts then some (.tbl #[]) else if b = a ∧ K.lookup a = none then some (.frz ob (.lst (ns.map V.int))) else none
theorem fstH_tab {K : PySem.W.Frag} {a : Addr} {ns : List Int} {ob : Obj} {ts : List Addr} {b : Addr} (h : b ∈ ts) : fstH K a ns ob ts b = some (.tbl #[]) := if_pos h
theorem fstH_cases {K : PySem.W.Frag} {a : Addr} {ns : List Int} {ob : Obj} {ts : List Addr} (b : Addr) {u : HO} (h : fstH K a ns ob ts b = some u) : (b ∈ ts ∧ u = .tbl #[]) ∨ (b ∉ ts ∧ b = a ∧ K.lookup a = none ∧ u = .frz ob (.lst (ns.map V.int))) := by
  unfold fstH at h
  by_cases c : b ∈ ts
  · rw [if_pos c] at h
    exact .inl ⟨c, (Option.some.inj h).symm⟩
  · rw [if_neg c] at h
    by_cases d : b = a ∧ K.lookup a = none
    · rw [if_pos d] at h
      exact .inr ⟨c, d.1, d.2, (Option.some.inj h).symm⟩
    · rw [if_neg d] at h
      cases h
theorem lawGT {P : Program} {w : World} {K : PySem.W.Frag} {mg mb : Str → Option Value} {k : Nat} {fa a : Addr} {x : Str} {sp : Sp} {fd : FuncData} {cs : List (Addr × Addr)} {s1 : Shared} {vs : List Value} {ns : List Int}
    (inK : K.In s1.heap) (gl : s1.heap.Ns mainGlobals mg) (bu : s1.heap.Ns builtinsNs mb) (bo : ∀ y : Str, y ≠ "__name__" → mb y = bootBuiltins y) (nolim : s1.heap.NoLimit) (gens : s1.gens = #[])
    (tabs : ∀ p ∈ cs, s1.heap.get? p.2 = some (PySem.W.tabObj #[])) (free : ∀ p ∈ cs, K.lookup p.2 = none) (code : ∀ p ∈ cs, PySem.W.CodeHd s1.heap p.1 p.2)
    (mod : ∃ (bm : Addr) (ob : Obj), mg "__builtins__" = some (.ref bm) ∧ bm ≠ builtinsNs ∧ s1.heap.get? bm = some ob ∧ ob.cls = .type "module" ∧ ob.dict = some builtinsNs ∧ ob.data = .plain)
    (scr : s1.heap.get? a = some { cls := .type "list", data := .seq vs.toArray }) (nums : IntsAre vs ns) (small : ns.length ≤ sizeLine) (room : Room k callerA)
    (F : ∀ base : Heap, K.In base → base.Ns mainGlobals mg → (∀ p ∈ cs, LamX.TabB base mg p.1 p.2) → FnG P w K mg base k fa fd [x] sp) (bind : ∀ (s : Shared) (u : Value), BindsTo s fd ⟨[u], []⟩ [(x, u)])
    (prom : ∀ H : Hp, (∀ p ∈ cs, H p.2 = some (.tbl #[])) → SqL K H a (ns.map V.int) → sp [.ref a] H (fun v _ => v = .bl true) fun _ _ _ => False) :
    codeAny (model P w) callerA (.call (.ref fa) ⟨[.ref a], []⟩) (fun r s' => r = .ok (.ret (.bool true)) ∧ OldK s1.heap s'.heap ∧ s'.os = s1.os ∧ AllBare s'.gens) s1 := by
  have vals := vals_ints nums
  have lenN := nums.length
  let lob : Obj := { cls := .type "list", data := .seq vs.toArray }
  let ts := cs.map (·.2)
  have tabO : ∀ b, b ∈ ts → s1.heap.get? b = some (PySem.W.tabObj #[]) := fun b m => by
    obtain ⟨p, hp, rfl⟩ := List.mem_map.mp m
    exact tabs p hp
  have tabIn : ∀ p ∈ cs, p.2 ∈ ts := fun p hp => List.mem_map_of_mem hp
  obtain ⟨H, hH⟩ : ∃ H, H = fstH K a ns lob ts := ⟨_, rfl⟩
  have tbl : ∀ p ∈ cs, H p.2 = some (.tbl #[]) := fun p hp => by rw [hH]; exact fstH_tab (tabIn p hp)
  have what : ∀ (b : Addr) (u : HO), H b = some u → (b ∈ ts ∧ u = .tbl #[]) ∨ (b ∉ ts ∧ b = a ∧ K.lookup a = none ∧ u = .frz lob (.lst (ns.map V.int))) := fun b u e => by
    rw [hH] at e
    exact fstH_cases b e
  have aNo : a ∉ ts := fun m => by
    have z := tabO a m
    rw [scr] at z
    cases z
  have seqL : SqL K H a (ns.map V.int) := by
    cases q : K.lookup a with
    | none => exact .inl (.inr ⟨lob, by rw [hH, fstH, if_neg aNo, if_pos ⟨rfl, q⟩]⟩)
    | some o =>
      have z := (inK a o q).symm.trans scr
      cases z
      exact .inr ⟨_, vs.toArray, _, q, rfl, rfl, rfl, by rw [List.size_toArray, lenN]; exact small, by simpa using vals⟩
  have okH : HOk P w H s1.heap := fun b u e => by
    rcases what b u e with ⟨m, rfl⟩ | ⟨_, rfl, _, rfl⟩
    · exact tabO b m
    · exact ⟨scr, by rw [List.length_map]; exact small, vs, _, vals, scr⟩
  -- what is neither a table nor a list is not tracked
  have clear : ∀ {b : Addr} {o : Obj}, s1.heap.get? b = some o → (∀ xs n, o.data ≠ .seq xs n) → o.data ≠ .fields #[] → H b = none := fun {b o} e n1 n2 => by
    cases q : H b with
    | none => rfl
    | some u =>
      exfalso
      rcases what b u q with ⟨m, _⟩ | ⟨_, rfl, _, _⟩
      · have z := tabO b m
        rw [e] at z
        cases z
        exact n2 rfl
      · rw [e] at scr
        cases scr
        exact n1 _ _ rfl
  have dicts : ∀ {b : Addr} {m : Str → Option Value}, s1.heap.Ns b m → (hidT s1.heap H).Ns b m := fun ⟨o, es, ep, e, d, r⟩ =>
    ⟨o, es, ep, hidT_get e (clear e (fun _ _ z => by rw [d] at z; cases z) (fun z => by rw [d] at z; cases z)), d, r⟩
  have inB : K.In (hidT s1.heap H) := fun b o e => by
    refine hidT_get (inK b o e) ?_
    cases q : H b with
    | none => rfl
    | some u =>
      exfalso
      rcases what b u q with ⟨m, _⟩ | ⟨_, rfl, n, _⟩
      · obtain ⟨p, hp, rfl⟩ := List.mem_map.mp m
        rw [free p hp] at e
        cases e
      · rw [n] at e
        cases e
  have md : Mod K mg (hidT s1.heap H) := ⟨inB, dicts gl, ⟨mb, dicts bu, bo⟩, let ⟨mc, p, q⟩ := nolim; ⟨mc, dicts p, q⟩⟩
  have notG : ∀ p ∈ cs, mainGlobals ≠ p.2 := fun p hp z => by
    obtain ⟨o, es, ep, e, d, _⟩ := gl
    rw [z, tabs p hp] at e
    cases e
    cases d
  have tb : ∀ p ∈ cs, LamX.TabB (hidT s1.heap H) mg p.1 p.2 := fun p hp => by
    refine ⟨?_, ?_, notG p hp⟩
    · obtain ⟨o, us, file, tf, fl, tg, inF, tx, tt, e, c1, c2, c3, r⟩ := code p hp
      refine ⟨o, us, file, tf, fl, tg, inF, tx, tt, hidT_get e (clear e (fun _ _ z => by rw [c2] at z; cases z) (fun z => ?_)), c1, c2, c3, r⟩
      rw [c2] at z
      cases z
      cases c3
    · obtain ⟨bm, ob, m1, m2, m3, m4, m5, m6⟩ := mod
      have n1 : bm ≠ mainGlobals := fun z => by
        obtain ⟨o, es, ep, e, d, _⟩ := gl
        rw [← z, m3] at e
        cases e
        rw [m6] at d
        cases d
      have n2 : bm ≠ p.2 := fun z => by
        rw [z, tabs p hp] at m3
        cases m3
        cases m6
      exact ⟨bm, ob, m1, m2, n1, n2, hidT_get m3 (clear m3 (fun _ _ z => by rw [m6] at z; cases z) (fun z => by rw [m6] at z; cases z)), m4, m5, m6⟩
  have env : Env0 P w K mg (hidT s1.heap H) callerA [] s1 H :=
    ⟨rfl, md, fun b o e => of_hidT e, Nat.le_of_eq (hidT_size _ _), trivial, fun b z => absurd (show b ∈ ([] : List Addr) from z) (by simp), okH, .of_eq gens⟩
  have run := (F _ inB (dicts gl) tb).go callerA [] s1 H ⟨[.ref a], []⟩ [.ref a] [.ref a] _ _ rfl room env (bind s1 (.ref a)) (.cons rfl .nil) (prom H tbl seqL)
  refine codeAny_mono run ?_
  intro r s' z
  match r, z with
  | .ok (.ret u), z =>
    obtain ⟨v, H', os, bare, un, ok', rv, q⟩ := z
    obtain rfl : v = .bl true := q
    obtain rfl : u = Value.bool true := rv
    have stay : ∀ b o, b ∉ ts → s1.heap.get? b = some o → s'.heap.get? b = some o := fun b o n e => by
      cases q : H b with
      | none => exact un.keep b o e q (fun z => absurd (show b ∈ ([] : List Addr) from z) (by simp)) (by simp)
      | some u =>
        rcases what b u q with ⟨m, _⟩ | ⟨_, _, _, rfl⟩
        · exact absurd m n
        · obtain ⟨p1, _⟩ := okH b _ q
          obtain ⟨p2, _⟩ := ok' b _ (un.frzs b _ _ q)
          rw [e] at p1
          cases p1
          exact p2
    have more : ∀ b, b ∈ ts → ∃ p ∈ cs, p.2 = b ∧ ∃ qs : Array Value, s'.heap.get? b = some (PySem.W.tabObj qs) := fun b m => by
      obtain ⟨p, hp, rfl⟩ := List.mem_map.mp m
      obtain ⟨qs, e⟩ := un.tbls p.2 #[] (tbl p hp)
      exact ⟨p, hp, rfl, _, ok' _ _ e⟩
    refine ⟨rfl, ⟨fun b o e => ?_, fun b o e => ?_⟩, os, bare⟩
    · by_cases m : b ∈ ts
      · obtain ⟨p, hp, rfl, qs, e2⟩ := more b m
        have e3 := tabs p hp
        rw [e] at e3
        cases e3
        exact .inr (.inl ⟨((code p hp).tab (tabs p hp)).isCodeTable, rfl, #[], qs, rfl, by rw [Array.empty_append]; exact e2⟩)
      · exact .inl (stay b o m e)
    · by_cases m : b ∈ ts
      · obtain ⟨_, _, _, qs, e2⟩ := more b m
        exact ⟨_, e2⟩
      · exact ⟨o, stay b o m e⟩
  | .ok .next, z => exact False.elim z
  | .ok .brk, z => exact False.elim z
  | .ok .cont, z => exact False.elim z
  | .error e, z => exact False.elim z
/-- the end, with the tables' facts laid out -/
theorem walkTG {l : PySem.W.OpenLaw} {n k : Nat} {q : Program} {loose : List Str} {XP : (Str → Option Value) → Heap → Prop} {YP : World → Heap → Prop} {d : DefRec} {K : Params → PySem.W.Frag} {sp : PySem.W.Frag → Sp} {x : Str} {st : Stmt} (names : List Str)
    (hn : l.most = some n) (small : n ≤ sizeLine) (hdf : d.params.defaults = []) (hr : Room k callerA) (hY : ∀ (w : World) (h : Heap), YP w h → (K w.params).In h)
    (hrec : ∀ y ∈ names, ((recsOf q).find? fun e => e.name == y).isSome = true) (htab : ∀ w : World, ∀ y ∈ names, (PySem.W.tabIn (K w.params) y).isSome = true) (hno : ∀ w : World, PySem.W.noTabs (K w.params) = true)
    (hdis : ∀ w : World, (names.all fun y => names.all fun z => y == z || !((PySem.W.tabIn (K w.params) y).map (·.2) == (PySem.W.tabIn (K w.params) z).map (·.2))) = true)
    (hname : d.name = "law") (D : ∀ w : World, DfK (K w.params) "law" st) (bo : BindOk "law" "law" st [x])
    (F : ∀ (w : World) (mg : Str → Option Value) (h : Heap), (K w.params).In h → h.Ns mainGlobals mg →
      ∀ base : Heap, (K w.params).In base → base.Ns mainGlobals mg → (∀ y ∈ names, ∃ c T : Addr, PySem.W.tabIn (K w.params) y = some (c, T) ∧ LamX.TabB base mg c T) →
        (∀ y ∈ names, ∀ z ∈ names, y ≠ z → ∀ c T c' T' : Addr, PySem.W.tabIn (K w.params) y = some (c, T) → PySem.W.tabIn (K w.params) z = some (c', T') → T ≠ T') →
        ∀ (f : Addr) (fd : FuncData), L2.Fun (K w.params) "law" "law" st f fd → FnG l.prog w (K w.params) mg base k f fd [x] (sp (K w.params)))
    (prom : ∀ (K : PySem.W.Frag) (H : Hp) (a : Addr) (ns : List Int), ns.length ≤ n → (∀ y ∈ names, ∀ c T : Addr, PySem.W.tabIn K y = some (c, T) → H T = some (.tbl #[])) → SqL K H a (ns.map V.int) → sp K [.ref a] H (fun v _ => v = .bl true) fun _ _ _ => False) :
    PySem.W.WalkO q loose XP YP l.row.toRowW d [] (fun f vs => PySem.call f vs) := by
  refine Att.attach_call hn hdf ?_
  intro w s0 s1 mg mb fa o pm cd doc a vs ns G Y ho hd hcd hmg hobj hints hlen hg
  have KX := hY w _ Y
  obtain ⟨f, ea, od, an, sl, oc, kV, dc, pm', cd', ct, lk, cc, kp⟩ := (D w).ex
  have Fl := fun_mk (st := st) lk cc kp
  have ef : fa = f := by
    have z := PySem.W.mg_of KX G.T.g ea
    rw [hname] at hmg
    rw [hmg] at z
    cases z
    rfl
  subst ef
  have key : ∀ y ∈ names, ∃ p : Addr × Addr, PySem.W.tabIn (K w.params) y = some p ∧ PySem.W.CodeHd s1.heap p.1 p.2 ∧ s1.heap.get? p.2 = some (PySem.W.tabObj #[]) := fun y hy => by
    obtain ⟨p, hp⟩ := Option.isSome_iff_exists.mp (htab w y hy)
    obtain ⟨r, hr'⟩ := Option.isSome_iff_exists.mp (hrec y hy)
    have z := PySem.W.tab_of (c := p.1) (P := p.2) G.T KX hr' hp
    exact ⟨p, hp, z.1, z.2⟩
  have got : ∀ p ∈ names.filterMap (PySem.W.tabIn (K w.params)), PySem.W.CodeHd s1.heap p.1 p.2 ∧ s1.heap.get? p.2 = some (PySem.W.tabObj #[]) := fun p hp => by
    obtain ⟨y, hy, e⟩ := List.mem_filterMap.mp hp
    obtain ⟨p', e', a, b⟩ := key y hy
    rw [e] at e'
    cases e'
    exact ⟨a, b⟩
  refine lawGT (cs := names.filterMap (PySem.W.tabIn (K w.params))) KX G.T.g G.T.b G.T.builtins G.T.nolimit hg (fun p hp => (got p hp).2) (fun p hp => noTab KX (hno w) (got p hp).2) (fun p hp => (got p hp).1) G.T.bmain hobj hints (Nat.le_trans hlen small) hr
    (fun base kb nb tb => F w mg s1.heap KX G.T.g base kb nb (fun y hy => ?_) (fun y hy z hz ne c T c' T' e1 e2 eT => ?_) fa _ Fl) (fun s u => BindsTo.of_eq (bo kV dc pm' an cd' ct [u] rfl))
    (fun H hH hS => prom _ H a ns hlen (fun y hy c T e => hH (c, T) (List.mem_filterMap.mpr ⟨y, hy, e⟩)) hS)
  · obtain ⟨p, hp⟩ := Option.isSome_iff_exists.mp (htab w y hy)
    exact ⟨p.1, p.2, hp, tb p (List.mem_filterMap.mpr ⟨y, hy, hp⟩)⟩
  · have a := List.all_eq_true.mp (List.all_eq_true.mp (hdis w) y hy) z hz
    rw [e1, e2, eT] at a
    simp at a
    exact ne a
section
variable {P : Program} {w : World} {K : PySem.W.Frag} {mg : Str → Option Value} {base : Heap} {x : Str} {st : Stmt} {N ps : List Str} {k : Nat} {sp : Sp} {c : Addr}
theorem okGat {qual : Str} {f : Addr} {oc kV doc pm cdv ct : Value} {od an : Option Addr} {osl : Array (Option Value)} (lk : K.lookup f = some ⟨oc, od, .func (PySem.W.fnOf x qual (defArgs st) (defBody st) (defScope st) .none kV doc pm an cdv ct), osl⟩) (hcd : PySem.W.codeIn K cdv qual = true) (S : FnScope N ps (defScope st)) (lng : ∀ vs H Q E, sp vs H Q E → vs.length = ps.length)
    (bod : ∀ (A : Around) (out : List Env) (s : Shared) (H : Hp) (vs : List V) (Q : VK) (E : XK),
      A.guards = some [] → Room k (A.deeper (envOfC qual (defScope st) s.heap.objs.size f cdv)) → sp vs H Q E →
      ∃ t, PSs (cxOf CX0 P w K mg base N qual (defScope st) f cdv A out s H E).nox (defBody st) t ∧
        t { nx := fun _ H' => Q .non H', rt := Q } (start N vs) H) :
    FnG P w K mg base (k + 1) f (PySem.W.fnOf x qual (defArgs st) (defBody st) (defScope st) .none kV doc pm an cdv ct) ps sp := by
  refine ⟨lng, fun A out s H ar us vs Q E gd rm e0 bt rv hs => ?_⟩
  have inK : K.In s.heap := e0.mod.kin.keeps fun b o q => (e0.bs b o q).1
  have nl : s.heap.NoLimit := e0.mod.nolimit.keeps fun b o q => (e0.bs b o q).1
  have kinds : ∀ y ∈ ps.zip us, (defScope st).names.lookup y.1 = some .local ∨
      ((defScope st).names.lookup y.1 = some .cell ∧
        ((cellsFrom (s.heap.objs.size + 1) (defScope st).names []).lookup y.1).isSome = true) := by
    rintro ⟨n, v⟩ hy
    rcases S.par n (List.of_mem_zip hy).1 with c | c
    · exact .inl c
    · exact .inr ⟨c, PySem.W.cellsFrom_some _ _ _ (.inl c)⟩
  refine codeAny_call_function rm.depth (inK _ _ lk) rfl S.co S.gen rfl (PySem.W.codeRec_of inK hcd) (bt _ _ _ _ ?_)
  refine wpAny_newFunctionEnv_cells S.kind kinds fun env he s1 ic => ?_
  subst he
  refine ⟨nl.keeps ic.toInCall.keep, codeAny_func ?_⟩
  obtain ⟨t, ht0, hq⟩ := bod A out s H vs Q E gd (rm.deeper _) hs
  have ht := ht0.nox
  have I : Inv (cxOf CX0 P w K mg base N qual (defScope st) f cdv A out s H E) [] (start N vs) H s1 :=
    inv_start S rm.hd e0 (lng _ _ _ _ hs) rv ic
  refine wpAny_mono (ht.run [] s1 (start N vs) H _ I hq) (fun fl s' z => ?_) fun e s' z => z
  cases fl with
  | ret u =>
    obtain ⟨v, σ', H', J, r, q⟩ := z
    exact ⟨v, H', J.os, J.bare, J.base, J.hok, r, q⟩
  | next =>
    obtain ⟨σ', H', J, q⟩ := z
    exact ⟨V.non, H', J.os, J.bare, J.base, J.hok, rfl, q⟩
  | brk =>
    obtain ⟨σ', H', J, q⟩ := z
    exact False.elim q
  | cont =>
    obtain ⟨σ', H', J, q⟩ := z
    exact False.elim q
/-- a def that makes lambdas and asks repr -/
theorem DfT.calG (D : DfT K mg x st ps c) (S : FnScope N ps (defScope st)) (lng : ∀ vs H Q E, sp vs H Q E → vs.length = ps.length)
    (bod : ∀ (f : Addr) (A : Around) (out : List Env) (s : Shared) (H : Hp) (vs : List V) (Q : VK) (E : XK),
      A.guards = some [] → Room k (A.deeper (envOfC x (defScope st) s.heap.objs.size f (.ref c))) → sp vs H Q E →
      ∃ t, PSs (cxOf CX0 P w K mg base N x (defScope st) f (.ref c) A out s H E).nox (defBody st) t ∧
        t { nx := fun _ H' => Q .non H', rt := Q } (start N vs) H) : CalG P w K mg base (k + 1) x ps sp := by
  obtain ⟨f, oc, od, kV, doc, pm, an, ct, osl, lk, hcd, kp, hm, hb⟩ := D.ex
  exact ⟨f, _, okGat lk hcd S lng (bod f), hm, kp, hb⟩
end
end Pl
namespace Pl
open PySem PySem.Spec PyProof.Rows L2
/-! The end of a law that makes lambdas itself. -/
/-- the law's own function, its code object known -/
structure LawT (K : PySem.W.Frag) (st : Stmt) (f : Addr) (fd : FuncData) (c : Addr) : Prop where
  ex : ∃ (oc : Value) (od : Option Addr) (kV doc pm : Value) (an : Option Addr) (ct : Value) (osl : Array (Option Value)), fd = PySem.W.fnOf "law" "law" (defArgs st) (defBody st) (defScope st) .none kV doc pm an (.ref c) ct ∧
    K.lookup f = some ⟨oc, od, .func (PySem.W.fnOf "law" "law" (defArgs st) (defBody st) (defScope st) .none kV doc pm an (.ref c) ct), osl⟩ ∧ PySem.W.codeIn K (.ref c) "law" = true
theorem walkTL {l : PySem.W.OpenLaw} {n k : Nat} {q : Program} {loose : List Str} {XP : (Str → Option Value) → Heap → Prop} {YP : World → Heap → Prop} {d : DefRec} {K : Params → PySem.W.Frag} {sp : PySem.W.Frag → Sp} {x : Str} {st : Stmt} (names : List Str) (hlaw : ("law" : Str) ∈ names)
    (hn : l.most = some n) (small : n ≤ sizeLine) (hdf : d.params.defaults = []) (hr : Room k callerA) (hY : ∀ (w : World) (h : Heap), YP w h → (K w.params).In h)
    (hrec : ∀ y ∈ names, ((recsOf q).find? fun e => e.name == y).isSome = true) (htab : ∀ w : World, ∀ y ∈ names, (PySem.W.tabIn (K w.params) y).isSome = true) (hno : ∀ w : World, PySem.W.noTabs (K w.params) = true)
    (hdis : ∀ w : World, (names.all fun y => names.all fun z => y == z || !((PySem.W.tabIn (K w.params) y).map (·.2) == (PySem.W.tabIn (K w.params) z).map (·.2))) = true)
    (hname : d.name = "law") (D : ∀ w : World, DfK (K w.params) "law" st) (bo : BindOk "law" "law" st [x])
    (F : ∀ (w : World) (mg : Str → Option Value) (h : Heap), (K w.params).In h → h.Ns mainGlobals mg →
      ∀ base : Heap, (K w.params).In base → base.Ns mainGlobals mg → (∀ y ∈ names, ∃ c T : Addr, PySem.W.tabIn (K w.params) y = some (c, T) ∧ LamX.TabB base mg c T) →
        (∀ y ∈ names, ∀ z ∈ names, y ≠ z → ∀ c T c' T' : Addr, PySem.W.tabIn (K w.params) y = some (c, T) → PySem.W.tabIn (K w.params) z = some (c', T') → T ≠ T') →
        ∀ (f : Addr) (fd : FuncData) (c T : Addr), PySem.W.tabIn (K w.params) "law" = some (c, T) → LawT (K w.params) st f fd c → FnG l.prog w (K w.params) mg base k f fd [x] (sp (K w.params)))
    (prom : ∀ (K : PySem.W.Frag) (H : Hp) (a : Addr) (ns : List Int), ns.length ≤ n → (∀ y ∈ names, ∀ c T : Addr, PySem.W.tabIn K y = some (c, T) → H T = some (.tbl #[])) → SqL K H a (ns.map V.int) → sp K [.ref a] H (fun v _ => v = .bl true) fun _ _ _ => False) :
    PySem.W.WalkO q loose XP YP l.row.toRowW d [] (fun f vs => PySem.call f vs) := by
  refine Att.attach_call hn hdf ?_
  intro w s0 s1 mg mb fa o pm cd doc a vs ns G Y ho hd hcd hmg hobj hints hlen hg
  have KX := hY w _ Y
  obtain ⟨f, ea, od, an, sl, oc, kV, dc, pm', cd', ct, lk, cc, kp⟩ := (D w).ex
  obtain ⟨⟨cL, TL⟩, hpL⟩ := Option.isSome_iff_exists.mp (htab w "law" hlaw)
  have ecd : cd' = .ref cL := by
    have ht := hpL
    unfold PySem.W.tabIn at ht
    rw [ea] at ht
    dsimp only at ht
    rw [lk] at ht
    dsimp only [PySem.W.fnOf] at ht
    cases cd' <;> first | (simp at ht; done) | skip
    rename_i c1
    dsimp only at ht
    split at ht
    · split at ht
      · cases ht
        rfl
      · cases ht
    · cases ht
  subst ecd
  have Fl : LawT (K w.params) st f _ cL := ⟨⟨oc, od, kV, dc, pm', an, ct, sl, rfl, lk, cc⟩⟩
  have ef : fa = f := by
    have z := PySem.W.mg_of KX G.T.g ea
    rw [hname] at hmg
    rw [hmg] at z
    cases z
    rfl
  subst ef
  have key : ∀ y ∈ names, ∃ p : Addr × Addr, PySem.W.tabIn (K w.params) y = some p ∧ PySem.W.CodeHd s1.heap p.1 p.2 ∧ s1.heap.get? p.2 = some (PySem.W.tabObj #[]) := fun y hy => by
    obtain ⟨p, hp⟩ := Option.isSome_iff_exists.mp (htab w y hy)
    obtain ⟨r, hr'⟩ := Option.isSome_iff_exists.mp (hrec y hy)
    have z := PySem.W.tab_of (c := p.1) (P := p.2) G.T KX hr' hp
    exact ⟨p, hp, z.1, z.2⟩
  have got : ∀ p ∈ names.filterMap (PySem.W.tabIn (K w.params)), PySem.W.CodeHd s1.heap p.1 p.2 ∧ s1.heap.get? p.2 = some (PySem.W.tabObj #[]) := fun p hp => by
    obtain ⟨y, hy, e⟩ := List.mem_filterMap.mp hp
    obtain ⟨p', e', a, b⟩ := key y hy
    rw [e] at e'
    cases e'
    exact ⟨a, b⟩
  refine lawGT (cs := names.filterMap (PySem.W.tabIn (K w.params))) KX G.T.g G.T.b G.T.builtins G.T.nolimit hg (fun p hp => (got p hp).2) (fun p hp => noTab KX (hno w) (got p hp).2) (fun p hp => (got p hp).1) G.T.bmain hobj hints (Nat.le_trans hlen small) hr
    (fun base kb nb tb => F w mg s1.heap KX G.T.g base kb nb (fun y hy => ?_) (fun y hy z hz ne c T c' T' e1 e2 eT => ?_) fa _ cL TL hpL Fl) (fun s u => BindsTo.of_eq (bo kV dc pm' an (.ref cL) ct [u] rfl))
    (fun H hH hS => prom _ H a ns hlen (fun y hy c T e => hH (c, T) (List.mem_filterMap.mpr ⟨y, hy, e⟩)) hS)
  · obtain ⟨p, hp⟩ := Option.isSome_iff_exists.mp (htab w y hy)
    exact ⟨p.1, p.2, hp, tb p (List.mem_filterMap.mpr ⟨y, hy, hp⟩)⟩
  · have a := List.all_eq_true.mp (List.all_eq_true.mp (hdis w) y hy) z hz
    rw [e1, e2, eT] at a
    simp at a
    exact ne a
section
variable {P : Program} {w : World} {K : PySem.W.Frag} {mg : Str → Option Value} {base : Heap} {st : Stmt} {N ps : List Str} {k : Nat} {sp : Sp} {c f : Addr} {fd : FuncData}
theorem LawT.okG (D : LawT K st f fd c) (S : FnScope N ps (defScope st)) (lng : ∀ vs H Q E, sp vs H Q E → vs.length = ps.length)
    (bod : ∀ (A : Around) (out : List Env) (s : Shared) (H : Hp) (vs : List V) (Q : VK) (E : XK),
      A.guards = some [] → Room k (A.deeper (envOfC "law" (defScope st) s.heap.objs.size f (.ref c))) → sp vs H Q E →
      ∃ t, PSs (cxOf CX0 P w K mg base N "law" (defScope st) f (.ref c) A out s H E).nox (defBody st) t ∧
        t { nx := fun _ H' => Q .non H', rt := Q } (start N vs) H) : FnG P w K mg base (k + 1) f fd ps sp := by
  obtain ⟨oc, od, kV, doc, pm, an, ct, osl, rfl, lk, hcd⟩ := D.ex
  exact okGat lk hcd S lng bod
end
end Pl
/-! a generator that raises when it is walked first: for over its call -/
namespace GenZ
open PySem PySem.Spec PyProof.Rows L2
open Sem (wp)
/-- statements of a generator's body that raise ahead of the first yield -/
structure BS (X : Cx) (body : List Stmt) (t : L2.St → Hp → Prop) : Prop where
  run : ∀ (Φ : End → Shared → Prop) (A : Around) (c : Code) (fs : List Frame) (K : Flow → Sem PySem.Fin) (J : Value → Sem PySem.Fin) (gd : Bool → Bool) (lv : List Value → List Value) (s : Shared) (σ : L2.St) (H : Hp),
    A.over c fs = X.A → (∀ x s', X.xe x s' → S1 (model X.prog X.w) A Φ c (J x) fs s') → Inv X [] σ H s → t σ H → S1 (model X.prog X.w) A Φ c ((execs body X.env).wrap K J gd lv) fs s
section
variable {X : Cx} {st : Stmt} {rest body : List Stmt}
theorem bs_abs : BS X body (fun _ _ => False) := ⟨fun _ _ _ _ _ _ _ _ _ _ _ _ _ _ h => h.elim⟩
theorem bs_cons {t : TS} {u : L2.St → Hp → Prop} (h : PS X st t) (r : BS X rest u) : BS X (st :: rest) (fun σ H => t { nx := u, rt := fun _ _ => False } σ H) := by
  refine ⟨fun Φ A c fs K J gd lv s σ H hA hJ I ht => ?_⟩
  refine s1_cons (s1_wrap ?_)
  rw [hA]
  refine wpAny_mono (h.run [] s σ H _ I ht) (fun f s' hs => ?_) fun x s' hx => hJ x s' hx
  cases f with
  | next =>
    obtain ⟨σ', H', I', q⟩ := hs
    exact r.run Φ A c fs K J gd lv s' σ' H' hA hJ I' q
  | brk => obtain ⟨_, _, _, q⟩ := hs; exact q.elim
  | cont => obtain ⟨_, _, _, q⟩ := hs; exact q.elim
  | ret u => obtain ⟨_, _, _, _, _, q⟩ := hs; exact q.elim
end
/-- how the run ends -/
def BEnd (P : Program) (w : World) (outer : List Env) (H : Hp) (s : Shared) (E : XK) (a : Addr) (g : Nat) : End → Shared → Prop := fun e s1 => ∃ v, e = .ret (.error v) ∧ CX P w outer H s E v s1 ∧ s1.heap.IsGen a g
def BMade (P : Program) (w : World) (k : Nat) (outer : List Env) (H : Hp) (s : Shared) (E : XK) (u : Value) (s' : Shared) : Prop :=
  ∃ (a : Addr) (g : Nat) (c : Code), u = .ref a ∧ s'.heap.IsGen a g ∧ s'.gens[g]? = some (.fresh c) ∧ s'.heap.NoLimit ∧
    ∀ (A : Around), Room k A → A.frames = some outer → S1 (model P w) A (BEnd P w outer H s E a g) c ((model P w).den c) [] (s'.setGen g .running)
abbrev SpB := List V → Hp → XK → Prop
structure BFn (P : Program) (w : World) (K : PySem.W.Frag) (mg : Str → Option Value) (base : Heap) (k : Nat) (f : Addr) (fd : FuncData) (ps : List Str) (sp : SpB) : Prop where
  len : ∀ vs H E, sp vs H E → vs.length = ps.length
  run : ∀ (A : Around) (outer : List Env) (s : Shared) (H : Hp) (args : Args) (us : List Value) (vs : List V) (E : XK), Room k A → Env0 P w K mg base A outer s H → BindsTo s fd args (ps.zip us) → Vals vs us → sp vs H E →
    codeAny (model P w) A (.call (.ref f) args) (fun r s' => match r with | .ok (.ret u) => BMade P w k outer H s E u s' | _ => False) s
theorem bfn_of {P : Program} {w : World} {K : PySem.W.Frag} {mg : Str → Option Value} {base : Heap} {k : Nat} {f : Addr} {name qual : Str} {params : Arguments} {body : List Stmt} {scope : Scope} {dV kV doc pm cdv ct oc : Value} {an od : Option Addr}
    {osl : Array (Option Value)} {N ps : List Str} {sp : SpB} (lk : K.lookup f = some ⟨oc, od, .func (PySem.W.fnOf name qual params body scope dV kV doc pm an cdv ct), osl⟩) (hcd : PySem.W.codeIn K cdv qual = true) (S : GScope N ps scope)
    (len : ∀ vs H E, sp vs H E → vs.length = ps.length)
    (hbody : ∀ (A : Around) (outer : List Env) (s : Shared) (H : Hp) (vs : List V) (E : XK) (pn : List (Addr × Obj)), Room k (A.deeper (envOfC qual scope s.heap.objs.size f cdv)) → sp vs H E →
      ∃ t, BS (gcxOf P w K mg base N qual scope f cdv A outer s H E pn) body t ∧ t (start N vs) H) :
    BFn P w K mg base (k + 1) f (PySem.W.fnOf name qual params body scope dV kV doc pm an cdv ct) ps sp := by
  refine ⟨len, fun A outer s H args us vs E hr e0 hb r hsp => ?_⟩
  have hl := len _ _ _ hsp
  have KX : K.In s.heap := e0.mod.kin.keeps fun b o e => (e0.bs b o e).1
  have lim : s.heap.NoLimit := e0.mod.nolimit.keeps fun b o e => (e0.bs b o e).1
  have hkind : ∀ y ∈ ps.zip us, scope.names.lookup y.1 = some .local ∨ (scope.names.lookup y.1 = some .cell ∧ ((cellsFrom (s.heap.objs.size + 1) scope.names []).lookup y.1).isSome = true) := fun ⟨n, v⟩ hy => by
    rcases S.par n (List.of_mem_zip hy).1 with q | q
    · exact .inl q
    · exact .inr ⟨q, PySem.W.cellsFrom_some _ _ _ (.inl q)⟩
  refine codeAny_call_generator hr.depth (KX _ _ lk) rfl S.co S.gen rfl (PySem.W.codeRec_of KX hcd) (hb _ _ _ _ ?_)
  refine wpAny_newFunctionEnv_cells S.kind hkind fun env he s1 x => ?_
  subst he
  have lim1 : s1.heap.NoLimit := lim.keeps x.toInCall.keep
  refine ⟨lim1, ?_⟩
  obtain ⟨h1, tk, es1, hk1⟩ := x.done
  have os1 : s1.os = s.os := by rw [es1]
  have gen1 : s1.gens = s.gens := by rw [es1]
  have lt1 : s.heap.objs.size < s1.heap.objs.size := x.toInCall.ns.lt
  have kp1 : ∀ b o, s.heap.get? b = some o → s1.heap.get? b = some o := x.toInCall.keep
  have main : ∀ (go : Obj) (nm qn : Value) (tk2 : Nat), go.cls = .type "generator" → go.data = .fields #[.int s1.gens.size 0, nm, qn] → go.slots = #[] → (∀ h : Heap, (h.push go).get? h.objs.size = some go) →
      BMade P w (k + 1) outer H s E (.ref s1.heap.objs.size) { s1 with gens := s1.gens.push (.fresh (.func body (envOfC qual scope s.heap.objs.size f cdv))), toks := tk2, heap := s1.heap.push go } := by
    intro go nm qn tk2 hgc hgd0 hgs hgp
    have hgen : ∀ h : Heap, h.get? s1.heap.objs.size = some go → h.IsGen s1.heap.objs.size s1.gens.size := fun h e => ⟨go, nm, qn, e, hgc, hgd0, hgs⟩
    have hpushed : (s1.heap.push go).get? s1.heap.objs.size = some go := hgp _
    refine ⟨s1.heap.objs.size, s1.gens.size, _, rfl, hgen _ hpushed, Array.getElem?_push_size .., lim1.keeps fun b o e => Heap.get?_push_of_some _ e, fun Aw hrw hfr => ?_⟩
    have e0w : Env0 P w K mg base Aw outer s H := ⟨hfr, e0.mod, e0.bs, e0.bsz, e0.funs, e0.frf, e0.hok, e0.bare⟩
    obtain ⟨t, ht, hq⟩ := hbody Aw outer s H vs E [(s1.heap.objs.size, go)] (hrw.deeper _) hsp
    have I1 : Inv (gcxOf P w K mg base N qual scope f cdv Aw outer s H E []) [] (start N vs) H s1 := inv_startG S hrw.hd e0w hl r x
    have ba : AllBare (s1.gens.push (.fresh (.func body (envOfC qual scope s.heap.objs.size f cdv)))) := AllBare.push (by rw [gen1]; exact e0.bare) rfl
    have ba2 := allBare_setGen (s := { s1 with gens := s1.gens.push (.fresh (.func body (envOfC qual scope s.heap.objs.size f cdv))), toks := tk2, heap := s1.heap.push go }) (g := s1.gens.size) (x := .running) ba rfl
    generalize hs2 : ({ s1 with gens := s1.gens.push (.fresh (.func body (envOfC qual scope s.heap.objs.size f cdv))), toks := tk2, heap := s1.heap.push go } : Shared).setGen s1.gens.size .running = s2 at ba2 ⊢
    have kp2 : ∀ b o, s1.heap.get? b = some o → s2.heap.get? b = some o := by rw [← hs2]; exact fun b o e => Heap.get?_push_of_some _ e
    have os2 : s2.os = s1.os := by rw [← hs2]; rfl
    have at2 : s2.heap.get? s1.heap.objs.size = some go := by rw [← hs2]; exact hpushed
    have I2 : Inv (gcxOf P w K mg base N qual scope f cdv Aw outer s H E []) [] (start N vs) H s2 :=
      I1.call' (ch := []) os2 (Un.kept kp2) (I1.hok.kept kp2) ba2 fun b z => by simp at z
    have I3 : Inv (gcxOf P w K mg base N qual scope f cdv Aw outer s H E [(s1.heap.objs.size, go)]) [] (start N vs) H s2 := Inv.pinnedG I2 fun p hp => by
      rw [List.append_nil, List.mem_singleton] at hp
      rw [hp]
      exact ⟨at2, I1.hok.fresh (Nat.le_refl _), Nat.ne_of_gt lt1, I1.nofs (Nat.le_refl _), fun v q => by rw [hgd0] at q; cases q⟩
    refine s1_func ?_
    refine ht.run _ Aw _ [] _ _ id id s2 (start N vs) H GenW.over_func (fun e s' hx => ?_) I3 hq
    refine s1_wrap ?_
    rw [GenW.over_func]
    refine wpAny_mono (show wpAny (model P w) (Aw.deeper (envOfC qual scope s.heap.objs.size f cdv)) (leaving (envOfC qual scope s.heap.objs.size f cdv) e) (fun _ s'' => CX P w outer H s E e s'' ∧ ∀ p ∈ [(s1.heap.objs.size, go)], s''.heap.get? p.1 = some p.2) (fun _ _ => False) s' from hx) (fun _ s'' q => ?_) fun _ s'' q => q.elim
    exact s1_end (.error e) ⟨e, rfl, q.1, hgen _ (q.2 _ (List.mem_singleton.mpr rfl))⟩
  exact main _ _ _ _ rfl rfl rfl fun h => Heap.get?_push_size _ rfl
/-- next of a generator that raises at once -/
theorem nextB {P : Program} {w : World} {A : Around} {E : Value → Shared → Prop} {s : Shared} {a : Addr} {g : Nat} {gs : GenState} {Φ : End → Shared → Prop} {Q : Option Value → Shared → Prop} (hl : s.heap.NoLimit) (hroom : A.depth < recursionLimit)
    (hg : s.heap.IsGen a g) (hgs : s.gens[g]? = some gs) (hr : Ready (model P w) A.in1 Φ (s.setGen g .running) gs)
    (hE : ∀ e s₁, Φ e s₁ → ∃ v, e = .ret (.error v) ∧ s₁.heap.IsGen a g ∧ NotStop (model P w) v s₁.heap ∧ E v (s₁.setGen g .finished)) :
    wpAny (model P w) A (pyNext (.ref a)) Q E s := by
  unfold pyNext
  refine wpAny_bind (wpAny_attempt (wpAny_callSpecial?_slot (name := Str.ofString "__next__") hg.typeIs slot_gen_next (wpAny_call_entry slot_gen_next hg.typeIs entry_gen_next ?_ (args_gen_next _))))
  show wpAny _ A.in1 (Builtin.Generator.genWake (.ref a) (.send .none)) _ _ s; unfold Builtin.Generator.genWake
  refine wpAny_bind (wpAny_holding (wpAny_genNumber hg (wpAny_bind (wpAny_genState hgs ?_)))); have hr0 := hr
  cases gs with
  | running => exact hr.elim
  | finished => exact hr.elim
  | _ =>
    refine wpAny_bind (wpAny_roomToWake hl hroom ?_); show wpAny _ A.in1 (.resume g (.send .none) [] _) _ _ s
    refine wpAny_wake hgs hr0 fun e s₁ he => ?_
    obtain ⟨v, rfl, hg1, hns, hq⟩ := hE e s₁ he
    refine ⟨rfl, ?_⟩
    obtain ⟨o, nm, qn, ho, hc, hd, hsl⟩ := hg1
    show wpAny _ A.in1 (Builtin.Generator.genLeft (.ref a) v) _ _ _
    unfold Builtin.Generator.genLeft Builtin.Generator.madeByALambda
    refine wpAny_bind (wpAny_bind (wpAny_load (o := o) ho (wpAny_pure ?_)))
    refine wpAny_bind (hns _ _ _ _ rfl ?_)
    rw [Bool.and_false, if_neg Bool.false_ne_true]
    unfold Builtin.Generator.genEscaped
    first
      | refine wpAny_bind (hns _ _ _ _ rfl ?_)
      | refine wpAny_bind (wpAny_pure (wpAny_bind (hns _ _ _ _ rfl ?_)))
    rw [if_pos (show (!false) = true from rfl)]
    first
      | refine wpAny_throw ?_
      | refine wpAny_bind (wpAny_throw ?_)
    refine wpAny_bind (hns _ _ _ _ rfl ?_)
    rw [if_neg Bool.false_ne_true]
    exact wpAny_throw hq
end GenZ
namespace Pl
open PySem PySem.Spec PyProof.Rows L2 GenZ
structure CalB (P : Program) (w : World) (K : PySem.W.Frag) (mg : Str → Option Value) (base : Heap) (k : Nat) (x : Str) (ps : List Str) (sp : SpB) : Prop where
  ex : ∃ f fd, BFn P w K mg base k f fd ps sp ∧ mg x = some (.ref f) ∧ PySem.W.keepIn K (.ref f) = true ∧ Binds K fd ps []
section
variable {P : Program} {w : World} {K : PySem.W.Frag} {mg : Str → Option Value} {base : Heap} {x : Str} {st : Stmt} {N ps : List Str} {k : Nat}
theorem Df.calB {sp : SpB} (D : Df K mg x st ps) (S : GScope N ps (defScope st)) (len : ∀ vs H E, sp vs H E → vs.length = ps.length)
    (bod : ∀ (f : Addr) (cdv : Value) (A : Around) (out : List Env) (s : Shared) (H : Hp) (vs : List V) (E : XK) (pn : List (Addr × Obj)), Room k (A.deeper (envOfC x (defScope st) s.heap.objs.size f cdv)) → sp vs H E →
      ∃ t, BS (gcxOf P w K mg base N x (defScope st) f cdv A out s H E pn) (defBody st) t ∧ t (start N vs) H) : CalB P w K mg base (k + 1) x ps sp := by
  obtain ⟨f, fd, F, hm, hb⟩ := D.ex
  have kp := F.kp
  obtain ⟨oc, od, kV, doc, pm, an, cdv, ct, osl, rfl, lk, hcd⟩ := F.ex
  exact ⟨f, _, bfn_of lk hcd S len fun A out s H vs E pn rm h => bod f cdv A out s H vs E pn rm h, hm, kp, hb⟩
end
section
variable {X : Cx} {k : Nat} {x : Str} {ps : List Str} {sp : SpB} {p pos pos' : Pos} {e tg : Expr} {es : List Expr} {body : List Stmt} {t : TA} {E : XK}
theorem kin_of {pins : List (Addr × Obj)} {σ : L2.St} {H1 : Hp} {s1 s' : Shared} {v : Value} (I1 : Inv X pins σ H1 s1) (hc : L2.CX X.prog X.w X.stack H1 s1 E v s') : X.K.In s'.heap := by
  obtain ⟨a, B, H', cls, d, _, fl, _, ub, _⟩ := id hc
  refine I1.ok.mod.kin.keeps fun b o eb => fl.1 b o (ub.keep b o (I1.bs b o eb).1 (I1.bs b o eb).2 fun hm => ?_)
  rcases List.mem_cons.mp (I1.stkSub b hm) with z | z
  · have h1 := Heap.lt_size eb
    have h2 := Nat.le_trans I1.ok.bsz I1.ok.above
    rw [z] at h1
    exact absurd (Nat.lt_of_lt_of_le h1 h2) (Nat.lt_irrefl _)
  · exact I1.ok.nofr eb z
/-- for over a call of a generator def that raises at once -/
theorem ps_forB (hp : PassesOwn (model X.prog X.w) X.A X.env X.xe) (c : CalB X.prog X.w X.K X.mg X.base k x ps sp) (hx : Passes (L2.CX X.prog X.w) X E) (hns : NoStop X.K E) (hr : Room (k + 1) X.A) (ha : PA X (e :: es) t) (gl : Gl X x := by rfl) (hdb : (x == ("__debug__" : Str)) = false := by decide)
    (he : starEach (e :: es) X.env = (false, eval e X.env) :: starEach es X.env := by rfl) (hpl : (backTo pos' (starEach es X.env)).any (·.1) = false := by rfl) (hs : ∀ v, foldedSetIterable (.Call (.Name x p) (e :: es) [] pos') X.env v = pure v := by intro _; rfl) (ht : ∀ it v, letOwnedTupleGo tg it v = pure () := by intro _ _; rfl) :
    PS X (.For tg (.Call (.Name x p) (e :: es) [] pos') body [] pos) (fun _ σ H => t σ H fun vs H1 => sp vs H1 E) := by
  obtain ⟨f, fd, F, hm, kp, hbd⟩ := c.ex
  refine ⟨fun pins s σ H D I h => ?_⟩
  refine wpAny_For (wpAny_Call_Name_kw (ld_glob I gl hm ?_ hdb)) hs
  refine PySem.W.callWith_K (h₀ := X.base) I.ok.mod.kin kp (thn (ha.run pos' pins s σ H _ I h) ?_) he hpl
  rintro us s1 ⟨vs, H1, I1, r, hsp⟩
  refine ⟨I1.kIn, ?_⟩
  have hl : us.length = ps.length := by rw [← r.length]; exact F.len _ _ _ hsp
  have bt : BindsTo s1 fd ⟨us, []⟩ (ps.zip us) := by simpa using hbd s1 us I1.kIn (by simpa using hl)
  refine wpAny_call (codeAny_mono (F.run X.A X.stack s1 H1 ⟨us, []⟩ us vs E (hr.mono (Nat.le_succ k)) I1.env0 bt r hsp) fun res s' z => ?_)
  match res, z with
  | .ok (.ret u), z =>
    obtain ⟨a, g, cc, rfl, hg, hgs, hlm, start⟩ := z
    have frA : X.A.in1.frames = some X.stack := I1.ok.frames
    show wpAny _ _ (pyIter (.ref a)) _ _ s'
    refine wpAny_pyIter_gen hg ?_
    refine codeAny_forLoop (fun j s3 => s3 = s') ?_ 0 rfl (ht _)
    rintro j s3 rfl
    refine wpAny_passesOwn hp (nextB hlm (by have := hr.dp; omega) hg hgs (start X.A.in1 hr.in1 frA) fun e1 s₁ he1 => ?_)
    obtain ⟨v, rfl, hc, hg1⟩ := he1
    refine ⟨v, rfl, hg1, notStop_of hns (kin_of I1 hc) hc, hx pins σ H1 s1 v _ I1 ?_⟩
    obtain ⟨a', B, H', cls, d, z1, fl, z2, ub, z3, z4, z5, z6⟩ := hc
    exact ⟨a', B, H', cls, d, z1, fl, z2, ub, z3, z4, allBare_setGen z5 rfl, z6⟩
  | .ok .next, z => exact False.elim z
  | .ok .brk, z => exact False.elim z
  | .ok .cont, z => exact False.elim z
  | .error er, z => exact False.elim z
/-- what follows a statement that always raises -/
theorem pss_abs {st : List Stmt} : PSs X st (fun _ _ _ => False) := ⟨fun _ _ _ _ _ _ h => h.elim⟩
/-- list(x(e, ..)), x a generator def that raises -/
theorem pe_listX {q : Pos} {sp : SpG} (c : CalL X.prog X.w X.K X.mg X.base k x ps sp) (hx : Passes (L2.CX X.prog X.w) X E) (hns : NoStop X.K E) (hr : Room (k + 3) X.A) (hml : X.mg "list" = none) (ha : PA X (e :: es) t) (hgl : Gl X "list" := by rfl) (hg : Gl X x := by rfl) (hdb : (x == ("__debug__" : Str)) = false := by decide)
    (he : starEach (e :: es) X.env = (false, eval e X.env) :: starEach es X.env := by rfl) (hpl : (backTo pos' (starEach es X.env)).any (·.1) = false := by rfl)
    (he1 : starEach [.Call (.Name x p) (e :: es) [] pos'] X.env = (false, eval (.Call (.Name x p) (e :: es) [] pos') X.env) :: starEach [] X.env := by rfl) :
    PE X (.Call (.Name "list" q) [.Call (.Name x p) (e :: es) [] pos'] [] pos) (tListG (tCallG sp [] E t)) := by
  obtain ⟨f, fd, F, hm, kp, hb⟩ := c.ex
  exact pe_listG (pgen_call F (hr.mono (by omega)) hg hm kp hb .nil ha hdb he hpl) hx hns hr hgl hml rfl (by decide) (by decide) he1
end
end Pl
/-! repr of a list that holds own objects -/
namespace PySem.W
open PySem PySem.Calls PyProof.Rows Builtin
section
variable {prog : Program} {w : World} {A : Around} {E : Value → Shared → Prop} {s : Shared} {K : Frag} {x C L f : Addr} {h₀ : Heap} {m : Str → Option Value} {ox : Obj} {od : Option Obj} {name : Str}
theorem ifBoundBy_K {M : Model} {last : Value → List Value → Sem Value} {Q : Option Value → Shared → Prop} (X : K.In s.heap) (I : InstAt s.heap x ox C od) (hs : findIn K (.ref C) name = some (some (.ref f))) (hf : isFn K (.ref f) = true)
    (h : wpAny M A (last (.ref f) [.ref x]) (fun v => Q (some v)) E s) : wpAny M A (callSpecialIfBoundBy? last (.ref x) name) Q E s := by
  simp only [callSpecialIfBoundBy?, bindSpecialIfBound?]
  refine wpAny_holding (wpAny_bind (wpAny_bind (wpAny_bind (I.type.here ((looks_findIn X hs).here ?_)))))
  refine wpAny_bind (wpAny_askSetting (wpAny_ite ?_))
  have fin : wpAny M A (last (.ref f) [.ref x] >>= fun v => pure (some v)) Q E s := wpAny_bind (wpAny_mono h (fun v s' h' => wpAny_pure h') fun _ _ h' => h')
  split
  · exact wpAny_bind ((bind_fn X _ (beq_iff_eq.mp hf)).here (wpAny_pure (by exact fin)))
  · exact wpAny_tryCatch (wpAny_bind ((bind_fn X _ (beq_iff_eq.mp hf)).here (wpAny_pure (by exact fin))))
theorem reprUnder_K {b : Nat} {Q : Str → Shared → Prop} (hb : b ≤ sizeLine) (hu : A.units < cLine) (F : Fr h₀ L s.heap m) (X₀ : K.In h₀) (I : InstAt s.heap x ox C od) (hs : findIn K (.ref C) "__repr__" = some (some (.ref f))) (hf : isFn K (.ref f) = true)
    (h : wpAny (model prog w) A (call (.ref f) [.ref x]) (StrBack fun v s' => ∃ z t, v = .str z t ∧ Q z s') E s) : wpAny (model prog w) A (pyReprUnder b (.ref x)) Q E s := by
  refine wpAny_pyReprUnder_ref hb ?_
  unfold pyReprObjUnder pyReprObjBy
  refine wpAny_bind (wpAny_cRoomFor hu ?_)
  refine wpAny_bind (wpAny_bind (I.type.here ((looks_findIn (X₀.keeps F.keep) hs).here ?_)))
  show wpAny _ _ (if (some (Value.ref f)).isNone = true then _ else _) _ _ _
  rw [if_neg (by simp)]
  refine wpAny_bind (m := callSpecialIfBoundBy? _ (.ref x) (Str.ofString "__repr__")) (ifBoundBy_K (X₀.keeps F.keep) I hs hf (wpAny_mono (show wpAny _ _ (call (.ref f) ([.ref x] ++ [])) _ _ _ from h) (fun r s' hr => ?_) fun _ _ y => y))
  cases r <;> first | exact hr.elim | skip
  refine wpAny_bind (wpAny_isInstance (typeIs_str _ _ _) isSubtype_str_str ?_)
  first
    | exact wpAny_pure hr
    | (rw [if_pos rfl]; exact wpAny_pure hr)
    | (simp only [if_true]; exact wpAny_pure hr)
end
end PySem.W
namespace Pl
open PySem PySem.Spec PyProof.Rows L2
theorem loop_depth {A : Around} {args : Args} : (A.under (.builtin "list.__repr__.loop" args)).depth = A.depth + 1 := by
  first | rfl | simp [Around.under, Code.weight, Code.isCreation, Code.isGuard, Code.isCaller, Code.frames, Code.isFrame, guardIds]
theorem roomLoop {k : Nat} {A : Around} (r : Room (k + 1) A) (args : Args) : Room k (A.under (.builtin "list.__repr__.loop" args)) :=
  ⟨r.hd, by have := r.dp; rw [loop_depth]; omega, by have := r.un; rw [units_under_list_loop]; omega⟩
theorem loop_frames {A : Around} {args : Args} {outer : List Env} (h : A.frames = some outer) : (A.under (.builtin "list.__repr__.loop" args)).frames = some outer := by
  first | exact h | (simpa [Around.under, Code.envs, Code.isFrame, pushEnvs] using h)
/-- an item of the list at a shows as t -/
structure ItN (X : Cx) (k : Nat) (a : Addr) (H : Hp) (x : V) (t : Str) : Prop where
  run : ∀ (A1 : Around) (g : List Code) (b : Nat) (pins : List (Addr × Obj)) (σ : L2.St) (H' : Hp) (s : Shared) (u : Value), Room k A1 → A1.frames = some X.stack → A1.guards = some g → (∀ c, c ≠ a → Clear g c) → b + t.length ≤ sizeLine → Same H H' → Inv X pins σ H' s → RelV x u →
    wpAny (model X.prog X.w) A1 (pyReprUnder b u) (fun z s' => z = t ∧ ∃ H'', Same H' H'' ∧ Inv X pins σ H'' s') X.xe s
theorem strVals : ∀ {ts : List Str} {us : List Value}, Vals (ts.map V.str) us → ∃ l : List (Str × Tok), us = strValues l ∧ l.map (·.1) = ts
  | [], _, .nil => ⟨[], rfl, rfl⟩
  | t :: ts, _, .cons r rs => by
    obtain ⟨k, rfl⟩ := (show ∃ k, _ = Value.str t k from r)
    obtain ⟨l, e1, e2⟩ := strVals rs
    exact ⟨(t, k) :: l, by rw [e1]; rfl, by rw [List.map_cons, e2]⟩
theorem valsApp : ∀ {xs ys : List V} {us vs : List Value}, Vals xs us → Vals ys vs → Vals (xs ++ ys) (us ++ vs)
  | _, _, _, _, .nil, b => b
  | _, _, _, _, .cons r t, b => .cons r (valsApp t b)
theorem loopN {X : Cx} {k : Nat} {A : Around} (hA : Room (k + 1) A) (fr : A.frames = some X.stack) (hg : A.guards = some []) {a P : Addr} {H0 : Hp} {xs : List V} {ts : List Str} {pins : List (Addr × Obj)} {σ : L2.St} {Q : Value → Shared → Prop} {E : Value → Shared → Prop}
    (hne : a ≠ P) (hlen : ts.length = xs.length) (ha : H0 a = some (.lst xs)) (hP0 : H0 P = none)
    (hT : ∀ (i : Nat) (x : V), xs[i]? = some x → ∃ t, ts[i]? = some t ∧ ItN X k a H0 x t) (hsz : (listText ts).length ≤ sizeLine) (hE : ∀ v s', X.xe v s' → E v s')
    (hQ : ∀ (H' : Hp) (s' : Shared) (u : Tok), Same H0 H' → Inv X pins σ H' s' → Q (.str (listText ts) u) s') :
    ∀ (j i : Nat) (s : Shared) (H' : Hp), xs.length - i = j → i ≤ xs.length → Inv X pins σ H' s → (∀ b o, H0 b = some o → H' b = some o) → H' P = some (.lst ((ts.take i).map V.str)) →
    codeAny (model X.prog X.w) A (.builtin "list.__repr__.loop" ⟨[.ref a, rawInt i, .ref P, rawInt ((0 + piled (ts.take i) : Nat) : Int)], []⟩) (callEnd Q E) s := by
  have hL := textFrom_len ts 0 "["
  have hX : (listText ts).length = (textFrom 0 "[" ts).length + 1 := by
    show (textFrom 0 "[" ts ++ "]").length = _
    rw [strLen_append]; rfl
  have hsz2 : ∀ t ∈ ts, t.length ≤ sizeLine := fun t ht => by
    have h2 := hL.2.1 t ht
    omega
  have hsz1 : ts.length ≤ sizeLine := by
    have h1 := hL.1
    rw [if_neg (Nat.lt_irrefl 0)] at h1
    omega
  have hp3 := piled_le_listText ts
  intro j
  induction j with
  | zero =>
    intro i s H' hk hi I kp hP
    have hin : i = xs.length := by omega
    obtain ⟨_, its, na, rv, li, hda⟩ := I.lstM (kp _ _ ha)
    refine codeAny_builtin F.entry_list_repr_loop ?_
    show wpAny _ _ (Builtin.«list.__repr__.loop» ⟨[.ref a, .int i 0, .ref P, .int ((0 + piled (ts.take i) : Nat) : Int) 0], []⟩) _ _ s
    rw [repr_loop_tree]
    refine wpAny_bind (wpAny_listItems hda rfl ?_)
    have hnone : its.toArray[(i : Int).toNat]? = none := by simp [hin, li]
    simp only [hnone]
    unfold reprEnd
    obtain ⟨_, ps, np, rp, lp, hdp⟩ := I.lstM hP
    obtain ⟨l, e1, e2⟩ := strVals rp
    refine wpAny_bind (wpAny_listItems hdp rfl ?_)
    rw [show ps.toArray.toList = ps from rfl, e1, repr_fold]
    refine wpAny_bind (wpAny_pure ?_)
    have hall : l.map (·.1) = ts := by rw [e2, hin, ← hlen, List.take_length]
    rw [hall]
    refine wpAny_bind (wpAny_mkStr (wpAny_pure ?_) hsz)
    exact hQ H' _ _ kp (I.tok _)
  | succ j ih =>
    intro i s H' hk hi I kp hP
    have hlt : i < xs.length := by omega
    have ex : xs[i]? = some xs[i] := List.getElem?_eq_getElem hlt
    obtain ⟨t, ht, hrep⟩ := hT i xs[i] ex
    have hp1 := piled_take_succ ht
    have hp2 := piled_take_le ts (i + 1)
    obtain ⟨_, its, na, rv, li, hda⟩ := I.lstM (kp _ _ ha)
    obtain ⟨u, hu, ru⟩ := rv.get ex
    refine codeAny_builtin F.entry_list_repr_loop ?_
    show wpAny _ _ (Builtin.«list.__repr__.loop» ⟨[.ref a, .int i 0, .ref P, .int ((0 + piled (ts.take i) : Nat) : Int) 0], []⟩) _ _ s
    rw [repr_loop_tree]
    refine wpAny_bind (wpAny_listItems hda rfl ?_)
    have hsome : its.toArray[(i : Int).toNat]? = some u := by simpa using hu
    simp only [hsome]
    rw [Int.toNat_natCast]
    refine wpAny_bind (wpAny_holding (wpAny_mono (hrep.run _ _ (0 + piled (ts.take i) + 1) pins σ H' s u (roomLoop hA _) (loop_frames fr) (guards_under_guard (isGuard_list_loop _) hg) (fun c hc => (Clear.nil c).cons (a := a) fun e => hc e.symm) (by omega) kp I ru) (fun z s1 hz => ?_) (fun v s1 hv => hE v s1 hv)))
    obtain ⟨rfl, H2, k2, I2⟩ := hz
    refine wpAny_bind (wpAny_mkStr ?_ (hsz2 _ (List.mem_of_getElem? ht)))
    refine wpAny_bind ?_
    show wpAny _ _ (updateSeq P _) _ _ _
    obtain ⟨zp, ps, np, rp, lp, hdp⟩ := I2.lstM (k2 _ _ hP)
    have lps : ps.length ≤ sizeLine := by
      rw [← lp, List.length_map, List.length_take]
      omega
    refine wpAny_updateSeq hdp rfl (wpAny_pure ⟨F.quiet_list_repr_loop _, ?_⟩) (by simpa using lps)
    have e1 : ((i : Int) + 1) = ((i + 1 : Nat) : Int) := by omega
    have e2 : 0 + piled (ts.take i) + (z.length + 2) = 0 + piled (ts.take (i + 1)) := by omega
    rw [e1, e2]
    have et : (ts.take (i + 1)).map V.str = (ts.take i).map V.str ++ [V.str z] := by rw [List.take_add_one, ht, List.map_append]; rfl
    refine ih (i + 1) _ (upd H2 P (.lst ((ts.take (i + 1)).map V.str))) (by omega) hlt (Inv.lset (its' := ps ++ [.str z s1.toks]) (I2.tok (s1.toks + 1)) (k2 _ _ hP) hdp (by simp) (by rw [et]; exact valsApp rp (.cons ⟨_, rfl⟩ .nil)) (by rw [List.length_map, List.length_take]; omega)) (fun b o e => ?_) upd_same
    have nb : b ≠ P := fun z => by rw [z, hP0] at e; cases e
    rw [upd_ne nb]
    exact k2 _ _ (kp _ _ e)
/-- repr of a list, its items shown by their own -/
theorem call_reprN {X : Cx} {k : Nat} (hr : Room (k + 4) X.A) (gd : X.A.guards = some []) : CallR X (.builtin "repr") (fun xs H Q => ∃ (a : Addr) (y : V) (ys : List V) (ts : List Str), xs = [.ref a] ∧ H a = some (.lst (y :: ys)) ∧ ts.length = (y :: ys).length ∧
    (∀ (i : Nat) (x : V), (y :: ys)[i]? = some x → ∃ t, ts[i]? = some t ∧ ItN X k a H x t) ∧ (listText ts).length ≤ sizeLine ∧ ∀ H', Same H H' → Q (.str (listText ts)) H') := by
  intro pins s σ H xs us Q I r h
  obtain ⟨a, y, ys, ts, rfl, ha, hl, hT, hsz, q⟩ := h
  obtain ⟨u, rfl, ru⟩ := vals1 r
  obtain rfl : u = Value.ref a := ru
  obtain ⟨_, its, na, rv, li, hda⟩ := I.lstM ha
  have hTy : s.TypeIs (.ref a) "list" := ⟨_, hda, rfl⟩
  refine Calls.call_function_entry PySem.F.kind_repr PySem.F.plain_repr PySem.F.entry_repr (PySem.F.args_repr1 _) ?_
  unfold Builtin.«repr»
  refine wpAny_bind (m := oneArg "repr" _) (wpAny_pure ?_)
  have hu : X.A.in1.units < cLine := by
    have := hr.in1.un
    omega
  refine wpAny_bind (wpAny_cRoomFor hu ?_)
  refine wpAny_bind (wpAny_specialOf (name := Str.ofString "__repr__") hTy F.slot_list_repr.lookup ?_)
  cases rv with
  | @cons _ u0 _ us0 r0 rs =>
  refine wpAny_bind (m := callSpecialIfBound? (.ref a) (Str.ofString "__repr__")) (wpAny_callSpecialIfBound?_slot (name := Str.ofString "__repr__") hTy F.slot_list_repr ?_)
  refine wpAny_call (codeAny_call_builtin F.slot_list_repr.plain F.entry_list_repr (F.slot_list_repr.check _ _ _ _ _ _ _ _ ⟨_, hda, rfl⟩ (F.args_list_repr_1 _) ?_))
  refine wpAny_list_repr_head (A := X.A.in1.in1) (g := []) gd (fun v rest kw hm => nomatch hm) hda rfl ?_
  refine wpAny_bind (m := newList []) (wpAny_newObj_type ?_)
  refine wpAny_pure ⟨F.quiet_list_repr_loop _, ?_⟩
  refine loopN (k := k) (P := s.heap.objs.size) (H0 := H) (E := X.xe) (pins := pins) (σ := σ) (hr.in1.mono (by omega)) (show X.A.frames = _ from I.ok.frames) gd (Nat.ne_of_lt (Heap.lt_size hda)) hl ha I.fresh hT hsz (fun v s' h => h) (fun H' s' u k' I' => ?_) _ 0 _ (upd H s.heap.objs.size (.lst [])) rfl (Nat.zero_le _) (Inv.lnew I .nil (Nat.zero_le _)) (fun b o e => by rw [upd_ne (fun z => by rw [z, I.fresh] at e; cases e)]; exact e) upd_same
  refine wpAny_bind (wpAny_isInstance (T := "str") (b := true) rfl isSubtype_str_str ?_)
  exact wpAny_pure ⟨_, rfl, .str _, H', I', ⟨_, rfl⟩, q H' k'⟩
/-- an own instance with its own __repr__ -/
theorem ItN.own {X : Cx} {k j : Nat} {C a : Addr} {ps : List Str} {sp : Sp} {H : Hp} {x dx : Addr} {fs : List (Str × V)} {t : Str} (c : MCal X.prog X.w X.K X.mg X.base j C "__repr__" ps sp) (hj : j ≤ k) (hx : H x = some (.ins C dx fs))
    (h : ∀ H', Same H H' → sp [.ref x] H' (fun v H'' => v = .str t ∧ Same H' H'') E0) : ItN X k a H (.ref x) t := by
  obtain ⟨f, fd, F, h1, h2, kp, hb⟩ := c.ex
  refine ⟨fun A1 g b pins σ H' s u rm fr hg hcl hb2 k' I ru => ?_⟩
  obtain rfl : u = Value.ref x := ru
  obtain ⟨mA, O, _⟩ := ins_get I.hok (k' _ _ hx)
  obtain ⟨od, J, _⟩ := O.look
  obtain ⟨m, frx⟩ := I.fr
  refine PySem.W.reprUnder_K (by omega) (by have := rm.un; omega) frx I.ok.mod.kin J h1 h2 ?_
  have hs := h H' k'
  have hl : [V.ref x].length = ps.length := F.len _ _ _ _ hs
  have bt : BindsTo s fd ⟨[.ref x], []⟩ (ps.zip [Value.ref x]) := by simpa using hb s [.ref x] I.kIn (by simpa using hl)
  have e0 : Env0 X.prog X.w X.K X.mg X.base A1 X.stack s H' := ⟨fr, I.env0.mod, I.env0.bs, I.env0.bsz, I.env0.funs, I.env0.frf, I.env0.hok, I.env0.bare⟩
  refine wpAny_call (codeAny_mono (F.run A1 X.stack s H' ⟨[.ref x], []⟩ [.ref x] [.ref x] _ E0 (rm.mono hj) e0 bt (.cons rfl .nil) hs) ?_)
  intro res s' z
  match res, z with
  | .ok (.ret u), z =>
    obtain ⟨v, H2, J2, rv, e, k2⟩ := I.after z
    subst e
    obtain ⟨tk, rfl⟩ := (show ∃ tk, u = Value.str t tk from rv)
    exact ⟨t, tk, rfl, rfl, H2, k2, J2⟩
  | .ok .next, z => exact False.elim z
  | .ok .brk, z => exact False.elim z
  | .ok .cont, z => exact False.elim z
  | .error er, z => exact False.elim z
theorem ItN.of_is {X : Cx} {k : Nat} {a : Addr} {H : Hp} {x : V} {t : Str} (h : ∀ u, RelV x u → ReprIs X.prog X.w u t) : ItN X k a H x t :=
  ⟨fun A1 g b pins σ H' s u rm fr hg hcl hb k' I ru => h u ru b hb A1 _ s _ fun tk => ⟨rfl, H', fun _ _ e => e, I.tok tk⟩⟩
theorem ItN.non {X : Cx} {k : Nat} {a : Addr} {H : Hp} : ItN X k a H .non "None" := .of_is fun u r => by
  obtain rfl : u = Value.none := r
  exact ReprIs.none
theorem ItN.bl {X : Cx} {k : Nat} {a : Addr} {H : Hp} (c : Bool) : ItN X k a H (.bl c) (if c then "True" else "False") := .of_is fun u r => by
  obtain rfl : u = Value.bool c := r
  exact ReprIs.bool c
theorem ItN.int {X : Cx} {k : Nat} {a : Addr} {H : Hp} (i : Int) (h : i.natAbs.log2 < 1920) : ItN X k a H (.int i) (toString i) := .of_is fun u r => by
  obtain ⟨t, rfl⟩ := (show ∃ t, u = Value.int i t from r)
  exact ReprIs.int t h
theorem ItN.str {X : Cx} {k : Nat} {a : Addr} {H : Hp} (z : Str) (h : (reprText z).length ≤ sizeLine) : ItN X k a H (.str z) (reprText z) := .of_is fun u r => by
  obtain ⟨t, rfl⟩ := (show ∃ t, u = Value.str z t from r)
  exact ReprIs.str z t h
theorem readsAll_depth {h : Heap} {u : Value} {d : PyData} {as : List Addr} (rd : Reads h u d as) : ∀ {us : List Value} {ds : List PyData} {bs : List Addr} {i : Nat}, ReadsAll h us ds bs → us[i]? = some u → d.depth ≤ PyData.depthAll ds
  | _, _, _, 0, .cons r _, e => by
    cases e
    obtain ⟨e, _⟩ := PyProof.Rows.reads_det (fun _ _ e _ => e) rd r
    simp only [PyData.depthAll]
    rw [e]
    omega
  | _, _, _, i + 1, .cons _ rs, e => by
    have := readsAll_depth (i := i) rd rs e
    simp only [PyData.depthAll]
    omega
theorem reads_deeper {h : Heap} {a : Addr} {o : Obj} {its : List Value} {n : Nat} {i : Nat} {u : Value} {d d' : PyData} {as bs : List Addr} (ho : h.get? a = some o) (hc : o.cls = .type "list") (hd : o.data = .seq its.toArray n) (hi : its[i]? = some u) (rd : Reads h u d as) (r : Reads h (.ref a) d' bs) : d.depth < d'.depth := by
  cases r with
  | list h1 h2 h3 h4 =>
    rw [ho] at h1
    cases h1
    rw [hd] at h3
    cases h3
    have := readsAll_depth rd h4 hi
    simp only [PyData.depth]
    omega
  | tuple h1 h2 h3 h4 =>
    rw [ho] at h1
    cases h1
    have z := hc.symm.trans h2
    injection z with z
    exact absurd z (by decide)
  | dict h1 h2 h3 h4 h5 =>
    rw [ho] at h1
    cases h1
    have z := hc.symm.trans h2
    injection z with z
    exact absurd z (by decide)
theorem ItN.reads {X : Cx} {k : Nat} {a : Addr} {H : Hp} {xs : List V} {x : V} {i : Nat} {d : PyData} (ha : H a = some (.lst xs)) (hx : xs[i]? = some x) (rd : ∀ (pins : List (Addr × Obj)) (σ : L2.St) (H' : Hp) (s : Shared) (u : Value), Same H H' → Inv X pins σ H' s → RelV x u → ∃ as, Reads s.heap u d as ∧ (d.hasDict = true → sysModules ∉ as))
    (sh : d.showable = true) (dep : d.depth ≤ 60) (sz : d.shown.length ≤ sizeLine) : ItN X k a H x d.shown := by
  refine ⟨fun A1 g b pins σ H' s u rm fr hg hcl hb k' I ru => ?_⟩
  obtain ⟨as, r, hs⟩ := rd pins σ H' s u k' I ru
  obtain ⟨bs, hbs, K⟩ := ReprK.of_reads (prog := X.prog) (w := X.w) r sh hs sz
  obtain ⟨_, its, na, rv, li, hda⟩ := I.lstM (k' _ _ ha)
  obtain ⟨u2, hu2, ru2⟩ := rv.get hx
  have hna : a ∉ bs := fun hm => by
    obtain ⟨d', as', r', hd'⟩ := hbs a hm
    obtain ⟨as2, r2, _⟩ := rd pins σ H' s u2 k' I ru2
    have := reads_deeper hda rfl rfl hu2 r2 r'
    omega
  refine K b hb A1 g X.xe s _ hg (fun c hc => hcl c fun e => hna (e ▸ hc)) (by have := rm.un; omega) (fun _ _ e => e) fun h' tk hk => ⟨rfl, H', fun _ _ e => e, I.kept hk⟩
theorem ItN.data {X : Cx} {k : Nat} {a : Addr} {H : Hp} {xs : List V} {x : V} {i : Nat} {d : PyData} (ha : H a = some (.lst xs)) (hx : xs[i]? = some x) (dp : ∀ H', Same H H' → Dp X.K H' x d) (sh : d.showable = true) (nd : d.hasDict = false) (dep : d.depth ≤ 60) (sz : d.shown.length ≤ sizeLine) : ItN X k a H x d.shown :=
  .reads ha hx (fun pins σ H' s u k' I ru => by
    obtain ⟨as, r⟩ := Dp.reads I d x u (dp H' k') ru
    exact ⟨as, r, fun z => by rw [nd] at z; cases z⟩) sh dep sz
theorem ItN.dic0 {X : Cx} {k : Nat} {a b : Addr} {H : Hp} {xs : List V} {i : Nat} (ha : H a = some (.lst xs)) (hx : xs[i]? = some (.ref b)) (hb : H b = some (.dK [])) : ItN X k a H (.ref b) (PyData.shown (.dict [])) :=
  .reads ha hx (fun pins σ H' s u k' I ru => by
    obtain rfl : u = Value.ref b := ru
    obtain ⟨r, ne⟩ := reads_dic0 I (k' _ _ hb)
    exact ⟨_, r, fun _ z => ne (by simpa using z : sysModules = b).symm⟩) (by decide +kernel) (by decide +kernel) (by decide +kernel)
end Pl
/-! The head by one kernel run, what stands behind it seen as k_head's hooks see it: nothing of the top is written out. -/
namespace Pl
open PySem PySem.W PySem.Calls PyProof.Rows HandSHeadRun
def obKm (as ts : List Addr) (s : SharedT) : List (Option Obj) × List (Option Obj) := (as.map (getT s), ts.map (getT s))
def obK (as : List Addr) (s : SharedT) : List (Option Obj) := as.map (getT s)
theorem getT_fun (s : SharedT) : getT s = s.abs.heap.get? := funext fun a => getT_eq s a
section
variable {r : OpenRow} {q : Program} {M : Nat} {loose : List PySem.Str} {d : DefRec} {kwd : List (PySem.Str × PySem.Expr)} {K : Params → Frag} {as ts : List Addr} {e : ∀ P, as = (K P).map (·.1)}
theorem head_km (H : Hook) (hH : H = kmHook K as e ts) (op : opening r.prog = plainProg r.prog.main.scope.names) (f : ∀ s, fenceModules? r.prog s = some s) (run : ∀ w, RunEq r q (kmHook K as e ts) (obKm as ts) M loose w)
    (hdef : defOf q r.name = some (d, kwd)) (hp : r.prog.theDef r.name = some (d.params, d.body, d.scope)) (hk : kwWritten? d.params.kwonlyargs d.params.kw_defaults = some kwd)
    (hwr : (!r.writes || r.records.isEmpty) = true) (k1 : r.wellSaid = true) (ok : (chainsOk q && opensWell r.prog && (frees r.toRowW && r.within.isEmpty)) = true) (hb : r.prog.bare) (hw : r.toRowW.promised)
    (call : WalkO q loose (XL q []) (kmHook K as e ts).says r.toRowW d kwd fun f vs => PySem.call f vs) : r.Holds :=
  head_any (H := kmHook K as e ts) (ob := obKm as ts) (fun s => by show (_, _) = (_, _); rw [getT_fun]) op f run hdef hp hk hwr k1 ok hb hw call
theorem head_k (H : Hook) (hH : H = kHook K as e) (op : opening r.prog = plainProg r.prog.main.scope.names) (f : ∀ s, fenceModules? r.prog s = some s) (run : ∀ w, RunEq r q (kHook K as e) (obK as) M loose w)
    (hdef : defOf q r.name = some (d, kwd)) (hp : r.prog.theDef r.name = some (d.params, d.body, d.scope)) (hk : kwWritten? d.params.kwonlyargs d.params.kw_defaults = some kwd)
    (hwr : (!r.writes || r.records.isEmpty) = true) (k1 : r.wellSaid = true) (ok : (chainsOk q && opensWell r.prog && (frees r.toRowW && r.within.isEmpty)) = true) (hb : r.prog.bare) (hw : r.toRowW.promised)
    (call : WalkO q loose (XL q []) (kHook K as e).says r.toRowW d kwd fun f vs => PySem.call f vs) : r.Holds :=
  head_any (H := kHook K as e) (ob := obK as) (fun s => by show List.map _ _ = List.map _ _; rw [getT_fun]) op f run hdef hp hk hwr k1 ok hb hw call
end
end Pl
namespace Pl
open PySem PySem.Spec PyProof.Rows L2
def top (i : Nat) : Stmt := PySem.Challenge.pw_poolshares_k07_divisions_made.main.body.getD i (.Pass ⟨0, 0, 0, 0⟩)
/-- a source of numbers stands at a -/
def Src (H : Hp) (a : Addr) : Prop := ∃ x y z : Int, H a = some (.lst [.int x, .int y, .int z]) ∧ 0 ≤ x ∧ 0 ≤ y ∧ y < 2147483648 ∧ 0 ≤ z
theorem Src.upd {H : Hp} {a p : Addr} {o : HO} (s : Src H a) (n : H p = none) : Src (L2.upd H p o) a := by
  obtain ⟨x, y, z, h, r⟩ := s
  exact ⟨x, y, z, by rw [upd_ne (ne_of_none h n)]; exact h, r⟩
theorem Src.put {H : Hp} {a p : Addr} {o : HO} (s : Src H a) (n : p ≠ a) : Src (L2.upd H p o) a := by
  obtain ⟨x, y, z, h, r⟩ := s
  exact ⟨x, y, z, by rw [upd_ne n.symm]; exact h, r⟩
theorem Src.ne {H : Hp} {a p : Addr} (s : Src H a) (n : H p = none) : p ≠ a := by
  obtain ⟨x, y, z, h, r⟩ := s
  intro e
  rw [e, h] at n
  cases n
theorem Src.neT {H : Hp} {a p : Addr} {xs : List V} (s : Src H a) (n : H p = some (.tup xs)) : p ≠ a := by
  obtain ⟨x, y, z, h, r⟩ := s
  intro e
  rw [e, h] at n
  cases n
theorem Src.neI {H : Hp} {a p C d : Addr} {xs : List (Str × V)} (s : Src H a) (n : H p = some (.ins C d xs)) : p ≠ a := by
  obtain ⟨x, y, z, h, r⟩ := s
  intro e
  rw [e, h] at n
  cases n
theorem Src.same {H H' : Hp} {a : Addr} (s : Src H a) (k : Same H H') : Src H' a := by
  obtain ⟨x, y, z, h, r⟩ := s
  exact ⟨x, y, z, k _ _ h, r⟩
/-- all that was tracked stands as before, but for what is at a -/
def Kp (a : Addr) (H H' : Hp) : Prop := ∀ b o, b ≠ a → H b = some o → H' b = some o
theorem Kp.refl (a : Addr) (H : Hp) : Kp a H H := fun _ _ _ h => h
theorem Kp.trans {a : Addr} {H H1 H2 : Hp} (p : Kp a H H1) (q : Kp a H1 H2) : Kp a H H2 := fun b o n h => q b o n (p b o n h)
theorem Kp.of {a : Addr} {H H' : Hp} (p : Same H H') : Kp a H H' := fun b o _ h => p b o h
theorem Kp.upd {a : Addr} {H : Hp} {o : HO} : Kp a H (upd H a o) := fun b u n h => by rw [upd_ne n]; exact h
theorem Kp.new {a p : Addr} {H H' : Hp} {o : HO} (q : Kp a H H') (h : H' p = none) : Kp a H (L2.upd H' p o) := fun b u n e => by
  rw [upd_ne (ne_of_none (q b u n e) h)]; exact q b u n e
/-- what was not there before may be written -/
theorem Kp.put {a p : Addr} {H H' : Hp} {o : HO} (q : Kp a H H') (h : H p = none) : Kp a H (L2.upd H' p o) := fun b u n e => by
  rw [upd_ne (ne_of_none e h)]; exact q b u n e
theorem same_new {p : Addr} {H H' : Hp} {o : HO} (q : Same H H') (h : H' p = none) : Same H (L2.upd H' p o) := fun b u e => by
  rw [upd_ne (ne_of_none (q b u e) h)]; exact q b u e
theorem same_put {p : Addr} {H H' : Hp} {o : HO} (q : Same H H') (h : H p = none) : Same H (L2.upd H' p o) := fun b u e => by
  rw [upd_ne (ne_of_none e h)]; exact q b u e
theorem Kp.free {a p : Addr} {H H' : Hp} (q : Kp a H H') (n : p ≠ a) (h : H' p = none) : H p = none := by
  cases e : H p with
  | none => rfl
  | some o =>
    rw [q p o n e] at h
    cases h
theorem tyes {σ : L2.St} {H : Hp} {A B : Hp → Prop} (h : A H) : tYes σ H (fun b H3 => if b = true then A H3 else B H3) := by
  show if true = true then A H else B H
  rw [if_pos rfl]; exact h
theorem size_of {n : Nat} (h : n ≤ 1000) : n ≤ sizeLine := Nat.le_trans h (by decide)
theorem size_lt {n : Nat} (h : n ≤ 1000) : n < sizeLine := Nat.lt_of_le_of_lt h (by decide)
theorem at_of_lt {α : Type} {xs : List α} {r : Int} (h0 : 0 ≤ r) (h1 : r < xs.length) : ∃ v, v ∈ xs ∧ xs[r.toNat]? = some v ∧ atI xs r = some v := by
  have lt : r.toNat < xs.length := by omega
  have e : xs[r.toNat]? = some xs[r.toNat] := List.getElem?_eq_getElem lt
  refine ⟨xs[r.toNat], List.getElem_mem lt, e, ?_⟩
  have q := atI_nat e
  rw [Int.toNat_of_nonneg h0] at q
  exact q
/-- the built-in names are the built-in ones -/
structure Bn (mg : Str → Option Value) : Prop where
  n_len : mg "len" = none
  n_range : mg "range" = none
  n_max : mg "max" = none
  n_min : mg "min" = none
  n_sum : mg "sum" = none
  n_sorted : mg "sorted" = none
  n_all : mg "all" = none
  n_isinstance : mg "isinstance" = none
  n_repr : mg "repr" = none
  n_tuple : mg "tuple" = none
  n_list : mg "list" = none
  n_int : mg "int" = none
  n_bool : mg "bool" = none
  n_zip : mg "zip" = none
  n_str : mg "str" = none
def spDraw : Sp := fun vs H Q _ => ∃ (a : Addr) (m : Int), vs = [.ref a, .int m] ∧ Src H a ∧ 0 < m ∧ m ≤ 1000000 ∧
  ∀ (r : Int) (H' : Hp), 0 ≤ r → r < m → Src H' a → Kp a H H' → Q (.int r) H'
def spCell (K : PySem.W.Frag) : Sp := fun vs H Q _ => ∃ (a : Addr) (ns : List Int) (i : Int), vs = [.ref a, .int i] ∧ SqL K H a (ns.map V.int) ∧ 0 ≤ i ∧ ∀ n : Int, Q (.int n) H
def spSource : Sp := fun vs H Q _ => ∃ c : Int, vs = [.int c] ∧ ∀ (p : Addr) (H' : Hp), H p = none → Src H' p → Same H H' → Q (.ref p) H'
def spChoose : Sp := fun vs H Q _ => ∃ (a l : Addr) (xs : List V), vs = [.ref a, .ref l] ∧ Src H a ∧ H l = some (.lst xs) ∧ l ≠ a ∧ 0 < xs.length ∧ xs.length ≤ 1000 ∧
  ∀ (v : V) (H' : Hp), v ∈ xs → Src H' a → Kp a H H' → Q v H'
/-- the ints are amounts -/
def Am (ns : List Int) : Prop := ∀ r ∈ ns, 0 ≤ r ∧ r ≤ 30
def spAmounts : Sp := fun vs H Q _ => ∃ (a : Addr) (n : Nat), vs = [.ref a, .int n] ∧ Src H a ∧ 2 ≤ n ∧ n ≤ 6 ∧
  ∀ (p : Addr) (ns : List Int) (H' : Hp), ns.length = n → Am ns → Src H' a → Kp a H H' → H' p = some (.tup (ns.map V.int)) → Q (.ref p) H'
/-- a list of amounts grows at D -/
def AInv (a D : Addr) (H1 : Hp) (i : Nat) (H : Hp) : Prop := ∃ ns : List Int, ns.length = i ∧ Am ns ∧ Src H a ∧ Kp a H1 H ∧ H D = some (.lst (ns.map V.int))
theorem AInv.start {a D : Addr} {H1 : Hp} (s : Src H1 a) (n : H1 D = none) : AInv a D H1 0 (L2.upd H1 D (.lst [])) :=
  ⟨[], rfl, fun _ h => (nomatch h), s.upd n, (Kp.refl a H1).new n, upd_same⟩
theorem AInv.src {a D : Addr} {H1 H : Hp} {i : Nat} (p : AInv a D H1 i H) : Src H a := p.elim fun _ q => q.2.2.1
theorem AInv.next {a D : Addr} {H1 H H' : Hp} {i : Nat} {r : Int} (p : AInv a D H1 i H) (hi : i ≤ 100) (n : H1 D = none) (da : D ≠ a) (s : Src H' a) (k : Kp a H H') (r0 : 0 ≤ r) (r1 : r ≤ 30) :
    ∃ acc, H' D = some (.lst acc) ∧ acc.length < sizeLine ∧ AInv a D H1 (i + 1) (L2.upd H' D (.lst (acc ++ [.int r]))) := by
  obtain ⟨ns, e, am, _, kp, hd⟩ := p
  refine ⟨ns.map V.int, k _ _ da hd, size_lt (by rw [List.length_map]; omega), ns ++ [r], ?_, ?_, s.put da, (kp.trans k).put n, ?_⟩
  · rw [List.length_append, e]; rfl
  · intro x hx
    rcases List.mem_append.mp hx with h | h
    · exact am x h
    · rw [List.mem_singleton.mp h]; exact ⟨r0, r1⟩
  · rw [upd_same, List.map_append]; rfl
section
variable {P : Program} {w : World} {K : PySem.W.Frag} {mg : Str → Option Value} {base : Heap}
abbrev st_l_cell : Stmt := top 28
theorem sc_l_cell : FnScope ["_law_script", "_law_index"] ["_law_script", "_law_index"] (defScope st_l_cell) := ⟨rfl, rfl, rfl, by decide +kernel, rfl, by decide +kernel, by decide +kernel⟩
theorem ok_cell (B : Bn mg) (D : Df K mg "_law_cell" st_l_cell ["_law_script", "_law_index"]) : Cal P w K mg base 2 "_law_cell" ["_law_script", "_law_index"] (spCell K) := by
  refine D.cal sc_l_cell (fun vs H Q E h => ?_) (fun f cdv A out s H vs Q E hr h => ?_)
  · obtain ⟨a, ns, i, rfl, _⟩ := h
    rfl
  obtain ⟨a, ns, i, rfl, sq, i0, k⟩ := h
  refine ⟨_, (pss_cons (ps_if (pt_cmpR op_lt (pv 1) (pe_callB call_len_seq (by rfl) B.n_len (by decide +kernel) (pa_cons (pv 0) pa_nil)) (nomark _)) (pss_one (ps_ret (pe_ix ix_list (pv 0) (pv 1) (fun _ _ => rfl)))) pss_nil)
   (pss_one (ps_ret pe_int))), ?_⟩
  refine ⟨_, rfl, _, rfl, a, _, rfl, .inl sq, _, _, rfl, rfl, _, rfl, ?_⟩
  refine ite2 (fun c => ?_) (fun c => k 0)
  have c2 : i < ((ns.map V.int).length : Int) := of_decide_eq_true c
  obtain ⟨v, hv, _, e⟩ := at_of_lt i0 c2
  obtain ⟨m, _, rfl⟩ := List.mem_map.mp hv
  exact ⟨_, rfl, _, rfl, a, _, _, _, rfl, rfl, sq, e, k m⟩
abbrev st_l_source : Stmt := top 29
theorem sc_l_source : FnScope ["_law_cell_here"] ["_law_cell_here"] (defScope st_l_source) := ⟨rfl, rfl, rfl, by decide +kernel, rfl, by decide +kernel, by decide +kernel⟩
theorem ok_source (B : Bn mg) (D : Df K mg "_law_source" st_l_source ["_law_cell_here"]) : Cal P w K mg base 2 "_law_source" ["_law_cell_here"] spSource := by
  refine D.cal sc_l_source (fun vs H Q E h => ?_) (fun f cdv A out s H vs Q E hr h => ?_)
  · obtain ⟨c, rfl, _⟩ := h
    rfl
  obtain ⟨c, rfl, k⟩ := h
  refine ⟨_, (pss_one (ps_ret (pe_lst (pa_cons (pe_callB (call_max2 rfl) (by rfl) B.n_max (by decide +kernel) (pa_cons pe_int (pa_cons (pe_op op_sub (pv 0) (pe_op op_pow pe_int pe_int)) pa_nil))) (pa_cons (pe_op op_add (pe_op op_mod (pv 0) pe_int) pe_int) (pa_cons pe_int pa_nil)))))), ?_⟩
  refine ⟨_, rfl, _, _, rfl, rfl, ⟨by decide, by decide, by decide⟩, _, _, rfl, rfl, _, _, rfl, _, rfl, _, _, rfl, rfl, (by show (0 : Int) < 2147483629; decide), _, _, rfl, rfl, (by show 3 ≤ sizeLine; decide), fun p hp => ?_⟩
  refine k p _ hp ⟨_, _, _, upd_same, ?_, ?_, ?_, by decide⟩ (same_new (Same.refl H) hp)
  · split <;> omega
  · have := Int.emod_nonneg c (show (2147483629 : Int) ≠ 0 by decide)
    show 0 ≤ c % 2147483629 + 1
    omega
  · have := Int.emod_lt_of_pos c (show (0 : Int) < 2147483629 by decide)
    show c % 2147483629 + 1 < 2147483648
    omega
abbrev st_l_draw : Stmt := top 30
theorem sc_l_draw : FnScope ["_law_source_here", "_law_many", "_law_found", "_law_mixed"] ["_law_source_here", "_law_many"] (defScope st_l_draw) := ⟨rfl, rfl, rfl, by decide +kernel, rfl, by decide +kernel, by decide +kernel⟩
theorem ok_draw (D : Df K mg "_law_draw" st_l_draw ["_law_source_here", "_law_many"]) : Cal P w K mg base 2 "_law_draw" ["_law_source_here", "_law_many"] spDraw := by
  refine D.cal sc_l_draw (fun vs H Q E h => ?_) (fun f cdv A out s H vs Q E hr h => ?_)
  · obtain ⟨a, m, rfl, _⟩ := h
    rfl
  obtain ⟨a, m, rfl, ⟨x, y, z, ha, x0, y0, y1, z0⟩, m0, m1, k⟩ := h
  refine ⟨_, (pss_cons (ps_if (pt_cmpR op_gt (pe_ix ix_list (pv 0) pe_int (fun _ _ => rfl)) pe_int (nomark _)) (pss_cons (ps_set (i := 2) sc_l_draw.nd rfl (.inl rfl) (pe_op op_mod (pe_ix ix_list (pv 0) pe_int (fun _ _ => rfl)) (pv 1)))
   (pss_cons (ps_asg (pe_op op_fdiv (pe_ix ix_list (pv 0) pe_int (fun _ _ => rfl)) (pv 1)) (pg_sub (pv 0) pe_int set_list))
   (pss_one (ps_ret (pv 2))))) pss_nil)
   (pss_cons (ps_asg (pe_op op_add (pe_ix ix_list (pv 0) pe_int (fun _ _ => rfl)) pe_int) (pg_sub (pv 0) pe_int set_list))
   (pss_cons (ps_asg (pe_op op_mod (pe_op op_add (pe_op op_add (pe_op op_mul (pe_ix ix_list (pv 0) pe_int (fun _ _ => rfl)) pe_int) (pe_op op_mul pe_int (pe_ix ix_list (pv 0) pe_int (fun _ _ => rfl)))) pe_int) pe_int) (pg_sub (pv 0) pe_int set_list))
   (pss_cons (ps_set (i := 3) sc_l_draw.nd rfl (.inl rfl) (pe_op op_mod (pe_op op_add (pe_op op_add (pe_op op_mul (pe_ix ix_list (pv 0) pe_int (fun _ _ => rfl)) (pe_ix ix_list (pv 0) pe_int (fun _ _ => rfl))) (pe_op op_mul pe_int (pe_ix ix_list (pv 0) pe_int (fun _ _ => rfl)))) pe_int) pe_int))
   (pss_cons (ps_set (i := 3) sc_l_draw.nd rfl (.inl rfl) (pe_op op_mod (pe_op op_add (pe_op op_mul (pv 3) (pv 3)) (pe_op op_mul pe_int (pv 3))) pe_int))
   (pss_one (ps_ret (pe_op op_mod (pe_op op_fdiv (pv 3) pe_int) (pv 1))))))))), ?_⟩
  refine ⟨_, rfl, a, _, _, _, rfl, rfl, SqL.of ha, rfl, _, _, rfl, rfl, _, rfl, ?_⟩
  refine ite2 (fun c => ?_) (fun c => ?_)
  · refine ⟨_, rfl, a, _, _, _, rfl, rfl, SqL.of ha, rfl, _, rfl, _, _, rfl, rfl, m0, ?_⟩
    refine ⟨_, rfl, a, _, _, _, rfl, rfl, SqL.of ha, rfl, _, rfl, _, _, rfl, rfl, ⟨m0, by omega⟩, ?_⟩
    refine ⟨_, rfl, a, _, _, _, rfl, rfl, ha, rfl, ?_⟩
    refine ⟨_, rfl, k _ _ (Int.emod_nonneg _ (by omega)) (Int.emod_lt_of_pos _ m0) ⟨_, _, _, upd_same, Int.ediv_nonneg x0 (by omega), y0, y1, z0⟩ Kp.upd⟩
  · refine ⟨_, rfl, a, _, _, _, rfl, rfl, SqL.of ha, rfl, _, _, rfl, rfl, ?_⟩
    refine ⟨_, rfl, a, _, _, _, rfl, rfl, ha, rfl, ?_⟩
    generalize hH1 : upd H a _ = H1
    have h1 : H1 a = some (.lst [.int x, .int y, .int (z + 1)]) := by rw [← hH1]; exact upd_same
    have q1 : Kp a H H1 := by rw [← hH1]; exact Kp.upd
    refine ⟨_, rfl, a, _, _, _, rfl, rfl, SqL.of h1, rfl, _, _, rfl, rfl, .inl ⟨by omega, by omega⟩, _, rfl, a, _, _, _, rfl, rfl, SqL.of h1, rfl, _, _, rfl, rfl, .inl ⟨by decide, by decide⟩, _, _, rfl, rfl, _, _, rfl, rfl, _, _, rfl, rfl, (by show (0 : Int) < 2147483647; decide), ?_⟩
    refine ⟨_, rfl, a, _, _, _, rfl, rfl, h1, rfl, ?_⟩
    generalize hy : (y * 48271 + 1009 * (z + 1) + 7) % 2147483647 = y'
    have b0 : 0 ≤ y' := by rw [← hy]; exact Int.emod_nonneg _ (by decide)
    have b1 : y' < 2147483647 := by rw [← hy]; exact Int.emod_lt_of_pos _ (by decide)
    generalize hH2 : upd H1 a _ = H2
    have h2 : H2 a = some (.lst [.int x, .int y', .int (z + 1)]) := by rw [← hH2, ← hy]; exact upd_same
    have q2 : Kp a H H2 := by rw [← hH2]; exact q1.trans Kp.upd
    refine ⟨_, rfl, a, _, _, _, rfl, rfl, SqL.of h2, rfl, _, rfl, a, _, _, _, rfl, rfl, SqL.of h2, rfl, _, _, rfl, rfl, .inl ⟨by omega, by omega⟩, _, rfl, a, _, _, _, rfl, rfl, SqL.of h2, rfl, _, _, rfl, rfl, .inl ⟨by decide, by decide⟩, _, _, rfl, rfl, _, _, rfl, rfl, _, _, rfl, rfl, (by show (0 : Int) < 2147483629; decide), ?_⟩
    generalize hu : (y' * y' + 69621 * y' + 11) % 2147483629 = u
    have u0 : 0 ≤ u := by rw [← hu]; exact Int.emod_nonneg _ (by decide)
    have u1 : u < 2147483629 := by rw [← hu]; exact Int.emod_lt_of_pos _ (by decide)
    refine ⟨_, rfl, _, rfl, _, _, rfl, rfl, .inl ⟨by omega, by omega⟩, _, rfl, _, _, rfl, rfl, .inl ⟨by decide, by decide⟩, _, _, rfl, rfl, _, _, rfl, rfl, (by show (0 : Int) < 2147483587; decide), ?_⟩
    refine ⟨_, rfl, _, _, rfl, rfl, ⟨by decide, by decide⟩, _, rfl, _, _, rfl, rfl, m0, ?_⟩
    exact k _ _ (Int.emod_nonneg _ (by omega)) (Int.emod_lt_of_pos _ m0) ⟨_, _, _, h2, x0, b0, by omega, by omega⟩ q2
abbrev st_l_choose : Stmt := top 31
theorem sc_l_choose : FnScope ["_law_source_here", "_law_values"] ["_law_source_here", "_law_values"] (defScope st_l_choose) := ⟨rfl, rfl, rfl, by decide +kernel, rfl, by decide +kernel, by decide +kernel⟩
theorem ok_choose (B : Bn mg) (c_l_draw : Cal P w K mg base 2 "_law_draw" ["_law_source_here", "_law_many"] spDraw) (D : Df K mg "_law_choose" st_l_choose ["_law_source_here", "_law_values"]) : Cal P w K mg base 3 "_law_choose" ["_law_source_here", "_law_values"] spChoose := by
  refine D.cal sc_l_choose (fun vs H Q E h => ?_) (fun f cdv A out s H vs Q E hr h => ?_)
  · obtain ⟨a, l, xs, rfl, _⟩ := h
    rfl
  obtain ⟨a, l, xs, rfl, src, hl, la, n0, n1, k⟩ := h
  refine ⟨_, (pss_one (ps_ret (pe_ix ix_list (pv 1) (pe_fn c_l_draw (hr.mono (by decide)) (pa_cons (pv 0) (pa_cons (pe_callB call_len_seq (by rfl) B.n_len (by decide +kernel) (pa_cons (pv 1) pa_nil)) pa_nil))) (fun _ _ => rfl)))), ?_⟩
  refine ⟨_, rfl, _, rfl, _, rfl, l, _, rfl, .inl (SqL.of hl), ?_⟩
  refine ⟨a, xs.length, rfl, src, by omega, by omega, fun r H' r0 r1 s' kp => ?_⟩
  obtain ⟨v, hv, _, e⟩ := at_of_lt r0 r1
  exact ⟨l, _, _, _, rfl, rfl, SqL.of (kp _ _ la hl), e, k v _ hv s' kp⟩
abbrev st_l_amounts : Stmt := top 33
theorem sc_l_amounts : FnScope ["_law_source_here", "_law_many", "_law_way", "_law_base", "_law_state"] ["_law_source_here", "_law_many"] (defScope st_l_amounts) := ⟨rfl, rfl, rfl, by decide +kernel, rfl, by decide +kernel, by decide +kernel⟩
theorem ok_amounts (B : Bn mg) (c_l_draw : Cal P w K mg base 2 "_law_draw" ["_law_source_here", "_law_many"] spDraw) (c_l_choose : Cal P w K mg base 3 "_law_choose" ["_law_source_here", "_law_values"] spChoose) (D : Df K mg "_law_amounts" st_l_amounts ["_law_source_here", "_law_many"]) : Cal P w K mg base 4 "_law_amounts" ["_law_source_here", "_law_many"] spAmounts := by
  refine D.cal sc_l_amounts (fun vs H Q E h => ?_) (fun f cdv A out s H vs Q E hr h => ?_)
  · obtain ⟨a, n, rfl, _⟩ := h
    rfl
  obtain ⟨a, n, rfl, src, n0, n1, k⟩ := h
  refine ⟨_, (pss_cons (ps_asg (pe_tup (pa_cons (pe_fn c_l_draw (hr.mono (by decide)) (pa_cons (pv 0) (pa_cons pe_int pa_nil))) (pa_cons (pe_fn c_l_draw (hr.mono (by decide)) (pa_cons (pv 0) (pa_cons pe_int pa_nil))) pa_nil))) (pg_tup rfl (pgs_cons (pg_name (i := 2) sc_l_amounts.nd rfl (.inl rfl)) (pgs_cons (pg_name (i := 3) sc_l_amounts.nd rfl (.inr rfl)) pgs_nil))))
   (pss_cons (ps_if (pt_cmpR op_eq (pv 2) pe_int (nomark _)) (pss_one (ps_ret (pe_callTy call_tuple_of (by rfl) B.n_tuple (by decide +kernel) (pa_cons (pe_lc (own := [("_law_state", 4)]) (g := gName 4) rfl sc_l_amounts.nd (pi_range1 (by rfl) B.n_range (pa_cons (pv 1) pa_nil)) (blkOk_by (N := ["_law_source_here", "_law_many", "_law_way", "_law_base", "_law_state"]) (sc := defScope st_l_amounts) (by decide +kernel)) (fun _ _ _ _ _ => (pg_name (i := 4) sc_l_amounts.nd rfl (.inl rfl))) (fun _ _ _ _ _ => pts_nil) (fun _ _ _ _ _ => (pe_fn c_l_draw (hr.mono (by decide)) (pa_cons (pv 0) (pa_cons pe_int pa_nil))))) pa_nil)))) pss_nil)
   (pss_cons (ps_if (pt_cmpR op_eq (pv 2) pe_int (nomark _)) (pss_one (ps_ret (pe_callTy call_tuple_of (by rfl) B.n_tuple (by decide +kernel) (pa_cons (pe_lc (own := [("_law_state", 4)]) (g := gName 4) rfl sc_l_amounts.nd (pi_range1 (by rfl) B.n_range (pa_cons (pv 1) pa_nil)) (blkOk_by (N := ["_law_source_here", "_law_many", "_law_way", "_law_base", "_law_state"]) (sc := defScope st_l_amounts) (by decide +kernel)) (fun _ _ _ _ _ => (pg_name (i := 4) sc_l_amounts.nd rfl (.inl rfl))) (fun _ _ _ _ _ => pts_nil) (fun _ _ _ _ _ => (pe_fn c_l_draw (hr.mono (by decide)) (pa_cons (pv 0) (pa_cons pe_int pa_nil))))) pa_nil)))) pss_nil)
   (pss_cons (ps_if (pt_cmpR op_eq (pv 2) pe_int (nomark _)) (pss_one (ps_ret (pe_callTy call_tuple_of (by rfl) B.n_tuple (by decide +kernel) (pa_cons (pe_lc (own := [("_law_state", 4)]) (g := gName 4) rfl sc_l_amounts.nd (pi_range1 (by rfl) B.n_range (pa_cons (pv 1) pa_nil)) (blkOk_by (N := ["_law_source_here", "_law_many", "_law_way", "_law_base", "_law_state"]) (sc := defScope st_l_amounts) (by decide +kernel)) (fun _ _ _ _ _ => (pg_name (i := 4) sc_l_amounts.nd rfl (.inl rfl))) (fun _ _ _ _ _ => pts_nil) (fun _ _ _ _ _ => (pe_op op_add (pv 3) (pe_fn c_l_draw (hr.mono (by decide)) (pa_cons (pv 0) (pa_cons pe_int pa_nil)))))) pa_nil)))) pss_nil)
   (pss_cons (ps_if (pt_cmpR op_eq (pv 2) pe_int (nomark _)) (pss_one (ps_ret (pe_callTy call_tuple_of (by rfl) B.n_tuple (by decide +kernel) (pa_cons (pe_lc (own := [("_law_state", 4)]) (g := gName 4) rfl sc_l_amounts.nd (pi_range1 (by rfl) B.n_range (pa_cons (pv 1) pa_nil)) (blkOk_by (N := ["_law_source_here", "_law_many", "_law_way", "_law_base", "_law_state"]) (sc := defScope st_l_amounts) (by decide +kernel)) (fun _ _ _ _ _ => (pg_name (i := 4) sc_l_amounts.nd rfl (.inl rfl))) (fun _ _ _ _ _ => pts_nil) (fun _ _ _ _ _ => (pe_fn c_l_choose (hr.mono (by decide)) (pa_cons (pv 0) (pa_cons (pe_lst (pa_cons pe_int (pa_cons pe_int pa_nil))) pa_nil))))) pa_nil)))) pss_nil)
   (pss_cons (ps_if (pt_cmpR op_eq (pv 2) pe_int (nomark _)) (pss_one (ps_ret (pe_callTy call_tuple_of (by rfl) B.n_tuple (by decide +kernel) (pa_cons (pe_lc (own := [("_law_state", 4)]) (g := gName 4) rfl sc_l_amounts.nd (pi_range1 (by rfl) B.n_range (pa_cons (pv 1) pa_nil)) (blkOk_by (N := ["_law_source_here", "_law_many", "_law_way", "_law_base", "_law_state"]) (sc := defScope st_l_amounts) (by decide +kernel)) (fun _ _ _ _ _ => (pg_name (i := 4) sc_l_amounts.nd rfl (.inl rfl))) (fun _ _ _ _ _ => pts_nil) (fun _ _ _ _ _ => (pe_fn c_l_choose (hr.mono (by decide)) (pa_cons (pv 0) (pa_cons (pe_lst (pa_cons (pv 3) (pa_cons (pe_op op_add (pv 3) pe_int) (pa_cons (pe_op op_sub pe_int (pv 3)) pa_nil)))) pa_nil))))) pa_nil)))) pss_nil)
   (pss_one (ps_ret (pe_callTy call_tuple_of (by rfl) B.n_tuple (by decide +kernel) (pa_cons (pe_callB cr_sorted (by rfl) B.n_sorted (by decide +kernel) (pa_cons (pe_lc (own := [("_law_state", 4)]) (g := gName 4) rfl sc_l_amounts.nd (pi_range1 (by rfl) B.n_range (pa_cons (pv 1) pa_nil)) (blkOk_by (N := ["_law_source_here", "_law_many", "_law_way", "_law_base", "_law_state"]) (sc := defScope st_l_amounts) (by decide +kernel)) (fun _ _ _ _ _ => (pg_name (i := 4) sc_l_amounts.nd rfl (.inl rfl))) (fun _ _ _ _ _ => pts_nil) (fun _ _ _ _ _ => (pe_fn c_l_draw (hr.mono (by decide)) (pa_cons (pv 0) (pa_cons pe_int pa_nil))))) pa_nil)) pa_nil)))))))))), ?_⟩
  refine ⟨_, rfl, a, 6, rfl, src, by decide, by decide, fun way H0 w0 w1 s0 k0 => ?_⟩
  refine ⟨_, rfl, a, 29, rfl, s0, by decide, by decide, fun bs H1 b0 b1 s1 k1 => ?_⟩
  have kk := k0.trans k1
  refine ⟨(by show 2 ≤ sizeLine; decide), fun q hq => ⟨q, _, rfl, SqT.of upd_same, rfl, _, _, rfl, _, _, rfl, rfl, ?_⟩⟩
  generalize hH2 : upd H1 q _ = H2
  have s2 : Src H2 a := by rw [← hH2]; exact s1.upd hq
  have k2 : Kp a H H2 := by rw [← hH2]; exact kk.new hq
  have fin : ∀ {D : Addr} {H' : Hp}, AInv a D H2 n H' → ∃ p ys, [V.ref D] = [V.ref p] ∧ ((SqL K H' p ys ∧ ∀ l, H' l = none → Q (.ref l) (upd H' l (.tup ys))) ∨ (SqT K H' p ys ∧ Q (.ref p) H')) := by
    rintro D H' ⟨ns, e, am, s', kp, hd⟩
    exact ⟨D, _, rfl, .inl ⟨SqL.of hd, fun l hl => k l ns _ e am (s'.upd hl) ((k2.trans kp).new hl) upd_same⟩⟩
  refine ⟨_, rfl, rfl, _, rfl, ite2 (fun c => ?_) (fun c => ?_)⟩
  · refine ⟨_, rfl, n, rfl, by omega, by omega, fun D hD => lc_range (lo := 0) (n := n) (AInv a D H2) (AInv.start s2 hD) (fun i H3 hi p => ⟨rfl, tyes ?_⟩) (fun H3 p => fin p)⟩
    have s3 : Src H3 a := p.src
    refine ⟨_, rfl, a, 31, rfl, s3, by decide, by decide, fun r H4 r0 r1 s4 k4 => ?_⟩
    exact p.next (by omega) hD (s2.ne hD) s4 k4 r0 (by omega)
  refine ⟨_, rfl, rfl, _, rfl, ite2 (fun c => ?_) (fun c => ?_)⟩
  · refine ⟨_, rfl, n, rfl, by omega, by omega, fun D hD => lc_range (lo := 0) (n := n) (AInv a D H2) (AInv.start s2 hD) (fun i H3 hi p => ⟨rfl, tyes ?_⟩) (fun H3 p => fin p)⟩
    have s3 : Src H3 a := p.src
    refine ⟨_, rfl, a, 4, rfl, s3, by decide, by decide, fun r H4 r0 r1 s4 k4 => ?_⟩
    exact p.next (by omega) hD (s2.ne hD) s4 k4 r0 (by omega)
  refine ⟨_, rfl, rfl, _, rfl, ite2 (fun c => ?_) (fun c => ?_)⟩
  · refine ⟨_, rfl, n, rfl, by omega, by omega, fun D hD => lc_range (lo := 0) (n := n) (AInv a D H2) (AInv.start s2 hD) (fun i H3 hi p => ⟨rfl, tyes ?_⟩) (fun H3 p => fin p)⟩
    have s3 : Src H3 a := p.src
    refine ⟨_, rfl, _, rfl, a, 3, rfl, s3, by decide, by decide, fun r H4 r0 r1 s4 k4 => ⟨_, _, rfl, rfl, ?_⟩⟩
    exact p.next (by omega) hD (s2.ne hD) s4 k4 (by omega) (by omega)
  refine ⟨_, rfl, rfl, _, rfl, ite2 (fun c => ?_) (fun c => ?_)⟩
  · refine ⟨_, rfl, n, rfl, by omega, by omega, fun D hD => lc_range (lo := 0) (n := n) (AInv a D H2) (AInv.start s2 hD) (fun i H3 hi p => ⟨rfl, tyes ?_⟩) (fun H3 p => fin p)⟩
    have s3 : Src H3 a := p.src
    refine ⟨_, rfl, (by show 2 ≤ sizeLine; decide), fun l hl => ?_⟩
    refine ⟨a, l, _, rfl, s3.upd hl, upd_same, s3.ne hl, (by show 0 < 2; decide), (by show 2 ≤ 1000; decide), fun v H4 hv s4 k4 => ?_⟩
    have k5 : Kp a H3 H4 := ((Kp.refl a H3).new hl).trans k4
    rcases List.mem_cons.mp hv with rfl | hv
    · exact p.next (by omega) hD (s2.ne hD) s4 k5 (by decide) (by decide)
    rw [List.mem_singleton.mp hv]
    exact p.next (by omega) hD (s2.ne hD) s4 k5 (by decide) (by decide)
  refine ⟨_, rfl, rfl, _, rfl, ite2 (fun c => ?_) (fun c => ?_)⟩
  · refine ⟨_, rfl, n, rfl, by omega, by omega, fun D hD => lc_range (lo := 0) (n := n) (AInv a D H2) (AInv.start s2 hD) (fun i H3 hi p => ⟨rfl, tyes ?_⟩) (fun H3 p => fin p)⟩
    have s3 : Src H3 a := p.src
    refine ⟨_, rfl, _, rfl, _, rfl, _, _, rfl, rfl, _, rfl, _, _, rfl, rfl, (by show 3 ≤ sizeLine; decide), fun l hl => ?_⟩
    refine ⟨a, l, _, rfl, s3.upd hl, upd_same, s3.ne hl, (by show 0 < 3; decide), (by show 3 ≤ 1000; decide), fun v H4 hv s4 k4 => ?_⟩
    have k5 : Kp a H3 H4 := ((Kp.refl a H3).new hl).trans k4
    rcases List.mem_cons.mp hv with rfl | hv
    · exact p.next (by omega) hD (s2.ne hD) s4 k5 (by omega) (by omega)
    rcases List.mem_cons.mp hv with rfl | hv
    · exact p.next (r := bs + 1) (by omega) hD (s2.ne hD) s4 k5 (by omega) (by omega)
    rw [List.mem_singleton.mp hv]
    exact p.next (r := 30 - bs) (by omega) hD (s2.ne hD) s4 k5 (by omega) (by omega)
  refine ⟨_, rfl, n, rfl, by omega, by omega, fun D hD => lc_range (lo := 0) (n := n) (AInv a D H2) (AInv.start s2 hD) (fun i H3 hi p => ⟨rfl, tyes ?_⟩) (fun H3 p => ?_)⟩
  · have s3 : Src H3 a := p.src
    refine ⟨_, rfl, a, 31, rfl, s3, by decide, by decide, fun r H4 r0 r1 s4 k4 => ?_⟩
    exact p.next (by omega) hD (s2.ne hD) s4 k4 r0 (by omega)
  · obtain ⟨ns, e, am, s', kp, hd⟩ := p
    refine ⟨D, ns, rfl, SqL.of hd, by omega, fun ns' p' pm sd hp => ?_⟩
    refine ⟨p', _, rfl, .inl ⟨SqL.of upd_same, fun l hl => k l ns' _ ?_ (fun r hr => am r (pm.mem_iff.mp hr)) ((s'.upd hp).upd hl) (((k2.trans kp).new hp).new hl) upd_same⟩⟩
    rw [pm.length_eq, e]
end
end Pl
namespace Pl
open PySem PySem.Spec PyProof.Rows L2
/-! the mathematics -/
/-- the ints in ascending order -/
def srt (ns : List Int) : List Int := ns.mergeSort
theorem srt_perm (ns : List Int) : (srt ns).Perm ns := List.mergeSort_perm _ _
theorem srt_sorted (ns : List Int) : (srt ns).Pairwise (· ≤ ·) := by
  have h := List.pairwise_mergeSort (le := fun (a b : Int) => decide (a ≤ b)) (fun a b c h1 h2 => by simp at *; omega) (fun a b => by simp; omega) ns
  exact h.imp fun h => by simpa using h
theorem srt_of {l ns : List Int} (p : l.Perm ns) (s : l.Pairwise (· ≤ ·)) : l = srt ns := PySem.W.ksm_same (p.trans (srt_perm ns).symm) s (srt_sorted ns)
theorem srt_length (ns : List Int) : (srt ns).length = ns.length := (srt_perm ns).length_eq
/-- the sum of the k smallest -/
def low (ns : List Int) (k : Nat) : Int := ((srt ns).take k).sum
theorem cut_take {xs : List V} {n : Nat} (h : n ≤ xs.length) : cutV xs none (some (n : Int)) = xs.take n := by
  unfold cutV
  rw [HT.sIx_none, HT.sIx_nat, List.drop_zero, Nat.sub_zero, Nat.min_eq_left h]
/-- the second is at least as calm as the first -/
def calm (ns ms : List Int) : Bool := decide (ns.sum = ms.sum) && (List.range (ns.length + 1)).all fun k => decide (low ns k ≤ low ms k)
/-- an integer from 0 to m -/
def isTo (m : Int) : V → Bool
  | .int i => decide (0 ≤ i) && decide (i ≤ m)
  | _ => false
def isInt : V → Bool
  | .int _ => true
  | _ => false
/-- what isinstance says of the value: whether it is an int that is no bool -/
def Kd (K : PySem.W.Frag) (H : Hp) (x : V) : Prop := ∃ (t : Value) (bi bb : Bool), TyX K H x t ∧ PySem.W.kitOne K t (.type "int") = some bi ∧ PySem.W.kitOne K t (.type "bool") = some bb ∧ (bi && !bb) = isInt x
theorem Kd.int {K : PySem.W.Frag} {H : Hp} (i : Int) : Kd K H (.int i) := ⟨_, true, false, .base (.int i), kit_ty (by decide +kernel), kit_ty (by decide +kernel), rfl⟩
theorem TyX.same {K : PySem.W.Frag} {H H' : Hp} {x : V} {t : Value} (s : Same H H') (h : TyX K H x t) : TyX K H' x t := by
  cases h with
  | base b =>
    refine .base ?_
    cases b with
    | non => exact .non
    | bl y => exact .bl y
    | int i => exact .int i
    | str y => exact .str y
    | flt y => exact .flt y
    | lst e => exact .lst (s _ _ e)
    | frz e => exact .frz (s _ _ e)
    | tup e => exact .tup (s _ _ e)
    | dK e => exact .dK (s _ _ e)
    | dT e => exact .dT (s _ _ e)
    | ins e cl a b c d => exact .ins (s _ _ e) cl a b c d
  | byt b => exact .byt b
  | set e => exact .set (s _ _ e)
  | kList e c => exact .kList e c
  | kTuple e c => exact .kTuple e c
  | kDict e c => exact .kDict e c
  | fTuple e => exact .fTuple (s _ _ e)
  | fDict e => exact .fDict (s _ _ e)
theorem Kd.same {K : PySem.W.Frag} {H H' : Hp} {x : V} (s : Same H H') (h : Kd K H x) : Kd K H' x := by
  obtain ⟨t, bi, bb, ty, r⟩ := h
  exact ⟨t, bi, bb, TyX.same s ty, r⟩
/-! what the top has written of Share -/
structure Cn (mg : Str → Option Value) : Prop where
  c_FEWEST_STATES : ∃ t, mg "FEWEST_STATES" = some (.int 2 t)
  c_MOST_STATES : ∃ t, mg "MOST_STATES" = some (.int 6 t)
  c_MOST_IN_A_STATE : ∃ t, mg "MOST_IN_A_STATE" = some (.int 30 t)
structure ShK (K : PySem.W.Frag) (mg : Str → Option Value) (C : Addr) : Prop where
  cl : Cls K C
  nB : NoAttr K C "by_state"
  mgC : mg "Share" = some (.ref C)
  mks : PySem.W.makesIn K C = true
  kc : PySem.W.keepIn K (.ref C) = true
  ca : PySem.W.findIn K (.ref C) "__class__" = some (some (.builtin "object.__class__"))
  cg : PySem.W.specialIn K (.builtin "object.__class__") "__get__" = some (some (.builtin "getset_descriptor.__get__"))
  ct : PySem.W.takesIn K (.builtin "object.__class__") = some true
  mro : PySem.W.mroIn K C (.type "object") = some true
  kit : PySem.W.kitOne K (.ref C) (.ref C) = some true
  fi : ∀ f, PySem.W.findIn K (.ref C) "__call__" = some (some (.ref f)) → PySem.W.fnIn K f = true
/-- the same, of the written part alone -/
structure ShF (K : PySem.W.Frag) (C : Addr) : Prop where
  pg : PySem.W.plainGet K C Str.empty = true
  hd : PySem.W.hasDictIn K C = true
  po : PySem.W.plainOver K C = true
  sa : PySem.W.findIn K (.ref C) "__setattr__" = some (some (.builtin "object.__setattr__"))
  nB : PySem.W.findIn K (.ref C) "by_state" = some none
  mks : PySem.W.makesIn K C = true
  kc : PySem.W.keepIn K (.ref C) = true
  ca : PySem.W.findIn K (.ref C) "__class__" = some (some (.builtin "object.__class__"))
  cg : PySem.W.specialIn K (.builtin "object.__class__") "__get__" = some (some (.builtin "getset_descriptor.__get__"))
  ct : PySem.W.takesIn K (.builtin "object.__class__") = some true
  mro : PySem.W.mroIn K C (.type "object") = some true
  kit : PySem.W.kitOne K (.ref C) (.ref C) = some true
theorem ShF.k {K : PySem.W.Frag} {mg : Str → Option Value} {C : Addr} (s : ShF K C) (c : CallF K C) (g : mg "Share" = some (.ref C)) : ShK K mg C :=
  ⟨⟨s.pg, s.hd, s.po, s.sa⟩, s.nB, g, s.mks, s.kc, s.ca, s.cg, s.ct, s.mro, s.kit, fun f h => by
    obtain ⟨f', a, b⟩ := c.ex
    rw [a] at h
    cases h
    exact b⟩
def shF (t : Addr) : List (Str × V) := [("by_state", .ref t)]
theorem shF_get (t : Addr) : (shF t).lookup ("by_state" : Str) = some (.ref t) := by simp [shF, List.lookup]
/-- a share with the amounts ns stands at s, its tuple at t -/
def ShAt (C : Addr) (H : Hp) (s t : Addr) (ns : List Int) : Prop := (∃ dx, H s = some (.ins C dx (shF t))) ∧ H t = some (.tup (ns.map V.int)) ∧ 2 ≤ ns.length ∧ ns.length ≤ 6 ∧ Am ns
theorem ShAt.same {C : Addr} {H H' : Hp} {s t : Addr} {ns : List Int} (h : ShAt C H s t ns) (k : Same H H') : ShAt C H' s t ns := by
  obtain ⟨⟨dx, h1⟩, h2, r⟩ := h
  exact ⟨⟨dx, k _ _ h1⟩, k _ _ h2, r⟩
theorem ShAt.kp {C : Addr} {H H' : Hp} {s t a : Addr} {ns : List Int} (h : ShAt C H s t ns) (sr : Src H a) (k : Kp a H H') : ShAt C H' s t ns := by
  obtain ⟨⟨dx, h1⟩, h2, r⟩ := h
  exact ⟨⟨dx, k _ _ (sr.neI h1) h1⟩, k _ _ (sr.neT h2) h2, r⟩
def spIsI (K : PySem.W.Frag) : Sp := fun vs H Q _ => ∃ x : V, vs = [x] ∧ Kd K H x ∧ Q (.bl (isInt x)) H
def spIsInt (K : PySem.W.Frag) : Sp := fun vs H Q _ => ∃ (x : V) (m : Int), vs = [x, .int m] ∧ Kd K H x ∧ Q (.bl (isTo m x)) H
/-- a tuple of 2 to 6 integers from 0 to 30 -/
def isAm (xs : List V) : Bool := decide (2 ≤ xs.length) && decide (xs.length ≤ 6) && xs.all (isTo 30)
def spIsAm (K : PySem.W.Frag) : Sp := fun vs H Q _ => ∃ x : V, vs = [x] ∧
  ((∃ (p : Addr) (xs : List V), x = .ref p ∧ H p = some (.tup xs) ∧ xs.length ≤ 1000 ∧ (∀ y ∈ xs, Kd K H y) ∧ ∀ H', Same H H' → Q (.bl (isAm xs)) H') ∨
   (∃ t, TyX K H x t ∧ PySem.W.kitOne K t (.type "tuple") = some false ∧ Q (.bl false) H))
theorem isAm_ints {ns : List Int} (h2 : 2 ≤ ns.length) (h6 : ns.length ≤ 6) (am : Am ns) : isAm (ns.map V.int) = true := by
  simp only [isAm, List.length_map, Bool.and_eq_true, decide_eq_true_eq, List.all_eq_true]
  refine ⟨⟨h2, h6⟩, fun x hx => ?_⟩
  obtain ⟨i, hi, rfl⟩ := List.mem_map.mp hx
  obtain ⟨a, b⟩ := am i hi
  simp [isTo, a, b]
/-- a tuple of two parts, or no tuple -/
def spIsPr (K : PySem.W.Frag) : Sp := fun vs H Q _ => ∃ x : V, vs = [x] ∧
  ((∃ (p : Addr) (xs : List V), x = .ref p ∧ H p = some (.tup xs) ∧ Q (.bl (decide ((xs.length : Int) = 2))) H) ∨
   (∃ t, TyX K H x t ∧ PySem.W.kitOne K t (.type "tuple") = some false ∧ Q (.bl false) H))
def spInit (C : Addr) : Sp := fun vs H Q _ => ∃ (p t dx : Addr) (ns : List Int), vs = [.ref p, .ref t] ∧ H p = some (.ins C dx []) ∧ H t = some (.tup (ns.map V.int)) ∧ 2 ≤ ns.length ∧ ns.length ≤ 6 ∧ Am ns ∧
  ∀ H', Kp p H H' → ShAt C H' p t ns → Q .non H'
theorem mk_at {C t x dx : Addr} {ns : List Int} {H : Hp} {R : Hp → Prop} {E : XK} (nx : H x = none) (nd : H dx = none) (ht : H t = some (.tup (ns.map V.int))) (h2 : 2 ≤ ns.length) (h6 : ns.length ≤ 6) (am : Am ns)
    (k : ∀ H' : Hp, Same H H' → ShAt C H' x t ns → R H') : spInit C (.ref x :: ([.ref t] ++ [])) (upd (upd H dx (.own x)) x (.ins C dx [])) (fun v H2 => v = .non ∧ R H2) E := by
  have s1 : Same H (upd (upd H dx (.own x)) x (.ins C dx [])) := same_put (same_put (Same.refl H) nd) nx
  refine ⟨x, t, dx, ns, rfl, upd_same, s1 _ _ ht, h2, h6, am, fun H' kp sh => ⟨rfl, k H' (fun b o e => kp b o (ne_of_none e nx) (s1 b o e)) sh⟩⟩
def spTotal (C : Addr) : Sp := fun vs H Q _ => ∃ (s t : Addr) (ns : List Int), vs = [.ref s] ∧ ShAt C H s t ns ∧ Q (.int ns.sum) H
def spLen (C : Addr) : Sp := fun vs H Q _ => ∃ (s t : Addr) (ns : List Int), vs = [.ref s] ∧ ShAt C H s t ns ∧ Q (.int ns.length) H
def spCall (C : Addr) : Sp := fun vs H Q _ => ∃ (s t : Addr) (ns : List Int) (k : Nat), vs = [.ref s, .int k] ∧ ShAt C H s t ns ∧ k ≤ ns.length ∧ ∀ H', Same H H' → Q (.int (low ns k)) H'
def spPair (C : Addr) : Sp := fun vs H Q _ => ∃ (s1 t1 s2 t2 : Addr) (ns ms : List Int), vs = [.ref s1, .ref s2] ∧ ShAt C H s1 t1 ns ∧ ShAt C H s2 t2 ms ∧ ns.length = ms.length ∧ Q .non H
def spCalm (C : Addr) : Sp := fun vs H Q _ => ∃ (s1 t1 s2 t2 : Addr) (ns ms : List Int), vs = [.ref s1, .ref s2] ∧ ShAt C H s1 t1 ns ∧ ShAt C H s2 t2 ms ∧ ns.length = ms.length ∧
  ∀ H', Same H H' → Q (.bl (calm ns ms)) H'
def spCalmer (C : Addr) : Sp := fun vs H Q _ => ∃ (s1 t1 s2 t2 : Addr) (ns ms : List Int), vs = [.ref s1, .ref s2] ∧ ShAt C H s1 t1 ns ∧ ShAt C H s2 t2 ms ∧ ns.length = ms.length ∧
  ∀ H', Same H H' → Q (.bl (calm ns ms && !calm ms ns)) H'
end Pl
namespace Pl
open PySem PySem.Spec PyProof.Rows L2
section
variable {P : Program} {w : World} {K : PySem.W.Frag} {mg : Str → Option Value} {base : Heap} {CShare : Addr}
abbrev st_is_integer : Stmt := top 2
theorem sc_is_integer : FnScope ["thing"] ["thing"] (defScope st_is_integer) := ⟨rfl, rfl, rfl, by decide +kernel, rfl, by decide +kernel, by decide +kernel⟩
theorem ok_isi (B : Bn mg) (D : Df K mg "is_integer" st_is_integer ["thing"]) : Cal P w K mg base 1 "is_integer" ["thing"] (spIsI K) := by
  refine D.cal sc_is_integer (fun vs H Q E h => ?_) (fun f cdv A out s H vs Q E hr h => ?_)
  · obtain ⟨x, rfl, _⟩ := h
    rfl
  obtain ⟨x, rfl, ⟨t, bi, bb, ty, k1, k2, kd⟩, k⟩ := h
  refine ⟨_, (pss_one (ps_ret (pe_and (pe_callB call_isi (by rfl) B.n_isinstance (by decide +kernel) (pa_cons (pv 0) (pa_cons (pe_bltn (v := .ty "int") (by rfl) B.n_int (by decide +kernel) rfl) pa_nil))) (pe_one (pe_not (pe_callB call_isi (by rfl) B.n_isinstance (by decide +kernel) (pa_cons (pv 0) (pa_cons (pe_bltn (v := .ty "bool") (by rfl) B.n_bool (by decide +kernel) rfl) pa_nil)))))))), ?_⟩
  refine ⟨_, rfl, x, _, t, _, bi, rfl, .ty _, ty, k1, bi, rfl, ?_⟩
  rw [← kd] at k
  cases bi with
  | false => exact iteF k
  | true =>
    refine iteT ⟨_, rfl, x, _, t, _, bb, rfl, .ty _, ty, k2, bb, rfl, ?_⟩
    exact k
abbrev st_is_integer_to : Stmt := top 3
theorem sc_is_integer_to : FnScope ["thing", "most"] ["thing", "most"] (defScope st_is_integer_to) := ⟨rfl, rfl, rfl, by decide +kernel, rfl, by decide +kernel, by decide +kernel⟩
theorem ok_isint (c_is_integer : Cal P w K mg base 1 "is_integer" ["thing"] (spIsI K)) (D : Df K mg "is_integer_to" st_is_integer_to ["thing", "most"]) : Cal P w K mg base 2 "is_integer_to" ["thing", "most"] (spIsInt K) := by
  refine D.cal sc_is_integer_to (fun vs H Q E h => ?_) (fun f cdv A out s H vs Q E hr h => ?_)
  · obtain ⟨x, m, rfl, _⟩ := h
    rfl
  obtain ⟨x, m, rfl, kd, k⟩ := h
  refine ⟨_, (pss_one (ps_ret (pe_and (pe_fn c_is_integer (hr.mono (by decide)) (pa_cons (pv 0) pa_nil)) (pe_one (pe_chain op_le op_le pe_int (pv 0) (pv 1)))))), ?_⟩
  refine ⟨_, rfl, x, rfl, kd, _, rfl, ?_⟩
  cases x with
  | int i =>
    refine iteT ?_
    refine ⟨_, rfl, _, _, rfl, rfl, _, rfl, ?_⟩
    have e : isTo m (.int i) = (decide (0 ≤ i) && decide (i ≤ m)) := rfl
    rw [e] at k
    refine ite2 (fun c => ?_) (fun c => ?_)
    · have c2 : decide (0 ≤ i) = true := c
      rw [c2] at k
      exact ⟨_, rfl, _, _, rfl, rfl, k⟩
    · have c2 : decide (0 ≤ i) = false := by simpa using c
      rw [c2] at k
      exact k
  | _ => exact iteF k
abbrev st_is_amounts : Stmt := top 18
theorem sc_is_amounts : FnScope ["thing", "amount"] ["thing"] (defScope st_is_amounts) := ⟨rfl, rfl, rfl, by decide +kernel, rfl, by decide +kernel, by decide +kernel⟩
theorem ok_isam (B : Bn mg) (Cc : Cn mg) (c_is_integer_to : Cal P w K mg base 2 "is_integer_to" ["thing", "most"] (spIsInt K)) (D : Df K mg "is_amounts" st_is_amounts ["thing"]) : Cal P w K mg base 3 "is_amounts" ["thing"] (spIsAm K) := by
  refine D.cal sc_is_amounts (fun vs H Q E h => ?_) (fun f cdv A out s H vs Q E hr h => ?_)
  · obtain ⟨x, rfl, _⟩ := h
    rfl
  obtain ⟨x, rfl, h⟩ := h
  refine ⟨_, (pss_cons (ps_if (PW.pt (pw_or (pt_not (pt_val (pe_callB call_isi (by rfl) B.n_isinstance (by decide +kernel) (pa_cons (pv 0) (pa_cons (pe_bltn (v := .ty "tuple") (by rfl) B.n_tuple (by decide +kernel) rfl) pa_nil))))) (pw_or1 (pt_not (pt_chain op_le op_le (pe_glob (v := .int 2) rfl Cc.c_FEWEST_STATES.choose_spec ⟨_, rfl⟩) (pe_callB call_len_seq (by rfl) B.n_len (by decide +kernel) (pa_cons (pv 0) pa_nil)) (pe_glob (v := .int 6) rfl Cc.c_MOST_STATES.choose_spec ⟨_, rfl⟩)))))) (pss_one (ps_ret pe_bl)) pss_nil)
   (pss_one (ps_ret (pe_callB (cr_all rfl) (by rfl) B.n_all (by decide +kernel) (pa_cons (pe_lc (own := [("amount", 1)]) (g := gName 1) rfl sc_is_amounts.nd (pi_tup (pv 0)) (blkOk_by (N := ["thing", "amount"]) (sc := defScope st_is_amounts) (by decide +kernel)) (fun _ _ _ _ _ => (pg_name (i := 1) sc_is_amounts.nd rfl (.inl rfl))) (fun _ _ _ _ _ => pts_nil) (fun _ _ _ _ _ => (pe_fn c_is_integer_to (hr.mono (by decide)) (pa_cons (pv 1) (pa_cons (pe_glob (v := .int 30) rfl Cc.c_MOST_IN_A_STATE.choose_spec ⟨_, rfl⟩) pa_nil))))) pa_nil))))), ?_⟩
  rcases h with ⟨p, xs, rfl, hp, xl, kd, k⟩ | ⟨t, ty, kt, k⟩
  · refine ⟨_, rfl, _, _, _, _, true, rfl, .ty _, .base (.tup hp), kit_ty (by decide +kernel), _, rfl, iteF ?_⟩
    refine ⟨_, rfl, p, _, rfl, .inr (SqT.of hp), _, _, rfl, rfl, _, rfl, ?_⟩
    have no : isAm xs = false → Q (.bl false) H := fun e => by
      have z := k H (Same.refl H)
      rw [e] at z
      exact z
    refine ite2 (fun c => ?_) (fun c => ?_)
    · refine ⟨_, _, rfl, rfl, _, rfl, ?_⟩
      have c2 : (2 : Int) ≤ xs.length := of_decide_eq_true c
      refine ite2 (fun c3 => ?_) (fun c3 => ?_)
      · refine no ?_
        have c4 : ¬ ((xs.length : Int) ≤ 6) := by simpa using c3
        have c5 : decide (xs.length ≤ 6) = false := by simp; omega
        simp [isAm, c5]
      · have c4 : (xs.length : Int) ≤ 6 := by simpa using c3
        have e0 : isAm xs = xs.all (isTo 30) := by
          have a1 : decide (2 ≤ xs.length) = true := by simp; omega
          have a2 : decide (xs.length ≤ 6) = true := by simp; omega
          simp [isAm, a1, a2]
        refine ⟨_, rfl, p, rfl, ⟨_, SqT.of hp⟩, fun D hD => lc_tup (K := K) (a := p) (xs := xs) (fun i H' => Same H H' ∧ H' D = some (.lst ((xs.take i).map fun x => .bl (isTo 30 x))))
          ⟨same_new (Same.refl H) hD, upd_same⟩ (fun i H' _ q => SqT.of (q.1 _ _ hp)) (fun i x H' hx q => ⟨rfl, tyes ?_⟩) (fun H' q => ?_)⟩
        · refine ⟨_, rfl, x, 30, rfl, (kd x (List.mem_of_getElem? hx)).same q.1, ?_⟩
          refine ⟨_, q.2, size_lt (by simp; omega), same_put q.1 hD, ?_⟩
          rw [upd_same, List.take_add_one, hx, List.map_append]
          rfl
        · refine ⟨D, xs.map (isTo 30), rfl, ?_, ?_⟩
          · have e := q.2
            rw [List.take_length] at e
            rw [List.map_map]
            exact SqL.of e
          · have z := k H' q.1
            rw [e0] at z
            have e1 : (xs.map (isTo 30)).all id = xs.all (isTo 30) := by rw [List.all_map]; rfl
            rw [e1]
            exact z
    · refine ⟨_, rfl, iteT (no ?_)⟩
      have c4 : ¬ ((2 : Int) ≤ xs.length) := by simpa using c
      have c5 : decide (2 ≤ xs.length) = false := by simp; omega
      simp [isAm, c5]
  · exact ⟨_, rfl, x, _, t, _, false, rfl, .ty _, ty, kt, _, rfl, iteT (iteT k)⟩
abbrev st_ShInit : Stmt := inClass (top 17) 0
theorem sc_ShInit : FnScope ["self", "amounts"] ["self", "amounts"] (defScope st_ShInit) := ⟨rfl, rfl, rfl, by decide +kernel, rfl, by decide +kernel, by decide +kernel⟩
theorem ok_init (SShare : ShK K mg CShare) (c_is_amounts : Cal P w K mg base 3 "is_amounts" ["thing"] (spIsAm K)) (D : Mh K CShare "__init__" "Share.__init__" st_ShInit ["self", "amounts"]) : MCal P w K mg base 4 CShare "__init__" ["self", "amounts"] (spInit CShare) := by
  refine D.cal sc_ShInit (fun vs H Q E h => ?_) (fun f cdv A out s H vs Q E hr h => ?_)
  · obtain ⟨p, t, dx, ns, rfl, _⟩ := h
    rfl
  obtain ⟨p, t, dx, ns, rfl, hp, ht, h2, h6, am, k⟩ := h
  refine ⟨_, (pss_cons (ps_if (pt_not (pt_val (pe_fn c_is_amounts (hr.mono (by decide)) (pa_cons (pv 1) pa_nil)))) (pss_one ps_never) pss_nil)
   (pss_one (ps_fld (pv 0) (pv 1) rfl))), ?_⟩
  refine ⟨_, rfl, .ref t, rfl, .inl ⟨t, _, rfl, ht, by rw [List.length_map]; omega, fun y hy => ?_, fun H1 s1 => ?_⟩⟩
  · obtain ⟨i, _, rfl⟩ := List.mem_map.mp hy
    exact Kd.int i
  rw [isAm_ints h2 h6 am]
  refine ⟨_, rfl, iteF ?_⟩
  refine ⟨_, rfl, _, rfl, p, CShare, dx, _, rfl, s1 _ _ hp, SShare.cl, SShare.nB, (by show 0 < 1000; decide), ?_⟩
  have tp : t ≠ p := ne_of ht hp (by intro z; cases z)
  exact k _ (fun b o n e => by rw [upd_ne n]; exact s1 _ _ e) ⟨⟨dx, upd_same⟩, by rw [upd_ne tp]; exact s1 _ _ ht, h2, h6, am⟩
end
end Pl
namespace Pl
open PySem PySem.Spec PyProof.Rows L2
section
variable {P : Program} {w : World} {K : PySem.W.Frag} {mg : Str → Option Value} {base : Heap} {CShare : Addr}
abbrev st_Sh_len : Stmt := inClass (top 17) 4
theorem sc_Sh_len : FnScope ["self"] ["self"] (defScope st_Sh_len) := ⟨rfl, rfl, rfl, by decide +kernel, rfl, by decide +kernel, by decide +kernel⟩
theorem ok_len (B : Bn mg) (SShare : ShK K mg CShare) (D : Mh K CShare "__len__" "Share.__len__" st_Sh_len ["self"]) : MCal P w K mg base 2 CShare "__len__" ["self"] (spLen CShare) := by
  refine D.cal sc_Sh_len (fun vs H Q E h => ?_) (fun f cdv A out s H vs Q E hr h => ?_)
  · obtain ⟨s, t, ns, rfl, _⟩ := h
    rfl
  obtain ⟨s, t, ns, rfl, ⟨⟨dx, h1⟩, h2, _⟩, k⟩ := h
  refine ⟨_, (pss_one (ps_ret (pe_callB call_len_seq (by rfl) B.n_len (by decide +kernel) (pa_cons (pe_fld (pv 0) rfl) pa_nil)))), ?_⟩
  refine ⟨_, rfl, s, CShare, dx, _, _, rfl, h1, SShare.cl, SShare.nB, shF_get t, t, _, rfl, .inr (SqT.of h2), ?_⟩
  rw [List.length_map]
  exact k
end
end Pl
namespace Pl
open PySem PySem.Spec PyProof.Rows L2
section
variable {P : Program} {w : World} {K : PySem.W.Frag} {mg : Str → Option Value} {base : Heap} {CShare : Addr}
abbrev st_Sh_amounts : Stmt := inClass (top 17) 1
theorem sc_Sh_amounts : FnScope ["self"] ["self"] (defScope st_Sh_amounts) := ⟨rfl, rfl, rfl, by decide +kernel, rfl, by decide +kernel, by decide +kernel⟩
theorem ok_pamounts (SShare : ShK K mg CShare) (D : Ph K CShare "amounts" "Share.amounts" st_Sh_amounts ["self"]) : PCal P w K mg base 2 CShare "amounts" ["self"] (getSp CShare "by_state") := by
  refine D.cal sc_Sh_amounts (fun vs H Q E h => ?_) (fun f cdv A out s H vs Q E hr h => ?_)
  · obtain ⟨a, dx, fs, v, rfl, _⟩ := h
    rfl
  obtain ⟨a, dx, fs, v, rfl, h1, l, k⟩ := h
  refine ⟨_, (pss_one (ps_ret (pe_fld (pv 0) rfl))), ?_⟩
  exact ⟨_, rfl, a, CShare, dx, _, _, rfl, h1, SShare.cl, SShare.nB, l, k⟩
end
end Pl
namespace Pl
open PySem PySem.Spec PyProof.Rows L2
theorem low_succ {ns : List Int} {i : Nat} {x : Int} (h : (srt ns)[i]? = some x) : low ns (i + 1) = low ns i + x := by
  unfold low
  rw [List.take_add_one, h, List.sum_append]
  simp
theorem perm_sum {l m : List Int} (h : l.Perm m) : l.sum = m.sum := by
  induction h with
  | nil => rfl
  | cons x _ ih => simp [ih]
  | swap x y l => simp; omega
  | trans _ _ a b => exact a.trans b
theorem low_zero (ns : List Int) : low ns 0 = 0 := rfl
theorem low_all (ns : List Int) : low ns ns.length = ns.sum := by
  unfold low
  rw [← srt_length ns, List.take_length]
  exact perm_sum (srt_perm ns)
theorem dpInts (K : PySem.W.Frag) (H : Hp) : ∀ ns : List Int, DpAll K H (ns.map V.int) (ns.map PyData.int)
  | [] => .nil
  | n :: ns => .cons (.int n) (dpInts K H ns)
theorem depthInts : ∀ ns : List Int, PyData.depthAll (ns.map PyData.int) = 0
  | [] => rfl
  | n :: ns => by
    show max 0 (PyData.depthAll (ns.map PyData.int)) = 0
    rw [depthInts ns]; rfl
theorem layInts : ∀ ns : List Int, PyData.canLayAll0 (ns.map PyData.int) = true
  | [] => by simp [PyData.canLayAll0]
  | n :: ns => by
    simp only [List.map_cons, PyData.canLayAll0, PyData.canLay0, layInts ns, Bool.and_self]
theorem shapedInts (ns : List Int) : SeqAt.shaped (.list (ns.map PyData.int)) = true := by
  show (PyData.canLay0 (.list (ns.map PyData.int)) && decide (PyData.depth (.list (ns.map PyData.int)) ≤ 64)) = true
  simp only [PyData.canLay0, PyData.depth, layInts, depthInts]
  decide
theorem cons_erase {x : Int} : ∀ {ns : List Int} {j : Nat}, ns[j]? = some x → ([x] ++ ns.eraseIdx j).Perm ns
  | [], _, h => by simp at h
  | n :: ns, 0, h => by
    obtain rfl : n = x := by simpa using h
    exact List.Perm.refl _
  | n :: ns, j + 1, h => by
    have q := cons_erase (ns := ns) (j := j) (by simpa using h)
    show (x :: n :: ns.eraseIdx j).Perm (n :: ns)
    exact (List.Perm.swap n x _).trans (List.Perm.cons n q)
theorem map_erase {α β : Type} (f : α → β) : ∀ (l : List α) (j : Nat), (l.map f).eraseIdx j = (l.eraseIdx j).map f
  | [], j => rfl
  | x :: l, 0 => rfl
  | x :: l, j + 1 => by
    show f x :: (l.map f).eraseIdx j = f x :: (l.eraseIdx j).map f
    rw [map_erase f l j]
theorem perm_erase {ns ms zs : List Int} {j : Nat} {x : Int} (p : (ms ++ ns).Perm zs) (h : ns[j]? = some x) : ((ms ++ [x]) ++ ns.eraseIdx j).Perm zs := by
  refine List.Perm.trans ?_ p
  rw [List.append_assoc]
  refine List.Perm.append_left _ ?_
  exact cons_erase h
theorem at_int {ms : List Int} {r : Int} (h0 : 0 ≤ r) (h1 : r < ms.length) : ∃ x, ms[r.toNat]? = some x ∧ x ∈ ms ∧ atI (ms.map V.int) r = some (.int x) := by
  obtain ⟨x, hx, e, _⟩ := at_of_lt h0 h1
  refine ⟨x, e, hx, ?_⟩
  have z := atI_nat (xs := ms.map V.int) (j := r.toNat) (v := .int x) (by rw [List.getElem?_map, e]; rfl)
  rw [Int.toNat_of_nonneg h0] at z
  exact z
theorem ix_of {n : Nat} {r : Int} (h0 : 0 ≤ r) (h1 : r < n) : ixN n r = some r.toNat := by
  unfold ixN
  rw [if_pos h0, if_pos h1]
theorem am_set {ms : List Int} {j : Nat} {x : Int} (am : Am ms) (h0 : 0 ≤ x) (h1 : x ≤ 30) : Am (ms.set j x) := fun r hr => by
  rcases List.mem_or_eq_of_mem_set hr with h | h
  · exact am r h
  · rw [h]; exact ⟨h0, h1⟩
end Pl
namespace Pl
open PySem PySem.Spec PyProof.Rows L2
/-- what repr can show -/
def Shw (d : PyData) : Prop := d.showable = true ∧ d.hasDict = false ∧ d.depth ≤ 60 ∧ d.shown.length ≤ sizeLine
/-- data that is not too large to be shown: depth at most k, weight at most m -/
structure Fit (k m : Nat) (d : PyData) : Prop where
  lay : d.canLay0 = true
  short : d.intsShort 13 = true
  dep : d.depth ≤ k
  wt : d.weight ≤ m
  sh : d.showable = true
  nd : d.hasDict = false
structure FitAll (k m : Nat) (ds : List PyData) : Prop where
  lay : PyData.canLayAll0 ds = true
  short : PyData.intsShortAll 13 ds = true
  dep : PyData.depthAll ds ≤ k
  wt : PyData.weightAll ds ≤ m
  sh : PyData.showableAll ds = true
  nd : PyData.hasDictAll ds = false
theorem Fit.shw {k m : Nat} {d : PyData} (f : Fit k m d) (hk : k ≤ 60 := by decide) (hm : m ≤ 2 ^ 20 := by decide) : Shw d := by
  refine ⟨f.sh, f.nd, Nat.le_trans f.dep hk, PyData.shown_fits_of_layable0 (B := 13) (by decide) (by decide) ?_ f.short⟩
  have a1 := f.lay
  have a2 : d.depth ≤ 64 := Nat.le_trans f.dep (by omega)
  have a3 : d.weight ≤ 2 ^ 20 := Nat.le_trans f.wt hm
  simp only [PyData.layable0, a1, a2, a3, decide_true, Bool.and_self]
theorem Fit.mono {k k' m m' : Nat} {d : PyData} (f : Fit k m d) (hk : k ≤ k') (hm : m ≤ m') : Fit k' m' d := ⟨f.lay, f.short, Nat.le_trans f.dep hk, Nat.le_trans f.wt hm, f.sh, f.nd⟩
theorem FitAll.mono {k k' m m' : Nat} {d : List PyData} (f : FitAll k m d) (hk : k ≤ k') (hm : m ≤ m') : FitAll k' m' d := ⟨f.lay, f.short, Nat.le_trans f.dep hk, Nat.le_trans f.wt hm, f.sh, f.nd⟩
theorem FitAll.nil {k : Nat} : FitAll k 0 [] := ⟨by simp [PyData.canLayAll0], by simp [PyData.intsShortAll], by simp [PyData.depthAll], by simp [PyData.weightAll], by simp [PyData.showableAll], by simp [PyData.hasDictAll]⟩
theorem FitAll.cons {k m n : Nat} {d : PyData} {ds : List PyData} (f : Fit k m d) (g : FitAll k n ds) : FitAll k (m + 1 + n) (d :: ds) := by
  refine ⟨?_, ?_, ?_, ?_, ?_, ?_⟩
  · simp [PyData.canLayAll0, f.lay, g.lay]
  · simp [PyData.intsShortAll, f.short, g.short]
  · have a := f.dep
    have b := g.dep
    simp only [PyData.depthAll]; omega
  · have a := f.wt
    have b := g.wt
    simp only [PyData.weightAll]; omega
  · simp [PyData.showableAll, f.sh, g.sh]
  · simp [PyData.hasDictAll, f.nd, g.nd]
theorem Fit.list {k m : Nat} {ds : List PyData} (f : FitAll k m ds) : Fit (k + 1) m (.list ds) :=
  ⟨by simpa [PyData.canLay0] using f.lay, by simpa [PyData.intsShort] using f.short, by simpa [PyData.depth] using f.dep, by simpa [PyData.weight] using f.wt, by simpa [PyData.showable] using f.sh, by simpa [PyData.hasDict] using f.nd⟩
theorem Fit.tuple {k m : Nat} {ds : List PyData} (f : FitAll k m ds) : Fit (k + 1) m (.tuple ds) :=
  ⟨by simpa [PyData.canLay0] using f.lay, by simpa [PyData.intsShort] using f.short, by simpa [PyData.depth] using f.dep, by simpa [PyData.weight] using f.wt, by simpa [PyData.showable] using f.sh, by simpa [PyData.hasDict] using f.nd⟩
theorem Fit.int {k : Nat} {i : Int} (h : i.natAbs < 2 ^ 30) : Fit k 31 (.int i) := by
  have lg : i.natAbs.log2 < 30 := by
    rcases Nat.eq_zero_or_pos i.natAbs with z | z
    · rw [z]; decide
    · exact (Nat.log2_lt (by omega)).mpr h
  refine ⟨by simp [PyData.canLay0], ?_, by simp [PyData.depth], ?_, ?_, by simp [PyData.hasDict]⟩
  · simp only [PyData.intsShort, decide_eq_true_eq]
    exact PyData.shown_int_le (by omega)
  · simp only [PyData.weight]
    split <;> omega
  · simp only [PyData.showable, decide_eq_true_eq]
    omega
theorem Fit.bool {k : Nat} (b : Bool) : Fit k 0 (.bool b) := ⟨by simp [PyData.canLay0], by simp [PyData.intsShort], by simp [PyData.depth], by simp [PyData.weight], by simp [PyData.showable], by simp [PyData.hasDict]⟩
theorem Fit.none {k : Nat} : Fit k 0 .none := ⟨by simp [PyData.canLay0], by simp [PyData.intsShort], by simp [PyData.depth], by simp [PyData.weight], by simp [PyData.showable], by simp [PyData.hasDict]⟩
theorem Fit.str {k : Nat} {x : Str} (h : PyData.strOk x = true) : Fit k x.cps.size (.str x) := ⟨by simpa [PyData.canLay0] using h, by simp [PyData.intsShort], by simp [PyData.depth], by simp [PyData.weight], by simp [PyData.showable], by simp [PyData.hasDict]⟩
theorem FitAll.ints {k : Nat} : ∀ {ns : List Int}, (∀ x ∈ ns, x.natAbs < 2 ^ 30) → FitAll k (32 * ns.length) (ns.map PyData.int)
  | [], _ => FitAll.nil
  | n :: ns, h => (FitAll.cons (Fit.int (h n List.mem_cons_self)) (FitAll.ints (ns := ns) fun x hx => h x (List.mem_cons_of_mem _ hx))).mono (Nat.le_refl _) (by simp; omega)
end Pl
namespace Pl
open PySem PySem.Spec PyProof.Rows L2
theorem Shw.v {x : V} {d : PyData} (h : Shw d) (n : ∀ i, x ≠ .int i := by intro _ z; cases z) : ShV x d := ⟨h.1, h.2.1, h.2.2.1, h.2.2.2, fun i e => absurd e (n i)⟩
def spEqualV (K : PySem.W.Frag) : Sp := fun vs H Q _ => ∃ (x y : V) (d e : PyData), vs = [x, y] ∧ Dp K H x d ∧ Dp K H y e ∧ ShV x d ∧ ShV y e ∧ Q (.bl (decide (V.str d.shown = V.str e.shown))) H
section
variable {P : Program} {w : World} {K : PySem.W.Frag} {mg : Str → Option Value} {base : Heap} {CShare : Addr}
abbrev st_l_is_equal : Stmt := top 32
theorem sc_l_is_equal : FnScope ["_law_actual", "_law_expected"] ["_law_actual", "_law_expected"] (defScope st_l_is_equal) := ⟨rfl, rfl, rfl, by decide +kernel, rfl, by decide +kernel, by decide +kernel⟩
theorem ok_equalV (B : Bn mg) (D : Df K mg "_law_is_equal" st_l_is_equal ["_law_actual", "_law_expected"]) : CalG P w K mg base 2 "_law_is_equal" ["_law_actual", "_law_expected"] (spEqualV K) := by
  refine D.calG sc_l_is_equal (fun vs H Q E h => ?_) (fun f cdv A out s H vs Q E gd hr h => ?_)
  · obtain ⟨x, y, d, e, rfl, _⟩ := h
    rfl
  obtain ⟨x, y, d, e, rfl, dp, dq, s1, s2, k⟩ := h
  refine ⟨_, (pss_one (ps_ret (pe_cmpR op_eq (pe_callB (call_reprV gd (un66 hr)) (by rfl) B.n_repr (by decide +kernel) (pa_cons (pv 0) pa_nil)) (pe_callB (call_reprV gd (un66 hr)) (by rfl) B.n_repr (by decide +kernel) (pa_cons (pv 1) pa_nil)) (nomark _)))), ?_⟩
  exact ⟨_, rfl, x, d, rfl, dp, s1, _, rfl, y, e, rfl, dq, s2, rfl, k⟩
end
end Pl
namespace Pl
open PySem PySem.Spec PyProof.Rows L2
theorem sqT_same {K : PySem.W.Frag} {H H' : Hp} {a : Addr} {xs : List V} (e : Same H H') (h : SqT K H a xs) : SqT K H' a xs := by
  rcases h with (h | ⟨o, h⟩) | h
  · exact .inl (.inl (e _ _ h))
  · exact .inl (.inr ⟨o, e _ _ h⟩)
  · exact .inr h
mutual
theorem dpSame {K : PySem.W.Frag} {H H' : Hp} (k : Same H H') : ∀ (d : PyData) (v : V), Dp K H v d → Dp K H' v d
  | .none, _, h => by cases h; exact .non
  | .bool b, _, h => by cases h; exact .bl b
  | .int i, _, h => by cases h; exact .int i
  | .str z, _, h => by cases h; exact .str z
  | .list ds, _, h => by
    cases h with
    | lst a b => exact .lst (k.seq a) (dpSameAll k ds _ b)
  | .tuple ds, _, h => by
    cases h with
    | tup a b => exact .tup (sqT_same k a) (dpSameAll k ds _ b)
  | .dict _, _, h => by cases h
theorem dpSameAll {K : PySem.W.Frag} {H H' : Hp} (k : Same H H') : ∀ (ds : List PyData) (vs : List V), DpAll K H vs ds → DpAll K H' vs ds
  | [], _, h => by cases h; exact .nil
  | d :: ds, _, h => by
    cases h with
    | cons a b => exact .cons (dpSame k d _ a) (dpSameAll k ds _ b)
end
end Pl
namespace Pl
open PySem PySem.Spec PyProof.Rows L2
section
variable {P : Program} {w : World} {K : PySem.W.Frag} {mg : Str → Option Value} {base : Heap} {CShare : Addr}
abbrev st_check_pair : Stmt := top 20
theorem sc_check_pair : FnScope ["one", "other"] ["one", "other"] (defScope st_check_pair) := ⟨rfl, rfl, rfl, by decide +kernel, rfl, by decide +kernel, by decide +kernel⟩
theorem ok_pair (B : Bn mg) (SShare : ShK K mg CShare) (m_len : MCal P w K mg base 2 CShare "__len__" ["self"] (spLen CShare)) (D : Df K mg "check_pair" st_check_pair ["one", "other"]) : Cal P w K mg base 4 "check_pair" ["one", "other"] (spPair CShare) := by
  refine D.cal sc_check_pair (fun vs H Q E h => ?_) (fun f cdv A out s H vs Q E hr h => ?_)
  · obtain ⟨s1, t1, s2, t2, ns, ms, rfl, _⟩ := h
    rfl
  obtain ⟨s1, t1, s2, t2, ns, ms, rfl, sh1, sh2, ln, k⟩ := h
  refine ⟨_, (pss_cons (ps_if (PW.pt (pw_or (pt_not (pt_val (pe_callB call_isi (by rfl) B.n_isinstance (by decide +kernel) (pa_cons (pv 0) (pa_cons (pe_glob (v := .ref CShare) rfl SShare.mgC rfl) pa_nil))))) (pw_or1 (pt_not (pt_val (pe_callB call_isi (by rfl) B.n_isinstance (by decide +kernel) (pa_cons (pv 1) (pa_cons (pe_glob (v := .ref CShare) rfl SShare.mgC rfl) pa_nil)))))))) (pss_one ps_never) pss_nil)
   (pss_one (ps_if (pt_cmpR op_ne (pe_callB (call_lenM m_len (hr.mono (by decide))) (by rfl) B.n_len (by decide +kernel) (pa_cons (pv 0) pa_nil)) (pe_callB (call_lenM m_len (hr.mono (by decide))) (by rfl) B.n_len (by decide +kernel) (pa_cons (pv 1) pa_nil)) (nomark _)) (pss_one ps_never) pss_nil))), ?_⟩
  obtain ⟨⟨d1, a1⟩, _, _, l1, _⟩ := id sh1
  obtain ⟨⟨d2, a2⟩, _, _, l2, _⟩ := id sh2
  have ty : ∀ {s d t : Addr}, H s = some (.ins CShare d (shF t)) → TyX K H (.ref s) (.ref CShare) := fun e => .base (.ins e SShare.cl SShare.ca SShare.cg SShare.ct SShare.mro)
  refine ⟨_, rfl, _, _, _, _, true, rfl, .own _, ty a1, SShare.kit, _, rfl, iteF ?_⟩
  refine ⟨_, rfl, _, _, _, _, true, rfl, .own _, ty a2, SShare.kit, _, rfl, iteF ?_⟩
  refine ⟨_, rfl, s1, d1, _, rfl, a1, s1, t1, ns, rfl, sh1, ns.length, rfl, by omega, ?_⟩
  refine ⟨_, rfl, s2, d2, _, rfl, a2, s2, t2, ms, rfl, sh2, ms.length, rfl, by omega, rfl, _, rfl, ?_⟩
  rw [ln]
  exact iteNS rfl k
end
end Pl
namespace Pl
open PySem PySem.Spec PyProof.Rows L2
/-! what the top has written of Division -/
structure Cd (mg : Str → Option Value) : Prop where
  c_FEWEST_PEOPLE : ∃ t, mg "FEWEST_PEOPLE" = some (.int 2 t)
  c_MOST_PEOPLE : ∃ t, mg "MOST_PEOPLE" = some (.int 4 t)
structure DvK (K : PySem.W.Frag) (mg : Str → Option Value) (C : Addr) : Prop where
  cl : Cls K C
  nP : NoAttr K C "by_person"
  mgC : mg "Division" = some (.ref C)
  mks : PySem.W.makesIn K C = true
  kc : PySem.W.keepIn K (.ref C) = true
  ca : PySem.W.findIn K (.ref C) "__class__" = some (some (.builtin "object.__class__"))
  cg : PySem.W.specialIn K (.builtin "object.__class__") "__get__" = some (some (.builtin "getset_descriptor.__get__"))
  ct : PySem.W.takesIn K (.builtin "object.__class__") = some true
  mro : PySem.W.mroIn K C (.type "object") = some true
  kit : PySem.W.kitOne K (.ref C) (.ref C) = some true
structure DvF (K : PySem.W.Frag) (C : Addr) : Prop where
  pg : PySem.W.plainGet K C Str.empty = true
  hd : PySem.W.hasDictIn K C = true
  po : PySem.W.plainOver K C = true
  sa : PySem.W.findIn K (.ref C) "__setattr__" = some (some (.builtin "object.__setattr__"))
  nP : PySem.W.findIn K (.ref C) "by_person" = some none
  mks : PySem.W.makesIn K C = true
  kc : PySem.W.keepIn K (.ref C) = true
  ca : PySem.W.findIn K (.ref C) "__class__" = some (some (.builtin "object.__class__"))
  cg : PySem.W.specialIn K (.builtin "object.__class__") "__get__" = some (some (.builtin "getset_descriptor.__get__"))
  ct : PySem.W.takesIn K (.builtin "object.__class__") = some true
  mro : PySem.W.mroIn K C (.type "object") = some true
  kit : PySem.W.kitOne K (.ref C) (.ref C) = some true
theorem DvF.k {K : PySem.W.Frag} {mg : Str → Option Value} {C : Addr} (s : DvF K C) (g : mg "Division" = some (.ref C)) : DvK K mg C :=
  ⟨⟨s.pg, s.hd, s.po, s.sa⟩, s.nP, g, s.mks, s.kc, s.ca, s.cg, s.ct, s.mro, s.kit⟩
/-- shares with these amounts stand at these places -/
inductive ShAll (C : Addr) (H : Hp) : List Addr → List (List Int) → Prop where
  | nil : ShAll C H [] []
  | cons {s t : Addr} {ns : List Int} {ss : List Addr} {rows : List (List Int)} (h : ShAt C H s t ns) (r : ShAll C H ss rows) : ShAll C H (s :: ss) (ns :: rows)
theorem ShAll.same {C : Addr} {H H' : Hp} (k : Same H H') : ∀ {ss : List Addr} {rows : List (List Int)}, ShAll C H ss rows → ShAll C H' ss rows
  | _, _, .nil => .nil
  | _, _, .cons h r => .cons (h.same k) (r.same k)
theorem ShAll.len {C : Addr} {H : Hp} : ∀ {ss : List Addr} {rows : List (List Int)}, ShAll C H ss rows → ss.length = rows.length
  | _, _, .nil => rfl
  | _, _, .cons h r => by rw [List.length_cons, List.length_cons, r.len]
theorem ShAll.get {C : Addr} {H : Hp} : ∀ {ss : List Addr} {rows : List (List Int)} {i : Nat} {s : Addr}, ShAll C H ss rows → ss[i]? = some s → ∃ t ns, rows[i]? = some ns ∧ ShAt C H s t ns
  | _, _, 0, _, .cons h r, e => by cases e; exact ⟨_, _, rfl, h⟩
  | _, _, i + 1, _, .cons h r, e => by
    obtain ⟨t, ns, a, b⟩ := r.get (i := i) e
    exact ⟨t, ns, a, b⟩
  | _, _, _, _, .nil, e => by cases e
theorem ShAll.snoc {C : Addr} {H : Hp} {s t : Addr} {ns : List Int} (x : ShAt C H s t ns) : ∀ {ss : List Addr} {rows : List (List Int)}, ShAll C H ss rows → ShAll C H (ss ++ [s]) (rows ++ [ns])
  | _, _, .nil => .cons x .nil
  | _, _, .cons h r => .cons h (r.snoc x)
/-- the amounts of a division -/
def Rows (rows : List (List Int)) : Prop := 2 ≤ rows.length ∧ rows.length ≤ 4 ∧ ∃ n, 2 ≤ n ∧ n ≤ 6 ∧ ∀ ns ∈ rows, ns.length = n ∧ Am ns
theorem Rows.ne {rows : List (List Int)} (h : Rows rows) : rows ≠ [] := fun e => by
  have := h.1
  rw [e] at this
  simp at this
theorem Rows.am {rows : List (List Int)} (h : Rows rows) : ∀ ns ∈ rows, Am ns := fun ns hn => by
  obtain ⟨_, _, n, _, _, q⟩ := h
  exact (q ns hn).2
theorem Rows.l2 {rows : List (List Int)} (h : Rows rows) {ns : List Int} (hn : ns ∈ rows) : 2 ≤ ns.length := by
  obtain ⟨_, _, n, a, _, q⟩ := h
  have := (q ns hn).1
  omega
theorem Rows.l6 {rows : List (List Int)} (h : Rows rows) {ns : List Int} (hn : ns ∈ rows) : ns.length ≤ 6 := by
  obtain ⟨_, _, n, _, a, q⟩ := h
  have := (q ns hn).1
  omega
theorem Rows.eq {rows : List (List Int)} (h : Rows rows) {ns ms : List Int} (hn : ns ∈ rows) (hm : ms ∈ rows) : ns.length = ms.length := by
  obtain ⟨_, _, n, _, a, q⟩ := h
  rw [(q ns hn).1, (q ms hm).1]
def dvF (t : Addr) : List (Str × V) := [("by_person", .ref t)]
theorem dvF_get (t : Addr) : (dvF t).lookup ("by_person" : Str) = some (.ref t) := by simp [dvF, List.lookup]
/-- a division with the amounts rows stands at d, its tuple of shares at t -/
def DvAt (CD C : Addr) (H : Hp) (d t : Addr) (ss : List Addr) (rows : List (List Int)) : Prop := (∃ dx, H d = some (.ins CD dx (dvF t))) ∧ H t = some (.tup (ss.map V.ref)) ∧ ShAll C H ss rows ∧ Rows rows
theorem DvAt.same {CD C : Addr} {H H' : Hp} {d t : Addr} {ss : List Addr} {rows : List (List Int)} (h : DvAt CD C H d t ss rows) (k : Same H H') : DvAt CD C H' d t ss rows := by
  obtain ⟨⟨dx, h1⟩, h2, h3, r⟩ := h
  exact ⟨⟨dx, k _ _ h1⟩, k _ _ h2, h3.same k, r⟩
def spDvInit (CD C : Addr) : Sp := fun vs H Q _ => ∃ (d p dx : Addr) (ss : List Addr) (rows : List (List Int)), vs = [.ref d, .ref p] ∧ H d = some (.ins CD dx []) ∧ H p = some (.tup (ss.map V.ref)) ∧ ShAll C H ss rows ∧ Rows rows ∧
  ∀ H', Kp d H H' → DvAt CD C H' d p ss rows → Q .non H'
theorem ShAll.kp {C d : Addr} {H H' : Hp} (k : Kp d H H') (hd : ∃ CD dx fs, H d = some (.ins CD dx fs) ∧ ∀ t, fs ≠ shF t) : ∀ {ss : List Addr} {rows : List (List Int)}, ShAll C H ss rows → ShAll C H' ss rows
  | _, _, .nil => .nil
  | _, _, .cons (s := s) (t := t) h r => by
    refine .cons (t := t) ?_ (r.kp k hd)
    obtain ⟨CD, dx, fs, e, nf⟩ := hd
    obtain ⟨⟨dx2, h1⟩, h2, q⟩ := h
    refine ⟨⟨dx2, k _ _ (fun z => ?_) h1⟩, k _ _ (fun z => ?_) h2, q⟩
    · rw [z, e] at h1
      injection h1 with h1
      injection h1 with _ _ h1
      exact nf _ h1
    · rw [z, e] at h2
      cases h2
end Pl
namespace Pl
open PySem PySem.Spec PyProof.Rows L2
def spSpaced : Sp := fun vs H Q _ => ∃ (t : Addr) (ns : List Int), vs = [.ref t] ∧ H t = some (.tup (ns.map V.int)) ∧ ns.length ≤ 6 ∧ Am ns ∧ ∀ H', Same H H' → Q (.str (line ns)) H'
def spReadAmount : Sp := fun vs H Q _ => ∃ n : Int, vs = [.str (wd n)] ∧ 0 ≤ n ∧ n ≤ 30 ∧ Q (.int n) H
def spReadShare (C : Addr) : Sp := fun vs H Q _ => ∃ ns : List Int, vs = [.str (line ns)] ∧ 2 ≤ ns.length ∧ ns.length ≤ 6 ∧ Am ns ∧ ∀ (s t : Addr) (H' : Hp), Same H H' → ShAt C H' s t ns → Q (.ref s) H'
theorem log_am {n : Int} (h0 : 0 ≤ n) (h1 : n ≤ 30) : n.natAbs.log2 < 1920 := by
  have h : n.natAbs < 2 ^ 1920 := Nat.lt_of_le_of_lt (show n.natAbs ≤ 30 by omega) (by decide +kernel)
  by_cases z : n.natAbs = 0
  · rw [z]; decide
  · exact (Nat.log2_lt z).mpr h
theorem words_len {ns : List Int} (am : Am ns) : ((ns.map wd).map (·.length)).sum ≤ 2 * ns.length := by
  induction ns with
  | nil => simp
  | cons n r ih =>
    have h1 := (wd_ok (am n List.mem_cons_self).1 (am n List.mem_cons_self).2).2.2
    rw [← TL.len_tl] at h1
    have h2 := ih fun x hx => am x (List.mem_cons_of_mem _ hx)
    simp only [List.map_cons, List.sum_cons, List.length_cons]
    omega
section
variable {P : Program} {w : World} {K : PySem.W.Frag} {mg : Str → Option Value} {base : Heap} {CShare CDivision : Addr}
abbrev st_spaced : Stmt := top 19
theorem sc_spaced : FnScope ["amounts", "amount"] ["amounts"] (defScope st_spaced) := ⟨rfl, rfl, rfl, by decide +kernel, rfl, by decide +kernel, by decide +kernel⟩
theorem ok_spaced (B : Bn mg) (D : Df K mg "spaced" st_spaced ["amounts"]) : Cal P w K mg base 2 "spaced" ["amounts"] spSpaced := by
  refine D.cal sc_spaced (fun vs H Q E h => ?_) (fun f cdv A out s H vs Q E hr h => ?_)
  · obtain ⟨t, ns, rfl, _⟩ := h
    rfl
  obtain ⟨t, ns, rfl, ht, l6, am, k⟩ := h
  refine ⟨_, (pss_one (ps_ret (pe_join pe_str (pe_lc (own := [("amount", 1)]) (g := gName 1) rfl sc_spaced.nd (pi_tup (pv 0)) (blkOk_by (N := ["amounts", "amount"]) (sc := defScope st_spaced) (by decide +kernel)) (fun _ _ _ _ _ => (pg_name (i := 1) sc_spaced.nd rfl (.inl rfl))) (fun _ _ _ _ _ => pts_nil) (fun _ _ _ _ _ => (pe_callTy call_str_int (by rfl) B.n_str (by decide +kernel) (pa_cons (pv 1) pa_nil))))))), ?_⟩
  refine ⟨⟨_, rfl⟩, _, rfl, t, rfl, ⟨_, SqT.of ht⟩, fun D hD => lc_tup (K := K) (a := t) (xs := ns.map V.int) (fun i H' => Same H H' ∧ H' D = some (.lst (((ns.map wd).take i).map V.str)))
    ⟨same_new (Same.refl H) hD, upd_same⟩ (fun i H' _ q => SqT.of (q.1 _ _ ht)) (fun i x H' hx q => ⟨rfl, tyes ?_⟩) (fun H' q => ?_)⟩
  · rw [List.getElem?_map] at hx
    cases e : ns[i]? with
    | none => rw [e] at hx; cases hx
    | some n =>
      rw [e] at hx
      obtain rfl : V.int n = x := Option.some.inj hx
      have a := am n (List.mem_of_getElem? e)
      refine ⟨_, rfl, n, rfl, log_am a.1 a.2, _, q.2, size_lt (by rw [List.length_map, List.length_take, List.length_map]; omega), same_put q.1 hD, ?_⟩
      have e2 : (ns.map wd)[i]? = some (wd n) := by rw [List.getElem?_map, e]; rfl
      rw [upd_same, List.take_add_one, e2, List.map_append]
      rfl
  · have e := q.2
    rw [List.length_map, ← List.length_map (f := wd), List.take_length] at e
    refine ⟨_, D, ns.map wd, rfl, rfl, .inl (SqL.of e), ?_, ?_⟩
    · have := words_len am
      have l1 : (" " : Str).length = 1 := rfl
      rw [l1, List.length_map]
      omega
    · rw [TL.join_eq]
      exact k H' q.1
abbrev st_read_amount : Stmt := top 26
theorem sc_read_amount : FnScope ["word", "amount"] ["word"] (defScope st_read_amount) := ⟨rfl, rfl, rfl, by decide +kernel, rfl, by decide +kernel, by decide +kernel⟩
abbrev st_read_share : Stmt := top 25
theorem sc_read_share : FnScope ["line", "word"] ["line"] (defScope st_read_share) := ⟨rfl, rfl, rfl, by decide +kernel, rfl, by decide +kernel, by decide +kernel⟩
abbrev st_DvInit : Stmt := inClass (top 24) 1
theorem sc_DvInit : FnScope ["self", "shares", "share"] ["self", "shares"] (defScope st_DvInit) := ⟨rfl, rfl, rfl, by decide +kernel, rfl, by decide +kernel, by decide +kernel⟩
end
end Pl
namespace Pl
open PySem PySem.Spec PyProof.Rows L2
def spRead (CD C : Addr) : Sp := fun vs H Q _ => ∃ rows : List (List Int), vs = [.ref CD, .str (text rows)] ∧ Rows rows ∧ ∀ (d t : Addr) (ss : List Addr) (H' : Hp), Same H H' → DvAt CD C H' d t ss rows → Q (.ref d) H'
def spPeople (CD C : Addr) : Sp := fun vs H Q _ => ∃ (d t : Addr) (ss : List Addr) (rows : List (List Int)), vs = [.ref d] ∧ DvAt CD C H d t ss rows ∧ Q (.int rows.length) H
def spStates (CD C : Addr) : Sp := fun vs H Q _ => ∃ (d t : Addr) (ss : List Addr) (rows : List (List Int)), vs = [.ref d] ∧ DvAt CD C H d t ss rows ∧ ∀ ns ∈ rows, Q (.int ns.length) H
def spText (CD C : Addr) : Sp := fun vs H Q _ => ∃ (d t : Addr) (ss : List Addr) (rows : List (List Int)), vs = [.ref d] ∧ DvAt CD C H d t ss rows ∧ ∀ H', Same H H' → Q (.str (text rows)) H'
theorem Rows.tlen {rows : List (List Int)} (h : Rows rows) : (text rows).length ≤ 76 := text_len (m := 6) (k := 4) h.2.1 (fun ns hn => h.l6 hn) h.am
theorem ShAll.get2 {C : Addr} {H : Hp} : ∀ {ss : List Addr} {rows : List (List Int)} {i : Nat} {ns : List Int}, ShAll C H ss rows → rows[i]? = some ns → ∃ s t, ss[i]? = some s ∧ ShAt C H s t ns
  | _, _, 0, _, .cons h r, e => by cases e; exact ⟨_, _, rfl, h⟩
  | _, _, i + 1, _, .cons h r, e => by
    obtain ⟨t, ns, a, b⟩ := r.get2 (i := i) e
    exact ⟨t, ns, a, b⟩
  | _, _, _, _, .nil, e => by cases e
/-- shares are read one by one -/
def RInv (C D : Addr) (H0 : Hp) (rows : List (List Int)) (i : Nat) (H : Hp) : Prop := Same H0 H ∧ ∃ ss : List Addr, H D = some (.lst (ss.map V.ref)) ∧ ShAll C H ss (rows.take i)
theorem RInv.start {C D : Addr} {H0 : Hp} {rows : List (List Int)} (h : H0 D = none) : RInv C D H0 rows 0 (L2.upd H0 D (.lst [])) := ⟨same_new (Same.refl H0) h, [], upd_same, .nil⟩
theorem ShAt.put {C D : Addr} {H : Hp} {s t : Addr} {ns : List Int} {xs : List V} {o : HO} (h : ShAt C H s t ns) (e : H D = some (.lst xs)) : ShAt C (L2.upd H D o) s t ns := by
  obtain ⟨⟨dx, h1⟩, h2, r⟩ := h
  exact ⟨⟨dx, by rw [upd_ne (ne_of h1 e (by intro z; cases z))]; exact h1⟩, by rw [upd_ne (ne_of h2 e (by intro z; cases z))]; exact h2, r⟩
theorem ShAll.put {C D : Addr} {H : Hp} {xs : List V} {o : HO} (e : H D = some (.lst xs)) : ∀ {ss : List Addr} {rows : List (List Int)}, ShAll C H ss rows → ShAll C (L2.upd H D o) ss rows
  | _, _, .nil => .nil
  | _, _, .cons h r => .cons (h.put e) (r.put e)
theorem RInv.next {C D s t : Addr} {H0 H H' : Hp} {rows : List (List Int)} {i : Nat} {ns : List Int} (p : RInv C D H0 rows i H) (n : H0 D = none) (l : rows.length ≤ 900) (e : rows[i]? = some ns) (k : Same H H') (sh : ShAt C H' s t ns) :
    ∃ acc, H' D = some (.lst acc) ∧ acc.length < sizeLine ∧ RInv C D H0 rows (i + 1) (L2.upd H' D (.lst (acc ++ [.ref s]))) := by
  obtain ⟨s0, ss, hd, al⟩ := p
  have hd2 := k _ _ hd
  have hl := al.len
  refine ⟨_, hd2, size_lt ?_, same_put (s0.trans k) n, ss ++ [s], ?_, ?_⟩
  · rw [List.length_map, hl, List.length_take]; omega
  · rw [upd_same, List.map_append]; rfl
  · rw [List.take_add_one, e]
    exact ((al.same k).put hd2).snoc (sh.put hd2)
theorem sum_le {α : Type} {f : α → Str} {c : Nat} : ∀ {l : List α}, (∀ x ∈ l, (f x).length ≤ c) → ((l.map f).map (·.length)).sum ≤ c * l.length
  | [], _ => Nat.zero_le _
  | x :: r, h => by
    have h1 := h x List.mem_cons_self
    have h2 := sum_le fun y hy => h y (List.mem_cons_of_mem _ hy)
    simp only [List.map_cons, List.sum_cons, List.length_cons, Nat.mul_add, Nat.mul_one]
    omega
section
variable {P : Program} {w : World} {K : PySem.W.Frag} {mg : Str → Option Value} {base : Heap} {CShare CDivision : Addr}
abbrev st_Di_read : Stmt := inClass (top 24) 2
theorem sc_Di_read : FnScope ["cls", "text", "shares", "line"] ["cls", "text"] (defScope st_Di_read) := ⟨rfl, rfl, rfl, by decide +kernel, rfl, by decide +kernel, by decide +kernel⟩
abbrev st_Di_shares : Stmt := inClass (top 24) 3
theorem sc_Di_shares : FnScope ["self"] ["self"] (defScope st_Di_shares) := ⟨rfl, rfl, rfl, by decide +kernel, rfl, by decide +kernel, by decide +kernel⟩
theorem ok_pshares (SDivision : DvK K mg CDivision) (D : Ph K CDivision "shares" "Division.shares" st_Di_shares ["self"]) : PCal P w K mg base 2 CDivision "shares" ["self"] (getSp CDivision "by_person") := by
  refine D.cal sc_Di_shares (fun vs H Q E h => ?_) (fun f cdv A out s H vs Q E hr h => ?_)
  · obtain ⟨a, dx, fs, v, rfl, _⟩ := h
    rfl
  obtain ⟨a, dx, fs, v, rfl, h1, l, k⟩ := h
  refine ⟨_, (pss_one (ps_ret (pe_fld (pv 0) rfl))), ?_⟩
  exact ⟨_, rfl, a, CDivision, dx, _, _, rfl, h1, SDivision.cl, SDivision.nP, l, k⟩
abbrev st_Di_people : Stmt := inClass (top 24) 4
theorem sc_Di_people : FnScope ["self"] ["self"] (defScope st_Di_people) := ⟨rfl, rfl, rfl, by decide +kernel, rfl, by decide +kernel, by decide +kernel⟩
theorem ok_people (B : Bn mg) (SDivision : DvK K mg CDivision) (D : Ph K CDivision "people" "Division.people" st_Di_people ["self"]) : PCal P w K mg base 2 CDivision "people" ["self"] (spPeople CDivision CShare) := by
  refine D.cal sc_Di_people (fun vs H Q E h => ?_) (fun f cdv A out s H vs Q E hr h => ?_)
  · obtain ⟨d, t, ss, rows, rfl, _⟩ := h
    rfl
  obtain ⟨d, t, ss, rows, rfl, ⟨⟨dx, hd⟩, ht, al, rw_⟩, k⟩ := h
  refine ⟨_, (pss_one (ps_ret (pe_callB call_len_seq (by rfl) B.n_len (by decide +kernel) (pa_cons (pe_fld (pv 0) rfl) pa_nil)))), ?_⟩
  refine ⟨_, rfl, d, CDivision, dx, _, _, rfl, hd, SDivision.cl, SDivision.nP, dvF_get t, t, _, rfl, .inr (SqT.of ht), ?_⟩
  rw [List.length_map, al.len]
  exact k
abbrev st_Di_states : Stmt := inClass (top 24) 5
theorem sc_Di_states : FnScope ["self"] ["self"] (defScope st_Di_states) := ⟨rfl, rfl, rfl, by decide +kernel, rfl, by decide +kernel, by decide +kernel⟩
theorem ok_states (B : Bn mg) (SDivision : DvK K mg CDivision) (m_len : MCal P w K mg base 2 CShare "__len__" ["self"] (spLen CShare)) (D : Ph K CDivision "states" "Division.states" st_Di_states ["self"]) : PCal P w K mg base 4 CDivision "states" ["self"] (spStates CDivision CShare) := by
  refine D.cal sc_Di_states (fun vs H Q E h => ?_) (fun f cdv A out s H vs Q E hr h => ?_)
  · obtain ⟨d, t, ss, rows, rfl, _⟩ := h
    rfl
  obtain ⟨d, t, ss, rows, rfl, ⟨⟨dx, hd⟩, ht, al, rw_⟩, k⟩ := h
  refine ⟨_, (pss_one (ps_ret (pe_callB (call_lenM m_len (hr.mono (by decide))) (by rfl) B.n_len (by decide +kernel) (pa_cons (pe_ix ix_tup (pe_fld (pv 0) rfl) pe_int (fun _ _ => rfl)) pa_nil)))), ?_⟩
  have l0 : 0 < rows.length := by have := rw_.1; omega
  have e0 : rows[0]? = some rows[0] := List.getElem?_eq_getElem l0
  obtain ⟨s1, t1, es, sh⟩ := al.get2 e0
  have m := List.mem_of_getElem? e0
  have l6 := rw_.l6 m
  refine ⟨_, rfl, d, CDivision, dx, _, _, rfl, hd, SDivision.cl, SDivision.nP, dvF_get t, t, _, _, _, rfl, rfl, SqT.of ht, atI_nat (j := 0) (by rw [List.getElem?_map, es]; rfl), ?_⟩
  obtain ⟨d1, a1⟩ := sh.1
  exact ⟨s1, d1, _, rfl, a1, s1, t1, rows[0], rfl, sh, rows[0].length, rfl, by omega, k _ m⟩
abbrev st_Di_text : Stmt := inClass (top 24) 10
theorem sc_Di_text : FnScope ["self", "share"] ["self"] (defScope st_Di_text) := ⟨rfl, rfl, rfl, by decide +kernel, rfl, by decide +kernel, by decide +kernel⟩
theorem ok_text (B : Bn mg) (SShare : ShK K mg CShare) (SDivision : DvK K mg CDivision) (p_amounts : PCal P w K mg base 2 CShare "amounts" ["self"] (getSp CShare "by_state")) (c_spaced : Cal P w K mg base 2 "spaced" ["amounts"] spSpaced)
    (D : Mh K CDivision "text" "Division.text" st_Di_text ["self"]) : MCal P w K mg base 4 CDivision "text" ["self"] (spText CDivision CShare) := by
  refine D.cal sc_Di_text (fun vs H Q E h => ?_) (fun f cdv A out s H vs Q E hr h => ?_)
  · obtain ⟨d, t, ss, rows, rfl, _⟩ := h
    rfl
  obtain ⟨d, t, ss, rows, rfl, ⟨⟨dx, hd⟩, ht, al, rw_⟩, k⟩ := h
  refine ⟨_, (pss_one (ps_ret (pe_join pe_str (pe_lc (own := [("share", 1)]) (g := gName 1) rfl sc_Di_text.nd (pi_tup (pe_fld (pv 0) rfl)) (blkOk_by (N := ["self", "share"]) (sc := defScope st_Di_text) (by decide +kernel)) (fun _ _ _ _ _ => (pg_name (i := 1) sc_Di_text.nd rfl (.inl rfl))) (fun _ _ _ _ _ => pts_nil) (fun _ _ _ _ _ => (pe_js (.cons (pe_fmt (pe_fn c_spaced (hr.mono (by decide)) (pa_cons (pe_pr p_amounts SShare.cl (hr.mono (by decide)) (pv 1)) pa_nil))) (.cons pe_str .nil)))))))), ?_⟩
  have ln := al.len
  refine ⟨⟨_, rfl⟩, ?_⟩
  refine ⟨_, rfl, d, CDivision, dx, _, _, rfl, hd, SDivision.cl, SDivision.nP, dvF_get t, t, rfl, ⟨_, SqT.of ht⟩, fun D hD => lc_tup (K := K) (a := t) (xs := ss.map V.ref)
    (fun i H' => Same H H' ∧ H' D = some (.lst (((rows.map fun ns => line ns ++ "\n").take i).map V.str))) ⟨same_new (Same.refl H) hD, upd_same⟩ (fun i H' _ q => SqT.of (q.1 _ _ ht)) (fun i x H' hx q => ⟨rfl, tyes ?_⟩) (fun H' q => ?_)⟩
  · rw [List.getElem?_map] at hx
    cases e : ss[i]? with
    | none => rw [e] at hx; cases hx
    | some s1 =>
      rw [e] at hx
      obtain rfl : V.ref s1 = x := Option.some.inj hx
      obtain ⟨t1, ns, en, sh⟩ := al.get e
      obtain ⟨⟨d1, a1⟩, a2, _⟩ := id sh
      have m := List.mem_of_getElem? en
      have lb := line_len (rw_.am ns m)
      have l6 := rw_.l6 m
      refine ⟨_, rfl, s1, d1, _, rfl, q.1 _ _ a1, s1, d1, _, _, rfl, q.1 _ _ a1, shF_get t1, t1, ns, rfl, q.1 _ _ a2, l6, rw_.am ns m, fun H2 k2 => .inl ?_⟩
      have e0 : Str.empty ++ line ns = line ns := TL.ext_tl (by rw [TL.tl_append]; rfl)
      have lz : (line ns).length ≤ sizeLine := size_of (by omega)
      have lz2 : (line ns ++ "\n").length ≤ sizeLine := by
        rw [TL.len_tl, TL.tl_append, List.length_append, ← TL.len_tl]
        exact size_of (by show (line ns).length + 1 ≤ 1000; omega)
      refine ⟨_, rfl, lz, _, rfl, by rw [e0]; exact lz, _, rfl, by rw [e0]; exact lz2, ?_⟩
      rw [e0]
      refine ⟨_, k2 _ _ q.2, size_lt (by rw [List.length_map, List.length_take, List.length_map]; have := rw_.2.1; omega), same_put (q.1.trans k2) hD, ?_⟩
      have e2 : (rows.map fun ns => line ns ++ "\n")[i]? = some (line ns ++ "\n") := by rw [List.getElem?_map, en]; rfl
      rw [upd_same, List.take_add_one, e2, List.map_append]
      rfl
  · have e := q.2
    rw [List.length_map, ln, ← List.length_map (f := fun ns => line ns ++ "\n"), List.take_length] at e
    refine ⟨_, D, _, rfl, rfl, .inl (SqL.of e), ?_, ?_⟩
    · have z : ("" : Str).length = 0 := rfl
      rw [z, Nat.mul_zero, Nat.add_zero]
      refine Nat.le_trans (m := 19 * rows.length) ?_ (by have := rw_.2.1; omega)
      have all : ∀ ns ∈ rows, (line ns ++ "\n").length ≤ 19 := fun ns hn => by
        rw [TL.len_tl, TL.tl_append, List.length_append, ← TL.len_tl]
        have := line_len (rw_.am ns hn)
        have := rw_.l6 hn
        show (line ns).length + 1 ≤ 19
        omega
      exact sum_le all
    · rw [TL.join_eq]
      exact k H' q.1
end
end Pl
namespace Pl
open PySem PySem.Spec PyProof.Rows L2
/-- the number of states -/
def nst (rows : List (List Int)) : Nat := (rows.headD []).length
theorem Rows.nst {rows : List (List Int)} (h : Rows rows) : ∀ ns ∈ rows, ns.length = nst rows := fun ns hn => by
  cases rows with
  | nil => simp at hn
  | cons r rs => exact h.eq hn List.mem_cons_self
theorem Rows.nst6 {rows : List (List Int)} (h : Rows rows) : 2 ≤ Pl.nst rows ∧ Pl.nst rows ≤ 6 := by
  cases rows with
  | nil => exact absurd rfl h.ne
  | cons r rs => exact ⟨h.l2 List.mem_cons_self, h.l6 List.mem_cons_self⟩
/-- what all have in a state -/
def col (rows : List (List Int)) (i : Nat) : List Int := rows.map fun ns => ns.getD i 0
def tots (rows : List (List Int)) : List Int := (List.range (nst rows)).map fun i => (col rows i).sum
theorem tots_len (rows : List (List Int)) : (tots rows).length = nst rows := by simp [tots]
theorem tots_at {rows : List (List Int)} {i : Nat} (h : i < nst rows) : (tots rows)[i]? = some (col rows i).sum := by
  unfold tots
  rw [List.getElem?_map, List.getElem?_range h]
  rfl
/-- tuples of these amounts stand at these places -/
def TpAll (H : Hp) (ts : List Addr) (rows : List (List Int)) : Prop := ts.length = rows.length ∧ ∀ (j : Nat) (t : Addr) (ns : List Int), ts[j]? = some t → rows[j]? = some ns → H t = some (.tup (ns.map V.int))
theorem TpAll.same {H H' : Hp} {ts : List Addr} {rows : List (List Int)} (h : TpAll H ts rows) (k : Same H H') : TpAll H' ts rows := ⟨h.1, fun j t ns a b => k _ _ (h.2 j t ns a b)⟩
theorem TpAll.nil {H : Hp} : TpAll H [] [] := ⟨rfl, fun j t ns a => by simp at a⟩
theorem TpAll.snoc {H : Hp} {ts : List Addr} {rows : List (List Int)} {t : Addr} {ns : List Int} (h : TpAll H ts rows) (e : H t = some (.tup (ns.map V.int))) : TpAll H (ts ++ [t]) (rows ++ [ns]) := by
  refine ⟨by simp [h.1], fun j u ms a b => ?_⟩
  rcases Nat.lt_trichotomy j ts.length with q | q | q
  · rw [List.getElem?_append_left q] at a
    rw [List.getElem?_append_left (by rw [← h.1]; exact q)] at b
    exact h.2 j u ms a b
  · have e1 : (ts ++ [t])[j]? = some t := by rw [q]; simp
    have e2 : (rows ++ [ns])[j]? = some ns := by rw [q, h.1]; simp
    rw [e1] at a
    rw [e2] at b
    cases a
    cases b
    exact e
  · rw [List.getElem?_eq_none (by simp; omega)] at a
    cases a
theorem TpAll.get {H : Hp} {ts : List Addr} {rows : List (List Int)} (h : TpAll H ts rows) {t : Addr} (m : t ∈ ts) : ∃ ns ∈ rows, H t = some (.tup (ns.map V.int)) := by
  obtain ⟨j, lt, e⟩ := List.getElem_of_mem m
  have l2 : j < rows.length := by rw [← h.1]; exact lt
  exact ⟨rows[j], List.getElem_mem l2, h.2 j t _ (by rw [← e]; exact List.getElem?_eq_getElem lt) (List.getElem?_eq_getElem l2)⟩
theorem TpAll.put {D : Addr} {H : Hp} {ts : List Addr} {rows : List (List Int)} {xs : List V} {o : HO} (h : TpAll H ts rows) (e : H D = some (.lst xs)) : TpAll (L2.upd H D o) ts rows :=
  ⟨h.1, fun j t ns a b => by
    have z := h.2 j t ns a b
    rw [upd_ne (ne_of z e (by intro z; cases z))]
    exact z⟩
theorem walkN {K : PySem.W.Frag} {ts : List Addr} {rows : List (List Int)} (rw_ : Rows rows) (l : ts.length = rows.length) :
    Walk (ItzN K ts) (nst rows) (fun H => TpAll H ts rows) (fun i H v H' => ∃ T, v = .ref T ∧ H T = none ∧ H' = upd H T (.tup ((col rows i).map V.int))) := by
  refine ⟨?_, ?_, ?_⟩
  · intro i H hi q a ha
    obtain ⟨ns, m, e⟩ := q.get ha
    have ln := rw_.nst ns m
    exact ⟨_, _, SqT.of e, by rw [List.getElem?_map, List.getElem?_eq_getElem (show i < ns.length by omega)]; rfl⟩
  · intro H q
    cases ts with
    | nil =>
      have := rw_.1
      simp at l
      omega
    | cons a r =>
      obtain ⟨ns, m, e⟩ := q.get (t := a) List.mem_cons_self
      exact ⟨a, r, _, rfl, SqT.of e, by rw [List.length_map, rw_.nst ns m]; exact Nat.le_refl _⟩
  · rintro i H v H' hi q ⟨T, vs, rfl, nT, rfl, lv, k⟩
    refine ⟨T, rfl, nT, ?_⟩
    have e : vs = (col rows i).map V.int := by
      refine List.ext_getElem? fun j => ?_
      by_cases lt : j < ts.length
      · have l2 : j < rows.length := by omega
        have h1 := k j ts[j] _ (List.getElem?_eq_getElem lt) (SqT.of (q.2 j _ _ (List.getElem?_eq_getElem lt) (List.getElem?_eq_getElem l2)))
        have ln := rw_.nst _ (List.getElem_mem l2)
        rw [← h1, col, List.map_map, List.getElem?_map, List.getElem?_map, List.getElem?_eq_getElem l2, List.getElem?_eq_getElem (show i < rows[j].length by omega)]
        simp [List.getD, List.getElem?_eq_getElem (show i < rows[j].length by omega)]
      · rw [List.getElem?_eq_none (by omega), List.getElem?_eq_none (by simp [col]; omega)]
    rw [e]
def spTotals (CD C : Addr) : Sp := fun vs H Q _ => ∃ (d t : Addr) (ss : List Addr) (rows : List (List Int)), vs = [.ref d] ∧ DvAt CD C H d t ss rows ∧ ∀ (p : Addr) (H' : Hp), Same H H' → H' p = some (.tup ((tots rows).map V.int)) → Q (.ref p) H'
def spDvItem (K : PySem.W.Frag) (CD C CP : Addr) : Sp := fun vs H Q E => ∃ (d t : Addr) (ss : List Addr) (rows : List (List Int)) (y : V), vs = [.ref d, y] ∧ DvAt CD C H d t ss rows ∧ Kd K H y ∧
  (∀ (i : Nat) (s : Addr), y = .int i → ss[i]? = some s → Q (.ref s) H) ∧ (isTo (rows.length - 1) y = false → E (.ref CP) none H)
section
variable {P : Program} {w : World} {K : PySem.W.Frag} {mg : Str → Option Value} {base : Heap} {CShare CDivision CNoShare CNoAmounts CNoPerson : Addr}
abbrev st_Di_totals : Stmt := inClass (top 24) 6
theorem sc_Di_totals : FnScope ["self", "rows", "share", "column"] ["self"] (defScope st_Di_totals) := ⟨rfl, rfl, rfl, by decide +kernel, rfl, by decide +kernel, by decide +kernel⟩
theorem ok_totals (B : Bn mg) (SShare : ShK K mg CShare) (SDivision : DvK K mg CDivision) (p_amounts : PCal P w K mg base 2 CShare "amounts" ["self"] (getSp CShare "by_state"))
    (D : Ph K CDivision "totals" "Division.totals" st_Di_totals ["self"]) : PCal P w K mg base 4 CDivision "totals" ["self"] (spTotals CDivision CShare) := by
  refine D.cal sc_Di_totals (fun vs H Q E h => ?_) (fun f cdv A out s H vs Q E hr h => ?_)
  · obtain ⟨d, t, ss, rows, rfl, _⟩ := h
    rfl
  obtain ⟨d, t, ss, rows, rfl, ⟨⟨dx, hd⟩, ht, al, rw_⟩, k⟩ := h
  refine ⟨_, (pss_cons (ps_setLc (i := 1) (own := [("share", 2)]) (g := gName 2) rfl sc_Di_totals.nd rfl rfl (sw_true rfl rfl rfl (by decide +kernel)) (pi_tup (pe_fld (pv 0) rfl)) (blkOk_by (N := ["self", "rows", "share", "column"]) (sc := defScope st_Di_totals) (by decide +kernel)) (fun _ _ _ _ _ => (pg_name (i := 2) sc_Di_totals.nd rfl (.inl rfl))) (fun _ _ _ _ _ => pts_nil) (fun _ _ _ _ _ => (pe_pr p_amounts SShare.cl (hr.mono (by decide)) (pv 2))))
   (pss_one (ps_ret (pe_callTy call_tuple_of (by rfl) B.n_tuple (by decide +kernel) (pa_cons (pe_lc (own := [("column", 3)]) (g := gName 3) rfl sc_Di_totals.nd (pi_zipS (by rfl) B.n_zip (pv 1)) (blkOk_by (N := ["self", "rows", "share", "column"]) (sc := defScope st_Di_totals) (by decide +kernel)) (fun _ _ _ _ _ => (pg_name (i := 3) sc_Di_totals.nd rfl (.inl rfl))) (fun _ _ _ _ _ => pts_nil) (fun _ _ _ _ _ => (pe_callB (show CallR _ (.builtin "sum") (rSumT K) from call_sumT rfl) (by rfl) B.n_sum (by decide +kernel) (pa_cons (pv 3) pa_nil)))) pa_nil))))), ?_⟩
  have ln := al.len
  refine ⟨_, rfl, d, CDivision, dx, _, _, rfl, hd, SDivision.cl, SDivision.nP, dvF_get t, t, rfl, ⟨_, SqT.of ht⟩, fun D hD => lc_tup (K := K) (a := t) (xs := ss.map V.ref)
    (fun i H' => Same H H' ∧ ∃ ts, H' D = some (.lst (ts.map V.ref)) ∧ TpAll H' ts (rows.take i)) ⟨same_new (Same.refl H) hD, [], upd_same, .nil⟩ (fun i H' _ q => SqT.of (q.1 _ _ ht)) (fun i x H' hx q => ⟨rfl, tyes ?_⟩) (fun H' q => ?_)⟩
  · rw [List.getElem?_map] at hx
    cases e : ss[i]? with
    | none => rw [e] at hx; cases hx
    | some s1 =>
      rw [e] at hx
      obtain rfl : V.ref s1 = x := Option.some.inj hx
      obtain ⟨t1, ns, en, sh⟩ := al.get e
      obtain ⟨⟨d1, a1⟩, a2, _⟩ := id sh
      obtain ⟨s0, ts, hD2, tp⟩ := q
      refine ⟨_, rfl, s1, d1, _, rfl, s0 _ _ a1, s1, d1, _, _, rfl, s0 _ _ a1, shF_get t1, _, hD2, size_lt ?_, same_put s0 hD, ts ++ [t1], ?_, ?_⟩
      · rw [List.length_map, tp.1, List.length_take]
        have := rw_.2.1
        omega
      · rw [upd_same, List.map_append]
        rfl
      · rw [List.take_add_one, en]
        exact (tp.put hD2).snoc (by rw [upd_ne (ne_of (s0 _ _ a2) hD2 (by intro z; cases z))]; exact s0 _ _ a2)
  · obtain ⟨s0, ts, hD2, tp⟩ := q
    rw [List.length_map, ln, List.take_length] at tp
    have l0 := rw_.1
    have l4 := rw_.2.1
    have n6 := rw_.nst6
    refine ⟨_, rfl, D, ts, rfl, .inr (SqL.of hD2), by rw [tp.1]; exact l0, by rw [tp.1]; exact l4, fun a ha => ?_, fun D2 nD2 => lc_it (walkN rw_ tp.1) (fun i H2 => Same H' H2 ∧ H2 D2 = some (.lst (((tots rows).take i).map V.int)))
      ⟨same_new (Same.refl H') nD2, upd_same⟩ (fun i H2 _ q => tp.same q.1) ?_ (fun H2 q => ?_)⟩
    · obtain ⟨ns, _, e⟩ := tp.get ha
      exact ⟨_, SqT.of e⟩
    · rintro i x H2 H3 hi q ⟨T, rfl, nT, rfl⟩
      refine ⟨rfl, tyes ⟨_, rfl, T, col rows i, rfl, SqT.of upd_same, ((tots rows).take i).map V.int, ?_, size_lt (by rw [List.length_map, List.length_take, tots_len]; omega), same_put (same_new q.1 nT) nD2, ?_⟩⟩
      · exact (by rw [upd_ne (ne_of_none q.2 nT)]; exact q.2)
      · rw [upd_same, List.take_add_one, tots_at hi, List.map_append]
        rfl
    · have e := q.2
      rw [← tots_len, List.take_length] at e
      exact ⟨D2, _, rfl, .inl ⟨SqL.of e, fun l hl => k l _ (same_new (s0.trans q.1) hl) upd_same⟩⟩
abbrev st_Di_getitem : Stmt := inClass (top 24) 7
theorem sc_Di_getitem : FnScope ["self", "at"] ["self", "at"] (defScope st_Di_getitem) := ⟨rfl, rfl, rfl, by decide +kernel, rfl, by decide +kernel, by decide +kernel⟩
theorem ok_dvItem (B : Bn mg) (SDivision : DvK K mg CDivision) (e_NoPerson : ExK K mg "NoPerson" CNoPerson) (c_is_integer_to : Cal P w K mg base 2 "is_integer_to" ["thing", "most"] (spIsInt K)) (D : Mh K CDivision "__getitem__" "Division.__getitem__" st_Di_getitem ["self", "at"]) :
    MCalX P w K mg base 3 CDivision "__getitem__" ["self", "at"] (spDvItem K CDivision CShare CNoPerson) := by
  refine D.calX sc_Di_getitem (fun vs H Q E h => ?_) (fun f cdv A out s H vs Q E hr h => ?_)
  · obtain ⟨d, t, ss, rows, y, rfl, _⟩ := h
    rfl
  obtain ⟨d, t, ss, rows, y, rfl, ⟨⟨dx, hd⟩, ht, al, rw_⟩, kd, k1, k2⟩ := h
  refine ⟨_, (pss_cons (ps_if (pt_not (pt_val (pe_fn c_is_integer_to (hr.mono (by decide)) (pa_cons (pv 1) (pa_cons (pe_op op_sub (pe_callB call_len_seq (by rfl) B.n_len (by decide +kernel) (pa_cons (pe_fld (pv 0) rfl) pa_nil)) pe_int) pa_nil))))) (pss_one (ps_err e_NoPerson (takes_of rfl rfl rfl rfl))) pss_nil)
   (pss_one (ps_ret (pe_ix ix_tup (pe_fld (pv 0) rfl) (pv 1) (fun _ _ => rfl))))), ?_⟩
  have ln := al.len
  refine ⟨_, rfl, _, rfl, d, CDivision, dx, _, _, rfl, hd, SDivision.cl, SDivision.nP, dvF_get t, t, _, rfl, .inr (SqT.of ht), _, _, rfl, rfl, y, _, rfl, kd, ?_⟩
  have em : (((ss.map V.ref).length : Nat) : Int) - 1 = (rows.length : Int) - 1 := by rw [List.length_map, ln]
  rw [em]
  cases e : isTo ((rows.length : Int) - 1) y with
  | false => exact ⟨_, rfl, iteT (k2 e)⟩
  | true =>
    refine ⟨_, rfl, iteF ?_⟩
    cases y <;> first | (simp [isTo] at e; done) | skip
    rename_i i
    simp only [isTo, Bool.and_eq_true, decide_eq_true_eq] at e
    have ei : ((i.toNat : Nat) : Int) = i := by omega
    have lt : i.toNat < ss.length := by omega
    have es : ss[i.toNat]? = some ss[i.toNat] := List.getElem?_eq_getElem lt
    refine ⟨_, rfl, d, CDivision, dx, _, _, rfl, hd, SDivision.cl, SDivision.nP, dvF_get t, _, rfl, t, _, _, _, rfl, rfl, SqT.of ht, ?_, k1 i.toNat _ (by rw [ei]) es⟩
    have z := atI_nat (xs := ss.map V.ref) (j := i.toNat) (v := V.ref ss[i.toNat]) (by rw [List.getElem?_map, es]; rfl)
    rw [ei] at z
    exact z
end
end Pl
namespace Pl
open PySem PySem.Spec PyProof.Rows L2
theorem eqv_all : ∀ ns ms : List Int, PyData.eqvAll (ns.map PyData.int) (ms.map PyData.int) = decide (ns = ms)
  | [], [] => by simp [PyData.eqvAll]
  | [], m :: ms => by simp [PyData.eqvAll]
  | n :: ns, [] => by simp [PyData.eqvAll]
  | n :: ns, m :: ms => by
    simp only [List.map_cons, PyData.eqvAll, eqv_all ns ms]
    by_cases e : n = m
    · subst e
      simp [PyData.eqv]
    · simp [PyData.eqv, e]
theorem eqv_tup (ns ms : List Int) : PyData.eqv (.tuple (ns.map PyData.int)) (.tuple (ms.map PyData.int)) = decide (ns = ms) := by
  simp only [PyData.eqv]
  exact eqv_all ns ms
theorem shapedTup (ns : List Int) : SeqAt.shaped (.tuple (ns.map PyData.int)) = true := by
  show (PyData.canLay0 (.tuple (ns.map PyData.int)) && decide (PyData.depth (.tuple (ns.map PyData.int)) ≤ 64)) = true
  simp only [PyData.canLay0, PyData.depth, layInts, depthInts]
  decide
def spEqS (C : Addr) : Sp := fun vs H Q _ => ∃ (s t s2 t2 : Addr) (ns ms : List Int), vs = [.ref s, .ref s2] ∧ ShAt C H s t ns ∧ ShAt C H s2 t2 ms ∧ Q (.bl (decide (ns = ms))) H
def spEqD (CD C : Addr) : Sp := fun vs H Q _ => ∃ (d t d2 t2 : Addr) (ss ss2 : List Addr) (rows rows2 : List (List Int)), vs = [.ref d, .ref d2] ∧ DvAt CD C H d t ss rows ∧ DvAt CD C H d2 t2 ss2 rows2 ∧ Q (.bl (decide (rows = rows2))) H
theorem imS {C : Addr} : ∀ vs H Q Q', (∀ v H', Q v H' → Q' v H') → spEqS C vs H Q E0 → spEqS C vs H Q' E0 := fun vs H Q Q' f ⟨s, t, s2, t2, ns, ms, e, a, b, q⟩ => ⟨s, t, s2, t2, ns, ms, e, a, b, f _ _ q⟩
theorem ints_inj : ∀ {ns ms : List Int}, ns.map V.int = ms.map V.int → ns = ms
  | [], [], _ => rfl
  | [], _ :: _, h => by cases h
  | _ :: _, [], h => by cases h
  | x :: a, y :: b, h => by
    rw [List.map_cons, List.map_cons, List.cons.injEq] at h
    rw [V.int.inj h.1, ints_inj h.2]
theorem ShAt.uniq {C : Addr} {H : Hp} {s t t2 : Addr} {ns ms : List Int} (a : ShAt C H s t ns) (b : ShAt C H s t2 ms) : ns = ms := by
  obtain ⟨⟨d, h1⟩, h2, _⟩ := a
  obtain ⟨⟨d', k1⟩, k2, _⟩ := b
  rw [h1] at k1
  have e := (HO.ins.inj (Option.some.inj k1)).2.2
  have et : t = t2 := by
    unfold shF at e
    simpa using e
  subst et
  rw [h2] at k2
  exact ints_inj (HO.tup.inj (Option.some.inj k2))
section
variable {P : Program} {w : World} {K : PySem.W.Frag} {mg : Str → Option Value} {base : Heap} {CShare CDivision CNoAmounts : Addr}
abbrev st_Sh_eq : Stmt := inClass (top 17) 9
theorem sc_Sh_eq : FnScope ["self", "other"] ["self", "other"] (defScope st_Sh_eq) := ⟨rfl, rfl, rfl, by decide +kernel, rfl, by decide +kernel, by decide +kernel⟩
theorem ok_eqS (B : Bn mg) (SShare : ShK K mg CShare) (D : Mh K CShare "__eq__" "Share.__eq__" st_Sh_eq ["self", "other"]) : MCal P w K mg base 2 CShare "__eq__" ["self", "other"] (spEqS CShare) := by
  refine D.cal sc_Sh_eq (fun vs H Q E h => ?_) (fun f cdv A out s H vs Q E hr h => ?_)
  · obtain ⟨s1, t1, s2, t2, ns, ms, rfl, _⟩ := h
    rfl
  obtain ⟨s1, t1, s2, t2, ns, ms, rfl, ⟨⟨d1, a1⟩, b1, _⟩, ⟨⟨d2, a2⟩, b2, _⟩, k⟩ := h
  refine ⟨_, (pss_one (ps_ret (pe_and (pe_callB call_isi (by rfl) B.n_isinstance (by decide +kernel) (pa_cons (pv 1) (pa_cons (pe_glob (v := .ref CShare) rfl SShare.mgC rfl) pa_nil))) (pe_one (pe_cmpR (op_eqD hr.units) (pe_fld (pv 0) rfl) (pe_fld (pv 1) rfl) (nomark _)))))), ?_⟩
  refine ⟨_, rfl, _, _, _, _, true, rfl, .own _, .base (.ins a2 SShare.cl SShare.ca SShare.cg SShare.ct SShare.mro), SShare.kit, _, rfl, iteT ?_⟩
  refine ⟨_, rfl, s1, CShare, d1, _, _, rfl, a1, SShare.cl, SShare.nB, shF_get t1, _, rfl, s2, CShare, d2, _, _, rfl, a2, SShare.cl, SShare.nB, shF_get t2, _, _, .tup (SqT.of b1) (dpInts _ _ _), .tup (SqT.of b2) (dpInts _ _ _), shapedTup ns, shapedTup ms, ?_⟩
  rw [eqv_tup]
  exact k
abbrev st_Di_eq : Stmt := inClass (top 24) 11
theorem sc_Di_eq : FnScope ["self", "other"] ["self", "other"] (defScope st_Di_eq) := ⟨rfl, rfl, rfl, by decide +kernel, rfl, by decide +kernel, by decide +kernel⟩
theorem ok_eqD (B : Bn mg) (SDivision : DvK K mg CDivision) (m_eqS : MCal P w K mg base 2 CShare "__eq__" ["self", "other"] (spEqS CShare)) (D : Mh K CDivision "__eq__" "Division.__eq__" st_Di_eq ["self", "other"]) : MCal P w K mg base 4 CDivision "__eq__" ["self", "other"] (spEqD CDivision CShare) := by
  refine D.cal sc_Di_eq (fun vs H Q E h => ?_) (fun f cdv A out s H vs Q E hr h => ?_)
  · obtain ⟨d, t, d2, t2, ss, ss2, rows, rows2, rfl, _⟩ := h
    rfl
  obtain ⟨d, t, d2, t2, ss, ss2, rows, rows2, rfl, ⟨⟨dx, a1⟩, b1, sh1, rw1⟩, ⟨⟨dx2, a2⟩, b2, sh2, rw2⟩, k⟩ := h
  refine ⟨_, (pss_one (ps_ret (pe_and (pe_callB call_isi (by rfl) B.n_isinstance (by decide +kernel) (pa_cons (pv 1) (pa_cons (pe_glob (v := .ref CDivision) rfl SDivision.mgC rfl) pa_nil))) (pe_one (pe_cmpR (op_eqT m_eqS imS (hr.mono (by decide))) (pe_fld (pv 0) rfl) (pe_fld (pv 1) rfl) (nomark _)))))), ?_⟩
  refine ⟨_, rfl, _, _, _, _, true, rfl, .own _, .base (.ins a2 SDivision.cl SDivision.ca SDivision.cg SDivision.ct SDivision.mro), SDivision.kit, _, rfl, iteT ?_⟩
  refine ⟨_, rfl, d, CDivision, dx, _, _, rfl, a1, SDivision.cl, SDivision.nP, dvF_get t, _, rfl, d2, CDivision, dx2, _, _, rfl, a2, SDivision.cl, SDivision.nP, dvF_get t2, ?_⟩
  have l1 := sh1.len
  have l2 := sh2.len
  refine ⟨t, t2, ss, ss2, fun i => decide (rows[i]? = rows2[i]?), rfl, rfl, SqT.of b1, SqT.of b2, fun i u v hu hv => ?_, ?_⟩
  · obtain ⟨u1, ns, en, su⟩ := sh1.get hu
    obtain ⟨v1, ms, em, sv⟩ := sh2.get hv
    refine ⟨fun e => ?_, ⟨_, _, su.1.choose_spec⟩, ⟨_, _, sv.1.choose_spec⟩, u, u1, v, v1, ns, ms, rfl, su, sv, ?_, rfl⟩
    · subst e
      show decide (rows[i]? = rows2[i]?) = true
      rw [en, em, su.uniq sv]
      exact decide_eq_true rfl
    · show V.bl (decide (ns = ms)) = V.bl (decide (rows[i]? = rows2[i]?))
      rw [en, em]
      congr 1
      exact decide_eq_decide.mpr ⟨fun e => by rw [e], fun e => Option.some.inj e⟩
  · have e : ((List.range (min ss.length ss2.length)).all (fun i => decide (rows[i]? = rows2[i]?)) && decide (ss.length = ss2.length)) = decide (rows = rows2) := by
      rw [Bool.eq_iff_iff]
      simp only [Bool.and_eq_true, List.all_eq_true, decide_eq_true_eq, List.mem_range]
      constructor
      · rintro ⟨a, b⟩
        refine List.ext_getElem? fun i => ?_
        rcases Nat.lt_or_ge i (min ss.length ss2.length) with h | h
        · exact a i h
        · rw [List.getElem?_eq_none (by omega), List.getElem?_eq_none (by omega)]
      · intro e
        subst e
        exact ⟨fun _ _ => rfl, by omega⟩
    rw [e]
    exact k
end
end Pl
namespace Pl
open PySem PySem.Spec PyProof.Rows L2
/-- the number of states -/
def wdt (rows : List (List Int)) : Nat := ((rows[0]?).getD []).length
theorem Rows.wdt {rows : List (List Int)} (h : Rows rows) {ns : List Int} (hn : ns ∈ rows) : ns.length = wdt rows := by
  have l0 : 0 < rows.length := by have := h.1; omega
  have e0 : rows[0]? = some rows[0] := List.getElem?_eq_getElem l0
  unfold Pl.wdt
  rw [e0]
  exact h.eq hn (List.mem_of_getElem? e0)
theorem Rows.w26 {rows : List (List Int)} (h : Rows rows) : 2 ≤ Pl.wdt rows ∧ Pl.wdt rows ≤ 6 := by
  have l0 : 0 < rows.length := by have := h.1; omega
  have m := List.getElem_mem l0
  rw [← h.wdt m]
  exact ⟨h.l2 m, h.l6 m⟩
theorem refAt {ts : List Addr} {i : Nat} {x : V} (h : (ts.map V.ref)[i]? = some x) : ∃ t, x = .ref t ∧ ts[i]? = some t := by
  rw [List.getElem?_map] at h
  cases e : ts[i]? with
  | none => rw [e] at h; cases h
  | some t => rw [e] at h; exact ⟨t, (Option.some.inj h).symm, rfl⟩
theorem intAt {l : List Int} {i : Nat} {y : Int} (h : l[i]? = some y) : atI (l.map V.int) (i : Int) = some (.int y) := atI_nat (j := i) (by rw [List.getElem?_map, h]; rfl)
theorem refsAt {ts : List Addr} {i : Nat} {t : Addr} (h : ts[i]? = some t) : atI (ts.map V.ref) (i : Int) = some (.ref t) := atI_nat (j := i) (by rw [List.getElem?_map, h]; rfl)
theorem alloc {H H' : Hp} {p : Addr} {o : HO} (e : L2.upd H p o = H') (n : H p = none) : Same H H' ∧ H' p = some o := by
  subst e
  exact ⟨same_new (Same.refl H) n, upd_same⟩
theorem rep_flat (x : V) : ∀ n : Nat, (List.replicate n [x]).flatten = List.replicate n x
  | 0 => rfl
  | n + 1 => by rw [List.replicate_succ, List.flatten_cons, rep_flat x n]; rfl
end Pl
namespace Pl
open PySem PySem.Spec PyProof.Rows L2
/-! what may be a share or not -/
inductive It7 (C : Addr) (H : Hp) : V → Option (List Int) → Prop
  | sh {s t : Addr} {ns : List Int} (h : ShAt C H s t ns) : It7 C H (.ref s) (some ns)
  | odd {v : V} {T : String} (t : TyS H v T) : It7 C H v none
inductive All7 (C : Addr) (H : Hp) : List V → List (Option (List Int)) → Prop
  | nil : All7 C H [] []
  | cons {v : V} {o : Option (List Int)} {vs : List V} {os : List (Option (List Int))} (h : It7 C H v o) (t : All7 C H vs os) : All7 C H (v :: vs) (o :: os)
theorem It7.same {C : Addr} {H H' : Hp} {v : V} {o : Option (List Int)} (h : It7 C H v o) (k : Same H H') : It7 C H' v o := by
  cases h with
  | sh h => exact .sh (h.same k)
  | odd t => exact .odd (t.same k)
theorem All7.same {C : Addr} {H H' : Hp} (k : Same H H') : ∀ {vs : List V} {os : List (Option (List Int))}, All7 C H vs os → All7 C H' vs os
  | _, _, .nil => .nil
  | _, _, .cons h t => .cons (h.same k) (t.same k)
theorem All7.len {C : Addr} {H : Hp} : ∀ {vs : List V} {os : List (Option (List Int))}, All7 C H vs os → vs.length = os.length
  | _, _, .nil => rfl
  | _, _, .cons _ t => by rw [List.length_cons, List.length_cons, t.len]
theorem All7.at_ {C : Addr} {H : Hp} : ∀ {vs : List V} {os : List (Option (List Int))} {i : Nat} {v : V}, All7 C H vs os → vs[i]? = some v → ∃ o, os[i]? = some o ∧ It7 C H v o
  | _, _, 0, _, .cons h _, e => by cases e; exact ⟨_, rfl, h⟩
  | _, _, i + 1, _, .cons _ t, e => All7.at_ (i := i) t e
/-- two shares with as many states -/
def Par (a b : Option (List Int)) : Prop := ∃ n m : List Int, a = some n ∧ b = some m ∧ n.length = m.length
/-- shares with as many states as the first -/
def Ok7 (os : List (Option (List Int))) : Prop := ∀ (i : Nat) (o o0 : Option (List Int)), os[i]? = some o → os[0]? = some o0 → Par o0 o
theorem All7.shares {C : Addr} {H : Hp} : ∀ {vs : List V} {os : List (Option (List Int))}, All7 C H vs os → (∀ o ∈ os, ∃ n, o = some n) → ∃ (ss : List Addr) (rows : List (List Int)), vs = ss.map V.ref ∧ os = rows.map some ∧ ShAll C H ss rows
  | _, _, .nil, _ => ⟨[], [], rfl, rfl, .nil⟩
  | _, _, .cons h t, al => by
    obtain ⟨ss, rows, e1, e2, sa⟩ := t.shares fun o ho => al o (List.mem_cons_of_mem _ ho)
    cases h with
    | @sh s t ns h => exact ⟨s :: ss, ns :: rows, by rw [e1]; rfl, by rw [e2]; rfl, .cons h sa⟩
    | odd _ =>
      obtain ⟨n, z⟩ := al none List.mem_cons_self
      cases z
theorem ShAll.row7 {C : Addr} {H : Hp} : ∀ {ss : List Addr} {rows : List (List Int)}, ShAll C H ss rows → ∀ ns ∈ rows, 2 ≤ ns.length ∧ ns.length ≤ 6 ∧ Am ns
  | _, _, .nil, _, h => nomatch h
  | _, _, .cons ⟨_, _, h2, h6, am⟩ r, ns, h => by
    rcases List.mem_cons.mp h with z | z
    · rw [z]; exact ⟨h2, h6, am⟩
    · exact r.row7 ns z
def spPair7 (K : PySem.W.Frag) (C CN : Addr) : Sp := fun vs H Q E => ∃ (x y : V) (o0 o : Option (List Int)), vs = [x, y] ∧ It7 C H x o0 ∧ It7 C H y o ∧ (Par o0 o → Q .non H) ∧ (¬ Par o0 o → E (.ref CN) none H)
def spDvInit7 (CD C CNS CNP : Addr) : Sp := fun vs H Q E => ∃ (d p dx : Addr) (us : List V) (os : List (Option (List Int))), vs = [.ref d, .ref p] ∧ H d = some (.ins CD dx []) ∧ H p = some (.tup us) ∧ All7 C H us os ∧ os.length ≤ 600 ∧
  (∀ (ss : List Addr) (rows : List (List Int)), us = ss.map V.ref → os = rows.map some → Rows rows → ∀ H', Kp d H H' → DvAt CD C H' d p ss rows → Q .non H') ∧ (¬ Ok7 os → E (.ref CNS) none H) ∧ (Ok7 os → ¬ (2 ≤ os.length ∧ os.length ≤ 4) → E (.ref CNP) none H)
def Kt7S (K : PySem.W.Frag) (C : Addr) : Prop := ∀ T ∈ ["NoneType", "int", "bool", "str", "list", "tuple", "dict"], PySem.W.kitOne K (.type T) (.ref C) = some false
theorem TyS.kt {K : PySem.W.Frag} {C : Addr} {H : Hp} {v : V} {T : String} (t : TyS H v T) (kt : Kt7S K C) : PySem.W.kitOne K (.type T) (.ref C) = some false := by
  cases t <;> exact kt _ (by simp)
section
variable {P : Program} {w : World} {K : PySem.W.Frag} {mg : Str → Option Value} {base : Heap} {CShare CDivision CNoShare CNoPeople : Addr}
theorem ok_pair7 (B : Bn mg) (kt : Kt7S K CShare) (SShare : ShK K mg CShare) (e_NoShare : ExK K mg "NoShare" CNoShare) (m_len : MCal P w K mg base 2 CShare "__len__" ["self"] (spLen CShare)) (D : Df K mg "check_pair" st_check_pair ["one", "other"]) : CalX P w K mg base 4 "check_pair" ["one", "other"] (spPair7 K CShare CNoShare) := by
  refine D.calX sc_check_pair (fun vs H Q E h => ?_) (fun f cdv A out s H vs Q E hr h => ?_)
  · obtain ⟨x, y, o0, o, rfl, _⟩ := h
    rfl
  obtain ⟨x, y, o0, o, rfl, ix, iy, k1, k2⟩ := h
  refine ⟨_, (pss_cons (ps_if (PW.pt (pw_or (pt_not (pt_val (pe_callB call_isi (by rfl) B.n_isinstance (by decide +kernel) (pa_cons (pv 0) (pa_cons (pe_glob (v := .ref CShare) rfl SShare.mgC rfl) pa_nil))))) (pw_or1 (pt_not (pt_val (pe_callB call_isi (by rfl) B.n_isinstance (by decide +kernel) (pa_cons (pv 1) (pa_cons (pe_glob (v := .ref CShare) rfl SShare.mgC rfl) pa_nil)))))))) (pss_one (ps_err e_NoShare (takes_of rfl rfl rfl rfl))) pss_nil)
   (pss_one (ps_if (pt_cmpR op_ne (pe_callB (call_lenM m_len (hr.mono (by decide))) (by rfl) B.n_len (by decide +kernel) (pa_cons (pv 0) pa_nil)) (pe_callB (call_lenM m_len (hr.mono (by decide))) (by rfl) B.n_len (by decide +kernel) (pa_cons (pv 1) pa_nil)) (nomark _)) (pss_one (ps_err e_NoShare (takes_of rfl rfl rfl rfl))) pss_nil))), ?_⟩
  have ty : ∀ {s d t : Addr}, H s = some (.ins CShare d (shF t)) → TyX K H (.ref s) (.ref CShare) := fun e => .base (.ins e SShare.cl SShare.ca SShare.cg SShare.ct SShare.mro)
  cases ix with
  | odd t => exact ⟨_, rfl, _, _, _, _, false, rfl, .own _, t.tyX, t.kt kt, _, rfl, iteT (k2 fun ⟨_, _, z, _⟩ => nomatch z)⟩
  | @sh s1 t1 ns sh1 =>
  obtain ⟨⟨d1, a1⟩, _, _, l1, _⟩ := id sh1
  refine ⟨_, rfl, _, _, _, _, true, rfl, .own _, ty a1, SShare.kit, _, rfl, iteF ?_⟩
  cases iy with
  | odd t => exact ⟨_, rfl, _, _, _, _, false, rfl, .own _, t.tyX, t.kt kt, _, rfl, iteT (k2 fun ⟨_, _, _, z, _⟩ => nomatch z)⟩
  | @sh s2 t2 ms sh2 =>
  obtain ⟨⟨d2, a2⟩, _, _, l2, _⟩ := id sh2
  refine ⟨_, rfl, _, _, _, _, true, rfl, .own _, ty a2, SShare.kit, _, rfl, iteF ?_⟩
  refine ⟨_, rfl, s1, d1, _, rfl, a1, s1, t1, ns, rfl, sh1, ns.length, rfl, by omega, ?_⟩
  refine ⟨_, rfl, s2, d2, _, rfl, a2, s2, t2, ms, rfl, sh2, ms.length, rfl, by omega, rfl, _, rfl, ?_⟩
  refine ite2 (fun c => ?_) (fun c => ?_)
  · refine k2 fun ⟨n, m, e1, e2, e⟩ => ?_
    cases e1
    cases e2
    rw [e] at c
    simp at c
  · refine k1 ⟨_, _, rfl, rfl, ?_⟩
    have c2 : V.int (ns.length : Int) = V.int (ms.length : Int) := by simpa using c
    have := V.int.inj c2
    omega
theorem ok_dvInit7 (B : Bn mg) (Cc : Cd mg) (SDivision : DvK K mg CDivision) (e_NoPeople : ExK K mg "NoPeople" CNoPeople) (c_check_pair : CalX P w K mg base 4 "check_pair" ["one", "other"] (spPair7 K CShare CNoShare)) (D : MhK K CDivision "__init__" "Division.__init__" st_DvInit) :
    MCalR P w K mg base (L2.CX P w) 5 CDivision "__init__" (spStar (spDvInit7 CDivision CShare CNoShare CNoPeople)) := by
  refine D.starX sc_DvInit (fun kV doc pm an cdv ct => StX.bind_star1 (B := fun us => bindArgs (PySem.W.fnOf "__init__" "Division.__init__" (defArgs st_DvInit) (defBody st_DvInit) (defScope st_DvInit) .none kV doc pm an cdv ct) ⟨us, []⟩) (fun a => rfl) (fun a r rs => rfl)) (fun f cdv A out s H vs Q E hr h => ?_)
  obtain ⟨d, p, dx, us, os, rfl, hd, hp, al, r6, kS, kU, kP⟩ := h
  refine ⟨_, (pss_cons (ps_for (passes_of rfl) rfl (pi_tup (pv 1)) (pg_name (i := 2) sc_DvInit.nd rfl (.inl rfl))
   (pss_one (ps_expr (pe_fnX c_check_pair (passW (takes_of rfl rfl rfl rfl)) (hr.mono (by decide)) (pa_cons (pe_ix ix_tup (pv 1) pe_int (fun _ _ => rfl)) (pa_cons (pv 2) pa_nil))))))
   (pss_cons (ps_if (pt_not (pt_chain op_le op_le (pe_glob (v := .int 2) rfl Cc.c_FEWEST_PEOPLE.choose_spec ⟨_, rfl⟩) (pe_callB call_len_seq (by rfl) B.n_len (by decide +kernel) (pa_cons (pv 1) pa_nil)) (pe_glob (v := .int 4) rfl Cc.c_MOST_PEOPLE.choose_spec ⟨_, rfl⟩))) (pss_one (ps_err e_NoPeople (takes_of rfl rfl rfl rfl))) pss_nil)
   (pss_one (ps_fld (pv 0) (pv 1) rfl)))), ?_⟩
  have ln := al.len
  refine ⟨_, rfl, p, rfl, ⟨_, SqT.of hp⟩, ?_⟩
  refine for_tup (K := K) (a := p) (xs := us) (fun i σ H' => (∃ v : Option V, σ = [some (.ref d), some (.ref p), v]) ∧ H' = H ∧ ∀ j, j < i → ∀ o o0, os[j]? = some o → os[0]? = some o0 → Par o0 o) ⟨⟨none, rfl⟩, rfl, fun j hj => absurd hj (Nat.not_lt_zero _)⟩ (fun i σ H' _ ⟨_, e, _⟩ => by rw [e]; exact SqT.of hp) ?_ ?_
  · rintro i x σ H1 hx ⟨⟨v, rfl⟩, rfl, eqs⟩
    obtain ⟨o, eo, io⟩ := al.at_ hx
    have l0 : 0 < us.length := by have := (List.getElem?_eq_some_iff.mp hx).1; omega
    have e0 : us[0]? = some us[0] := List.getElem?_eq_getElem l0
    obtain ⟨o0, eo0, io0⟩ := al.at_ e0
    refine ⟨_, rfl, p, _, _, _, rfl, rfl, SqT.of hp, atI_nat (j := 0) e0, ?_⟩
    refine ⟨_, rfl, us[0], x, o0, o, rfl, io0, io, fun pr => ?_, fun ne => ?_⟩
    · refine ⟨⟨_, rfl⟩, rfl, fun j hj o1 o2 e1 e2 => ?_⟩
      rcases Nat.lt_or_ge j i with z | z
      · exact eqs j z o1 o2 e1 e2
      · have ej : j = i := by omega
        subst ej
        rw [eo] at e1
        rw [eo0] at e2
        cases e1
        cases e2
        exact pr
    · exact fun σ' => kU fun ok => ne (ok i o o0 eo eo0)
  · rintro σ H1 ⟨⟨v, rfl⟩, rfl, eqs⟩
    have ok : Ok7 os := fun i o o0 a b => eqs i (by rw [ln]; exact (List.getElem?_eq_some_iff.mp a).1) o o0 a b
    refine ⟨_, rfl, p, _, rfl, .inr (SqT.of hp), _, _, rfl, rfl, _, rfl, ?_⟩
    rw [ln]
    by_cases c1 : 2 ≤ os.length
    · rw [decide_eq_true (show (2 : Int) ≤ (os.length : Int) by omega)]
      refine iteT ⟨_, _, rfl, rfl, _, rfl, ?_⟩
      by_cases c2 : os.length ≤ 4
      · rw [decide_eq_true (show (os.length : Int) ≤ 4 by omega)]
        refine iteF ?_
        have e0 : os[0]? = some (os[0]'(by omega)) := List.getElem?_eq_getElem (by omega)
        obtain ⟨ss, rows, eu, er, sh⟩ := al.shares fun o ho => by
          obtain ⟨i, hi⟩ := List.mem_iff_getElem?.mp ho
          obtain ⟨_, m, _, e, _⟩ := ok i o _ hi e0
          exact ⟨m, e⟩
        subst er
        rw [List.length_map] at c1 c2
        have m0 := sh.row7 _ (List.getElem_mem (show 0 < rows.length by omega))
        have rw_ : Rows rows := ⟨c1, c2, _, m0.1, m0.2.1, fun ns hn => by
          refine ⟨?_, (sh.row7 ns hn).2.2⟩
          obtain ⟨j, hj⟩ := List.mem_iff_getElem?.mp hn
          have r0 : rows[0]? = some (rows[0]'(by omega)) := List.getElem?_eq_getElem (by omega)
          obtain ⟨n, m, e1, e2, e⟩ := ok j (some ns) (some (rows[0]'(by omega))) (by rw [List.getElem?_map, hj]; rfl) (by rw [List.getElem?_map, r0]; rfl)
          cases e1
          cases e2
          exact e.symm⟩
        subst eu
        refine ⟨_, rfl, _, rfl, d, CDivision, dx, _, rfl, hd, SDivision.cl, SDivision.nP, (by show 0 < 1000; decide), ?_⟩
        have tp : p ≠ d := ne_of hp hd (by intro z; cases z)
        have kp : Kp d H1 (upd H1 d (.ins CDivision dx (putF "by_person" (.ref p) []))) := Kp.upd
        exact kS ss rows rfl rfl rw_ _ kp ⟨⟨dx, upd_same⟩, by rw [upd_ne tp]; exact hp, sh.kp kp ⟨_, _, _, hd, fun t z => by cases z⟩, rw_⟩
      · rw [decide_eq_false (show ¬ (os.length : Int) ≤ 4 by omega)]
        exact iteT (kP ok fun z => c2 z.2)
    · rw [decide_eq_false (show ¬ (2 : Int) ≤ (os.length : Int) by omega)]
      exact iteF ⟨_, rfl, iteT (kP ok fun z => c1 z.1)⟩
end
end Pl
namespace Pl
open PySem PySem.Spec PyProof.Rows L2
section
variable {X : Cx} {CX : CXT} {k : Nat} {C : Addr} {sp : Sp} {E : XK} {p pos : Pos} {x : Str}
/-- C() by a raw promise -/
theorem pe_mkR0 (c : MCalR X.prog X.w X.K X.mg X.base CX k C "__init__" sp) (hx : Passes CX X E) (mk : PySem.W.makesIn X.K C = true) (kc : PySem.W.keepIn X.K (.ref C) = true) (hm : X.mg x = some (.ref C)) (hr : Room (k + 1) X.A) (hg : Gl X x := by rfl) (hdb : (x == ("__debug__" : Str)) = false := by decide) :
    PE X (.Call (.Name x p) [] [] pos) (fun _ H Q => ∀ x dx, H x = Option.none → H dx = Option.none → dx ≠ x → sp [V.ref x] (upd (upd H dx (.own x)) x (.ins C dx [])) (fun v H2 => v = .non ∧ Q (.ref x) H2) E) := by
  obtain ⟨f, F, h1, h2⟩ := c.ex
  refine ⟨fun pins s σ H Q I h => wpAny_Call_Name_kw (ld_glob I hg hm ?_ hdb)⟩
  refine PySem.W.callWith_K0 I.kIn kc ?_
  exact StX.run_makeR (vs := []) ⟨mk, h1, h2, kc⟩ F hr hx I .nil h
end
def spBuilt (CD C CNS CNP : Addr) : Sp := fun vs H Q E => ∃ (l : Addr) (us : List V) (os : List (Option (List Int))), vs = [.ref l] ∧ H l = some (.lst us) ∧ All7 C H us os ∧ os.length ≤ 5 ∧
  (∀ (ss : List Addr) (rows : List (List Int)), us = ss.map V.ref → os = rows.map some → Rows rows → ∀ (d t : Addr) (H' : Hp), Same H H' → DvAt CD C H' d t ss rows → Q (.ref d) H') ∧ (¬ Ok7 os → ∀ H', Same H H' → E (.ref CNS) none H') ∧ (Ok7 os → ¬ (2 ≤ os.length ∧ os.length ≤ 4) → ∀ H', Same H H' → E (.ref CNP) none H')
theorem mk7 {CD C CNS CNP x dx : Addr} {H : Hp} {us : List V} {os : List (Option (List Int))} {R : Hp → Prop} {E : XK} (nx : H x = none) (nd : H dx = none) (nex : dx ≠ x) (al : All7 C H us os) (l : os.length ≤ 5)
    (k1 : ∀ (ss : List Addr) (rows : List (List Int)), us = ss.map V.ref → os = rows.map some → Rows rows → ∀ (t : Addr) (H' : Hp), Same H H' → DvAt CD C H' x t ss rows → R H') (k2 : ¬ Ok7 os → ∀ H', Same H H' → E (.ref CNS) none H') (k3 : Ok7 os → ¬ (2 ≤ os.length ∧ os.length ≤ 4) → ∀ H', Same H H' → E (.ref CNP) none H') :
    spStar (spDvInit7 CD C CNS CNP) (.ref x :: us) (upd (upd H dx (.own x)) x (.ins CD dx [])) (fun v H2 => v = .non ∧ R H2) E := by
  have la := al.len
  refine ⟨_, _, rfl, size_of (by omega), fun q' hq' => ?_⟩
  have s2 : Same H (upd (upd (upd H dx (.own x)) x (.ins CD dx [])) q' (.tup us)) := same_new (same_new (same_new (Same.refl _) nd) (by rw [upd_ne (Ne.symm nex)]; exact nx)) hq'
  have xq : x ≠ q' := fun z => by rw [← z, upd_same] at hq'; cases hq'
  refine ⟨x, q', dx, us, os, rfl, by rw [upd_ne xq, upd_same], upd_same, al.same s2, by omega, fun ss rows e1 e2 rw_ H6 kp dv6 => ⟨rfl, k1 ss rows e1 e2 rw_ q' H6 ?_ dv6⟩, fun n => k2 n _ s2, fun a b => k3 a b _ s2⟩
  exact fun b o z => kp b o (ne_of_none z nx) (s2 b o z)
section
variable {P : Program} {w : World} {K : PySem.W.Frag} {mg : Str → Option Value} {base : Heap} {CShare CDivision CNoShare CNoPeople : Addr}
abbrev st_l_built : Stmt := top 34
theorem sc_l_built : FnScope ["_law_some"] ["_law_some"] (defScope st_l_built) := ⟨rfl, rfl, rfl, by decide +kernel, rfl, by decide +kernel, by decide +kernel⟩
theorem ok_built (B : Bn mg) (SDivision : DvK K mg CDivision) (m_initDivision : MCalR P w K mg base (L2.CX P w) 5 CDivision "__init__" (spStar (spDvInit7 CDivision CShare CNoShare CNoPeople))) (D : Df K mg "_law_built" st_l_built ["_law_some"]) : CalX P w K mg base 7 "_law_built" ["_law_some"] (spBuilt CDivision CShare CNoShare CNoPeople) := by
  refine D.calX sc_l_built (fun vs H Q E h => ?_) (fun f cdv A out s H vs Q E hr h => ?_)
  · obtain ⟨l, us, os, rfl, _⟩ := h
    rfl
  obtain ⟨l, us, os, rfl, hl, al, l5, k1, k2, k3⟩ := h
  refine ⟨_, (pss_cons (ps_if (pt_cmpR op_eq (pe_callB call_len_seq (by rfl) B.n_len (by decide +kernel) (pa_cons (pv 0) pa_nil)) pe_int (nomark _)) (pss_one (ps_ret (pe_mkR0 m_initDivision (passW (takes_of rfl rfl rfl rfl)) SDivision.mks SDivision.kc SDivision.mgC (hr.mono (by decide))))) pss_nil)
   (pss_cons (ps_if (pt_cmpR op_eq (pe_callB call_len_seq (by rfl) B.n_len (by decide +kernel) (pa_cons (pv 0) pa_nil)) pe_int (nomark _)) (pss_one (ps_ret (pe_mkR m_initDivision (passW (takes_of rfl rfl rfl rfl)) SDivision.mks SDivision.kc SDivision.mgC (hr.mono (by decide)) (pa_cons (pe_ix ix_list (pv 0) pe_int (fun _ _ => rfl)) pa_nil)))) pss_nil)
   (pss_cons (ps_if (pt_cmpR op_eq (pe_callB call_len_seq (by rfl) B.n_len (by decide +kernel) (pa_cons (pv 0) pa_nil)) pe_int (nomark _)) (pss_one (ps_ret (pe_mkR m_initDivision (passW (takes_of rfl rfl rfl rfl)) SDivision.mks SDivision.kc SDivision.mgC (hr.mono (by decide)) (pa_cons (pe_ix ix_list (pv 0) pe_int (fun _ _ => rfl)) (pa_cons (pe_ix ix_list (pv 0) pe_int (fun _ _ => rfl)) pa_nil))))) pss_nil)
   (pss_cons (ps_if (pt_cmpR op_eq (pe_callB call_len_seq (by rfl) B.n_len (by decide +kernel) (pa_cons (pv 0) pa_nil)) pe_int (nomark _)) (pss_one (ps_ret (pe_mkR m_initDivision (passW (takes_of rfl rfl rfl rfl)) SDivision.mks SDivision.kc SDivision.mgC (hr.mono (by decide)) (pa_cons (pe_ix ix_list (pv 0) pe_int (fun _ _ => rfl)) (pa_cons (pe_ix ix_list (pv 0) pe_int (fun _ _ => rfl)) (pa_cons (pe_ix ix_list (pv 0) pe_int (fun _ _ => rfl)) pa_nil)))))) pss_nil)
   (pss_cons (ps_if (pt_cmpR op_eq (pe_callB call_len_seq (by rfl) B.n_len (by decide +kernel) (pa_cons (pv 0) pa_nil)) pe_int (nomark _)) (pss_one (ps_ret (pe_mkR m_initDivision (passW (takes_of rfl rfl rfl rfl)) SDivision.mks SDivision.kc SDivision.mgC (hr.mono (by decide)) (pa_cons (pe_ix ix_list (pv 0) pe_int (fun _ _ => rfl)) (pa_cons (pe_ix ix_list (pv 0) pe_int (fun _ _ => rfl)) (pa_cons (pe_ix ix_list (pv 0) pe_int (fun _ _ => rfl)) (pa_cons (pe_ix ix_list (pv 0) pe_int (fun _ _ => rfl)) pa_nil))))))) pss_nil)
   (pss_one (ps_ret (pe_mkR m_initDivision (passW (takes_of rfl rfl rfl rfl)) SDivision.mks SDivision.kc SDivision.mgC (hr.mono (by decide)) (pa_cons (pe_ix ix_list (pv 0) pe_int (fun _ _ => rfl)) (pa_cons (pe_ix ix_list (pv 0) pe_int (fun _ _ => rfl)) (pa_cons (pe_ix ix_list (pv 0) pe_int (fun _ _ => rfl)) (pa_cons (pe_ix ix_list (pv 0) pe_int (fun _ _ => rfl)) (pa_cons (pe_ix ix_list (pv 0) pe_int (fun _ _ => rfl)) pa_nil))))))))))))), ?_⟩
  have fin : ∀ (x dx : Addr), H x = none → H dx = none → dx ≠ x → spStar (spDvInit7 CDivision CShare CNoShare CNoPeople) (.ref x :: us) (upd (upd H dx (.own x)) x (.ins CDivision dx [])) (fun v H2 => v = .non ∧ Q (.ref x) H2) (AnyS fun cls d _ H => E cls d H) := fun x dx nx nd nex =>
    mk7 nx nd nex al l5 (fun ss rows e1 e2 rw_ t H' k dv => k1 ss rows e1 e2 rw_ x t H' k dv) (fun n H' k σ' => k2 n H' k) (fun a b H' k σ' => k3 a b H' k)
  have ln := al.len
  clear k1 k2 k3
  match us, hl, ln, fin with
  | [], hl, ln, fin =>
    refine ⟨_, rfl, l, _, rfl, .inl (SqL.of hl), rfl, true, rfl, iteT ?_⟩
    exact fin
  | [y0], hl, ln, fin =>
    refine ⟨_, rfl, l, _, rfl, .inl (SqL.of hl), rfl, false, rfl, iteF ?_⟩
    refine ⟨_, rfl, l, _, rfl, .inl (SqL.of hl), rfl, true, rfl, iteT ?_⟩
    refine ⟨_, rfl, l, _, 0, _, rfl, rfl, SqL.of hl, rfl, ?_⟩
    exact fin
  | [y0, y1], hl, ln, fin =>
    refine ⟨_, rfl, l, _, rfl, .inl (SqL.of hl), rfl, false, rfl, iteF ?_⟩
    refine ⟨_, rfl, l, _, rfl, .inl (SqL.of hl), rfl, false, rfl, iteF ?_⟩
    refine ⟨_, rfl, l, _, rfl, .inl (SqL.of hl), rfl, true, rfl, iteT ?_⟩
    refine ⟨_, rfl, l, _, 0, _, rfl, rfl, SqL.of hl, rfl, _, rfl, l, _, 1, _, rfl, rfl, SqL.of hl, rfl, ?_⟩
    exact fin
  | [y0, y1, y2], hl, ln, fin =>
    refine ⟨_, rfl, l, _, rfl, .inl (SqL.of hl), rfl, false, rfl, iteF ?_⟩
    refine ⟨_, rfl, l, _, rfl, .inl (SqL.of hl), rfl, false, rfl, iteF ?_⟩
    refine ⟨_, rfl, l, _, rfl, .inl (SqL.of hl), rfl, false, rfl, iteF ?_⟩
    refine ⟨_, rfl, l, _, rfl, .inl (SqL.of hl), rfl, true, rfl, iteT ?_⟩
    refine ⟨_, rfl, l, _, 0, _, rfl, rfl, SqL.of hl, rfl, _, rfl, l, _, 1, _, rfl, rfl, SqL.of hl, rfl, _, rfl, l, _, 2, _, rfl, rfl, SqL.of hl, rfl, ?_⟩
    exact fin
  | [y0, y1, y2, y3], hl, ln, fin =>
    refine ⟨_, rfl, l, _, rfl, .inl (SqL.of hl), rfl, false, rfl, iteF ?_⟩
    refine ⟨_, rfl, l, _, rfl, .inl (SqL.of hl), rfl, false, rfl, iteF ?_⟩
    refine ⟨_, rfl, l, _, rfl, .inl (SqL.of hl), rfl, false, rfl, iteF ?_⟩
    refine ⟨_, rfl, l, _, rfl, .inl (SqL.of hl), rfl, false, rfl, iteF ?_⟩
    refine ⟨_, rfl, l, _, rfl, .inl (SqL.of hl), rfl, true, rfl, iteT ?_⟩
    refine ⟨_, rfl, l, _, 0, _, rfl, rfl, SqL.of hl, rfl, _, rfl, l, _, 1, _, rfl, rfl, SqL.of hl, rfl, _, rfl, l, _, 2, _, rfl, rfl, SqL.of hl, rfl, _, rfl, l, _, 3, _, rfl, rfl, SqL.of hl, rfl, ?_⟩
    exact fin
  | [y0, y1, y2, y3, y4], hl, ln, fin =>
    refine ⟨_, rfl, l, _, rfl, .inl (SqL.of hl), rfl, false, rfl, iteF ?_⟩
    refine ⟨_, rfl, l, _, rfl, .inl (SqL.of hl), rfl, false, rfl, iteF ?_⟩
    refine ⟨_, rfl, l, _, rfl, .inl (SqL.of hl), rfl, false, rfl, iteF ?_⟩
    refine ⟨_, rfl, l, _, rfl, .inl (SqL.of hl), rfl, false, rfl, iteF ?_⟩
    refine ⟨_, rfl, l, _, rfl, .inl (SqL.of hl), rfl, false, rfl, iteF ?_⟩
    refine ⟨_, rfl, l, _, 0, _, rfl, rfl, SqL.of hl, rfl, _, rfl, l, _, 1, _, rfl, rfl, SqL.of hl, rfl, _, rfl, l, _, 2, _, rfl, rfl, SqL.of hl, rfl, _, rfl, l, _, 3, _, rfl, rfl, SqL.of hl, rfl, _, rfl, l, _, 4, _, rfl, rfl, SqL.of hl, rfl, ?_⟩
    exact fin
  | y0 :: y1 :: y2 :: y3 :: y4 :: y5 :: r, hl, ln, fin =>
    simp at ln
    omega
end
end Pl
namespace Pl
open PySem PySem.Spec PyProof.Rows L2
/-! own repr of shares and divisions; == of a division and anything -/
def shS (ns : List Int) : Str := ("Share(" : Str) ++ line ns ++ ")"
def spRep (C : Addr) : Sp := fun vs H Q _ => ∃ (s t : Addr) (ns : List Int), vs = [.ref s] ∧ ShAt C H s t ns ∧ ∀ H', Same H H' → Q (.str (shS ns)) H'
theorem line_sz {ns : List Int} (l6 : ns.length ≤ 6) (am : Am ns) : (shS ns).length ≤ 30 ∧ (line ns).length ≤ 18 ∧ (("Share(" : Str) ++ line ns).length ≤ 30 := by
  have lb := line_len am
  have l1 : ("Share(" : Str).length = 6 := rfl
  have l2 : (")" : Str).length = 1 := rfl
  unfold shS
  rw [Str.length_append, Str.length_append, l1, l2]
  omega
def dvS (n m : Int) : Str := Str.empty ++ ("Division(" : Str) ++ toString n ++ (" people, " : Str) ++ toString m ++ (" states)" : Str)
def shortD (n m : Int) : Prop := (Str.empty ++ ("Division(" : Str)).length ≤ 1000 ∧ (Str.empty ++ ("Division(" : Str) ++ toString n).length ≤ 1000 ∧ (Str.empty ++ ("Division(" : Str) ++ toString n ++ (" people, " : Str)).length ≤ 1000 ∧ (Str.empty ++ ("Division(" : Str) ++ toString n ++ (" people, " : Str) ++ toString m).length ≤ 1000 ∧ (dvS n m).length ≤ 1000
instance (n m : Int) : Decidable (shortD n m) := by unfold shortD; infer_instance
theorem shortD_all : ∀ n : Fin 5, ∀ m : Fin 7, shortD (n.val : Int) (m.val : Int) := by decide +kernel
def spRepD (CD C : Addr) : Sp := fun vs H Q _ => ∃ (d t : Addr) (ss : List Addr) (rows : List (List Int)), vs = [.ref d] ∧ DvAt CD C H d t ss rows ∧ Q (.str (dvS rows.length (wdt rows))) H
def spEqD7 (K : PySem.W.Frag) (CD C : Addr) : Sp := fun vs H Q _ => ∃ (d t : Addr) (ss : List Addr) (rows : List (List Int)) (y : V), vs = [.ref d, y] ∧ DvAt CD C H d t ss rows ∧
  ((∃ (d2 t2 : Addr) (ss2 : List Addr) (rows2 : List (List Int)), y = .ref d2 ∧ DvAt CD C H d2 t2 ss2 rows2 ∧ Q (.bl (decide (rows = rows2))) H) ∨ (∃ T, TyS H y T ∧ PySem.W.kitOne K (.type T) (.ref CD) = some false ∧ Q (.bl false) H))
section
variable {P : Program} {w : World} {K : PySem.W.Frag} {mg : Str → Option Value} {base : Heap} {CShare CDivision : Addr}
abbrev st_Sh_repr : Stmt := inClass (top 17) 10
theorem sc_Sh_repr : FnScope ["self"] ["self"] (defScope st_Sh_repr) := ⟨rfl, rfl, rfl, by decide +kernel, rfl, by decide +kernel, by decide +kernel⟩
theorem ok_repS (B : Bn mg) (SShare : ShK K mg CShare) (c_spaced : Cal P w K mg base 2 "spaced" ["amounts"] spSpaced) (D : Mh K CShare "__repr__" "Share.__repr__" st_Sh_repr ["self"]) : MCal P w K mg base 3 CShare "__repr__" ["self"] (spRep CShare) := by
  refine D.cal sc_Sh_repr (fun vs H Q E h => ?_) (fun f cdv A out s H vs Q E hr h => ?_)
  · obtain ⟨s1, t1, ns, rfl, _⟩ := h
    rfl
  obtain ⟨s1, t1, ns, rfl, ⟨⟨d1, a1⟩, b1, _, l6, am⟩, k⟩ := h
  refine ⟨_, (pss_one (ps_ret (pe_js (.cons pe_str (.cons (pe_fmt (pe_fn c_spaced (hr.mono (by decide)) (pa_cons (pe_fld (pv 0) rfl) pa_nil))) (.cons pe_str .nil)))))), ?_⟩
  obtain ⟨z1, z2, z3⟩ := line_sz l6 am
  have e0 : Str.empty ++ ("Share(" : Str) = "Share(" := TL.ext_tl (by rw [TL.tl_append]; rfl)
  refine ⟨_, rfl, by rw [e0]; exact size_of (by show 6 ≤ 1000; decide), _, rfl, s1, CShare, d1, _, _, rfl, a1, SShare.cl, SShare.nB, shF_get t1, t1, ns, rfl, b1, l6, am, fun H2 k2 => .inl ⟨_, rfl, size_of (by omega), _, rfl, by rw [e0]; exact size_of (by omega), _, rfl, ?_, ?_⟩⟩
  · rw [e0]
    exact size_of (show (shS ns).length ≤ 1000 by omega)
  · rw [e0]
    exact k H2 k2
theorem ok_eqD7 (B : Bn mg) (SDivision : DvK K mg CDivision) (m_eqS : MCal P w K mg base 2 CShare "__eq__" ["self", "other"] (spEqS CShare)) (D : Mh K CDivision "__eq__" "Division.__eq__" st_Di_eq ["self", "other"]) : MCal P w K mg base 4 CDivision "__eq__" ["self", "other"] (spEqD7 K CDivision CShare) := by
  refine D.cal sc_Di_eq (fun vs H Q E h => ?_) (fun f cdv A out s H vs Q E hr h => ?_)
  · obtain ⟨d, t, ss, rows, y, rfl, _⟩ := h
    rfl
  obtain ⟨d, t, ss, rows, y, rfl, ⟨⟨dx, a1⟩, b1, sh1, rw1⟩, h⟩ := h
  refine ⟨_, (pss_one (ps_ret (pe_and (pe_callB call_isi (by rfl) B.n_isinstance (by decide +kernel) (pa_cons (pv 1) (pa_cons (pe_glob (v := .ref CDivision) rfl SDivision.mgC rfl) pa_nil))) (pe_one (pe_cmpR (op_eqT m_eqS imS (hr.mono (by decide))) (pe_fld (pv 0) rfl) (pe_fld (pv 1) rfl) (nomark _)))))), ?_⟩
  rcases h with ⟨d2, t2, ss2, rows2, rfl, ⟨⟨dx2, a2⟩, b2, sh2, rw2⟩, k⟩ | ⟨T, ty, kt, k⟩
  case inr => exact ⟨_, rfl, _, _, _, _, false, rfl, .own _, ty.tyX, kt, _, rfl, iteF k⟩
  refine ⟨_, rfl, _, _, _, _, true, rfl, .own _, .base (.ins a2 SDivision.cl SDivision.ca SDivision.cg SDivision.ct SDivision.mro), SDivision.kit, _, rfl, iteT ?_⟩
  refine ⟨_, rfl, d, CDivision, dx, _, _, rfl, a1, SDivision.cl, SDivision.nP, dvF_get t, _, rfl, d2, CDivision, dx2, _, _, rfl, a2, SDivision.cl, SDivision.nP, dvF_get t2, ?_⟩
  have l1 := sh1.len
  have l2 := sh2.len
  refine ⟨t, t2, ss, ss2, fun i => decide (rows[i]? = rows2[i]?), rfl, rfl, SqT.of b1, SqT.of b2, fun i u v hu hv => ?_, ?_⟩
  · obtain ⟨u1, ns, en, su⟩ := sh1.get hu
    obtain ⟨v1, ms, em, sv⟩ := sh2.get hv
    refine ⟨fun e => ?_, ⟨_, _, su.1.choose_spec⟩, ⟨_, _, sv.1.choose_spec⟩, u, u1, v, v1, ns, ms, rfl, su, sv, ?_, rfl⟩
    · subst e
      show decide (rows[i]? = rows2[i]?) = true
      rw [en, em, su.uniq sv]
      exact decide_eq_true rfl
    · show V.bl (decide (ns = ms)) = V.bl (decide (rows[i]? = rows2[i]?))
      rw [en, em]
      congr 1
      exact decide_eq_decide.mpr ⟨fun e => by rw [e], fun e => Option.some.inj e⟩
  · have e : ((List.range (min ss.length ss2.length)).all (fun i => decide (rows[i]? = rows2[i]?)) && decide (ss.length = ss2.length)) = decide (rows = rows2) := by
      rw [Bool.eq_iff_iff]
      simp only [Bool.and_eq_true, List.all_eq_true, decide_eq_true_eq, List.mem_range]
      constructor
      · rintro ⟨a, b⟩
        refine List.ext_getElem? fun i => ?_
        rcases Nat.lt_or_ge i (min ss.length ss2.length) with h | h
        · exact a i h
        · rw [List.getElem?_eq_none (by omega), List.getElem?_eq_none (by omega)]
      · intro e
        subst e
        exact ⟨fun _ _ => rfl, by omega⟩
    rw [e]
    exact k
abbrev st_Di_repr : Stmt := inClass (top 24) 12
theorem sc_Di_repr : FnScope ["self"] ["self"] (defScope st_Di_repr) := ⟨rfl, rfl, rfl, by decide +kernel, rfl, by decide +kernel, by decide +kernel⟩
theorem ok_repD (SDivision : DvK K mg CDivision) (p_people : PCal P w K mg base 2 CDivision "people" ["self"] (spPeople CDivision CShare)) (p_states : PCal P w K mg base 4 CDivision "states" ["self"] (spStates CDivision CShare)) (D : Mh K CDivision "__repr__" "Division.__repr__" st_Di_repr ["self"]) : MCal P w K mg base 6 CDivision "__repr__" ["self"] (spRepD CDivision CShare) := by
  refine D.cal sc_Di_repr (fun vs H Q E h => ?_) (fun f cdv A out s H vs Q E hr h => ?_)
  · obtain ⟨d, t, ss, rows, rfl, _⟩ := h
    rfl
  obtain ⟨d, t, ss, rows, rfl, dv, k⟩ := h
  refine ⟨_, (pss_one (ps_ret (pe_js (.cons pe_str (.cons (pe_fmt (pe_pr p_people SDivision.cl (hr.mono (by decide)) (pv 0))) (.cons pe_str (.cons (pe_fmt (pe_pr p_states SDivision.cl (hr.mono (by decide)) (pv 0))) (.cons pe_str .nil)))))))), ?_⟩
  obtain ⟨⟨dx, hd⟩, ht, al, rw_⟩ := id dv
  obtain ⟨w2, w6⟩ := rw_.w26
  have p4 := rw_.2.1
  obtain ⟨z1, z2, z3, z4, z5⟩ := shortD_all ⟨rows.length, by omega⟩ ⟨wdt rows, by omega⟩
  have lg : ∀ n : Nat, n < 7 → (n : Int).natAbs.log2 < 1920 := fun n hn => by
    have : ∀ m : Fin 7, ((m.val : Nat) : Int).natAbs.log2 < 1920 := by decide +kernel
    exact this ⟨n, hn⟩
  refine ⟨_, rfl, size_of z1, ?_⟩
  refine ⟨_, rfl, d, dx, _, rfl, hd, d, t, ss, rows, rfl, dv, .inr ⟨_, rfl, lg _ (by omega), ?_⟩⟩
  refine ⟨_, rfl, size_of z2, _, rfl, size_of z3, ?_⟩
  refine ⟨_, rfl, d, dx, _, rfl, hd, d, t, ss, rows, rfl, dv, fun ns hn => ?_⟩
  rw [rw_.wdt hn]
  refine .inr ⟨_, rfl, lg _ (by omega), ?_⟩
  exact ⟨_, rfl, size_of z4, _, rfl, size_of z5, k⟩
end
end Pl
namespace Pl
open PySem PySem.Spec PyProof.Rows L2
/-! what is said of what was made -/
def rowsD (rows : List (List Int)) : PyData := .list (rows.map fun ns => .tuple (ns.map PyData.int))
def saidD (rows : List (List Int)) : PyData := .list [rowsD rows, .int (rows.length : Nat), .int (wdt rows : Nat), .tuple ((tots rows).map PyData.int), .str (text rows), .str (dvS rows.length (wdt rows)), .int 30, .bool true, .bool true, .bool false, .bool false]
def spSaid (K : PySem.W.Frag) (C : Addr) : Sp := fun vs H Q _ => ∃ (l : Addr) (us : List V) (os : List (Option (List Int))), vs = [.ref l] ∧ H l = some (.lst us) ∧ All7 C H us os ∧ os.length ≤ 5 ∧
  (∀ rows : List (List Int), os = rows.map some → Rows rows → ∀ (L : Addr) (H' : Hp), Same H H' → Dp K H' (.ref L) (saidD rows) → Q (.ref L) H') ∧ (¬ Ok7 os → ∀ H', Same H H' → Q (.str "share") H') ∧ (Ok7 os → ¬ (2 ≤ os.length ∧ os.length ≤ 4) → ∀ H', Same H H' → Q (.str "people") H')
theorem TpAll.dp {K : PySem.W.Frag} {H : Hp} : ∀ {ts : List Addr} {rows : List (List Int)}, TpAll H ts rows → DpAll K H (ts.map V.ref) (rows.map fun ns => .tuple (ns.map PyData.int))
  | [], [], _ => .nil
  | [], _ :: _, h => nomatch h.1
  | _ :: _, [], h => nomatch h.1
  | t :: ts, ns :: rows, h => .cons (.tup (SqT.of (h.2 0 t ns rfl rfl)) (dpInts K H ns)) (TpAll.dp ⟨by have := h.1; simpa using this, fun j u ms a b => h.2 (j + 1) u ms a b⟩)
theorem mapSome_inj : ∀ {a b : List (List Int)}, a.map some = b.map some → a = b
  | [], [], _ => rfl
  | [], _ :: _, h => nomatch h
  | _ :: _, [], h => nomatch h
  | x :: a, y :: b, h => by
    rw [List.map_cons, List.map_cons] at h
    injection h with h1 h2
    rw [Option.some.inj h1, mapSome_inj h2]
section
variable {P : Program} {w : World} {K : PySem.W.Frag} {mg : Str → Option Value} {base : Heap} {CShare CDivision CNoShare CNoPeople : Addr}
abbrev st_l_said : Stmt := top 35
theorem sc_l_said : FnScope ["_law_some", "_law_made", "_law_rows", "_law_found", "_law_share"] ["_law_some"] (defScope st_l_said) := ⟨rfl, rfl, rfl, by decide +kernel, rfl, by decide +kernel, by decide +kernel⟩
theorem ok_said (B : Bn mg) (SShare : ShK K mg CShare) (SDivision : DvK K mg CDivision) (e_NoShare : ExK K mg "NoShare" CNoShare) (e_NoPeople : ExK K mg "NoPeople" CNoPeople) (o21 : PySem.W.exmOne K (.ref CNoPeople) (.ref CNoShare) = some false) {u : Value} (cn : Con K CDivision "MOST" (.int 30) u)
    (sL : PySem.W.subIn K (.type "list") (.ref CDivision) = some false) (sT : PySem.W.subIn K (.type "tuple") (.ref CDivision) = some false) (kL : PySem.W.kitOne K (.type "list") (.ref CDivision) = some false) (kT : PySem.W.kitOne K (.type "tuple") (.ref CDivision) = some false)
    (p_amounts : PCal P w K mg base 2 CShare "amounts" ["self"] (getSp CShare "by_state")) (p_shares : PCal P w K mg base 2 CDivision "shares" ["self"] (getSp CDivision "by_person")) (p_people : PCal P w K mg base 2 CDivision "people" ["self"] (spPeople CDivision CShare)) (p_states : PCal P w K mg base 4 CDivision "states" ["self"] (spStates CDivision CShare)) (p_totals : PCal P w K mg base 4 CDivision "totals" ["self"] (spTotals CDivision CShare))
    (m_text : MCal P w K mg base 4 CDivision "text" ["self"] (spText CDivision CShare)) (m_repD : MCal P w K mg base 6 CDivision "__repr__" ["self"] (spRepD CDivision CShare)) (m_eqD : MCal P w K mg base 4 CDivision "__eq__" ["self", "other"] (spEqD7 K CDivision CShare)) (c_l_built : CalX P w K mg base 7 "_law_built" ["_law_some"] (spBuilt CDivision CShare CNoShare CNoPeople)) (D : Df K mg "_law_said" st_l_said ["_law_some"]) : Cal P w K mg base 9 "_law_said" ["_law_some"] (spSaid K CShare) := by
  refine D.cal sc_l_said (fun vs H Q E h => ?_) (fun f cdv A out s H vs Q E hr h => ?_)
  · obtain ⟨l, us, os, rfl, _⟩ := h
    rfl
  obtain ⟨l, us, os, rfl, hl, al, l5, k1, k2, k3x⟩ := h
  refine ⟨_, (pss_one (ps_try_many rfl rfl takes0 (fun W pn xe tk _ => (pss_cons (ps_set (i := 1) sc_l_said.nd rfl (.inl rfl) (pe_fnX c_l_built (passW tk) (hr.mono (by decide)) (pa_cons (pv 0) pa_nil)))
   (pss_cons (ps_setLc (i := 2) (own := [("_law_share", 4)]) (g := gName 4) rfl sc_l_said.nd rfl rfl (sw_true rfl rfl rfl (by decide +kernel)) (pi_tupK (K := K) (pe_pr p_shares SDivision.cl (hr.mono (by decide)) (pv 1))) (blkOk_by (N := ["_law_some", "_law_made", "_law_rows", "_law_found", "_law_share"]) (sc := defScope st_l_said) (by decide +kernel)) (fun _ _ _ _ _ => (pg_name (i := 4) sc_l_said.nd rfl (.inl rfl))) (fun _ _ _ _ _ => pts_nil) (fun _ _ _ _ _ => (pe_pr p_amounts SShare.cl (hr.mono (by decide)) (pv 4))))
   (pss_cons (ps_set (i := 3) sc_l_said.nd rfl (.inl rfl) (pe_lst (pa_cons (pv 2) (pa_cons (pe_pr p_people SDivision.cl (hr.mono (by decide)) (pv 1)) (pa_cons (pe_pr p_states SDivision.cl (hr.mono (by decide)) (pv 1)) (pa_cons (pe_pr p_totals SDivision.cl (hr.mono (by decide)) (pv 1)) (pa_cons (pe_mt0 m_text SDivision.cl (hr.mono (by decide)) (pv 1)) (pa_cons (pe_callB (call_reprO m_repD (hr.mono (by decide))) (by rfl) B.n_repr (by decide +kernel) (pa_cons (pv 1) pa_nil)) (pa_cons (show PE _ _ (tCon K (tVar 1) "MOST") from pe_con (pv 1) rfl) pa_nil)))))))))
   (pss_one (ps_ret (pe_op op_cat (pv 3) (pe_lst (pa_cons (pe_callB (show CallR _ (.builtin "isinstance") (rIsi K) from call_isi) (by rfl) B.n_isinstance (by decide +kernel) (pa_cons (pe_pr p_shares SDivision.cl (hr.mono (by decide)) (pv 1)) (pa_cons (pe_bltn (v := .ty "tuple") (by rfl) B.n_tuple (by decide +kernel) rfl) pa_nil))) (pa_cons (pe_cmpR (show OpR _ (compareOp .Eq) (rEqO K CDivision (spEqD7 K CDivision CShare)) from op_eqO m_eqD (hr.mono (by decide))) (pv 1) (pe_fnX c_l_built (passW tk) (hr.mono (by decide)) (pa_cons (pv 0) pa_nil)) (nomark _)) (pa_cons (pe_cmpR (show OpR _ (compareOp .Eq) (rEqO K CDivision (spEqD7 K CDivision CShare)) from op_eqO m_eqD (hr.mono (by decide))) (pv 1) (pv 0) (nomark _)) (pa_cons (pe_cmpR (show OpR _ (compareOp .Eq) (rEqO K CDivision (spEqD7 K CDivision CShare)) from op_eqO m_eqD (hr.mono (by decide))) (pv 1) (pe_pr p_shares SDivision.cl (hr.mono (by decide)) (pv 1)) (nomark _)) pa_nil)))))))))))) (.cons ⟨rfl, by decide, .inl e_NoShare.g⟩ (fun a oe cls d pn _ _ => (pss_one (ps_ret pe_str))) (.cons ⟨rfl, by decide, .inl e_NoPeople.g⟩ (fun a oe cls d pn _ _ => (pss_one (ps_ret pe_str))) .nil)))), ?_⟩
  refine ⟨_, rfl, l, us, os, rfl, hl, al, l5, fun ss rows e1 e2 rw_ d t H1 kk dv => ?_, fun no H' k σ' => ⟨true, e_NoShare.me, fun _ a _ => k2 no H' k, fun z => nomatch z⟩, fun ok nc H' k σ' => ⟨false, o21, fun z => (nomatch z), fun _ => ⟨true, e_NoPeople.me, fun _ a _ => k3x ok nc H' k, fun z => nomatch z⟩⟩⟩
  have k1 := k1 rows e2 rw_
  obtain ⟨⟨dx, hd⟩, ht, sa, _⟩ := id dv
  have lr := sa.len
  have p4 := rw_.2.1
  refine ⟨_, rfl, d, dx, _, rfl, hd, d, dx, _, _, rfl, hd, dvF_get t, t, rfl, ⟨_, SqT.of ht⟩, fun L hL => lc_tup (K := K) (a := t) (xs := ss.map V.ref) (fun i H' => Same H1 H' ∧ ∃ ts : List Addr, H' L = some (.lst (ts.map V.ref)) ∧ TpAll H' ts (rows.take i)) ⟨same_new (Same.refl _) hL, [], upd_same, by simp, fun j u ns z => by simp at z⟩ (fun i H' _ z => SqT.of (z.1 _ _ ht)) (fun i x H' hx z => ⟨rfl, tyes ?_⟩) (fun H2 z => ?_)⟩
  · obtain ⟨k2', ts, h2, tp⟩ := z
    obtain ⟨s1, rfl, es⟩ := refAt hx
    obtain ⟨t1, ns, en, sh⟩ := sa.get es
    obtain ⟨⟨d1, a1⟩, a2, _⟩ := id sh
    have lt := tp.1
    rw [List.length_take] at lt
    refine ⟨_, rfl, s1, d1, _, rfl, k2' _ _ a1, s1, d1, _, _, rfl, k2' _ _ a1, shF_get t1, ?_⟩
    refine ⟨_, h2, Nat.lt_of_le_of_lt (show (ts.map V.ref).length ≤ 1000 by rw [List.length_map]; omega) (by decide), same_put k2' hL, ts ++ [t1], by rw [upd_same, List.map_append]; rfl, ?_⟩
    rw [List.take_add_one, en]
    exact TpAll.snoc (TpAll.put tp h2) (by rw [upd_ne (ne_of (k2' _ _ a2) h2 (by intro z; cases z))]; exact k2' _ _ a2)
  obtain ⟨k2', ts, hL2, tp⟩ := z
  rw [List.length_map, lr, List.take_length] at tp
  have lt := tp.1
  have dv2 := dv.same k2'
  obtain ⟨⟨dx2, hd2⟩, ht2, _⟩ := id dv2
  refine ⟨_, rfl, _, rfl, d, dx2, _, rfl, hd2, d, t, ss, rows, rfl, dv2, ?_⟩
  refine ⟨_, rfl, d, dx2, _, rfl, hd2, d, t, ss, rows, rfl, dv2, fun ns hn => ?_⟩
  rw [rw_.wdt hn]
  refine ⟨_, rfl, d, dx2, _, rfl, hd2, d, t, ss, rows, rfl, dv2, fun q H3 k3 hq => ?_⟩
  have dv3 := dv2.same k3
  obtain ⟨⟨dx3, hd3⟩, _⟩ := id dv3
  refine ⟨_, rfl, d, dx3, _, rfl, hd3, rfl, d, t, ss, rows, rfl, dv3, fun H4 k4 => ?_⟩
  have dv4 := dv3.same k4
  obtain ⟨⟨dx4, hd4⟩, ht4, _⟩ := id dv4
  refine ⟨_, rfl, d, dx4, _, rfl, hd4, d, t, ss, rows, rfl, dv4, _, rfl, ?_⟩
  refine ⟨_, rfl, d, CDivision, dx4, _, _, _, rfl, hd4, SDivision.cl, cn, rfl, ?_⟩
  refine ⟨(by show 7 ≤ sizeLine; decide), fun F hF => ?_⟩
  generalize hH5 : upd H4 F _ = H5
  obtain ⟨k5, e5⟩ := alloc hH5 hF
  clear hH5
  have k15 : Same H1 H5 := k2'.trans (k3.trans (k4.trans k5))
  have dv5 := dv.same k15
  obtain ⟨⟨dx5, hd5⟩, ht5, _⟩ := id dv5
  have kk5 := kk.trans k15
  refine ⟨_, rfl, _, rfl, d, dx5, _, rfl, hd5, d, dx5, _, _, rfl, hd5, dvF_get t, ?_⟩
  refine ⟨_, _, _, _, true, rfl, .ty _, .base (.tup ht5), kit_ty (by decide +kernel), ?_⟩
  refine ⟨_, rfl, _, rfl, l, us, os, rfl, kk5 _ _ hl, al.same kk5, l5, fun ss2 rows2 e3 e4 rw2 d2 t2 H6 k6 dv6n => ?_, fun no H' k σ' => ⟨true, e_NoShare.me, fun _ a _ => k2 no H' (kk5.trans k), fun z => nomatch z⟩, fun ok nc H' k σ' => ⟨false, o21, fun z => (nomatch z), fun _ => ⟨true, e_NoPeople.me, fun _ a _ => k3x ok nc H' (kk5.trans k), fun z => nomatch z⟩⟩⟩
  obtain rfl : rows2 = rows := mapSome_inj (e4.symm.trans e2)
  have dv6 := dv5.same k6
  obtain ⟨⟨dx6, hd6⟩, ht6, _⟩ := id dv6
  obtain ⟨⟨dx7, hd7⟩, _⟩ := id dv6n
  have hl6 := (kk5.trans k6) _ _ hl
  refine ⟨d, dx6, _, rfl, hd6, .inl ⟨d2, dx7, _, rfl, hd7⟩, d, t, ss, rows2, .ref d2, rfl, dv6, .inl ⟨d2, t2, ss2, rows2, rfl, dv6n, _, rfl, ?_⟩⟩
  rw [decide_eq_true rfl]
  refine ⟨_, rfl, _, rfl, d, dx6, _, rfl, hd6, .inr ⟨_, .lst hl6, sL⟩, d, t, ss, rows2, _, rfl, dv6, .inr ⟨_, .lst hl6, kL, _, rfl, ?_⟩⟩
  refine ⟨_, rfl, _, rfl, d, dx6, _, rfl, hd6, d, dx6, _, _, rfl, hd6, dvF_get t, d, dx6, _, rfl, hd6, .inr ⟨_, .tup ht6, sT⟩, d, t, ss, rows2, _, rfl, dv6, .inr ⟨_, .tup ht6, kT, _, rfl, ?_⟩⟩
  refine ⟨(by show 4 ≤ sizeLine; decide), fun G hG => ?_⟩
  generalize hH7 : upd H6 G _ = H7
  obtain ⟨k7, e7⟩ := alloc hH7 hG
  clear hH7
  refine ⟨F, G, _, _, rfl, rfl, (k6.trans k7) _ _ e5, e7, (by show 11 ≤ sizeLine; decide), fun Z hZ => ?_⟩
  generalize hH8 : upd H7 Z _ = H8
  obtain ⟨k8, e8⟩ := alloc hH8 hZ
  clear hH8
  have k68 := k6.trans (k7.trans k8)
  have k28 : Same H2 H8 := k3.trans (k4.trans (k5.trans k68))
  refine k1 Z H8 (kk5.trans k68) (.lst (SqL.of e8) (.cons (.lst (SqL.of (k28 _ _ hL2)) (tp.same k28).dp) (.cons (.int _) (.cons (.int _) (.cons (.tup (SqT.of ((k4.trans (k5.trans k68)) _ _ hq)) (dpInts K H8 _)) (.cons (.str _) (.cons (.str _) (.cons (.int _) (.cons (.bl _) (.cons (.bl _) (.cons (.bl _) (.cons (.bl _) .nil))))))))))))
end
end Pl
namespace Pl
open PySem PySem.Spec PyProof.Rows L2
/-! what is due -/
theorem eqvNil (ds : List PyData) : PyData.eqv (.list ds) (.list []) = decide (ds = []) := by
  cases ds <;> simp [PyData.eqv, PyData.eqvAll]
/-- a list of ones, empty as long as P holds -/
def FI (P : Nat → Prop) (H0 : Hp) (D : Addr) (i : Nat) (H' : Hp) : Prop := Same H0 H' ∧ ∃ us : List Int, H' D = some (.lst (us.map V.int)) ∧ us.length ≤ i ∧ (us = [] ↔ ∀ j, j < i → P j)
theorem FI.bad {P : Nat → Prop} {H0 H' : Hp} {D : Addr} {i : Nat} (f : FI P H0 D i H') (hD : H0 D = none) (l : i ≤ 100) (n : ¬ P i) : ∃ acc, H' D = some (.lst acc) ∧ acc.length < sizeLine ∧ FI P H0 D (i + 1) (L2.upd H' D (.lst (acc ++ [.int 1]))) := by
  obtain ⟨k, us, h, lu, e⟩ := f
  refine ⟨_, h, Nat.lt_of_le_of_lt (show (us.map V.int).length ≤ 1000 by rw [List.length_map]; omega) (by decide), same_put k hD, us ++ [1], by rw [upd_same, List.map_append]; rfl, by rw [List.length_append]; show _ + 1 ≤ _; omega, ⟨fun z => by simp at z, fun z => absurd (z i (Nat.lt_succ_self i)) n⟩⟩
theorem FI.good {P : Nat → Prop} {H0 H' : Hp} {D : Addr} {i : Nat} (f : FI P H0 D i H') (y : P i) : FI P H0 D (i + 1) H' := by
  obtain ⟨k, us, h, lu, e⟩ := f
  refine ⟨k, us, h, by omega, e.trans ⟨fun z j hj => ?_, fun z j hj => z j (by omega)⟩⟩
  by_cases c : j = i
  · rw [c]; exact y
  · exact z j (by omega)
def shortE (n m : Int) : Prop := ("Division(" : Str).length + (toString n : Str).length ≤ 1000 ∧ (("Division(" : Str) ++ toString n).length + (" people, " : Str).length ≤ 1000 ∧ (("Division(" : Str) ++ toString n ++ (" people, " : Str)).length + (toString m : Str).length ≤ 1000 ∧ (("Division(" : Str) ++ toString n ++ (" people, " : Str) ++ toString m).length + (" states)" : Str).length ≤ 1000
instance (n m : Int) : Decidable (shortE n m) := by unfold shortE; infer_instance
theorem shortE_all : ∀ n : Fin 5, ∀ m : Fin 7, shortE (n.val : Int) (m.val : Int) := by decide +kernel
def spDue7 (K : PySem.W.Frag) (C : Addr) : Sp := spSaid K C
section
variable {P : Program} {w : World} {K : PySem.W.Frag} {mg : Str → Option Value} {base : Heap} {CShare CDivision : Addr}
abbrev st_l_due : Stmt := top 36
theorem sc_l_due : FnScope ["_law_some", "_law_rows", "_law_many", "_law_totals", "_law_text", "_law_word", "_law_one", "_law_state", "_law_row", "_law_amount"] ["_law_some"] (defScope st_l_due) := ⟨rfl, rfl, rfl, by decide +kernel, rfl, by decide +kernel, by decide +kernel⟩
theorem ok_due7 (B : Bn mg) (kt : Kt7S K CShare) (SShare : ShK K mg CShare) (m_len : MCal P w K mg base 2 CShare "__len__" ["self"] (spLen CShare)) (p_amounts : PCal P w K mg base 2 CShare "amounts" ["self"] (getSp CShare "by_state")) (D : Df K mg "_law_due" st_l_due ["_law_some"]) : Cal P w K mg base 5 "_law_due" ["_law_some"] (spDue7 K CShare) := by
  refine D.cal sc_l_due (fun vs H Q E h => ?_) (fun f cdv A out s H vs Q E hr h => ?_)
  · obtain ⟨l, us, os, rfl, _⟩ := h
    rfl
  obtain ⟨l, us, os, rfl, hl, al, l5, k1, k2, k3⟩ := h
  refine ⟨_, (pss_cons (ps_if (pt_cmpR (op_neD hr.units) (pe_lc (own := [("_law_one", 6)]) (g := gName 6) rfl sc_l_due.nd (pi_list (pv 0)) (blkOk_by (N := ["_law_some", "_law_rows", "_law_many", "_law_totals", "_law_text", "_law_word", "_law_one", "_law_state", "_law_row", "_law_amount"]) (sc := defScope st_l_due) (by decide +kernel)) (fun _ _ _ _ _ => (pg_name (i := 6) sc_l_due.nd rfl (.inl rfl))) (fun _ _ _ _ _ => (pts_one (pt_not (pt_val (pe_callB (show CallR _ (.builtin "isinstance") (rIsi K) from call_isi) (by rfl) B.n_isinstance (by decide +kernel) (pa_cons (pv 6) (pa_cons (pe_glob (v := .ref CShare) rfl SShare.mgC rfl) pa_nil))))))) (fun _ _ _ _ _ => pe_int)) (pe_lst pa_nil) (nomark _)) (pss_one (ps_ret pe_str)) pss_nil)
   (pss_cons (ps_if (pt_cmpR (op_neD hr.units) (pe_lc (own := [("_law_one", 6)]) (g := gName 6) rfl sc_l_due.nd (pi_list (pv 0)) (blkOk_by (N := ["_law_some", "_law_rows", "_law_many", "_law_totals", "_law_text", "_law_word", "_law_one", "_law_state", "_law_row", "_law_amount"]) (sc := defScope st_l_due) (by decide +kernel)) (fun _ _ _ _ _ => (pg_name (i := 6) sc_l_due.nd rfl (.inl rfl))) (fun _ _ _ _ _ => (pts_one (pt_cmpR op_ne (pe_callB (call_lenM m_len (hr.mono (by decide))) (by rfl) B.n_len (by decide +kernel) (pa_cons (pv 6) pa_nil)) (pe_callB (call_lenM m_len (hr.mono (by decide))) (by rfl) B.n_len (by decide +kernel) (pa_cons (pe_ix (show IxR _ (rIxL K) from ix_list) (pv 0) pe_int (fun _ _ => rfl)) pa_nil)) (nomark _)))) (fun _ _ _ _ _ => pe_int)) (pe_lst pa_nil) (nomark _)) (pss_one (ps_ret pe_str)) pss_nil)
   (pss_cons (ps_if (pt_not (pt_chain op_le op_le pe_int (pe_callB call_len_seq (by rfl) B.n_len (by decide +kernel) (pa_cons (pv 0) pa_nil)) pe_int)) (pss_one (ps_ret pe_str)) pss_nil)
   (pss_cons (ps_asg (pe_tup (pa_cons (pe_lc (own := [("_law_one", 6)]) (g := gName 6) rfl sc_l_due.nd (pi_list (pv 0)) (blkOk_by (N := ["_law_some", "_law_rows", "_law_many", "_law_totals", "_law_text", "_law_word", "_law_one", "_law_state", "_law_row", "_law_amount"]) (sc := defScope st_l_due) (by decide +kernel)) (fun _ _ _ _ _ => (pg_name (i := 6) sc_l_due.nd rfl (.inl rfl))) (fun _ _ _ _ _ => pts_nil) (fun _ _ _ _ _ => (pe_pr p_amounts SShare.cl (hr.mono (by decide)) (pv 6)))) (pa_cons (pe_callB (call_lenM m_len (hr.mono (by decide))) (by rfl) B.n_len (by decide +kernel) (pa_cons (pe_ix ix_list (pv 0) pe_int (fun _ _ => rfl)) pa_nil)) pa_nil))) (pg_tup rfl (pgs_cons (pg_name (i := 1) sc_l_due.nd rfl (.inr rfl)) (pgs_cons (pg_name (i := 2) sc_l_due.nd rfl (.inl rfl)) pgs_nil))))
   (pss_cons (ps_set (i := 3) sc_l_due.nd rfl (.inl rfl) (pe_callTy call_tuple_of (by rfl) B.n_tuple (by decide +kernel) (pa_cons (pe_lc (own := [("_law_state", 7)]) (g := gName 7) rfl sc_l_due.nd (pi_range1 (by rfl) B.n_range (pa_cons (pv 2) pa_nil)) (blkOk_by (N := ["_law_some", "_law_rows", "_law_many", "_law_totals", "_law_text", "_law_word", "_law_one", "_law_state", "_law_row", "_law_amount"]) (sc := defScope st_l_due) (by decide +kernel)) (fun _ _ _ _ _ => (pg_name (i := 7) sc_l_due.nd rfl (.inr rfl))) (fun _ _ _ _ _ => pts_nil) (fun _ _ _ _ _ => (pe_callB (show CallR _ (.builtin "sum") (rSum K) from cr_sum rfl) (by rfl) B.n_sum (by decide +kernel) (pa_cons (pe_lc (own := [("_law_row", 8)]) (g := gName 8) rfl sc_l_due.nd (pi_listK (K := K) (pv 1)) (blkOk_in (N := ["_law_some", "_law_rows", "_law_many", "_law_totals", "_law_text", "_law_word", "_law_one", "_law_state", "_law_row", "_law_amount"]) (defScope st_l_due) rfl (by decide +kernel)) (fun _ _ _ _ _ => (pg_name (i := 8) sc_l_due.nd rfl (.inl rfl))) (fun _ _ _ _ _ => pts_nil) (fun _ _ _ _ _ => (pe_ix (show IxR _ (rIxT K) from ix_tup) (pv 8) (pv 7) (fun _ _ => rfl)))) pa_nil)))) pa_nil)))
   (pss_cons (ps_set (i := 4) sc_l_due.nd rfl (.inl rfl) (pe_join pe_str (pe_lc (own := [("_law_row", 8)]) (g := gName 8) rfl sc_l_due.nd (pi_list (pv 1)) (blkOk_by (N := ["_law_some", "_law_rows", "_law_many", "_law_totals", "_law_text", "_law_word", "_law_one", "_law_state", "_law_row", "_law_amount"]) (sc := defScope st_l_due) (by decide +kernel)) (fun _ _ _ _ _ => (pg_name (i := 8) sc_l_due.nd rfl (.inl rfl))) (fun _ _ _ _ _ => pts_nil) (fun _ _ _ _ _ => (pe_op op_add_str (pe_joinK (K := K) pe_str (pe_lc (own := [("_law_amount", 9)]) (g := gName 9) rfl sc_l_due.nd (pi_tupK (K := K) (pv 8)) (blkOk_in (N := ["_law_some", "_law_rows", "_law_many", "_law_totals", "_law_text", "_law_word", "_law_one", "_law_state", "_law_row", "_law_amount"]) (defScope st_l_due) rfl (by decide +kernel)) (fun _ _ _ _ _ => (pg_name (i := 9) sc_l_due.nd rfl (.inl rfl))) (fun _ _ _ _ _ => pts_nil) (fun _ _ _ _ _ => (pe_callTy call_str_int (by rfl) B.n_str (by decide +kernel) (pa_cons (pv 9) pa_nil))))) pe_str)))))
   (pss_cons (ps_set (i := 5) sc_l_due.nd rfl (.inl rfl) (pe_op op_add_str (pe_op op_add_str (pe_op op_add_str (pe_op op_add_str pe_str (pe_callTy call_str_int (by rfl) B.n_str (by decide +kernel) (pa_cons (pe_callB call_len_seq (by rfl) B.n_len (by decide +kernel) (pa_cons (pv 1) pa_nil)) pa_nil))) pe_str) (pe_callTy call_str_int (by rfl) B.n_str (by decide +kernel) (pa_cons (pv 2) pa_nil))) pe_str))
   (pss_one (ps_ret (pe_lst (pa_cons (pv 1) (pa_cons (pe_callB call_len_seq (by rfl) B.n_len (by decide +kernel) (pa_cons (pv 1) pa_nil)) (pa_cons (pv 2) (pa_cons (pv 3) (pa_cons (pv 4) (pa_cons (pv 5) (pa_cons pe_int (pa_cons pe_bl (pa_cons pe_bl (pa_cons pe_bl (pa_cons pe_bl pa_nil))))))))))))))))))))), ?_⟩
  have ln := al.len
  have ty : ∀ {G : Hp} {s d t : Addr}, G s = some (.ins CShare d (shF t)) → TyX K G (.ref s) (.ref CShare) := fun e => .base (.ins e SShare.cl SShare.ca SShare.cg SShare.ct SShare.mro)
  refine ⟨_, rfl, l, rfl, ⟨_, SqL.of hl⟩, fun D hD => lc_list (K := K) (a := l) (xs := us) (FI (fun j => ∃ n, os[j]? = some (some n)) H D) ⟨same_new (Same.refl _) hD, [], upd_same, Nat.le_refl _, by simp⟩ (fun i H' _ z => SqL.of (z.1 _ _ hl)) (fun i x H' hx z => ⟨rfl, ?_⟩) (fun H1 z => ?_)⟩
  · have li := (List.getElem?_eq_some_iff.mp hx).1
    obtain ⟨o, eo, io⟩ := al.at_ hx
    cases io with
    | @sh s t ns sh =>
      obtain ⟨⟨d1, a1⟩, _⟩ := id sh
      refine ⟨_, rfl, _, _, _, _, true, rfl, .own _, ty (z.1 _ _ a1), SShare.kit, _, rfl, iteF ?_⟩
      exact z.good ⟨_, eo⟩
    | odd t =>
      refine ⟨_, rfl, _, _, _, _, false, rfl, .own _, (t.same z.1).tyX, t.kt kt, _, rfl, iteT ?_⟩
      exact z.bad hD (by omega) fun ⟨n, e⟩ => by rw [eo] at e; cases e
  obtain ⟨kA, u1, h1, _, ok1⟩ := z
  refine ⟨Nat.zero_le _, fun N hN => ?_⟩
  generalize hH2 : upd H1 N _ = H2
  obtain ⟨kB, e2⟩ := alloc hH2 hN
  clear hH2
  refine ⟨.list (u1.map PyData.int), .list [], .lst (SqL.of (kB _ _ h1)) (dpInts K H2 _), .lst (SqL.of e2) .nil, shapedInts u1, shapedInts [], _, rfl, ?_⟩
  rw [eqvNil]
  have k02 := kA.trans kB
  by_cases c : u1 = []
  case neg =>
    rw [decide_eq_false (by simpa using c)]
    refine iteT (k2 (fun ok => c (ok1.mpr fun j hj => ?_)) H2 k02)
    have eo : os[j]? = some os[j] := List.getElem?_eq_getElem (by omega)
    have e0 : os[0]? = some os[0] := List.getElem?_eq_getElem (by omega)
    obtain ⟨_, m, _, e, _⟩ := ok j _ _ eo e0
    exact ⟨m, by rw [eo, e]⟩
  subst c
  rw [decide_eq_true (by rfl)]
  refine iteF ?_
  have all := ok1.mp rfl
  obtain ⟨ss, rows, rfl, rfl, sa⟩ := al.shares fun o ho => by
    obtain ⟨j, hj⟩ := List.mem_iff_getElem?.mp ho
    have lj := (List.getElem?_eq_some_iff.mp hj).1
    obtain ⟨n, e⟩ := all j (by omega)
    rw [hj] at e
    exact ⟨n, Option.some.inj e⟩
  rw [List.length_map] at l5
  have hl2 := k02 _ _ hl
  have sa2 := sa.same k02
  have lr := sa.len
  refine ⟨_, rfl, l, rfl, ⟨_, SqL.of hl2⟩, fun D2 hD2 => lc_list (K := K) (a := l) (xs := ss.map V.ref) (FI (fun j => ∀ ns n0, rows[j]? = some ns → rows[0]? = some n0 → n0.length = ns.length) H2 D2) ⟨same_new (Same.refl _) hD2, [], upd_same, Nat.le_refl _, by simp⟩ (fun i H' _ z => SqL.of (z.1 _ _ hl2)) (fun i x H' hx z => ⟨rfl, ?_⟩) (fun H3 z => ?_)⟩
  · obtain ⟨s1, rfl, es⟩ := refAt hx
    have li := (List.getElem?_eq_some_iff.mp es).1
    obtain ⟨t1, ns, en, sh1⟩ := sa2.get es
    have e0 : ss[0]? = some (ss[0]'(by omega)) := List.getElem?_eq_getElem (by omega)
    obtain ⟨t0, n0, en0, sh0⟩ := sa2.get e0
    have sh1 := sh1.same z.1
    have sh0 := sh0.same z.1
    generalize ss[0]'(by omega) = s0 at e0 sh0
    obtain ⟨⟨d1, a1⟩, _, _, l1, _⟩ := id sh1
    obtain ⟨⟨d0, a0⟩, _, _, l0, _⟩ := id sh0
    refine ⟨_, rfl, s1, d1, _, rfl, a1, s1, t1, ns, rfl, sh1, ns.length, rfl, by omega, ?_⟩
    refine ⟨_, rfl, l, _, 0, _, rfl, rfl, SqL.of (z.1 _ _ hl2), refsAt e0, s0, d0, _, rfl, a0, s0, t0, n0, rfl, sh0, n0.length, rfl, by omega, rfl, _, rfl, ?_⟩
    refine ite2 (fun c => ?_) (fun c => ?_)
    · refine z.bad hD2 (by omega) fun p => ?_
      rw [p ns n0 en en0] at c
      simp at c
    · refine z.good fun ns' n0' e1 e2 => ?_
      rw [en] at e1
      rw [en0] at e2
      cases e1
      cases e2
      have c2 : V.int (ns.length : Int) = V.int (n0.length : Int) := by simpa using c
      have := V.int.inj c2
      omega
  obtain ⟨kC, u2, h3, _, ok2⟩ := z
  refine ⟨Nat.zero_le _, fun N2 hN2 => ?_⟩
  generalize hH4 : upd H3 N2 _ = H4
  obtain ⟨kD, e4⟩ := alloc hH4 hN2
  clear hH4
  refine ⟨.list (u2.map PyData.int), .list [], .lst (SqL.of (kD _ _ h3)) (dpInts K H4 _), .lst (SqL.of e4) .nil, shapedInts u2, shapedInts [], _, rfl, ?_⟩
  rw [eqvNil]
  have k24 := kC.trans kD
  have k04 := k02.trans k24
  by_cases c2 : u2 = []
  case neg =>
    rw [decide_eq_false (by simpa using c2)]
    refine iteT (k2 (fun ok => c2 (ok2.mpr fun j hj ns n0 e1 e2 => ?_)) H4 k04)
    obtain ⟨n, m, f1, f2, e⟩ := ok j (some ns) (some n0) (by rw [List.getElem?_map, e1]; rfl) (by rw [List.getElem?_map, e2]; rfl)
    cases f1
    cases f2
    exact e
  subst c2
  rw [decide_eq_true (by rfl)]
  refine iteF ?_
  have same := ok2.mp rfl
  rw [List.length_map, lr] at same
  have ok : Ok7 (rows.map some) := fun i o o0 a b => by
    rw [List.getElem?_map] at a b
    cases ea : rows[i]? with
    | none => rw [ea] at a; cases a
    | some ns =>
      cases eb : rows[0]? with
      | none => rw [eb] at b; cases b
      | some n0 =>
        rw [ea] at a
        rw [eb] at b
        cases a
        cases b
        exact ⟨n0, ns, rfl, rfl, same i (List.getElem?_eq_some_iff.mp ea).1 ns n0 ea eb⟩
  have lm : (ss.map V.ref).length = rows.length := by rw [List.length_map, lr]
  have hl4 := k04 _ _ hl
  refine ⟨_, rfl, l, _, rfl, .inl (SqL.of hl4), _, _, rfl, rfl, _, rfl, ?_⟩
  rw [lm]
  by_cases c1 : 2 ≤ rows.length
  case neg =>
    rw [decide_eq_false (show ¬ (2 : Int) ≤ (rows.length : Int) by omega)]
    exact iteF ⟨_, rfl, iteT (k3 ok (fun z => c1 (by rw [List.length_map] at z; exact z.1)) H4 k04)⟩
  rw [decide_eq_true (show (2 : Int) ≤ (rows.length : Int) by omega)]
  refine iteT ⟨_, _, rfl, rfl, _, rfl, ?_⟩
  by_cases c2 : rows.length ≤ 4
  case neg =>
    rw [decide_eq_false (show ¬ (rows.length : Int) ≤ 4 by omega)]
    exact iteT (k3 ok (fun z => c2 (by rw [List.length_map] at z; exact z.2)) H4 k04)
  rw [decide_eq_true (show (rows.length : Int) ≤ 4 by omega)]
  refine iteF ?_
  have rw_ : Rows rows := by
    have m0 := sa.row7 _ (List.getElem_mem (show 0 < rows.length by omega))
    refine ⟨c1, c2, _, m0.1, m0.2.1, fun ns hn => ?_⟩
    refine ⟨?_, (sa.row7 ns hn).2.2⟩
    obtain ⟨j, hj⟩ := List.mem_iff_getElem?.mp hn
    exact (same j (List.getElem?_eq_some_iff.mp hj).1 ns _ hj (List.getElem?_eq_getElem (by omega))).symm
  have k1 := k1 rows rfl rw_
  have sa4 := sa.same k04
  obtain ⟨w2, w6⟩ := rw_.w26
  clear k2 k3 ok same all ok1 ok2 sa2 hl2 e2 e4 h1 h3 c1
  refine ⟨_, rfl, l, rfl, ⟨_, SqL.of hl4⟩, fun F hF => lc_list (K := K) (a := l) (xs := ss.map V.ref) (fun i H' => Same H4 H' ∧ ∃ ts : List Addr, H' F = some (.lst (ts.map V.ref)) ∧ TpAll H' ts (rows.take i)) ⟨same_new (Same.refl _) hF, [], upd_same, by simp, fun j u ns z => by simp at z⟩ (fun i H' _ z => SqL.of (z.1 _ _ hl4)) (fun i x H' hx z => ⟨rfl, tyes ?_⟩) (fun H5 z => ?_)⟩
  · obtain ⟨kE, ts, h2, tp⟩ := z
    obtain ⟨s1, rfl, es⟩ := refAt hx
    obtain ⟨t1, ns, en, sh⟩ := sa4.get es
    obtain ⟨⟨d1, a1⟩, a2, _⟩ := id sh
    have lt := tp.1
    rw [List.length_take] at lt
    refine ⟨_, rfl, s1, d1, _, rfl, kE _ _ a1, s1, d1, _, _, rfl, kE _ _ a1, shF_get t1, ?_⟩
    refine ⟨_, h2, Nat.lt_of_le_of_lt (show (ts.map V.ref).length ≤ 1000 by rw [List.length_map]; omega) (by decide), same_put kE hF, ts ++ [t1], by rw [upd_same, List.map_append]; rfl, ?_⟩
    rw [List.take_add_one, en]
    exact TpAll.snoc (TpAll.put tp h2) (by rw [upd_ne (ne_of (kE _ _ a2) h2 (by intro z; cases z))]; exact kE _ _ a2)
  obtain ⟨kE, ts, hF5, tp⟩ := z
  rw [lm, List.take_length] at tp
  have lt := tp.1
  have c1 := rw_.1
  have hl5 := kE _ _ hl4
  have e0 : ss[0]? = some (ss[0]'(by omega)) := List.getElem?_eq_getElem (by omega)
  obtain ⟨t0, n0, en0, sh0⟩ := (sa4.same kE).get e0
  generalize ss[0]'(by omega) = s0 at e0 sh0
  obtain ⟨⟨d0, a0⟩, _, _, l0, _⟩ := id sh0
  have w0 := rw_.wdt (List.mem_of_getElem? en0)
  have wn : ∀ ns ∈ rows, ns.length = nst rows := rw_.nst
  have enst : nst rows = wdt rows := (wn n0 (List.mem_of_getElem? en0)).symm.trans w0
  refine ⟨_, rfl, l, _, 0, _, rfl, rfl, SqL.of hl5, refsAt e0, s0, d0, _, rfl, a0, s0, t0, n0, rfl, sh0, n0.length, rfl, by omega, ?_⟩
  refine ⟨(by show 2 ≤ sizeLine; decide), fun T hT => ?_⟩
  generalize hH6 : upd H5 T _ = H6
  obtain ⟨kF, e6⟩ := alloc hH6 hT
  clear hH6
  refine ⟨T, _, rfl, SqT.of e6, rfl, _, _, rfl, _, _, rfl, rfl, ?_⟩
  have hF6 := kF _ _ hF5
  have tp6 := tp.same kF
  rw [w0]
  -- the totals
  refine ⟨_, rfl, wdt rows, rfl, by omega, by omega, fun D3 hD3 => lc_range (lo := 0) (n := wdt rows) (fun i H' => Same H6 H' ∧ H' D3 = some (.lst (((tots rows).take i).map V.int))) ⟨same_new (Same.refl _) hD3, upd_same⟩ (fun i H7 hi z => ⟨rfl, tyes ?_⟩) (fun H7 z => ?_)⟩
  · obtain ⟨kG, h7⟩ := z
    have hi' : i < nst rows := by omega
    refine ⟨_, rfl, F, rfl, ⟨_, SqL.of (kG _ _ hF6)⟩, fun D4 hD4 => lc_list (K := K) (a := F) (xs := ts.map V.ref) (fun j H8 => Same H7 H8 ∧ H8 D4 = some (.lst (((col rows i).take j).map V.int))) ⟨same_new (Same.refl _) hD4, upd_same⟩ (fun j H8 _ z => SqL.of (z.1 _ _ (kG _ _ hF6))) (fun j y H8 hy z => ⟨rfl, tyes ?_⟩) (fun H8 z => ?_)⟩
    · obtain ⟨kH, h8⟩ := z
      obtain ⟨t1, rfl, et⟩ := refAt hy
      have lj : j < rows.length := by rw [← lt]; exact (List.getElem?_eq_some_iff.mp et).1
      have en : rows[j]? = some rows[j] := List.getElem?_eq_getElem lj
      have ht1 := kH _ _ (kG _ _ (tp6.2 j t1 _ et en))
      have ec : (col rows i)[j]? = some (rows[j].getD i 0) := by
        unfold col
        rw [List.getElem?_map, en]
        rfl
      have lw := wn _ (List.mem_of_getElem? en)
      generalize rows[j] = ns at en ht1 ec lw
      have ei : ns[i]? = some (ns.getD i 0) := by
        rw [List.getD_eq_getElem?_getD, List.getElem?_eq_getElem (by omega)]
        rfl
      refine ⟨_, rfl, _, rfl, t1, _, _, _, rfl, rfl, SqT.of ht1, by rw [Int.zero_add]; exact intAt ei, ?_⟩
      have lc : (col rows i).length = rows.length := by simp [col]
      refine ⟨_, h8, Nat.lt_of_le_of_lt (show (((col rows i).take j).map V.int).length ≤ 1000 by rw [List.length_map, List.length_take]; omega) (by decide), same_put kH hD4, ?_⟩
      rw [upd_same, List.take_add_one, ec, List.map_append]
      rfl
    · obtain ⟨kH, h8⟩ := z
      have lc : (col rows i).length = rows.length := by simp [col]
      rw [List.length_map, lt, ← lc, List.take_length] at h8
      refine ⟨D4, col rows i, rfl, SqL.of h8, ?_⟩
      have ltt := tots_len rows
      refine ⟨_, kH _ _ h7, Nat.lt_of_le_of_lt (show (((tots rows).take i).map V.int).length ≤ 1000 by rw [List.length_map, List.length_take]; omega) (by decide), same_put (kG.trans kH) hD3, ?_⟩
      rw [upd_same, List.take_add_one, tots_at hi', List.map_append]
      rfl
  obtain ⟨kG, h7⟩ := z
  rw [show wdt rows = (tots rows).length by rw [tots_len, enst], List.take_length] at h7
  refine ⟨D3, _, rfl, .inl ⟨SqL.of h7, fun T2 hT2 => ?_⟩⟩
  generalize hH8 : upd H7 T2 _ = H8
  obtain ⟨kH, e8⟩ := alloc hH8 hT2
  clear hH8
  have k68 := kG.trans kH
  have hF8 := k68 _ _ hF6
  have tp8 := tp6.same k68
  refine ⟨⟨_, rfl⟩, ?_⟩
  refine ⟨_, rfl, F, rfl, ⟨_, SqL.of hF8⟩, fun D9 hD9 => lc_list (K := K) (a := F) (xs := ts.map V.ref)
    (fun i H' => Same H8 H' ∧ H' D9 = some (.lst (((rows.map fun ns => line ns ++ "\n").take i).map V.str))) ⟨same_new (Same.refl H8) hD9, upd_same⟩ (fun i H' _ q => SqL.of (q.1 _ _ hF8)) (fun i x H' hx q => ⟨rfl, tyes ?_⟩) (fun H' q => ?_)⟩
  · rw [List.getElem?_map] at hx
    cases e : ts[i]? with
    | none => rw [e] at hx; cases hx
    | some t1 =>
      rw [e] at hx
      obtain rfl : V.ref t1 = x := Option.some.inj hx
      have il : i < rows.length := by rw [← lt]; exact (List.getElem?_eq_some_iff.mp e).1
      have en : rows[i]? = some rows[i] := List.getElem?_eq_getElem (by omega)
      generalize rows[i] = ns at en
      have ht := q.1 _ _ (tp8.2 i t1 ns e en)
      have m := List.mem_of_getElem? en
      have am := rw_.am ns m
      have lb := line_len am
      have l6 := rw_.l6 m
      refine ⟨⟨_, rfl⟩, ?_⟩
      refine ⟨_, rfl, t1, rfl, ⟨_, SqT.of ht⟩, fun D2 hD2 => lc_tup (K := K) (a := t1) (xs := ns.map V.int) (fun j H2 => Same H' H2 ∧ H2 D2 = some (.lst (((ns.map wd).take j).map V.str)))
        ⟨same_new (Same.refl H') hD2, upd_same⟩ (fun j H2 _ q2 => SqT.of (q2.1 _ _ ht)) (fun j x2 H2 hx2 q2 => ⟨rfl, tyes ?_⟩) (fun H2 q2 => ?_)⟩
      · rw [List.getElem?_map] at hx2
        cases e2 : ns[j]? with
        | none => rw [e2] at hx2; cases hx2
        | some n =>
          rw [e2] at hx2
          obtain rfl : V.int n = x2 := Option.some.inj hx2
          have a := am n (List.mem_of_getElem? e2)
          refine ⟨_, rfl, n, rfl, log_am a.1 a.2, _, q2.2, size_lt (by rw [List.length_map, List.length_take, List.length_map]; omega), same_put q2.1 hD2, ?_⟩
          have e3 : (ns.map wd)[j]? = some (wd n) := by rw [List.getElem?_map, e2]; rfl
          rw [upd_same, List.take_add_one, e3, List.map_append]
          rfl
      · have e2 := q2.2
        rw [List.length_map, ← List.length_map (f := wd), List.take_length] at e2
        refine ⟨_, D2, ns.map wd, rfl, rfl, .inl (SqL.of e2), ?_, ?_⟩
        · have := words_len am
          have l1 : (" " : Str).length = 1 := rfl
          rw [l1, List.length_map]
          omega
        · rw [TL.join_eq]
          have lz2 : (line ns).length + ("\n" : Str).length ≤ sizeLine := size_of (by show (line ns).length + 1 ≤ 1000; omega)
          refine ⟨_, _, rfl, rfl, lz2, _, q2.1 _ _ q.2, size_lt (by rw [List.length_map, List.length_take, List.length_map]; omega), same_put (q.1.trans q2.1) hD9, ?_⟩
          have e3 : (rows.map fun ns => line ns ++ "\n")[i]? = some (line ns ++ "\n") := by rw [List.getElem?_map, en]; rfl
          rw [upd_same, List.take_add_one, e3, List.map_append]
          rfl
  · have e := q.2
    rw [List.length_map, lt, ← List.length_map (f := fun ns => line ns ++ "\n"), List.take_length] at e
    refine ⟨_, D9, _, rfl, rfl, .inl (SqL.of e), ?_, ?_⟩
    · have z : ("" : Str).length = 0 := rfl
      rw [z, Nat.mul_zero, Nat.add_zero]
      refine Nat.le_trans (m := 19 * rows.length) ?_ (by omega)
      have all : ∀ ns ∈ rows, (line ns ++ "\n").length ≤ 19 := fun ns hn => by
        rw [TL.len_tl, TL.tl_append, List.length_append, ← TL.len_tl]
        have := line_len (rw_.am ns hn)
        have := rw_.l6 hn
        show (line ns).length + 1 ≤ 19
        omega
      exact sum_le all
    · rw [TL.join_eq]
      obtain ⟨k9, _⟩ := q
      have hF9 := k9 _ _ hF8
      have lmt : (ts.map V.ref).length = rows.length := by rw [List.length_map, lt]
      obtain ⟨z1, z2, z3, z4⟩ := shortE_all ⟨rows.length, by omega⟩ ⟨wdt rows, by omega⟩
      have lg : ∀ n : Nat, n < 7 → (n : Int).natAbs.log2 < 1920 := fun n hn => by
        have : ∀ m : Fin 7, ((m.val : Nat) : Int).natAbs.log2 < 1920 := by decide +kernel
        exact this ⟨n, hn⟩
      refine ⟨_, rfl, F, _, rfl, .inl (SqL.of hF9), ?_⟩
      rw [lmt]
      refine ⟨_, rfl, lg _ (by omega), _, _, rfl, rfl, size_of z1, _, _, rfl, rfl, size_of z2, _, rfl, _, rfl, lg _ (by omega), _, _, rfl, rfl, size_of z3, _, _, rfl, rfl, size_of z4, ?_⟩
      refine ⟨_, rfl, _, rfl, F, _, rfl, .inl (SqL.of hF9), ?_⟩
      rw [lmt]
      refine ⟨_, rfl, _, rfl, _, rfl, _, rfl, (by show 11 ≤ sizeLine; decide), fun Z hZ => ?_⟩
      generalize hHZ : upd H' Z _ = HZ
      obtain ⟨kZ, eZ⟩ := alloc hHZ hZ
      clear hHZ
      have k8Z := k9.trans kZ
      have ew : dvS rows.length (wdt rows) = ("Division(" : Str) ++ toString ((rows.length : Nat) : Int) ++ " people, " ++ toString ((wdt rows : Nat) : Int) ++ " states)" := by
        unfold dvS
        rw [show Str.empty ++ ("Division(" : Str) = "Division(" from TL.ext_tl (by rw [TL.tl_append]; rfl)]
      refine k1 Z HZ (k04.trans (kE.trans (kF.trans (k68.trans k8Z)))) ?_
      unfold saidD
      rw [ew]
      exact .lst (SqL.of eZ) (.cons (.lst (SqL.of (kZ _ _ hF9)) (tp8.same k8Z).dp) (.cons (.int _) (.cons (.int _) (.cons (.tup (SqT.of (k8Z _ _ e8)) (dpInts K HZ _)) (.cons (.str _) (.cons (.str _) (.cons (.int _) (.cons (.bl _) (.cons (.bl _) (.cons (.bl _) (.cons (.bl _) .nil)))))))))))
end
end Pl
namespace Pl
open PySem PySem.Spec PyProof.Rows L2
/-! items of the list, as they show -/
inductive It8 (C : Addr) (H : Hp) : V → Option (List Int) → Str → Prop
  | sh {s t : Addr} {ns : List Int} (h : ShAt C H s t ns) : It8 C H (.ref s) (some ns) (shS ns)
  | non : It8 C H .non none "None"
  | int : It8 C H (.int 0) none (toString (0 : Int))
  | bl : It8 C H (.bl true) none "True"
  | str : It8 C H (.str "1 2") none (reprText "1 2")
  | tup {q : Addr} (h : H q = some (.tup [.int 1, .int 2])) : It8 C H (.ref q) none (PyData.shown (.tuple [.int 1, .int 2]))
  | lst {q : Addr} (h : H q = some (.lst [.int 1, .int 2])) : It8 C H (.ref q) none (PyData.shown (.list [.int 1, .int 2]))
  | dic {q : Addr} (h : H q = some (.dK [])) : It8 C H (.ref q) none (PyData.shown (.dict []))
theorem It8.it7 {C : Addr} {H : Hp} {v : V} {o : Option (List Int)} {t : Str} (h : It8 C H v o t) : It7 C H v o := by
  cases h with
  | sh h => exact .sh h
  | non => exact .odd .non
  | int => exact .odd (.int _)
  | bl => exact .odd (.bl _)
  | str => exact .odd (.str _)
  | tup h => exact .odd (.tup h)
  | lst h => exact .odd (.lst h)
  | dic h => exact .odd (.dK h)
/-- all but the list L are kept -/
def KpL (L : Addr) (H H' : Hp) : Prop := ∀ b o, b ≠ L → H b = some o → H' b = some o
theorem It8.same {C : Addr} {H H' : Hp} {v : V} {o : Option (List Int)} {t : Str} (h : It8 C H v o t) (k : Same H H') : It8 C H' v o t := by
  cases h with
  | sh h => exact .sh (h.same k)
  | non => exact .non
  | int => exact .int
  | bl => exact .bl
  | str => exact .str
  | tup h => exact .tup (k _ _ h)
  | lst h => exact .lst (k _ _ h)
  | dic h => exact .dic (k _ _ h)
theorem It8.short {C : Addr} {H : Hp} {v : V} {o : Option (List Int)} {t : Str} (h : It8 C H v o t) : t.length ≤ 60 := by
  cases h with
  | @sh s t ns h =>
    have := (line_sz h.2.2.2.1 h.2.2.2.2).1
    omega
  | non => decide +kernel
  | int => decide +kernel
  | bl => decide +kernel
  | str => decide +kernel
  | tup h => decide +kernel
  | lst h => decide +kernel
  | dic h => decide +kernel
inductive All8 (C : Addr) (H : Hp) : List V → List (Option (List Int)) → List Str → Prop
  | nil : All8 C H [] [] []
  | cons {v : V} {o : Option (List Int)} {t : Str} {vs : List V} {os : List (Option (List Int))} {ts : List Str} (h : It8 C H v o t) (r : All8 C H vs os ts) : All8 C H (v :: vs) (o :: os) (t :: ts)
theorem All8.same {C : Addr} {H H' : Hp} (k : Same H H') : ∀ {vs : List V} {os : List (Option (List Int))} {ts : List Str}, All8 C H vs os ts → All8 C H' vs os ts
  | _, _, _, .nil => .nil
  | _, _, _, .cons h t => .cons (h.same k) (t.same k)
theorem All8.all7 {C : Addr} {H : Hp} : ∀ {vs : List V} {os : List (Option (List Int))} {ts : List Str}, All8 C H vs os ts → All7 C H vs os
  | _, _, _, .nil => .nil
  | _, _, _, .cons h t => .cons h.it7 t.all7
theorem All8.len {C : Addr} {H : Hp} : ∀ {vs : List V} {os : List (Option (List Int))} {ts : List Str}, All8 C H vs os ts → vs.length = os.length ∧ ts.length = vs.length
  | _, _, _, .nil => ⟨rfl, rfl⟩
  | _, _, _, .cons _ t => ⟨congrArg (· + 1) t.len.1, congrArg (· + 1) t.len.2⟩
theorem All8.at_ {C : Addr} {H : Hp} : ∀ {vs : List V} {os : List (Option (List Int))} {ts : List Str} {i : Nat} {v : V}, All8 C H vs os ts → vs[i]? = some v → ∃ o t, ts[i]? = some t ∧ It8 C H v o t
  | _, _, _, 0, _, .cons h _, e => by cases e; exact ⟨_, _, rfl, h⟩
  | _, _, _, i + 1, _, .cons _ t, e => All8.at_ (i := i) t e
theorem All8.set {C : Addr} {H : Hp} {v : V} {o : Option (List Int)} {t : Str} (h : It8 C H v o t) : ∀ {vs : List V} {os : List (Option (List Int))} {ts : List Str} (i : Nat), All8 C H vs os ts → All8 C H (vs.set i v) (os.set i o) (ts.set i t)
  | _, _, _, _, .nil => .nil
  | _, _, _, 0, .cons _ r => .cons h r
  | _, _, _, i + 1, .cons g r => .cons g (All8.set h i r)
theorem All8.put {C L : Addr} {H : Hp} {ys : List V} {u : HO} (hL : H L = some (.lst ys)) (nl : ∀ v ∈ ys, v ≠ .ref L) : ∀ {vs : List V} {os : List (Option (List Int))} {ts : List Str}, (∀ v ∈ vs, v ≠ .ref L) → All8 C H vs os ts → All8 C (L2.upd H L u) vs os ts
  | _, _, _, _, .nil => .nil
  | _, _, _, nv, .cons h t => by
    refine .cons ?_ (t.put hL nl (fun v hv => nv v (List.mem_cons_of_mem _ hv)))
    have n0 := nv _ List.mem_cons_self
    cases h with
    | sh h =>
      obtain ⟨⟨d1, a1⟩, a2, a3⟩ := h
      exact .sh ⟨⟨d1, by rw [upd_ne (ne_of a1 hL (by intro z; cases z))]; exact a1⟩, by rw [upd_ne (ne_of a2 hL (by intro z; cases z))]; exact a2, a3⟩
    | non => exact .non
    | int => exact .int
    | bl => exact .bl
    | str => exact .str
    | tup h => exact .tup (by rw [upd_ne (ne_of h hL (by intro z; cases z))]; exact h)
    | lst h => exact .lst (by rw [upd_ne (fun z => n0 (by rw [z]))]; exact h)
    | dic h => exact .dic (by rw [upd_ne (ne_of h hL (by intro z; cases z))]; exact h)
theorem listText_le : ∀ ts : List Str, (listText ts).length ≤ piled ts + 2
  | [] => by decide
  | t :: r => by
    have h := textFrom_length_pos r 1 (("[" : Str) ++ "" ++ t) (by decide)
    show (textFrom 1 (("[" : Str) ++ (if 0 > 0 then ", " else "" : String) ++ t) r ++ "]").length ≤ _
    rw [strLen_append, piled_cons]
    have e : (("[" : Str) ++ "" ++ t).length = 1 + t.length := by rw [strLen_append]; rfl
    have h2 : (textFrom 1 (("[" : Str) ++ (if 0 > 0 then ", " else "" : String) ++ t) r).length = _ := h
    rw [h2, e]
    show 1 + t.length + piled r + 1 ≤ _
    omega
theorem All8.text {C : Addr} {H : Hp} : ∀ {vs : List V} {os : List (Option (List Int))} {ts : List Str}, All8 C H vs os ts → piled ts ≤ 62 * ts.length
  | _, _, _, .nil => Nat.le_refl _
  | _, _, _, .cons h t => by
    have a := h.short
    have b := t.text
    rw [piled_cons, List.length_cons]
    omega
theorem It8.it {X : Cx} {C a : Addr} {H : Hp} {xs : List V} {i : Nat} {v : V} {o : Option (List Int)} {t : Str} (c : MCal X.prog X.w X.K X.mg X.base 3 C "__repr__" ["self"] (spRep C)) (ha : H a = some (.lst xs)) (hx : xs[i]? = some v) (h : It8 C H v o t) : ItN X 4 a H v t := by
  cases h with
  | @sh s t ns h =>
    obtain ⟨⟨d1, a1⟩, _⟩ := id h
    exact ItN.own c (by decide) a1 fun H' k => ⟨s, t, ns, rfl, h.same k, fun H'' k2 => ⟨rfl, k2⟩⟩
  | non => exact ItN.non
  | int => exact ItN.int 0 (by decide)
  | bl => exact ItN.bl true
  | str => exact ItN.str _ (by decide +kernel)
  | tup h => exact ItN.data ha hx (fun H' k => .tup (SqT.of (k _ _ h)) (.cons (.int _) (.cons (.int _) .nil))) (by decide +kernel) (by decide +kernel) (by decide +kernel) (by decide +kernel)
  | lst h => exact ItN.data ha hx (fun H' k => .lst (SqL.of (k _ _ h)) (.cons (.int _) (.cons (.int _) .nil))) (by decide +kernel) (by decide +kernel) (by decide +kernel) (by decide +kernel)
  | dic h => exact ItN.dic0 ha hx h
end Pl
namespace Pl
open PySem PySem.Spec PyProof.Rows L2
theorem src_nl {H : Hp} {p q : Addr} (s : Src H p) (h : H q = some (.lst [.int 1, .int 2])) : q ≠ p := fun e => by
  obtain ⟨x, y, z, e2, _⟩ := s
  rw [e, e2] at h
  injection h with h
  injection h with h
  injection h with _ h
  injection h with _ h
  cases h
theorem src_nd {H : Hp} {p q : Addr} (s : Src H p) (h : H q = some (.dK [])) : q ≠ p := fun e => by
  obtain ⟨x, y, z, e2, _⟩ := s
  rw [e, e2] at h
  cases h
theorem It8.kp {C p : Addr} {H H' : Hp} {v : V} {o : Option (List Int)} {t : Str} (h : It8 C H v o t) (s : Src H p) (k : Kp p H H') : It8 C H' v o t := by
  cases h with
  | sh h => exact .sh (h.kp s k)
  | non => exact .non
  | int => exact .int
  | bl => exact .bl
  | str => exact .str
  | tup h => exact .tup (k _ _ (s.neT h) h)
  | lst h => exact .lst (k _ _ (src_nl s h) h)
  | dic h => exact .dic (k _ _ (src_nd s h) h)
theorem All8.kp {C p : Addr} {H H' : Hp} (s : Src H p) (k : Kp p H H') : ∀ {vs : List V} {os : List (Option (List Int))} {ts : List Str}, All8 C H vs os ts → All8 C H' vs os ts
  | _, _, _, .nil => .nil
  | _, _, _, .cons h r => .cons (h.kp s k) (r.kp s k)
theorem All8.snoc {C : Addr} {H : Hp} {v : V} {o : Option (List Int)} {t : Str} (h : It8 C H v o t) : ∀ {vs : List V} {os : List (Option (List Int))} {ts : List Str}, All8 C H vs os ts → All8 C H (vs ++ [v]) (os ++ [o]) (ts ++ [t])
  | _, _, _, .nil => .cons h .nil
  | _, _, _, .cons g r => .cons g (r.snoc h)
theorem ShAll.all7 {C : Addr} {H : Hp} : ∀ {ss : List Addr} {rows : List (List Int)}, ShAll C H ss rows → All7 C H (ss.map V.ref) (rows.map some)
  | _, _, .nil => .nil
  | _, _, .cons h r => .cons (.sh h) r.all7
theorem Rows.ok7 {rows : List (List Int)} (h : Rows rows) : Ok7 (rows.map some) := fun i o o0 a b => by
  rw [List.getElem?_map] at a b
  cases ea : rows[i]? with
  | none => rw [ea] at a; cases a
  | some ns =>
    cases eb : rows[0]? with
    | none => rw [eb] at b; cases b
    | some n0 =>
      rw [ea] at a
      rw [eb] at b
      cases a
      cases b
      exact ⟨n0, ns, rfl, rfl, h.eq (List.mem_of_getElem? eb) (List.mem_of_getElem? ea)⟩
/-- repr of such a list -/
theorem rep8 {X : Cx} {C a : Addr} {H : Hp} {us : List V} {os : List (Option (List Int))} {ts : List Str} {Q : VK} (c : MCal X.prog X.w X.K X.mg X.base 3 C "__repr__" ["self"] (spRep C)) (ha : H a = some (.lst us)) (al : All8 C H us os ts) (l : us.length ≤ 5) (k : ∀ H', Same H H' → Q (.str (listText ts)) H') :
    (∃ (a1 : Addr) (y : V) (ys : List V) (ts : List Str), [V.ref a] = [.ref a1] ∧ H a1 = some (.lst (y :: ys)) ∧ ts.length = (y :: ys).length ∧ (∀ (i : Nat) (x : V), (y :: ys)[i]? = some x → ∃ t, ts[i]? = some t ∧ ItN X 4 a1 H x t) ∧ (listText ts).length ≤ sizeLine ∧ ∀ H', Same H H' → Q (.str (listText ts)) H') ∨ rReprV X.K [.ref a] H Q := by
  cases us with
  | nil =>
    cases al
    exact .inr ⟨.ref a, .list [], rfl, .lst (SqL.of ha) .nil, (Fit.list (k := 0) (m := 0) FitAll.nil).shw.v, k H (Same.refl H)⟩
  | cons y ys =>
    refine .inl ⟨a, y, ys, ts, rfl, ha, al.len.2, fun i x hx => ?_, ?_, k⟩
    · obtain ⟨o, t, e, it⟩ := al.at_ hx
      exact ⟨t, e, it.it c ha hx⟩
    · refine size_of (Nat.le_trans (listText_le ts) ?_)
      have a1 := al.text
      have a2 := al.len.2
      omega
/-! what is said is what is due -/
def SD (K : PySem.W.Frag) (H : Hp) (os : List (Option (List Int))) (x : V) : Prop := (∃ rows : List (List Int), os = rows.map some ∧ Rows rows ∧ (∃ S : Addr, x = .ref S) ∧ Dp K H x (saidD rows)) ∨ (¬ Ok7 os ∧ x = .str "share") ∨ (Ok7 os ∧ ¬ (2 ≤ os.length ∧ os.length ≤ 4) ∧ x = .str "people")
theorem SD.same {K : PySem.W.Frag} {H H' : Hp} {os : List (Option (List Int))} {x : V} (s : SD K H os x) (k : Same H H') : SD K H' os x := by
  rcases s with ⟨rows, e, r, s, d⟩ | s | s
  · exact .inl ⟨rows, e, r, s, dpSame k _ _ d⟩
  · exact .inr (.inl s)
  · exact .inr (.inr s)
theorem said_of {K : PySem.W.Frag} {C L : Addr} {H : Hp} {us : List V} {os : List (Option (List Int))} {Q : VK} {E : XK} (hl : H L = some (.lst us)) (al : All7 C H us os) (l : os.length ≤ 5) (k : ∀ x H', Same H H' → SD K H' os x → Q x H') : spSaid K C [.ref L] H Q E :=
  ⟨L, us, os, rfl, hl, al, l, fun rows e r S H' s d => k _ H' s (.inl ⟨rows, e, r, ⟨S, rfl⟩, d⟩), fun n H' s => k _ H' s (.inr (.inl ⟨n, rfl⟩)), fun a b H' s => k _ H' s (.inr (.inr ⟨a, b, rfl⟩))⟩
theorem text_ok {rows : List (List Int)} (rw_ : Rows rows) : PyData.strOk (text rows) = true := by
  have all : ∀ c ∈ TL.tl (text rows), c < 128 := by
    intro c hc
    rw [tl_text] at hc
    obtain ⟨l, hl, hc⟩ := List.mem_flatten.mp hc
    obtain ⟨ns, hn, rfl⟩ := List.mem_map.mp hl
    rcases List.mem_append.mp hc with hc | hc
    · rw [tl_line] at hc
      rcases joinL_mem hc with hc | ⟨q, hq, hc⟩
      · have : ∀ c ∈ [32], c < 128 := by decide
        exact this c hc
      · obtain ⟨n, hm, rfl⟩ := List.mem_map.mp hq
        have : ∀ i : Fin 31, ∀ c ∈ TL.tl (wd (i.val : Int)), c < 128 := by decide +kernel
        have a := rw_.am ns hn n hm
        have e : ((n.toNat : Nat) : Int) = n := by omega
        have z := this ⟨n.toNat, by omega⟩ c
        simp only [e] at z
        exact z hc
    · have : ∀ c ∈ [10], c < 128 := by decide
      exact this c hc
  show (text rows).cps.all _ = true
  rw [← Array.all_toList]
  exact List.all_eq_true.mpr fun c hc => decide_eq_true (Nat.lt_trans (all c hc) (by decide))
theorem dvS_ok : ∀ n : Fin 5, ∀ m : Fin 7, PyData.strOk (dvS (n.val : Int) (m.val : Int)) = true ∧ (dvS (n.val : Int) (m.val : Int)).cps.size ≤ 1000 := by decide +kernel
theorem sum_b7 : ∀ {l : List Int}, (∀ x ∈ l, 0 ≤ x ∧ x ≤ 30) → 0 ≤ l.sum ∧ l.sum ≤ 30 * l.length
  | [], _ => by simp
  | x :: l, h => by
    have h1 := h x List.mem_cons_self
    have h2 := sum_b7 fun y hy => h y (List.mem_cons_of_mem _ hy)
    simp only [List.sum_cons, List.length_cons]
    omega
theorem tots_bd {rows : List (List Int)} (rw_ : Rows rows) : ∀ x ∈ tots rows, x.natAbs < 2 ^ 30 := fun x hx => by
  unfold tots at hx
  obtain ⟨i, _, rfl⟩ := List.mem_map.mp hx
  have b := sum_b7 (l := col rows i) fun y hy => by
    unfold col at hy
    obtain ⟨ns, hn, rfl⟩ := List.mem_map.mp hy
    rw [List.getD_eq_getElem?_getD]
    cases e : ns[i]? with
    | none => exact ⟨Int.le_refl _, by decide⟩
    | some z => exact rw_.am ns hn z (List.mem_of_getElem? e)
  have l : (col rows i).length = rows.length := by simp [col]
  have p4 := rw_.2.1
  rw [l] at b
  omega
theorem fit_rows : ∀ {rows : List (List Int)}, (∀ ns ∈ rows, ns.length ≤ 6 ∧ Am ns) → FitAll 1 (200 * rows.length) (rows.map fun ns => .tuple (ns.map PyData.int))
  | [], _ => FitAll.nil
  | ns :: rows, h => by
    obtain ⟨l6, am⟩ := h ns List.mem_cons_self
    have f : Fit 1 192 (.tuple (ns.map PyData.int)) := (Fit.tuple (k := 0) (FitAll.ints fun x hx => by
      have := am x hx
      omega)).mono (Nat.le_refl _) (by omega)
    exact (FitAll.cons f (fit_rows fun m hm => h m (List.mem_cons_of_mem _ hm))).mono (Nat.le_refl _) (by rw [List.length_cons]; omega)
theorem said_fit {rows : List (List Int)} (rw_ : Rows rows) : Shw (saidD rows) := by
  have p4 := rw_.2.1
  obtain ⟨w2, w6⟩ := rw_.w26
  obtain ⟨z1, z2⟩ := dvS_ok ⟨rows.length, by omega⟩ ⟨wdt rows, by omega⟩
  have f0 : Fit 2 800 (rowsD rows) := (Fit.list (fit_rows fun ns hn => ⟨rw_.l6 hn, rw_.am ns hn⟩)).mono (Nat.le_refl _) (by omega)
  have f1 : Fit 2 31 (.int (rows.length : Nat)) := Fit.int (by omega)
  have f2 : Fit 2 31 (.int (wdt rows : Nat)) := Fit.int (by omega)
  have tl : (tots rows).length ≤ 6 := by
    rw [tots_len]
    unfold nst
    cases rows with
    | nil => simp
    | cons ns _ => exact rw_.l6 List.mem_cons_self
  have f3 : Fit 2 192 (.tuple ((tots rows).map PyData.int)) := (Fit.tuple (k := 1) (FitAll.ints (tots_bd rw_))).mono (Nat.le_refl _) (by omega)
  have f4 : Fit 2 76 (.str (text rows)) := (Fit.str (text_ok rw_)).mono (Nat.le_refl _) (show (text rows).length ≤ 76 from rw_.tlen)
  have f5 : Fit 2 1000 (.str (dvS rows.length (wdt rows))) := (Fit.str z1).mono (Nat.le_refl _) z2
  have f6 : Fit 2 31 (.int 30) := Fit.int (by decide)
  exact (Fit.list (FitAll.cons f0 (FitAll.cons f1 (FitAll.cons f2 (FitAll.cons f3 (FitAll.cons f4 (FitAll.cons f5 (FitAll.cons f6 (FitAll.cons (Fit.bool true) (FitAll.cons (Fit.bool true) (FitAll.cons (Fit.bool false) (FitAll.cons (Fit.bool false) FitAll.nil)))))))))))).shw (by decide) (by decide)
theorem SD.two {K : PySem.W.Frag} {H : Hp} {os : List (Option (List Int))} {x y : V} (a : SD K H os x) (b : SD K H os y) : ∃ d : PyData, Dp K H x d ∧ Dp K H y d ∧ ShV x d ∧ ShV y d := by
  rcases a with ⟨rows, e, r, ⟨S, rfl⟩, d⟩ | ⟨n, rfl⟩ | ⟨n1, n2, rfl⟩ <;> rcases b with ⟨rows2, e2, r2, ⟨S2, rfl⟩, d2⟩ | ⟨m, rfl⟩ | ⟨m1, m2, rfl⟩
  · obtain rfl := mapSome_inj (e.symm.trans e2)
    exact ⟨_, d, d2, (said_fit r).v, (said_fit r).v⟩
  · exact absurd (e ▸ r.ok7) m
  · exact absurd (by rw [e, List.length_map]; exact ⟨r.1, r.2.1⟩) m2
  · exact absurd (e2 ▸ r2.ok7) n
  · exact ⟨.str "share", .str _, .str _, (Fit.str (k := 1) (by decide +kernel)).shw (by decide) (by decide +kernel) |>.v, (Fit.str (k := 1) (by decide +kernel)).shw (by decide) (by decide +kernel) |>.v⟩
  · exact absurd m1 n
  · exact absurd (by rw [e2, List.length_map]; exact ⟨r2.1, r2.2.1⟩) n2
  · exact absurd n1 m
  · exact ⟨.str "people", .str _, .str _, (Fit.str (k := 1) (by decide +kernel)).shw (by decide) (by decide +kernel) |>.v, (Fit.str (k := 1) (by decide +kernel)).shw (by decide) (by decide +kernel) |>.v⟩
theorem built_of {CD C CNS CNP L : Addr} {H : Hp} {ss : List Addr} {rows : List (List Int)} {Q : VK} {E : XK} (hl : H L = some (.lst (ss.map V.ref))) (sa : ShAll C H ss rows) (rw_ : Rows rows) (k : ∀ (d t : Addr) (sd : List Addr) (H' : Hp), Same H H' → DvAt CD C H' d t sd rows → Q (.ref d) H') : spBuilt CD C CNS CNP [.ref L] H Q E := by
  have p4 := rw_.2.1
  refine ⟨L, _, _, rfl, hl, sa.all7, by rw [List.length_map]; omega, fun sd rows2 e1 e2 r d t H' s dv => ?_, fun n => absurd rw_.ok7 n, fun _ n => absurd (by rw [List.length_map]; exact ⟨rw_.1, rw_.2.1⟩) n⟩
  obtain rfl := mapSome_inj e2
  exact k d t sd H' s dv
theorem ixN_nat {n i : Nat} (h : i < n) : ixN n (i : Int) = some i := by
  unfold ixN
  rw [if_pos (by omega), if_pos (by omega)]
  simp
theorem two_bools (b : Bool) : SeqAt.shaped (.list [.bool b, .bool (!b)]) = true ∧ PyData.eqv (.list [.bool b, .bool (!b)]) (.list [.bool b, .bool (!b)]) = true := by cases b <;> decide +kernel
end Pl
namespace Pl
open PySem PySem.Spec PyProof.Rows L2
theorem gNameE {i : Nat} {v : V} {σ : L2.St} {H : Hp} {Q : L2.St → Hp → Prop} : gName i v σ H Q = Q (σ.set i (some v)) H := rfl
theorem join {c : TT} {t e r : TS} {D : Ends} {σ : L2.St} {H : Hp} (R : L2.St → Hp → Prop) (h1 : ∀ σ' H', R σ' H' → r D σ' H') (h2 : ∀ N : L2.St → Hp → Prop, (∀ σ' H', R σ' H' → N σ' H') → tIfS c t e { D with nx := N } σ H) : tSeq (tIfS c t e) r D σ H := h2 (r D) h1
theorem sk {p : Addr} {H1 H3 H4 : Hp} (k3 : Same H1 H3) (k4 : Kp p H3 H4) (np : H1 p = none) : Same H1 H4 := fun b o q => k4 _ _ (ne_of_none q np) (k3 _ _ q)
theorem ShAll.put7 {C L : Addr} {H : Hp} {ys : List V} {u : HO} (hL : H L = some (.lst ys)) : ∀ {ss : List Addr} {rows : List (List Int)}, ShAll C H ss rows → ShAll C (L2.upd H L u) ss rows
  | _, _, .nil => .nil
  | _, _, .cons h r => by
    obtain ⟨⟨d1, a1⟩, a2, a3⟩ := h
    exact .cons ⟨⟨d1, by rw [upd_ne (ne_of a1 hL (by intro z; cases z))]; exact a1⟩, by rw [upd_ne (ne_of a2 hL (by intro z; cases z))]; exact a2, a3⟩ (r.put7 hL)
/-- shares are made of rows, one after another -/
def ShI (C O : Addr) (H0 : Hp) (rows : List (List Int)) (i : Nat) (H' : Hp) : Prop := Same H0 H' ∧ ∃ ss : List Addr, H' O = some (.lst (ss.map V.ref)) ∧ ShAll C H' ss (rows.take i)
theorem ShI.next {C O : Addr} {H0 H' : Hp} {ts : List Addr} {rows : List (List Int)} {i : Nat} {x : V} (z : ShI C O H0 rows i H') (hO : H0 O = none) (tp : TpAll H0 ts rows) (ok : ∀ ns ∈ rows, 2 ≤ ns.length ∧ ns.length ≤ 6 ∧ Am ns) (l : rows.length ≤ 10) (hx : (ts.map V.ref)[i]? = some x) :
    ∃ (t : Addr) (ns : List Int), x = .ref t ∧ H' t = some (.tup (ns.map V.int)) ∧ 2 ≤ ns.length ∧ ns.length ≤ 6 ∧ Am ns ∧ ∀ (s : Addr) (H'' : Hp), Same H' H'' → ShAt C H'' s t ns → ∃ acc, H'' O = some (.lst acc) ∧ acc.length < sizeLine ∧ ShI C O H0 rows (i + 1) (L2.upd H'' O (.lst (acc ++ [.ref s]))) := by
  obtain ⟨k, ss, h, sa⟩ := z
  obtain ⟨t, rfl, et⟩ := refAt hx
  have li : i < rows.length := by rw [← tp.1]; exact (List.getElem?_eq_some_iff.mp et).1
  have en : rows[i]? = some rows[i] := List.getElem?_eq_getElem li
  generalize rows[i] = ns at en
  obtain ⟨b2, b6, am⟩ := ok ns (List.mem_of_getElem? en)
  refine ⟨t, ns, rfl, k _ _ (tp.2 i t ns et en), b2, b6, am, fun s H'' k2 sh => ?_⟩
  have ls := sa.len
  rw [List.length_take] at ls
  refine ⟨_, k2 _ _ h, size_lt (by rw [List.length_map]; omega), same_put (k.trans k2) hO, ss ++ [s], by rw [upd_same, List.map_append]; rfl, ?_⟩
  rw [List.take_add_one, en]
  exact ((sa.same k2).snoc sh).put7 (k2 _ _ h)
end Pl
namespace Pl
open PySem PySem.Spec PyProof.Rows L2
theorem call_or {X : Cx} {f : Value} {r1 r2 : List V → Hp → VK → Prop} (h1 : CallR X f r1) (h2 : CallR X f r2) : CallR X f (fun xs H Q => r1 xs H Q ∨ r2 xs H Q) := fun pins s σ H xs us Q I r h => h.elim (h1 pins s σ H xs us Q I r) (h2 pins s σ H xs us Q I r)
/-- xs != [] -/
theorem op_neNil {X : Cx} (hu : X.A.units < cLine) : OpR X (compareOp .NotEq) (fun x y H Q => ∃ (a b : Addr) (xs : List V), x = .ref a ∧ y = .ref b ∧ H a = some (.lst xs) ∧ H b = some (.lst []) ∧ Q (.bl (decide (xs ≠ []))) H) := by
  intro pins s σ H x y v u Q I rx ry h
  obtain ⟨a, b, xs, rfl, rfl, ha, hb, q⟩ := h
  obtain rfl : v = Value.ref a := rx
  obtain rfl : u = Value.ref b := ry
  obtain ⟨_, i1, n1, r1, l1, e1⟩ := I.lstM ha
  obtain ⟨_, i2, n2, r2, l2, e2⟩ := I.lstM hb
  cases r2
  show wpAny (model X.prog X.w) X.A (richCompare .NotEq (.ref a) (.ref b)) (EP X pins σ Q) X.xe s
  cases r1 with
  | nil => exact SeqAt.RcNeAt.lists (e := fun _ => true) ⟨_, e1, rfl, n1, rfl⟩ ⟨_, e2, rfl, n2, rfl⟩ rfl hu (fun j h1 => absurd h1 (Nat.not_lt_zero _)) X.prog X.w _ _ ⟨.bl false, H, I, rfl, q⟩
  | cons _ _ => exact SeqAt.RcNeAt.lists_lengths ⟨_, e1, rfl, n1, rfl⟩ ⟨_, e2, rfl, n2, rfl⟩ (by simp) hu X.prog X.w _ _ ⟨.bl true, H, I, rfl, q⟩
theorem asgJoin {te : TE} {g : TG} {D : Ends} {σ : L2.St} {H : Hp} (R : V → Hp → Prop) (h1 : ∀ v H', R v H' → g v σ H' D.nx) (h2 : ∀ N : VK, (∀ v H', R v H' → N v H') → te σ H N) : tAsg te g D σ H := h2 _ h1
theorem tSeqE {t u : TS} {D : Ends} {σ : L2.St} {H : Hp} : tSeq t u D σ H = t { D with nx := fun σ' H' => u D σ' H' } σ H := rfl
theorem opJoin {te tb : TE} {r : R2} {σ : L2.St} {H : Hp} {Q : Bool → Hp → Prop} (R : V → Hp → Prop) (h1 : ∀ v H', R v H' → tb σ H' fun y H2 => r v y H2 fun x H3 => ∃ k, x = .bl k ∧ Q k H3) (h2 : ∀ N : VK, (∀ v H', R v H' → N v H') → te σ H N) : tTest (tOp r te tb) σ H Q := h2 _ h1
def spLaw (K : PySem.W.Frag) : Sp := fun vs H Q _ => ∃ (a : Addr) (ns : List Int), vs = [.ref a] ∧ SqL K H a (ns.map V.int) ∧ ns.length ≤ 63 ∧ ∀ H', Q (.bl true) H'
section
variable {P : Program} {w : World} {K : PySem.W.Frag} {mg : Str → Option Value} {base : Heap} {CShare CDivision CNoShare CNoPeople : Addr}
abbrev st_law : Stmt := top 37
theorem sc_law : FnScope ["_law_script", "_law_k", "_law_source_here", "_law_lap", "_law_many", "_law_some", "_law_at", "_law_other", "_law_odd", "_law_kept", "_law_rows", "_law_one", "_law_two", "_law_told", "_law_turn", "_law_row"] ["_law_script"] (defScope st_law) := ⟨rfl, rfl, rfl, by decide +kernel, rfl, by decide +kernel, by decide +kernel⟩
theorem ok_law (B : Bn mg) (SShare : ShK K mg CShare) (SDivision : DvK K mg CDivision) (eqC : EqC K CDivision) (m_initShare : MCal P w K mg base 4 CShare "__init__" ["self", "amounts"] (spInit CShare)) (m_repS : MCal P w K mg base 3 CShare "__repr__" ["self"] (spRep CShare)) (m_eqD : MCal P w K mg base 4 CDivision "__eq__" ["self", "other"] (spEqD7 K CDivision CShare))
    (c_l_cell : Cal P w K mg base 2 "_law_cell" ["_law_script", "_law_index"] (spCell K)) (c_l_source : Cal P w K mg base 2 "_law_source" ["_law_cell_here"] spSource) (c_l_draw : Cal P w K mg base 2 "_law_draw" ["_law_source_here", "_law_many"] spDraw) (c_l_choose : Cal P w K mg base 3 "_law_choose" ["_law_source_here", "_law_values"] spChoose) (c_l_amounts : Cal P w K mg base 4 "_law_amounts" ["_law_source_here", "_law_many"] spAmounts) (c_l_built : CalX P w K mg base 7 "_law_built" ["_law_some"] (spBuilt CDivision CShare CNoShare CNoPeople)) (c_l_said : Cal P w K mg base 9 "_law_said" ["_law_some"] (spSaid K CShare)) (c_l_due : Cal P w K mg base 5 "_law_due" ["_law_some"] (spDue7 K CShare)) (c_l_is_equal : CalG P w K mg base 2 "_law_is_equal" ["_law_actual", "_law_expected"] (spEqualV K)) (D : Df K mg "law" st_law ["_law_script"]) : CalG P w K mg base 12 "law" ["_law_script"] (spLaw K) := by
  refine D.calG sc_law (fun vs H Q E h => ?_) (fun f cdv A out s H vs Q E gd hr h => ?_)
  · obtain ⟨a, ns, rfl, _⟩ := h
    rfl
  obtain ⟨a, ns, rfl, sq, l63, k⟩ := h
  refine ⟨_, (pss_one (ps_try_thru0 (pss_cons (ps_for PassesOwn.never rfl (pi_range1 (by rfl) B.n_range (pa_cons (pe_callB (call_max2 rfl) (by rfl) B.n_max (by decide +kernel) (pa_cons pe_int (pa_cons (pe_callB (call_min2 rfl) (by rfl) B.n_min (by decide +kernel) (pa_cons (pe_callB call_len_seq (by rfl) B.n_len (by decide +kernel) (pa_cons (pv 0) pa_nil)) (pa_cons pe_int pa_nil))) pa_nil))) pa_nil)) (pg_name (i := 1) sc_law.nd rfl (.inl rfl))
   (pss_cons (ps_set (i := 2) sc_law.nd rfl (by first | exact .inl rfl | exact .inr rfl) (pe_fn c_l_source (hr.mono (by decide)) (pa_cons (pe_fn c_l_cell (hr.mono (by decide)) (pa_cons (pv 0) (pa_cons (pv 1) pa_nil))) pa_nil)))
   (pss_one (ps_for PassesOwn.never rfl (pi_range1 (by rfl) B.n_range (pa_cons pe_int pa_nil)) (pg_name (i := 3) sc_law.nd rfl (.inl rfl))
   (pss_cons (ps_set (i := 4) sc_law.nd rfl (by first | exact .inl rfl | exact .inr rfl) (pe_op op_add pe_int (pe_fn c_l_draw (hr.mono (by decide)) (pa_cons (pv 2) (pa_cons pe_int pa_nil)))))
   (pss_cons (ps_setLc (i := 5) (own := [("_law_turn", 14)]) (g := gName 14) rfl sc_law.nd rfl rfl (sw_true rfl rfl rfl (by decide +kernel)) (pi_range1 (by rfl) B.n_range (pa_cons (pe_op op_mod (pv 3) pe_int) pa_nil)) (blkOk_by (N := ["_law_script", "_law_k", "_law_source_here", "_law_lap", "_law_many", "_law_some", "_law_at", "_law_other", "_law_odd", "_law_kept", "_law_rows", "_law_one", "_law_two", "_law_told", "_law_turn", "_law_row"]) (sc := defScope st_law) (by decide +kernel)) (fun _ _ _ _ _ => (pg_name (i := 14) sc_law.nd rfl (.inl rfl))) (fun _ _ _ _ _ => pts_nil) (fun _ _ _ _ _ => (pe_mk m_initShare SShare.mks SShare.kc SShare.mgC (hr.mono (by decide)) (pa_cons (pe_fn c_l_amounts (hr.mono (by decide)) (pa_cons (pv 2) (pa_cons (pv 4) pa_nil))) pa_nil))))
   (pss_cons (ps_if (PW.pt (pw_and (pt_cmpR (op_neNil hr.units0) (pv 5) (pe_lst pa_nil) (nomark _)) (pw_and1 (pt_cmpR op_eq (pe_fn c_l_draw (hr.mono (by decide)) (pa_cons (pv 2) (pa_cons pe_int pa_nil))) pe_int (nomark _))))) (pss_cons (ps_par (i := 6) (j := 7) (by rfl) sc_law.nd rfl rfl (by decide) rfl rfl (pa_cons (pe_fn c_l_draw (hr.mono (by decide)) (pa_cons (pv 2) (pa_cons (pe_callB call_len_seq (by rfl) B.n_len (by decide +kernel) (pa_cons (pv 5) pa_nil)) pa_nil))) (pa_cons (pe_mk m_initShare SShare.mks SShare.kc SShare.mgC (hr.mono (by decide)) (pa_cons (pe_fn c_l_amounts (hr.mono (by decide)) (pa_cons (pv 2) (pa_cons (pe_op op_add pe_int (pe_fn c_l_draw (hr.mono (by decide)) (pa_cons (pv 2) (pa_cons pe_int pa_nil)))) pa_nil))) pa_nil)) pa_nil)) (by rfl))
   (pss_cons (ps_set (i := 8) sc_law.nd rfl (.inl rfl) (pe_lst (pa_cons pe_non (pa_cons pe_int (pa_cons (pe_tup (pa_cons pe_int (pa_cons pe_int pa_nil))) (pa_cons (pe_lst (pa_cons pe_int (pa_cons pe_int pa_nil))) (pa_cons pe_str (pa_cons (pv 7) (pa_cons (pv 7) (pa_cons (pv 7) (pa_cons pe_bl (pa_cons pe_dnewK pa_nil))))))))))))
   (pss_one (ps_asg (pe_fn c_l_choose (hr.mono (by decide)) (pa_cons (pv 2) (pa_cons (pv 8) pa_nil))) (pg_sub (pv 5) (pv 6) set_list))))) pss_nil)
   (pss_cons (ps_set (i := 9) sc_law.nd rfl (.inl rfl) (pe_callB (call_or (call_reprN (k := 4) (hr.mono (by decide)) gd) (call_reprV gd (un66 hr))) (by rfl) B.n_repr (by decide +kernel) (pa_cons (pv 5) pa_nil)))
   (pss_cons (ps_if (PW.pt (pw_or (pt_not (pt_val (pe_fnG c_l_is_equal gd (hr.mono (by decide)) (pa_cons (pe_fn c_l_said (hr.mono (by decide)) (pa_cons (pv 5) pa_nil)) (pa_cons (pe_fn c_l_due (hr.mono (by decide)) (pa_cons (pv 5) pa_nil)) pa_nil))))) (pw_or1 (pt_cmpR op_ne (pe_callB (call_or (call_reprN (k := 4) (hr.mono (by decide)) gd) (call_reprV gd (un66 hr))) (by rfl) B.n_repr (by decide +kernel) (pa_cons (pv 5) pa_nil)) (pv 9) (nomark _))))) (pss_one (ps_ret pe_bl)) pss_nil)
   (pss_cons (ps_set (i := 10) sc_law.nd rfl (.inl rfl) (pe_lst (pa_cons (pe_fn c_l_amounts (hr.mono (by decide)) (pa_cons (pv 2) (pa_cons (pv 4) pa_nil))) (pa_cons (pe_fn c_l_amounts (hr.mono (by decide)) (pa_cons (pv 2) (pa_cons (pv 4) pa_nil))) pa_nil))))
   (pss_cons (ps_par (i := 11) (j := 12) (by rfl) sc_law.nd rfl rfl (by decide) rfl rfl (pa_cons (pe_lc (own := [("_law_row", 15)]) (g := gName 15) rfl sc_law.nd (pi_list (pv 10)) (blkOk_by (N := ["_law_script", "_law_k", "_law_source_here", "_law_lap", "_law_many", "_law_some", "_law_at", "_law_other", "_law_odd", "_law_kept", "_law_rows", "_law_one", "_law_two", "_law_told", "_law_turn", "_law_row"]) (sc := defScope st_law) (by decide +kernel)) (fun _ _ _ _ _ => (pg_name (i := 15) sc_law.nd rfl (.inl rfl))) (fun _ _ _ _ _ => pts_nil) (fun _ _ _ _ _ => (pe_mk m_initShare SShare.mks SShare.kc SShare.mgC (hr.mono (by decide)) (pa_cons (pv 15) pa_nil)))) (pa_cons (pe_lc (own := [("_law_row", 15)]) (g := gName 15) rfl sc_law.nd (pi_list (pe_revL (pv 10))) (blkOk_by (N := ["_law_script", "_law_k", "_law_source_here", "_law_lap", "_law_many", "_law_some", "_law_at", "_law_other", "_law_odd", "_law_kept", "_law_rows", "_law_one", "_law_two", "_law_told", "_law_turn", "_law_row"]) (sc := defScope st_law) (by decide +kernel)) (fun _ _ _ _ _ => (pg_name (i := 15) sc_law.nd rfl (.inl rfl))) (fun _ _ _ _ _ => pts_nil) (fun _ _ _ _ _ => (pe_mk m_initShare SShare.mks SShare.kc SShare.mgC (hr.mono (by decide)) (pa_cons (pv 15) pa_nil)))) pa_nil)) (by rfl))
   (pss_cons (ps_set (i := 13) sc_law.nd rfl (.inl rfl) (pe_lst (pa_cons (pe_cmpR (op_eqO m_eqD (hr.mono (by decide))) (pe_fnX c_l_built passF (hr.mono (by decide)) (pa_cons (pv 11) pa_nil)) (pe_fnX c_l_built passF (hr.mono (by decide)) (pa_cons (pv 12) pa_nil)) (nomark _)) (pa_cons (pe_cmpR (op_neO m_eqD eqC (hr.mono (by decide))) (pe_fnX c_l_built passF (hr.mono (by decide)) (pa_cons (pv 11) pa_nil)) (pe_fnX c_l_built passF (hr.mono (by decide)) (pa_cons (pv 12) pa_nil)) (nomark _)) pa_nil))))
   (pss_one (ps_if (PW.pt (pw_or (pt_cmpR (op_neD hr.units) (pv 13) (pe_lst (pa_cons (pe_cmpR (op_eqD hr.units) (pe_ix ix_list (pv 10) pe_int (fun _ _ => rfl)) (pe_ix ix_list (pv 10) pe_int (fun _ _ => rfl)) (nomark _)) (pa_cons (pe_cmpR (op_neD hr.units) (pe_ix ix_list (pv 10) pe_int (fun _ _ => rfl)) (pe_ix ix_list (pv 10) pe_int (fun _ _ => rfl)) (nomark _)) pa_nil))) (nomark _)) (pw_or1 (pt_cmpR (op_eqO m_eqD (hr.mono (by decide))) (pe_fnX c_l_built passF (hr.mono (by decide)) (pa_cons (pv 11) pa_nil)) (pe_fnX c_l_built passF (hr.mono (by decide)) (pa_cons (pe_op op_cat (pv 11) (pe_slice sl_list (pv 11) po_none (po_some pe_int))) pa_nil)) (nomark _))))) (pss_one (ps_ret pe_bl)) pss_nil))))))))))))))
   (pss_one (ps_ret pe_bl))))), ?_⟩
  refine ⟨_, rfl, a, _, rfl, .inl sq, _, _, rfl, _, _, rfl, _, rfl, ?_, ?_, ?_⟩
  · split <;> split <;> omega
  · split <;> split <;> omega
  generalize (Int.toNat _) = n
  refine for_range (lo := 0) (n := n) (fun i σ H' => ∃ v1 v2 v3 v4 v5 v6 v7 v8 v9 v10 v11 v12 v13 v14 v15 : Option V, σ = [some (.ref a), v1, v2, v3, v4, v5, v6, v7, v8, v9, v10, v11, v12, v13, v14, v15] ∧ Same H H') ⟨none, none, none, none, none, none, none, none, none, none, none, none, none, none, none, rfl, Same.refl H⟩ ?_ (fun σ H' _ => k H')
  rintro i σ H1 _ ⟨v1, v2, v3, v4, v5, v6, v7, v8, v9, v10, v11, v12, v13, v14, v15, rfl, k1⟩
  refine ⟨_, rfl, _, rfl, a, ns, _, rfl, k1.seq sq, by omega, fun c => ⟨c, rfl, fun p H2 np src k2 => ?_⟩⟩
  refine ⟨12, rfl, by decide, by decide, ?_⟩
  refine for_range (lo := 0) (n := 12) (fun j σ H' => ∃ v3 v4 v5 v6 v7 v8 v9 v10 v11 v12 v13 v14 v15 : Option V, σ = [some (.ref a), some (.int (0 + i)), some (.ref p), v3, v4, v5, v6, v7, v8, v9, v10, v11, v12, v13, v14, v15] ∧ Src H' p ∧ Same H1 H') ⟨v3, v4, v5, v6, v7, v8, v9, v10, v11, v12, v13, v14, v15, rfl, src, k2⟩ ?_ (fun σ H' ⟨v3, v4, v5, v6, v7, v8, v9, v10, v11, v12, v13, v14, v15, e, _, k3⟩ => ⟨_, _, _, _, _, _, _, _, _, _, _, _, _, _, _, e, k1.trans k3⟩)
  rintro j σ H3 hj ⟨v3, v4, v5, v6, v7, v8, v9, v10, v11, v12, v13, v14, v15, rfl, src3, k3⟩
  refine ⟨_, rfl, p, _, rfl, src3, by decide, by decide, fun r1 H4 r10 r11 src4 k4 => ⟨_, _, rfl, rfl, ?_⟩⟩
  obtain ⟨q1, rfl⟩ : ∃ q : Nat, r1 = (q : Int) := ⟨r1.toNat, by omega⟩
  refine ⟨_, rfl, _, _, rfl, rfl, (by show (0 : Int) < 6; decide), _, rfl, ?_, ?_, fun L hL => ?_⟩
  · have := Int.emod_nonneg (0 + (j : Int)) (show (6 : Int) ≠ 0 by decide)
    omega
  · have := Int.emod_lt_of_pos (0 + (j : Int)) (show (0 : Int) < 6 by decide)
    omega
  have lp := src4.ne hL
  have hL3 : H3 L = none := k4.free lp hL
  rw [show ((0 + (j : Int)) % 6).toNat = j % 6 by omega]
  refine lc_range (lo := 0) (n := j % 6) (fun i H' => ∃ (us : List V) (os : List (Option (List Int))) (ts : List Str), H' L = some (.lst us) ∧ us.length = i ∧ All8 CShare H' us os ts ∧ (∀ v ∈ us, v ≠ .ref L) ∧ Src H' p ∧ Kp p H3 H') ⟨[], [], [], upd_same, rfl, .nil, fun _ h => (nomatch h), src4.upd hL, k4.new hL⟩ (fun i H' hi z => ⟨rfl, tyes ?_⟩) (fun H5 z => ?_)
  · obtain ⟨us, os, ts, hD, lu, al, nl, src5, k5⟩ := z
    refine ⟨_, rfl, _, rfl, p, 2 + q1, rfl, src5, by omega, by omega, fun t ns H6 ln am src6 k6 ht => ?_⟩
    refine fun x dx nx nd nex => ?_
    refine mk_at nx nd ht (by omega) (by omega) am fun H7 k7 sh => ?_
    have hD6 := k6 _ _ lp hD
    have hD7 := k7 _ _ hD6
    have nxL : (V.ref x) ≠ .ref L := fun e => by
      injection e with e
      rw [e, hD6] at nx
      cases nx
    refine ⟨_, hD7, size_lt (by omega), us ++ [.ref x], os ++ [some ns], ts ++ [shS ns], upd_same, by rw [List.length_append, lu]; rfl, ?_, ?_, (src6.same k7).put lp, (k5.trans (k6.trans (Kp.of k7))).put hL3⟩
    · exact ((All8.kp src5 k6 al).same k7 |>.snoc (.sh sh)).put hD7 nl fun v hv => by
        rcases List.mem_append.mp hv with z | z
        · exact nl v z
        · rw [List.mem_singleton.mp z]; exact nxL
    · intro v hv
      rcases List.mem_append.mp hv with z | z
      · exact nl v z
      · rw [List.mem_singleton.mp z]; exact nxL
  obtain ⟨us, os, ts, hD, lu, al, nl, src5, k5⟩ := z
  have lu5 : us.length ≤ 5 := by omega
  clear lu hL src4 k4
  rw [gNameE]
  dsimp only
  refine join (fun σ' H' => ∃ (w6 w7 w8 w9 w10 w11 w12 w13 w14 w15 : Option V) (us : List V) (os : List (Option (List Int))) (ts : List Str), σ' = [some (.ref a), some (.int (0 + i)), some (.ref p), some (.int (0 + j)), some (.int (2 + (q1 : Int))), some (.ref L), w6, w7, w8, w9, w10, w11, w12, w13, w14, w15] ∧ H' L = some (.lst us) ∧ us.length ≤ 5 ∧ All8 CShare H' us os ts ∧ Src H' p ∧ Kp p H3 H') ?_ (fun N hN => ?_)
  case refine_1 =>
    clear hD lu5 al nl src5 k5 us os ts
    rintro σ' H6 ⟨w6, w7, w8, w9, w10, w11, w12, w13, w14, w15, us, os, ts, rfl, hD, lu5, al, src6, k6⟩
    have lo5 : os.length ≤ 5 := by rw [← al.len.1]; exact lu5
    rw [tSeqE]
    refine asgJoin (fun v H7 => v = .str (listText ts) ∧ Same H6 H7) (fun v H7 z => ?_) (fun N hN => ?_)
    case refine_2 =>
      refine ⟨_, rfl, ?_⟩
      try dsimp only [tNil]
      refine rep8 ?_ hD al lu5 fun H7 k7 => hN _ _ ⟨rfl, k7⟩
      exact m_repS
    obtain ⟨rfl, k7⟩ := z
    refine ⟨_, rfl, ?_⟩
    try dsimp only [tNil]
    refine said_of (k7 _ _ hD) (al.same k7).all7 lo5 fun x H8 k8 sx => ?_
    have k68 := k7.trans k8
    refine ⟨_, rfl, ?_⟩
    try dsimp only [tNil]
    refine said_of (k68 _ _ hD) (al.same k68).all7 lo5 fun y H9 k9 sy => ?_
    obtain ⟨d, dp1, dp2, s1, s2⟩ := (sx.same k9).two sy
    have k69 := k68.trans k9
    refine ⟨x, y, d, d, rfl, dp1, dp2, s1, s2, ?_⟩
    rw [decide_eq_true rfl]
    refine ⟨_, rfl, iteF ?_⟩
    refine opJoin (fun v HA => v = .str (listText ts) ∧ Same H9 HA) (fun v HA z => ?_) (fun N hN => ?_)
    case refine_2 =>
      refine ⟨_, rfl, ?_⟩
      try dsimp only [tNil]
      refine rep8 ?_ (k69 _ _ hD) (al.same k69) lu5 fun H7 k7 => hN _ _ ⟨rfl, k7⟩
      exact m_repS
    obtain ⟨rfl, kA⟩ := z
    refine ⟨_, rfl, rfl, _, rfl, ?_⟩
    rw [decide_eq_true rfl]
    refine iteF ?_
    have k6A := k69.trans kA
    have k3A := k6.trans (Kp.of k6A)
    have srcA := src6.same k6A
    clear k6A k69 k68 k7 k8 k9 kA dp1 dp2 s1 s2 sx sy al hD src6 k6 lu5 lo5
    -- two rows
    refine ⟨_, rfl, _, rfl, p, 2 + q1, rfl, srcA, by omega, by omega, fun t1 ns1 HB ln1 am1 srcB kB ht1 => ?_⟩
    refine ⟨_, rfl, _, rfl, p, 2 + q1, rfl, srcB, by omega, by omega, fun t2 ns2 HC ln2 am2 srcC kC ht2 => ?_⟩
    have ht1 := kC _ _ (srcB.neT ht1) ht1
    have k3C := k3A.trans (kB.trans kC)
    have rws : ∀ rows : List (List Int), 2 ≤ rows.length → rows.length ≤ 4 → (∀ ns ∈ rows, ns = ns1 ∨ ns = ns2) → Rows rows := fun rows a2 a4 al => ⟨a2, a4, 2 + q1, by omega, by omega, fun ns hn => by
      rcases al ns hn with rfl | rfl
      · exact ⟨ln1, am1⟩
      · exact ⟨ln2, am2⟩⟩
    have rw1 : Rows [ns1, ns2] := rws _ (by simp) (by simp) (by simp)
    have rw2 : Rows [ns2, ns1] := rws _ (by simp) (by simp) (by simp)
    have rw3 : Rows [ns1, ns2, ns1] := rws _ (by simp) (by simp) (by simp)
    have tp1 : TpAll HC [t1, t2] [ns1, ns2] := ⟨rfl, fun j u ns e1 e2 => by
      match j, e1, e2 with
      | 0, e1, e2 => cases e1; cases e2; exact ht1
      | 1, e1, e2 => cases e1; cases e2; exact ht2
      | j + 2, e1, e2 => cases e1⟩
    have tp2 : TpAll HC [t2, t1] [ns2, ns1] := ⟨rfl, fun j u ns e1 e2 => by
      match j, e1, e2 with
      | 0, e1, e2 => cases e1; cases e2; exact ht2
      | 1, e1, e2 => cases e1; cases e2; exact ht1
      | j + 2, e1, e2 => cases e1⟩
    have okk : ∀ ns : List Int, ns = ns1 ∨ ns = ns2 → 2 ≤ ns.length ∧ ns.length ≤ 6 ∧ Am ns := fun ns h => by
      rcases h with rfl | rfl
      · exact ⟨by omega, by omega, am1⟩
      · exact ⟨by omega, by omega, am2⟩
    have ok1 : ∀ ns ∈ [ns1, ns2], 2 ≤ ns.length ∧ ns.length ≤ 6 ∧ Am ns := fun ns h => okk ns (by simpa using h)
    have ok2 : ∀ ns ∈ [ns2, ns1], 2 ≤ ns.length ∧ ns.length ≤ 6 ∧ Am ns := fun ns h => okk ns (by simpa [or_comm] using h)
    refine ⟨(by show 2 ≤ sizeLine; decide), fun R hR => ?_⟩
    generalize hHD : upd HC R _ = HD
    obtain ⟨kD, eD⟩ := alloc hHD hR
    clear hHD
    have eD : HD R = some (.lst ([t1, t2].map V.ref)) := eD
    refine ⟨_, rfl, R, rfl, ⟨_, SqL.of eD⟩, fun O hO => lc_list (K := K) (a := R) (xs := [t1, t2].map V.ref) (ShI CShare O HD [ns1, ns2]) ⟨same_new (Same.refl _) hO, [], upd_same, .nil⟩ (fun i H' _ z => SqL.of (z.1 _ _ eD)) (fun i x H' hx z => ⟨rfl, tyes ?_⟩) (fun HE z => ?_)⟩
    · obtain ⟨t, ns, rfl, ht, b2, b6, am, nxt⟩ := z.next hO (tp1.same kD) ok1 (by simp) hx
      exact ⟨_, rfl, fun x dx nx nd nex => mk_at nx nd ht b2 b6 am fun H7 k7 sh => nxt x H7 k7 sh⟩
    obtain ⟨kE, ss1, hO1, sa1⟩ := z
    have sa1 : ShAll CShare HE ss1 [ns1, ns2] := sa1
    refine ⟨_, rfl, R, _, rfl, SqL.of (kE _ _ eD), fun R2 hR2 => ?_⟩
    generalize hHF : upd HE R2 _ = HF
    obtain ⟨kF, eF⟩ := alloc hHF hR2
    clear hHF
    have eF : HF R2 = some (.lst ([t2, t1].map V.ref)) := eF
    refine ⟨R2, rfl, ⟨_, SqL.of eF⟩, fun O2 hO2 => lc_list (K := K) (a := R2) (xs := [t2, t1].map V.ref) (ShI CShare O2 HF [ns2, ns1]) ⟨same_new (Same.refl _) hO2, [], upd_same, .nil⟩ (fun i H' _ z => SqL.of (z.1 _ _ eF)) (fun i x H' hx z => ⟨rfl, tyes ?_⟩) (fun HG z => ?_)⟩
    · obtain ⟨t, ns, rfl, ht, b2, b6, am, nxt⟩ := z.next hO2 (tp2.same (kD.trans (kE.trans kF))) ok2 (by simp) hx
      exact ⟨_, rfl, fun x dx nx nd nex => mk_at nx nd ht b2 b6 am fun H7 k7 sh => nxt x H7 k7 sh⟩
    obtain ⟨kG, ss2, hO2', sa2⟩ := z
    have sa2 : ShAll CShare HG ss2 [ns2, ns1] := sa2
    have kEG := kF.trans kG
    have kCG := kD.trans (kE.trans kEG)
    have hO1 := kEG _ _ hO1
    have sa1 := sa1.same kEG
    have eR := (kE.trans kEG) _ _ eD
    have ht1 := kCG _ _ ht1
    have ht2 := kCG _ _ ht2
    have srcG := srcC.same kCG
    have k3G := k3C.trans (Kp.of kCG)
    clear eF eD hO hO2 hR hR2 kE kF kG kEG kD kCG tp1 tp2 srcC srcB srcA k3C k3A kB kC
    obtain ⟨x1, x2, rfl⟩ : ∃ x1 x2 : Addr, ss1 = [x1, x2] := by
      cases sa1 with
      | cons _ r =>
        cases r with
        | cons _ r =>
          cases r
          exact ⟨_, _, rfl⟩
    refine ⟨_, _, rfl, ?_⟩
    -- told
    refine ⟨_, rfl, ?_⟩
    try dsimp only [tNil]
    refine built_of hO1 sa1 rw1 fun d1 u1 sd1 HH kH dv1 => ?_
    refine ⟨_, rfl, ?_⟩
    try dsimp only [tNil]
    refine built_of (kH _ _ hO2') (sa2.same kH) rw2 fun d2 u2 sd2 HI kI dv2 => ?_
    have dv1 := dv1.same kI
    obtain ⟨⟨dx1, hd1⟩, _⟩ := id dv1
    obtain ⟨⟨dx2, hd2⟩, _⟩ := id dv2
    refine ⟨d1, dx1, _, rfl, hd1, .inl ⟨d2, dx2, _, rfl, hd2⟩, d1, u1, sd1, _, .ref d2, rfl, dv1, .inl ⟨d2, u2, sd2, _, rfl, dv2, _, rfl, ?_⟩⟩
    have sw : decide ([ns1, ns2] = [ns2, ns1]) = decide (ns1 = ns2) := decide_eq_decide.mpr ⟨fun e => by injection e, fun e => by rw [e]⟩
    rw [sw]
    have kGI := kH.trans kI
    refine ⟨_, rfl, ?_⟩
    try dsimp only [tNil]
    refine built_of (kGI _ _ hO1) (sa1.same kGI) rw1 fun d3 u3 sd3 HJ kJ dv3 => ?_
    have kGJ := kGI.trans kJ
    refine ⟨_, rfl, ?_⟩
    try dsimp only [tNil]
    refine built_of (kGJ _ _ hO2') (sa2.same kGJ) rw2 fun d4 u4 sd4 HK kK dv4 => ?_
    have dv3 := dv3.same kK
    obtain ⟨⟨dx3, hd3⟩, _⟩ := id dv3
    obtain ⟨⟨dx4, hd4⟩, _⟩ := id dv4
    refine ⟨d3, dx3, _, rfl, hd3, .inl ⟨d4, dx4, _, rfl, hd4⟩, d3, u3, sd3, _, .ref d4, rfl, dv3, .inl ⟨d4, u4, sd4, _, rfl, dv4, _, rfl, ?_⟩⟩
    rw [sw]
    have kGK := kGJ.trans kK
    refine ⟨(by show 2 ≤ sizeLine; decide), fun M hM => ?_⟩
    generalize hHL : upd HK M _ = HL
    obtain ⟨kL, eL⟩ := alloc hHL hM
    clear hHL
    have kGL := kGK.trans kL
    have hO1 := kGL _ _ hO1
    have sa1 := sa1.same kGL
    have eR := kGL _ _ eR
    have ht1 := kGL _ _ ht1
    have ht2 := kGL _ _ ht2
    have srcL := srcG.same kGL
    have k3L := k3G.trans (Kp.of kGL)
    clear hO2' sa2 dv1 dv2 dv3 dv4 hd1 hd2 hd3 hd4 kH kI kJ kK kL kGI kGJ kGK kGL hM srcG k3G
    refine ⟨_, rfl, ?_⟩
    refine ⟨_, rfl, R, _, 0, .ref t1, rfl, rfl, SqL.of eR, rfl, _, rfl, R, _, 1, .ref t2, rfl, rfl, SqL.of eR, rfl, .tuple (ns1.map PyData.int), .tuple (ns2.map PyData.int), .tup (SqT.of ht1) (dpInts K _ _), .tup (SqT.of ht2) (dpInts K _ _), shapedTup _, shapedTup _, ?_⟩
    rw [eqv_tup]
    refine ⟨_, rfl, R, _, 0, .ref t1, rfl, rfl, SqL.of eR, rfl, _, rfl, R, _, 1, .ref t2, rfl, rfl, SqL.of eR, rfl, .tuple (ns1.map PyData.int), .tuple (ns2.map PyData.int), .tup (SqT.of ht1) (dpInts K _ _), .tup (SqT.of ht2) (dpInts K _ _), shapedTup _, shapedTup _, ?_⟩
    rw [eqv_tup]
    refine ⟨(by show 2 ≤ sizeLine; decide), fun M2 hM2 => ?_⟩
    generalize hHM : upd HL M2 _ = HM
    obtain ⟨kM, eM⟩ := alloc hHM hM2
    clear hHM
    generalize decide (ns1 = ns2) = b at eL eM
    obtain ⟨tb1, tb2⟩ := two_bools b
    refine ⟨.list [.bool b, .bool (!b)], .list [.bool b, .bool (!b)], .lst (SqL.of (kM _ _ eL)) (.cons (.bl _) (.cons (.bl _) .nil)), .lst (SqL.of eM) (.cons (.bl _) (.cons (.bl _) .nil)), tb1, tb1, _, rfl, ?_⟩
    rw [tb2]
    refine iteF ?_
    have hO1 := kM _ _ hO1
    have sa1 := sa1.same kM
    refine ⟨_, rfl, ?_⟩
    try dsimp only [tNil]
    refine built_of hO1 sa1 rw1 fun d1 u1 sd1 HN kN dv1 => ?_
    refine ⟨_, rfl, _, rfl, 1, rfl, O, _, rfl, SqL.of (kN _ _ hO1), fun C1 hC1 => ?_⟩
    generalize hHP : upd HN C1 _ = HP
    obtain ⟨kP, eP⟩ := alloc hHP hC1
    clear hHP
    rw [show cutV ([x1, x2].map V.ref) none (some (1 : Int)) = [V.ref x1] from cut_take (n := 1) (by simp)] at eP
    have kMP := kN.trans kP
    refine ⟨O, C1, _, _, rfl, rfl, kMP _ _ hO1, eP, (by show 3 ≤ sizeLine; decide), fun C2 hC2 => ?_⟩
    generalize hHQ : upd HP C2 _ = HQ
    obtain ⟨kQ, eQ⟩ := alloc hHQ hC2
    clear hHQ
    have eQ : HQ C2 = some (.lst ([x1, x2, x1].map V.ref)) := eQ
    have kMQ := kMP.trans kQ
    have sa3 : ShAll CShare HQ [x1, x2, x1] [ns1, ns2, ns1] := by
      cases sa1 with
      | cons a r => exact ((ShAll.cons a r).same kMQ).snoc (a.same kMQ)
    try dsimp only [tNil]
    refine built_of eQ sa3 rw3 fun d2 u2 sd2 HR kR dv2 => ?_
    have dv1 := dv1.same (kP.trans (kQ.trans kR))
    obtain ⟨⟨dx1, hd1⟩, _⟩ := id dv1
    obtain ⟨⟨dx2, hd2⟩, _⟩ := id dv2
    refine ⟨d1, dx1, _, rfl, hd1, .inl ⟨d2, dx2, _, rfl, hd2⟩, d1, u1, sd1, _, .ref d2, rfl, dv1, .inl ⟨d2, u2, sd2, _, rfl, dv2, _, rfl, _, rfl, ?_⟩⟩
    rw [decide_eq_false (show ¬ [ns1, ns2] = [ns1, ns2, ns1] from fun e => by
      have := congrArg List.length e
      simp at this)]
    refine iteF ?_
    have kLR := kM.trans (kMQ.trans kR)
    exact ⟨_, _, _, _, _, _, _, _, _, _, _, _, _, rfl, srcL.same kLR, sk k3 (k3L.trans (Kp.of kLR)) np⟩
  case refine_2 =>
    refine ⟨_, rfl, Nat.zero_le _, fun M hM => ?_⟩
    generalize hH6 : upd H5 M _ = H6
    obtain ⟨k6, e6⟩ := alloc hH6 hM
    clear hH6
    have hD6 := k6 _ _ hD
    have al6 := al.same k6
    have src6 := src5.same k6
    have k36 := k5.trans (Kp.of k6)
    have stay : ∀ (w6 w7 w8 w9 w10 w11 w12 w13 w14 w15 : Option V) (H7 : Hp), Src H7 p → Kp p H6 H7 → N [some (.ref a), some (.int (0 + i)), some (.ref p), some (.int (0 + j)), some (.int (2 + (q1 : Int))), some (.ref L), w6, w7, w8, w9, w10, w11, w12, w13, w14, w15] H7 := fun w6 w7 w8 w9 w10 w11 w12 w13 w14 w15 H7 s7 k7 => hN _ _ ⟨_, _, _, _, _, _, _, _, _, _, us, os, ts, rfl, k7 _ _ lp hD6, lu5, al6.kp src6 k7, s7, k36.trans k7⟩
    refine ⟨L, M, us, rfl, rfl, hD6, e6, _, rfl, ?_⟩
    refine ite2 (fun c => ?_) (fun c => iteF (stay _ _ _ _ _ _ _ _ _ _ H6 src6 (Kp.refl p H6)))
    have up : 0 < us.length := List.length_pos_iff.mpr (of_decide_eq_true c)
    refine ⟨_, rfl, p, _, rfl, src6, by decide, by decide, fun r2 H7 r20 r21 src7 k7 => ⟨rfl, _, rfl, ?_⟩⟩
    refine ite2 (fun c2 => ?_) (fun c2 => stay _ _ _ _ _ _ _ _ _ _ H7 src7 k7)
    clear stay
    have hD7 := k7 _ _ lp hD6
    have al7 := al6.kp src6 k7
    have k37 := k36.trans k7
    refine ⟨_, rfl, _, rfl, L, us, rfl, .inl (SqL.of hD7), p, us.length, rfl, src7, by omega, by omega, fun r3 H8 r30 r31 src8 k8 => ?_⟩
    obtain ⟨q3, rfl⟩ : ∃ q : Nat, r3 = (q : Int) := ⟨r3.toNat, by omega⟩
    refine ⟨_, rfl, _, rfl, p, _, rfl, src8, by decide, by decide, fun r4 H9 r40 r41 src9 k9 => ⟨_, _, rfl, rfl, ?_⟩⟩
    obtain ⟨q4, rfl⟩ : ∃ q : Nat, r4 = (q : Int) := ⟨r4.toNat, by omega⟩
    refine ⟨p, 2 + q4, rfl, src9, by omega, by omega, fun t ns HA ln am srcA kA ht => ?_⟩
    refine fun x dx nx nd nex => ?_
    refine mk_at nx nd ht (by omega) (by omega) am fun HB kB sh => ?_
    refine ⟨_, _, rfl, ?_⟩
    have hDA := kA _ _ lp (k9 _ _ lp (k8 _ _ lp hD7))
    have neL : ∀ {G : Hp} {y : Addr}, G L = some (.lst us) → G y = none → V.ref y ≠ .ref L := fun h n e => by
      injection e with e
      rw [e, h] at n
      cases n
    have nxL := neL hDA nx
    have alB := (((al7.kp src7 k8).kp src8 k9).kp src9 kA).same kB
    have hDB := kB _ _ hDA
    have srcB := srcA.same kB
    have k3B := k37.trans (k8.trans (k9.trans (kA.trans (Kp.of kB))))
    clear hDA srcA nx nd nex hD7 al7 k37 hD6 al6 src6 k36 src7 src8 src9 k7 k8 k9 kA kB ht
    refine ⟨(by show 2 ≤ sizeLine; decide), fun T hT => ?_⟩
    generalize hHC : upd HB T _ = HC
    obtain ⟨kC, eC⟩ := alloc hHC hT
    clear hHC
    have nT := neL hDB hT
    have Tp := srcB.ne hT
    refine ⟨(by show 2 ≤ sizeLine; decide), fun U hU => ?_⟩
    generalize hHD : upd HC U _ = HD
    obtain ⟨kD, eD⟩ := alloc hHD hU
    clear hHD
    have nU := neL (kC _ _ hDB) hU
    have Up := (srcB.same kC).ne hU
    have kBD := kC.trans kD
    refine ⟨_, rfl, _, rfl, _, rfl, fun Z hZ => ?_⟩
    generalize hHE : upd HD Z _ = HE
    obtain ⟨kE, eE⟩ := alloc hHE hZ
    clear hHE
    have nZ := neL (kBD _ _ hDB) hZ
    have Zp := (srcB.same kBD).ne hZ
    have kBE := kBD.trans kE
    refine ⟨(by show 10 ≤ sizeLine; decide), fun O hO => ?_⟩
    generalize hHF : upd HE O _ = HF
    obtain ⟨kF, eF⟩ := alloc hHF hO
    clear hHF
    have Op := (srcB.same kBE).ne hO
    have kBF := kBE.trans kF
    have srcF := srcB.same kBF
    have hDF := kBF _ _ hDB
    have alF := alB.same kBF
    refine ⟨_, rfl, _, rfl, p, O, _, rfl, srcF, eF, Op, (by show 0 < 10; decide), (by show 10 ≤ 1000; decide), fun v HG mv srcG kG => ?_⟩
    have hDG := kG _ _ lp hDF
    refine ⟨_, rfl, _, rfl, L, us, q3, q3, rfl, rfl, hDG, ixN_nat (by omega), ?_⟩
    obtain ⟨o, tt, it, nv⟩ : ∃ o t, It8 CShare HG v o t ∧ v ≠ .ref L := by
      have shG : It8 CShare HG (.ref x) (some ns) (shS ns) := .sh ((sh.same kBF).kp srcF kG)
      simp only [List.mem_cons, List.not_mem_nil, or_false] at mv
      rcases mv with rfl | rfl | rfl | rfl | rfl | rfl | rfl | rfl | rfl | rfl
      · exact ⟨_, _, .non, by intro z; cases z⟩
      · exact ⟨_, _, .int, by intro z; cases z⟩
      · exact ⟨_, _, .tup (kG _ _ Tp (kF _ _ (kE _ _ (kD _ _ eC)))), nT⟩
      · exact ⟨_, _, .lst (kG _ _ Up (kF _ _ (kE _ _ eD))), nU⟩
      · exact ⟨_, _, .str, by intro z; cases z⟩
      · exact ⟨_, _, shG, nxL⟩
      · exact ⟨_, _, shG, nxL⟩
      · exact ⟨_, _, shG, nxL⟩
      · exact ⟨_, _, .bl, by intro z; cases z⟩
      · exact ⟨_, _, .dic (kG _ _ Zp (kF _ _ eE)), nZ⟩
    have alG := alF.kp srcF kG
    refine hN _ _ ⟨_, _, _, _, _, _, _, _, _, _, us.set q3 v, os.set q3 o, ts.set q3 tt, rfl, upd_same, by rw [List.length_set]; exact lu5, (All8.set it q3 alG).put hDG nl (fun y hy => ?_), srcG.put lp, (k3B.trans ((Kp.of kBF).trans kG)).put hL3⟩
    rcases List.mem_or_eq_of_mem_set hy with z | z
    · exact nl y z
    · rw [z]; exact nv
end
end Pl
namespace Pl
open PySem PySem.Spec PyProof.Rows L2
theorem all_ok {P : Program} {w : World} {K : PySem.W.Frag} {mg : Str → Option Value} {h base : Heap} {CShare CDivision CNoShare CNoPeople : Addr} (X : K.In h) (G : h.Ns mainGlobals mg) (aShare : PySem.W.nsIn K mainGlobals "Share" = some (some (.ref CShare))) (sShare : ShF K CShare) (fShare : CallF K CShare) (mShare_init : MhK K CShare "__init__" "Share.__init__" st_ShInit) (mShare_len : MhK K CShare "__len__" "Share.__len__" st_Sh_len) (mShare_eq : MhK K CShare "__eq__" "Share.__eq__" st_Sh_eq) (mShare_repr : MhK K CShare "__repr__" "Share.__repr__" st_Sh_repr) (aDivision : PySem.W.nsIn K mainGlobals "Division" = some (some (.ref CDivision))) (sDivision : DvF K CDivision) (mDivision_init : MhK K CDivision "__init__" "Division.__init__" st_DvInit) (mDivision_eq : MhK K CDivision "__eq__" "Division.__eq__" st_Di_eq) (mDivision_repr : MhK K CDivision "__repr__" "Division.__repr__" st_Di_repr) (mDivision_text : MhK K CDivision "text" "Division.text" st_Di_text) (pShare_amounts : PhK K CShare "amounts" "Share.amounts" st_Sh_amounts) (pDivision_shares : PhK K CDivision "shares" "Division.shares" st_Di_shares) (pDivision_people : PhK K CDivision "people" "Division.people" st_Di_people) (pDivision_states : PhK K CDivision "states" "Division.states" st_Di_states) (pDivision_totals : PhK K CDivision "totals" "Division.totals" st_Di_totals) (d_is_integer : DfK K "is_integer" st_is_integer) (d_is_integer_to : DfK K "is_integer_to" st_is_integer_to) (d_is_amounts : DfK K "is_amounts" st_is_amounts) (d_check_pair : DfK K "check_pair" st_check_pair) (d_spaced : DfK K "spaced" st_spaced) (d_l_cell : DfK K "_law_cell" st_l_cell) (d_l_source : DfK K "_law_source" st_l_source) (d_l_draw : DfK K "_law_draw" st_l_draw) (d_l_choose : DfK K "_law_choose" st_l_choose) (d_l_is_equal : DfK K "_law_is_equal" st_l_is_equal) (d_l_amounts : DfK K "_law_amounts" st_l_amounts) (d_l_built : DfK K "_law_built" st_l_built) (d_l_said : DfK K "_law_said" st_l_said) (d_l_due : DfK K "_law_due" st_l_due) (d_law : DfK K "law" st_law) (n_len : PySem.W.nsIn K mainGlobals "len" = some none) (n_range : PySem.W.nsIn K mainGlobals "range" = some none) (n_max : PySem.W.nsIn K mainGlobals "max" = some none) (n_min : PySem.W.nsIn K mainGlobals "min" = some none) (n_sum : PySem.W.nsIn K mainGlobals "sum" = some none) (n_sorted : PySem.W.nsIn K mainGlobals "sorted" = some none) (n_all : PySem.W.nsIn K mainGlobals "all" = some none) (n_isinstance : PySem.W.nsIn K mainGlobals "isinstance" = some none) (n_repr : PySem.W.nsIn K mainGlobals "repr" = some none) (n_tuple : PySem.W.nsIn K mainGlobals "tuple" = some none) (n_list : PySem.W.nsIn K mainGlobals "list" = some none) (n_int : PySem.W.nsIn K mainGlobals "int" = some none) (n_bool : PySem.W.nsIn K mainGlobals "bool" = some none) (n_zip : PySem.W.nsIn K mainGlobals "zip" = some none) (n_str : PySem.W.nsIn K mainGlobals "str" = some none) (c_FEWEST_STATES : ConI K "FEWEST_STATES" 2) (c_MOST_STATES : ConI K "MOST_STATES" 6) (c_MOST_IN_A_STATE : ConI K "MOST_IN_A_STATE" 30) (c_FEWEST_PEOPLE : ConI K "FEWEST_PEOPLE" 2) (c_MOST_PEOPLE : ConI K "MOST_PEOPLE" 4) (x_NoShare : ExF K "NoShare" CNoShare) (x_NoPeople : ExF K "NoPeople" CNoPeople) (kt7S : Kt7S K CShare) (o21 : PySem.W.exmOne K (.ref CNoPeople) (.ref CNoShare) = some false) (cnM : ∃ u, Con K CDivision "MOST" (.int 30) u) (sL : PySem.W.subIn K (.type "list") (.ref CDivision) = some false) (sT : PySem.W.subIn K (.type "tuple") (.ref CDivision) = some false) (kL : PySem.W.kitOne K (.type "list") (.ref CDivision) = some false) (kT : PySem.W.kitOne K (.type "tuple") (.ref CDivision) = some false) (eqC : EqC K CDivision) :
    CalG P w K mg base 12 "law" ["_law_script"] (spLaw K) := by
  have B : Bn mg := ⟨PySem.W.mg_none_of X G n_len, PySem.W.mg_none_of X G n_range, PySem.W.mg_none_of X G n_max, PySem.W.mg_none_of X G n_min, PySem.W.mg_none_of X G n_sum, PySem.W.mg_none_of X G n_sorted, PySem.W.mg_none_of X G n_all, PySem.W.mg_none_of X G n_isinstance, PySem.W.mg_none_of X G n_repr, PySem.W.mg_none_of X G n_tuple, PySem.W.mg_none_of X G n_list, PySem.W.mg_none_of X G n_int, PySem.W.mg_none_of X G n_bool, PySem.W.mg_none_of X G n_zip, PySem.W.mg_none_of X G n_str⟩
  have Cc : Cn mg := ⟨c_FEWEST_STATES.mg X G, c_MOST_STATES.mg X G, c_MOST_IN_A_STATE.mg X G⟩
  have S : ShK K mg CShare := sShare.k fShare (PySem.W.mg_of X G aShare)
  have e_NoShare := x_NoShare.k X G
  have e_NoPeople := x_NoPeople.k X G
  have Cdd : Cd mg := ⟨c_FEWEST_PEOPLE.mg X G, c_MOST_PEOPLE.mg X G⟩
  have SD : DvK K mg CDivision := sDivision.k (PySem.W.mg_of X G aDivision)
  have c_isi := ok_isi (P := P) (w := w) (base := base) B (d_is_integer.df X G (fun _ _ _ _ _ _ us hl => match us, hl with | [_], _ => rfl))
  have c_isint := ok_isint c_isi (d_is_integer_to.df X G (fun _ _ _ _ _ _ us hl => match us, hl with | [_, _], _ => rfl))
  have c_isam := ok_isam B Cc c_isint (d_is_amounts.df X G (fun _ _ _ _ _ _ us hl => match us, hl with | [_], _ => rfl))
  have m_init := ok_init S c_isam (mShare_init.mh (fun _ _ _ _ _ _ us hl => match us, hl with | [_, _], _ => rfl))
  have p_amounts := ok_pamounts (P := P) (w := w) (base := base) S (pShare_amounts.ph (fun _ _ _ _ _ _ us hl => match us, hl with | [_], _ => rfl))
  have m_len := ok_len (P := P) (w := w) (base := base) B S (mShare_len.mh (fun _ _ _ _ _ _ us hl => match us, hl with | [_], _ => rfl))
  have c_pair7 := ok_pair7 B kt7S S e_NoShare m_len (d_check_pair.df X G (fun _ _ _ _ _ _ us hl => match us, hl with | [_, _], _ => rfl))
  have m_dinit := ok_dvInit7 B Cdd SD e_NoPeople c_pair7 mDivision_init
  have c_built := ok_built B SD m_dinit (d_l_built.df X G (fun _ _ _ _ _ _ us hl => match us, hl with | [_], _ => rfl))
  have c_spaced := ok_spaced (P := P) (w := w) (base := base) B (d_spaced.df X G (fun _ _ _ _ _ _ us hl => match us, hl with | [_], _ => rfl))
  have m_repS := ok_repS B S c_spaced (mShare_repr.mh (fun _ _ _ _ _ _ us hl => match us, hl with | [_], _ => rfl))
  have m_eqS := ok_eqS (P := P) (w := w) (base := base) B S (mShare_eq.mh (fun _ _ _ _ _ _ us hl => match us, hl with | [_, _], _ => rfl))
  have m_eqD := ok_eqD7 B SD m_eqS (mDivision_eq.mh (fun _ _ _ _ _ _ us hl => match us, hl with | [_, _], _ => rfl))
  have p_people := ok_people (P := P) (w := w) (base := base) (CShare:=CShare) B SD (pDivision_people.ph (fun _ _ _ _ _ _ us hl => match us, hl with | [_], _ => rfl))
  have p_states := ok_states B SD m_len (pDivision_states.ph (fun _ _ _ _ _ _ us hl => match us, hl with | [_], _ => rfl))
  have p_totals := ok_totals B S SD p_amounts (pDivision_totals.ph (fun _ _ _ _ _ _ us hl => match us, hl with | [_], _ => rfl))
  have p_shares := ok_pshares (P := P) (w := w) (base := base) SD (pDivision_shares.ph (fun _ _ _ _ _ _ us hl => match us, hl with | [_], _ => rfl))
  have m_text := ok_text B S SD p_amounts c_spaced (mDivision_text.mh (fun _ _ _ _ _ _ us hl => match us, hl with | [_], _ => rfl))
  have m_repD := ok_repD SD p_people p_states (mDivision_repr.mh (fun _ _ _ _ _ _ us hl => match us, hl with | [_], _ => rfl))
  have c_said := ok_said B S SD e_NoShare e_NoPeople o21 cnM.choose_spec sL sT kL kT p_amounts p_shares p_people p_states p_totals m_text m_repD m_eqD c_built (d_l_said.df X G (fun _ _ _ _ _ _ us hl => match us, hl with | [_], _ => rfl))
  have c_due := ok_due7 B kt7S S m_len p_amounts (d_l_due.df X G (fun _ _ _ _ _ _ us hl => match us, hl with | [_], _ => rfl))
  have c_cell := ok_cell (P := P) (w := w) (base := base) B (d_l_cell.df X G (fun _ _ _ _ _ _ us hl => match us, hl with | [_, _], _ => rfl))
  have c_source := ok_source (P := P) (w := w) (base := base) B (d_l_source.df X G (fun _ _ _ _ _ _ us hl => match us, hl with | [_], _ => rfl))
  have c_draw := ok_draw (P := P) (w := w) (base := base) (d_l_draw.df X G (fun _ _ _ _ _ _ us hl => match us, hl with | [_, _], _ => rfl))
  have c_choose := ok_choose B c_draw (d_l_choose.df X G (fun _ _ _ _ _ _ us hl => match us, hl with | [_, _], _ => rfl))
  have c_amounts := ok_amounts B c_draw c_choose (d_l_amounts.df X G (fun _ _ _ _ _ _ us hl => match us, hl with | [_, _], _ => rfl))
  have c_equal := ok_equalV (P := P) (w := w) (base := base) B (d_l_is_equal.df X G (fun _ _ _ _ _ _ us hl => match us, hl with | [_, _], _ => rfl))
  have c_law := ok_law B S SD eqC m_init m_repS m_eqD c_cell c_source c_draw c_choose c_amounts c_built c_said c_due c_equal (d_law.df X G (fun _ _ _ _ _ _ us hl => match us, hl with | [_], _ => rfl))
  exact c_law
end Pl
namespace Pl
open PySem PySem.W PySem.Calls PyProof.Rows HandSHeadRun
abbrev RH : OpenRow := OpenLaw.row PySem.Challenge.rw_poolshares_k07_divisions_made
abbrev qH : Program := view RH.prog [37]
def lsH0 : List PySem.Str := ["_wall", "is_integer", "is_integer_to", "PoolError", "NoAmounts", "NoState", "NoNumber", "NoShare", "NoPeople", "NoPerson", "NoText", "FEWEST_STATES", "MOST_STATES", "MOST_IN_A_STATE", "Share", "is_amounts", "spaced", "check_pair", "FEWEST_PEOPLE", "MOST_PEOPLE"]
def lsH1 : List PySem.Str := ["Division", "read_share", "read_amount", "_law_cell", "_law_source", "_law_draw", "_law_choose", "_law_is_equal", "_law_amounts", "_law_built", "_law_said", "_law_due"]
def lsH : List PySem.Str := lsH0 ++ lsH1
end Pl
set_option hygiene false in
local macro_rules
  | `(tactic| o_head $H:term) => `(tactic| refine Pl.head_k (r := Pl.RH) (q := Pl.qH) (M := 12000) (loose := Pl.lsH) (d := HandSHeadRun.topDef Pl.RH.prog 37) (kwd := []) $H rfl (by kernel_rfl) (fun s => by kernel_rfl) (fun w os => by kernel_rfl) (by kernel_rfl) (by kernel_rfl) (by kernel_rfl) (by rfl) (by first | assumption | decide +kernel) (by decide +kernel) ⟨rfl, rfl, rfl, rfl, rfl, by decide +kernel⟩ ?hw ?hc)
open PySem PySem.W PyProof.Rows in
set_option maxRecDepth 100000 in
set_option maxHeartbeats 0 in
theorem PySem.Challenge.cw_poolshares_k07_divisions_made_holds : PySem.Challenge.rw_poolshares_k07_divisions_made.Holds := by
  w_on; o_law; k_head; (case hw => w_witness2)
  k_fill
  refine Pl.walkG (l := PySem.Challenge.rw_poolshares_k07_divisions_made) (n := 63) (k := 12) (x := "_law_script") (sp := Pl.spLaw) rfl (by decide) (by kernel_rfl) ⟨rfl, by decide, by decide⟩ (fun w h Y => PySem.W.kIn_of Y) ?F (fun K H a ns hl _ hS => ⟨a, ns, rfl, hS, hl, fun _ => rfl⟩)
  case F =>
    intro w mg fa h KX G hmg base kb nb
    refine' Pl.CalG.at (x := "law") (Pl.all_ok KX G ?aShare ?sShare ?fShare ?mShare_init ?mShare_len ?mShare_eq ?mShare_repr ?aDivision ?sDivision ?mDivision_init ?mDivision_eq ?mDivision_repr ?mDivision_text ?pShare_amounts ?pDivision_shares ?pDivision_people ?pDivision_states ?pDivision_totals ?d_is_integer ?d_is_integer_to ?d_is_amounts ?d_check_pair ?d_spaced ?d_l_cell ?d_l_source ?d_l_draw ?d_l_choose ?d_l_is_equal ?d_l_amounts ?d_l_built ?d_l_said ?d_l_due ?d_law ?n_len ?n_range ?n_max ?n_min ?n_sum ?n_sorted ?n_all ?n_isinstance ?n_repr ?n_tuple ?n_list ?n_int ?n_bool ?n_zip ?n_str ?c_FEWEST_STATES ?c_MOST_STATES ?c_MOST_IN_A_STATE ?c_FEWEST_PEOPLE ?c_MOST_PEOPLE ?x_NoShare ?x_NoPeople ?kt7S ?o21 ?cnM ?sL ?sT ?kL ?kT ?eqC) hmg
    (case aShare => k_is)
    (case sShare => refine' ⟨?pg, ?hd, ?po, ?sa, ?nB, ?mks, ?kc, ?ca, ?cg, ?ct, ?mro, ?kit⟩; (case pg => k_is); (case hd => k_is); (case po => k_is); (case sa => k_is); (case nB => k_is); (case mks => k_is); (case kc => k_is); (case ca => k_is); (case cg => k_is); (case ct => k_is); (case mro => k_is); (case kit => first | rfl | k_is))
    (case fShare => refine' Pl.CallF.of ?a ?i; (case a => k_is); (case i => k_is))
    (case mShare_init => refine' Pl.MhK.of ?a ?i ?l ?c ?k; (case a => k_is); (case i => k_is); (case l => k_is); (case c => k_is); (case k => k_is))
    (case mShare_len => refine' Pl.MhK.of ?a ?i ?l ?c ?k; (case a => k_is); (case i => k_is); (case l => k_is); (case c => k_is); (case k => k_is))
    (case mShare_eq => refine' Pl.MhK.of ?a ?i ?l ?c ?k; (case a => k_is); (case i => k_is); (case l => k_is); (case c => k_is); (case k => k_is))
    (case mShare_repr => refine' Pl.MhK.of ?a ?i ?l ?c ?k; (case a => k_is); (case i => k_is); (case l => k_is); (case c => k_is); (case k => k_is))
    (case aDivision => k_is)
    (case sDivision => refine' ⟨?pg, ?hd, ?po, ?sa, ?nP, ?mks, ?kc, ?ca, ?cg, ?ct, ?mro, ?kit⟩; (case pg => k_is); (case hd => k_is); (case po => k_is); (case sa => k_is); (case nP => k_is); (case mks => k_is); (case kc => k_is); (case ca => k_is); (case cg => k_is); (case ct => k_is); (case mro => k_is); (case kit => first | rfl | k_is))
    (case mDivision_init => refine' Pl.MhK.of ?a ?i ?l ?c ?k; (case a => k_is); (case i => k_is); (case l => k_is); (case c => k_is); (case k => k_is))
    (case mDivision_eq => refine' Pl.MhK.of ?a ?i ?l ?c ?k; (case a => k_is); (case i => k_is); (case l => k_is); (case c => k_is); (case k => k_is))
    (case mDivision_repr => refine' Pl.MhK.of ?a ?i ?l ?c ?k; (case a => k_is); (case i => k_is); (case l => k_is); (case c => k_is); (case k => k_is))
    (case mDivision_text => refine' Pl.MhK.of ?a ?i ?l ?c ?k; (case a => k_is); (case i => k_is); (case l => k_is); (case c => k_is); (case k => k_is))
    (case pShare_amounts => refine' Pl.PhK.of ?a ?g ?t ?r ?l ?c ?k; (case a => k_is); (case g => k_is); (case t => k_is); (case r => k_is); (case l => k_is); (case c => k_is); (case k => k_is))
    (case pDivision_shares => refine' Pl.PhK.of ?a ?g ?t ?r ?l ?c ?k; (case a => k_is); (case g => k_is); (case t => k_is); (case r => k_is); (case l => k_is); (case c => k_is); (case k => k_is))
    (case pDivision_people => refine' Pl.PhK.of ?a ?g ?t ?r ?l ?c ?k; (case a => k_is); (case g => k_is); (case t => k_is); (case r => k_is); (case l => k_is); (case c => k_is); (case k => k_is))
    (case pDivision_states => refine' Pl.PhK.of ?a ?g ?t ?r ?l ?c ?k; (case a => k_is); (case g => k_is); (case t => k_is); (case r => k_is); (case l => k_is); (case c => k_is); (case k => k_is))
    (case pDivision_totals => refine' Pl.PhK.of ?a ?g ?t ?r ?l ?c ?k; (case a => k_is); (case g => k_is); (case t => k_is); (case r => k_is); (case l => k_is); (case c => k_is); (case k => k_is))
    (case d_is_integer => refine' Pl.DfK.of ?a ?l ?c ?k; (case a => k_is); (case l => k_is); (case c => k_is); (case k => k_is))
    (case d_is_integer_to => refine' Pl.DfK.of ?a ?l ?c ?k; (case a => k_is); (case l => k_is); (case c => k_is); (case k => k_is))
    (case d_is_amounts => refine' Pl.DfK.of ?a ?l ?c ?k; (case a => k_is); (case l => k_is); (case c => k_is); (case k => k_is))
    (case d_check_pair => refine' Pl.DfK.of ?a ?l ?c ?k; (case a => k_is); (case l => k_is); (case c => k_is); (case k => k_is))
    (case d_spaced => refine' Pl.DfK.of ?a ?l ?c ?k; (case a => k_is); (case l => k_is); (case c => k_is); (case k => k_is))
    (case d_l_cell => refine' Pl.DfK.of ?a ?l ?c ?k; (case a => k_is); (case l => k_is); (case c => k_is); (case k => k_is))
    (case d_l_source => refine' Pl.DfK.of ?a ?l ?c ?k; (case a => k_is); (case l => k_is); (case c => k_is); (case k => k_is))
    (case d_l_draw => refine' Pl.DfK.of ?a ?l ?c ?k; (case a => k_is); (case l => k_is); (case c => k_is); (case k => k_is))
    (case d_l_choose => refine' Pl.DfK.of ?a ?l ?c ?k; (case a => k_is); (case l => k_is); (case c => k_is); (case k => k_is))
    (case d_l_is_equal => refine' Pl.DfK.of ?a ?l ?c ?k; (case a => k_is); (case l => k_is); (case c => k_is); (case k => k_is))
    (case d_l_amounts => refine' Pl.DfK.of ?a ?l ?c ?k; (case a => k_is); (case l => k_is); (case c => k_is); (case k => k_is))
    (case d_l_built => refine' Pl.DfK.of ?a ?l ?c ?k; (case a => k_is); (case l => k_is); (case c => k_is); (case k => k_is))
    (case d_l_said => refine' Pl.DfK.of ?a ?l ?c ?k; (case a => k_is); (case l => k_is); (case c => k_is); (case k => k_is))
    (case d_l_due => refine' Pl.DfK.of ?a ?l ?c ?k; (case a => k_is); (case l => k_is); (case c => k_is); (case k => k_is))
    (case d_law => refine' Pl.DfK.of ?a ?l ?c ?k; (case a => k_is); (case l => k_is); (case c => k_is); (case k => k_is))
    (case n_len => k_is)
    (case n_range => k_is)
    (case n_max => k_is)
    (case n_min => k_is)
    (case n_sum => k_is)
    (case n_sorted => k_is)
    (case n_all => k_is)
    (case n_isinstance => k_is)
    (case n_repr => k_is)
    (case n_tuple => k_is)
    (case n_list => k_is)
    (case n_int => k_is)
    (case n_bool => k_is)
    (case n_zip => k_is)
    (case n_str => k_is)
    (case c_FEWEST_STATES => refine' Pl.ConI.of ?a; (case a => k_is))
    (case c_MOST_STATES => refine' Pl.ConI.of ?a; (case a => k_is))
    (case c_MOST_IN_A_STATE => refine' Pl.ConI.of ?a; (case a => k_is))
    (case c_FEWEST_PEOPLE => refine' Pl.ConI.of ?a; (case a => k_is))
    (case c_MOST_PEOPLE => refine' Pl.ConI.of ?a; (case a => k_is))
    (case x_NoShare => refine' ⟨?a, ?xn, ?kp, ?ba, ?ty, ?cl, ?su⟩; (case a => k_is); (case xn => k_exc); (case kp => k_is); (case ba => k_is); (case ty => k_is); (case cl => k_is); (case su => first | rfl | k_is))
    (case x_NoPeople => refine' ⟨?a, ?xn, ?kp, ?ba, ?ty, ?cl, ?su⟩; (case a => k_is); (case xn => k_exc); (case kp => k_is); (case ba => k_is); (case ty => k_is); (case cl => k_is); (case su => first | rfl | k_is))
    (case kt7S => (intro T hT; simp only [List.mem_cons, List.not_mem_nil, or_false] at hT; rcases hT with rfl | rfl | rfl | rfl | rfl | rfl | rfl <;> first | rfl | k_is))
    (case o21 => refine' Pl.exm_at ?ba ?cl ?ty ?su; (case ba => k_is); (case cl => k_is); (case ty => k_is); (case su => k_is))
    (case cnM => refine' ⟨_, ⟨?at_, ?rel, ?get, ?cp⟩⟩; (case at_ => k_is); (case rel => exact ⟨_, rfl⟩); (case get => first | rfl | k_is); (case cp => decide))
    (case sL => first | rfl | k_is)
    (case sT => first | rfl | k_is)
    (case kL => first | rfl | k_is)
    (case kT => first | rfl | k_is)
    (case eqC => refine' ⟨?ne, ?mro⟩; (case ne => k_is); (case mro => first | rfl | k_is))
#print axioms PySem.Challenge.cw_poolshares_k07_divisions_made_holds
