import PyProof.Rows.All
import Wide.All
import OpenK.AllK
import Wide.FinOn
import HandS.ForMost
import HandS.ForExc
import HandS.IsInst
import HandS.Star
import HandS.Property
import HandS.Walk
import HandS.Style
import HandS.Zip
import PyProof.ReprRoads
import KE.KTupSum
import KE.KOpsOwn
import KE.DataMinMax
import HandS.TryMany
import HandS.Flow
import HandS.Conv
import HandS.Deep
import KE.KEqDeep
import KE.KRevSl
import HandS.TupAny
import HandS.FStr
import HandS.OwnEq
import HandS.Dict
import HandS.ClsMeth
import KE.KDictZip
import KE.GoesMore
import HandS.TupMul
import HandS.SortRule
import HandS.DictComp
import PyProof.StrOps2
import HandS.Zip0
import HandS.Exc
import HandS.ExcValue
import KE.KDictList
import KE.KTurns
import HandS.SortKw
import HandS.SetFor
import PyProof.EnumIter
import PyProof.ZipIter
import HandS.TupLe
import HandS.ExcIs
import HandS.GenList
import HandS.Lambda
import HandS.EndTab
import HandS.Nested
import HandS.MakeKw
import KE.KStateDown
import HandS.Head0
import HandS.Head1
import HandS.Head2
import KE.KNestM
import PySem.Challenge.RW_poolshares_k20_rings_are_exchanged
set_option Elab.async false
set_option linter.all false
set_option maxRecDepth 100000
set_option maxHeartbeats 2000000
/-! Own words over the hand layer: calls where nothing is being shown (guards empty), so that repr may be asked. -/
namespace Pl
open PySem PySem.Spec PyProof.Rows L2

/-- a def that keeps its promise wherever no repr is under way -/
structure FnG (P : Program) (w : World) (K : PySem.W.Frag) (mg : Str → Option Value) (base : Heap) (k : Nat) (f : Addr)
    (fd : FuncData) (ps : List Str) (sp : Sp) : Prop where
  lng : ∀ vs H Q E, sp vs H Q E → vs.length = ps.length
  go : ∀ (A : Around) (out : List Env) (s : Shared) (H : Hp) (ar : Args) (us : List Value) (vs : List V) (Q : VK) (E : XK),
    A.guards = some [] → Room k A → Env0 P w K mg base A out s H → BindsTo s fd ar (ps.zip us) → Vals vs us → sp vs H Q E →
    codeAny (model P w) A (.call (.ref f) ar) (CR CX0 out P w H s Q E) s

section
variable {P : Program} {w : World} {K : PySem.W.Frag} {mg : Str → Option Value} {base : Heap}
theorem okG {x qual : Str} {st : Stmt} {f : Addr} {fd : FuncData} {N ps : List Str} {k : Nat} {sp : Sp}
    (D : Fun K x qual st f fd) (S : FnScope N ps (defScope st)) (lng : ∀ vs H Q E, sp vs H Q E → vs.length = ps.length)
    (bod : ∀ (cdv : Value) (A : Around) (out : List Env) (s : Shared) (H : Hp) (vs : List V) (Q : VK) (E : XK),
      A.guards = some [] → Room k (A.deeper (envOfC qual (defScope st) s.heap.objs.size f cdv)) → sp vs H Q E →
      ∃ t, PSs (cxOf CX0 P w K mg base N qual (defScope st) f cdv A out s H E).nox (defBody st) t ∧
        t { nx := fun _ H' => Q .non H', rt := Q } (start N vs) H) :
    FnG P w K mg base (k + 1) f fd ps sp := by
  obtain ⟨oc, od, kV, doc, pm, an, cdv, ct, osl, rfl, lk, hcd⟩ := D.ex
  refine ⟨lng, fun A out s H ar us vs Q E gd rm e0 bt rv hs => ?_⟩
  have inK : K.In s.heap := e0.mod.kin.keeps fun b o q => (e0.bs b o q).1
  have nl : s.heap.NoLimit := e0.mod.nolimit.keeps fun b o q => (e0.bs b o q).1
  have kinds : ∀ y ∈ ps.zip us, (defScope st).names.lookup y.1 = some .local ∨
      ((defScope st).names.lookup y.1 = some .cell ∧
        ((cellsFrom (s.heap.objs.size + 1) (defScope st).names []).lookup y.1).isSome = true) := by
    rintro ⟨n, v⟩ hy
    rcases S.par n (List.of_mem_zip hy).1 with c | c
    · exact .inl c
    · exact .inr ⟨c, PySem.W.cellsFrom_some _ _ _ (.inl c)⟩
  refine codeAny_call_function rm.depth (inK _ _ lk) rfl S.co S.gen rfl (PySem.W.codeRec_of inK hcd) (bt _ _ _ _ ?_)
  refine wpAny_newFunctionEnv_cells S.kind kinds fun env he s1 ic => ?_
  subst he
  refine ⟨nl.keeps ic.toInCall.keep, codeAny_func ?_⟩
  obtain ⟨t, ht0, hq⟩ := bod cdv A out s H vs Q E gd (rm.deeper _) hs
  have ht := ht0.nox
  have I : Inv (cxOf CX0 P w K mg base N qual (defScope st) f cdv A out s H E) [] (start N vs) H s1 :=
    inv_start S rm.hd e0 (lng _ _ _ _ hs) rv ic
  refine wpAny_mono (ht.run [] s1 (start N vs) H _ I hq) (fun fl s' z => ?_) fun e s' z => z
  cases fl with
  | ret u =>
    obtain ⟨v, σ', H', J, r, q⟩ := z
    exact ⟨v, H', J.os, J.bare, J.base, J.hok, r, q⟩
  | next =>
    obtain ⟨σ', H', J, q⟩ := z
    exact ⟨V.non, H', J.os, J.bare, J.base, J.hok, rfl, q⟩
  | brk =>
    obtain ⟨σ', H', J, q⟩ := z
    exact False.elim q
  | cont =>
    obtain ⟨σ', H', J, q⟩ := z
    exact False.elim q
end

/-- a def of the module by its name, as the top has left it -/
structure Df (K : PySem.W.Frag) (mg : Str → Option Value) (x : Str) (st : Stmt) (ps : List Str) : Prop where
  ex : ∃ f fd, Fun K x x st f fd ∧ mg x = some (.ref f) ∧ Binds K fd ps []
/-- a def by its name and its promise -/
structure Cal (P : Program) (w : World) (K : PySem.W.Frag) (mg : Str → Option Value) (base : Heap) (k : Nat) (x : Str) (ps : List Str) (sp : Sp) : Prop where
  ex : ∃ f fd, FnOk P w K mg base CX0 k f fd ps sp ∧ mg x = some (.ref f) ∧ PySem.W.keepIn K (.ref f) = true ∧ Binds K fd ps []
structure CalG (P : Program) (w : World) (K : PySem.W.Frag) (mg : Str → Option Value) (base : Heap) (k : Nat) (x : Str) (ps : List Str) (sp : Sp) : Prop where
  ex : ∃ f fd, FnG P w K mg base k f fd ps sp ∧ mg x = some (.ref f) ∧ PySem.W.keepIn K (.ref f) = true ∧ Binds K fd ps []
section
variable {P : Program} {w : World} {K : PySem.W.Frag} {mg : Str → Option Value} {base : Heap} {x : Str} {st : Stmt} {N ps : List Str} {k : Nat} {sp : Sp}
theorem Df.cal (D : Df K mg x st ps) (S : FnScope N ps (defScope st)) (lng : ∀ vs H Q E, sp vs H Q E → vs.length = ps.length)
    (bod : ∀ (f : Addr) (cdv : Value) (A : Around) (out : List Env) (s : Shared) (H : Hp) (vs : List V) (Q : VK) (E : XK),
      Room k (A.deeper (envOfC x (defScope st) s.heap.objs.size f cdv)) → sp vs H Q E →
      ∃ t, PSs (cxOf CX0 P w K mg base N x (defScope st) f cdv A out s H E).nox (defBody st) t ∧
        t { nx := fun _ H' => Q .non H', rt := Q } (start N vs) H) : Cal P w K mg base (k + 1) x ps sp := by
  obtain ⟨f, fd, F, hm, hb⟩ := D.ex
  exact ⟨f, fd, F.ok S lng (bod f), hm, F.kp, hb⟩
theorem Df.calG (D : Df K mg x st ps) (S : FnScope N ps (defScope st)) (lng : ∀ vs H Q E, sp vs H Q E → vs.length = ps.length)
    (bod : ∀ (f : Addr) (cdv : Value) (A : Around) (out : List Env) (s : Shared) (H : Hp) (vs : List V) (Q : VK) (E : XK),
      A.guards = some [] → Room k (A.deeper (envOfC x (defScope st) s.heap.objs.size f cdv)) → sp vs H Q E →
      ∃ t, PSs (cxOf CX0 P w K mg base N x (defScope st) f cdv A out s H E).nox (defBody st) t ∧
        t { nx := fun _ H' => Q .non H', rt := Q } (start N vs) H) : CalG P w K mg base (k + 1) x ps sp := by
  obtain ⟨f, fd, F, hm, hb⟩ := D.ex
  exact ⟨f, fd, okG F S lng (bod f), hm, F.kp, hb⟩
end
section
variable {X : Cx} {k : Nat} {x : Str} {ps : List Str} {sp : Sp} {p pos : Pos} {e : Expr} {es : List Expr} {t : TA}
/-- x(e, ..) -/
theorem pe_fn (c : Cal X.prog X.w X.K X.mg X.base k x ps sp) (hr : Room k X.A) (ha : PA X (e :: es) t) (hg : Gl X x := by rfl) (hdb : (x == ("__debug__" : Str)) = false := by decide)
    (he : starEach (e :: es) X.env = (false, eval e X.env) :: starEach es X.env := by rfl) (hpl : (backTo pos (starEach es X.env)).any (·.1) = false := by rfl) :
    PE X (.Call (.Name x p) (e :: es) [] pos) (tCall sp [] E0 t) := by
  obtain ⟨f, fd, F, hm, kp, hb⟩ := c.ex
  exact pe_call F hr hg hm kp hb .nil pass0 ha hdb he hpl
/-- the same where a repr may be asked within -/
theorem pe_fnG (c : CalG X.prog X.w X.K X.mg X.base k x ps sp) (gd : X.A.guards = some []) (hr : Room k X.A) (ha : PA X (e :: es) t) (hg : Gl X x := by rfl) (hdb : (x == ("__debug__" : Str)) = false := by decide)
    (he : starEach (e :: es) X.env = (false, eval e X.env) :: starEach es X.env := by rfl) (hpl : (backTo pos (starEach es X.env)).any (·.1) = false := by rfl) :
    PE X (.Call (.Name x p) (e :: es) [] pos) (tCall sp [] E0 t) := by
  obtain ⟨f, fd, F, hm, kp, hb⟩ := c.ex
  refine ⟨fun pins s σ H Q I h => wpAny_Call_Name_kw (ld_glob I hg hm ?_ hdb)⟩
  refine PySem.W.callWith_K (h₀ := X.base) I.ok.mod.kin kp (thn (ha.run pos pins s σ H _ I h) ?_) he hpl
  rintro us s1 ⟨vs, H1, J, r, q⟩
  refine ⟨J.kIn, ?_⟩
  have q2 : sp vs H1 Q E0 := by simpa using q
  have hl : us.length = ps.length := by rw [← r.length]; exact F.lng _ _ _ _ q2
  have bt : BindsTo s1 fd ⟨us, []⟩ (ps.zip us) := by simpa using hb s1 us J.kIn (by simpa using hl)
  refine wpAny_call (codeAny_mono (F.go X.A X.stack s1 H1 ⟨us, []⟩ us vs Q E0 gd hr J.env0 bt r q2) ?_)
  intro res s' z
  match res, z with
  | .ok (.ret u), z => exact J.after z
  | .ok .next, z => exact False.elim z
  | .ok .brk, z => exact False.elim z
  | .ok .cont, z => exact False.elim z
  | .error e, z => exact False.elim z
end

theorem un66 {k : Nat} {A : Around} (hr : Room k A) : A.units + 66 < cLine := by
  have := hr.un
  omega
/-! repr of data -/
section
variable {X : Cx}
theorem call_reprD (gd : X.A.guards = some []) (hu : X.A.units + 66 < cLine) :
    CallR X (.builtin "repr") (fun xs H Q => ∃ (a : Addr) (d : PyData), xs = [.ref a] ∧ Dp X.K H (.ref a) d ∧ d.showable = true ∧ d.hasDict = false ∧ d.depth ≤ 60 ∧ d.shown.length ≤ sizeLine ∧ Q (.str d.shown) H) := by
  intro pins s σ H xs us Q I r h
  obtain ⟨a, d, rfl, dp, sh, nd, dep, sz, q⟩ := h
  obtain ⟨u, rfl, ru⟩ := vals1 r
  obtain rfl : u = Value.ref a := ru
  obtain ⟨as, rd⟩ := Dp.reads I d _ _ dp rfl
  refine repr_of_reads' rd sh (PyData.noDict_hsm nd) gd (by omega) (fun _ _ e => e) (fun h' v tk hk => ?_) sz
  exact ⟨.str d.shown, H, I.kept hk, ⟨_, rfl⟩, q⟩

/-- len(o), o an instance whose class has its own __len__ -/
theorem call_lenO {k : Nat} {C f : Addr} {fd : FuncData} {ps : List Str} {sp : Sp} (hs : PySem.W.findIn X.K (.ref C) "__len__" = some (some (.ref f))) (hf : PySem.W.isFn X.K (.ref f) = true)
    (F : FnOk X.prog X.w X.K X.mg X.base CX0 k f fd ps sp) (hr : Room (k + 1) X.A) (hb : Binds X.K fd ps []) :
    CallR X (.builtin "len") (fun xs H Q => ∃ (a dx : Addr) (fs : List (Str × V)), xs = [.ref a] ∧ H a = some (.ins C dx fs) ∧
      sp [.ref a] H (fun v H' => ∃ n : Nat, v = .int n ∧ n ≤ 1000 ∧ Q (.int n) H') E0) := by
  intro pins s σ H xs us Q I r h
  obtain ⟨a, dx, fs, rfl, ea, h⟩ := h
  obtain ⟨u, rfl, ru⟩ := vals1 r
  obtain rfl : u = Value.ref a := ru
  obtain ⟨mA, O, _⟩ := ins_get I.hok ea
  obtain ⟨od, J, _⟩ := O.look
  obtain ⟨m, fr⟩ := I.fr
  refine PySem.W.len_K fr I.ok.mod.kin J hs hf ?_
  have hl : [V.ref a].length = ps.length := F.len _ _ _ _ h
  have bt : BindsTo s fd ⟨[.ref a], []⟩ (ps.zip [Value.ref a]) := by simpa using hb s [.ref a] I.kIn (by simpa using hl)
  refine wpAny_call (codeAny_mono (F.run X.A.in1 X.stack s H ⟨[.ref a], []⟩ [.ref a] [.ref a] _ E0 hr.in1 I.env0.in1 bt (.cons rfl .nil) h) ?_)
  intro res s' z
  match res, z with
  | .ok (.ret u), z =>
    obtain ⟨v, H', J2, rv, n, rfl, hn, q⟩ := I.after z
    obtain ⟨t, rfl⟩ := (show ∃ t, u = Value.int n t from rv)
    refine ⟨⟨by omega, by omega⟩, ⟨.int n, H', J2.tok _, ⟨_, rfl⟩, q⟩⟩
  | .ok .next, z => exact False.elim z
  | .ok .brk, z => exact False.elim z
  | .ok .cont, z => exact False.elim z
  | .error e, z => exact False.elim z
end

/-! sum and sorted of a tuple of ints -/
section
variable {prog : Program} {w : World} {A : Around} {E : Value → Shared → Prop} {s : Shared}
theorem collT {t : Addr} {us : List Value} {Q : List Value → Shared → Prop} (ht : s.heap.IsTuple t us.toArray) (hz : us.length ≤ sizeLine)
    (fin : ∀ h' : Heap, (∀ b o, s.heap.get? b = some o → h'.get? b = some o) → Q us { s with heap := h' }) :
    wpAny (model prog w) A (collect (.ref t)) Q E s := by
  obtain ⟨o, ho, hc, n, hd⟩ := ht
  have new : (s.heap.push (seqObj "list" #[] 0)).get? s.heap.objs.size = some (seqObj "list" #[] 0) := Heap.get?_push_size _ rfl
  unfold collect
  refine wpAny_bind (wpAny_runValue (codeAny_builtin entry_proto_collect' ?_))
  show wpAny _ _ (newList [] >>= fun l => again (.builtin "list.__iadd__" ⟨[l, .ref t], []⟩)) _ _ s
  refine wpAny_bind (wpAny_newList (wpAny_pure ⟨Code.quiet_builtin _ (by decide +kernel), codeAny_builtin entry_list_iadd' ?_⟩))
  have old : (s.heap.push (seqObj "list" #[] 0)).get? t = some o := Heap.get?_push_of_some _ ho
  show wpAny _ _ (Builtin.List.listExtendWith (.ref s.heap.objs.size) (.ref t) _) _ _ _
  unfold Builtin.List.listExtendWith; refine wpAny_bind (wpAny_typeOf (T := "tuple") ⟨o, old, hc⟩ ?_); rw [if_pos (by simp)]
  refine wpAny_bind (listItems_at old hd (wpAny_bind (listItems_at (xs := #[]) (n := 0) new rfl ?_)))
  rw [if_neg (by simp)]; refine wpAny_bind (listUpdate_at (xs := #[]) (n := 0) new rfl ?_ (Nat.zero_le _) (by simp; omega))
  refine wpAny_pure ?_; show wpAny (model prog w) A (load s.heap.objs.size >>= _) Q E _
  refine wpAny_bind (wpAny_load (get?_update_seq new _) ?_)
  have e : ((#[] : Array Value) ++ us.toArray).toList = us := by simp
  show wpAny _ _ (pure ((#[] : Array Value) ++ us.toArray).toList) Q E _
  rw [e]
  refine wpAny_pure (fin _ fun b o q => ?_)
  rw [Heap.get?_update_other _ _ (Nat.ne_of_gt (Heap.lt_size q))]
  exact Heap.get?_push_of_some _ q
end
section
variable {X : Cx}
theorem call_sumT (calm : X.calm = true) : CallR X (.builtin "sum") (fun vs H Q => ∃ (a : Addr) (ns : List Int), vs = [V.ref a] ∧ SqT X.K H a (ns.map V.int) ∧ Q (.int ns.sum) H) := by
  intro pins s σ H vs us Q I r h
  obtain ⟨a, ns, rfl, sq, q⟩ := h
  obtain ⟨its, rv, tp, _⟩ := I.tuple sq
  rw [Vals.ref1 r]
  have hi := rv.ints
  obtain ⟨xs, ex⟩ := hi.allInts.items
  have nn : numsOf (intItems xs).toList = ns := by rw [← ex]; exact hi.numsOf
  rw [nums_intItems] at nn
  have tp2 : s.heap.IsTuple a its.toArray := tp
  rw [ex] at tp2
  refine PySem.W.ktm_sumG (I.ok.hd calm) tp2 fun h' tk t' hk => ?_
  rw [preSum_eq, List.take_of_length_le (by simp), nn]
  exact ⟨.int _, H, I.kept hk, ⟨_, rfl⟩, q⟩
theorem call_sortedT : CallR X (.builtin "sorted") (fun vs H Q => ∃ (a : Addr) (ns : List Int), vs = [V.ref a] ∧ SqT X.K H a (ns.map V.int) ∧ ns.length < 64 ∧
    ∀ (ns' : List Int) (p : Addr), ns'.Perm ns → ns'.Pairwise (· ≤ ·) → H p = none → Q (.ref p) (upd H p (.lst (ns'.map V.int)))) := by
  intro pins s σ H vs us Q I r h
  obtain ⟨a, ns, rfl, sq, few, q⟩ := h
  obtain ⟨its, rv, tp, hz⟩ := I.tuple sq
  rw [Vals.ref1 r]
  have hi := rv.ints
  have len : its.length = ns.length := hi.length
  have small : its.length ≤ sizeLine := by rw [len]; exact Nat.le_of_lt (Nat.lt_of_lt_of_le few (by decide))
  refine Calls.call_function_entry kind_sorted plain_sorted entry_sorted (args_sorted1 _) ?_
  unfold Builtin.«sorted»
  refine wpAny_bind (m := checkCount "sorted" 1 1 _) (wpAny_pure ?_)
  refine wpAny_bind (collT (A := X.A.in1) tp small fun h1 kp => ?_)
  have I1 : Inv X pins σ H { s with heap := h1, toks := s.toks } := I.kept kp
  refine wpAny_bind (wpAny_newList ?_ small)
  have at1 : (h1.push (seqObj "list" its.toArray 0)).get? h1.objs.size = some (seqObj "list" its.toArray 0) := Heap.get?_push_size _ rfl
  refine wpAny_bind (wpAny_holding (wpAny_call_entry slot_list_sort ⟨_, at1, rfl⟩ entry_list_sort
    (list_sort_tree (s := { s with heap := h1.push (seqObj "list" its.toArray 0) }) at1 hi (by rw [len]; exact few) ?_) (args_list_sort _)))
  intro out ys g1 g2 g3
  refine ⟨_, rfl, ?_⟩
  obtain ⟨ep, at2⟩ := sortedHeap_at (vs := its) (out := out) at1
  have lens : (ys.map V.int).length ≤ sizeLine := by
    rw [List.length_map, g2.length_eq, ← len]
    exact small
  refine wpAny_pure ⟨_, rfl, .ref h1.objs.size, L2.upd H h1.objs.size (.lst (ys.map V.int)), I1.laid (t' := s.toks) (fun b u e => ?_) (Nat.le_refl _) ?_, rfl, q ys _ g2 g3 (I1.hok.fresh (Nat.le_refl _))⟩
  · have lt : b < h1.objs.size := Heap.lt_size e
    rw [sortedHeap_old (Nat.ne_of_lt lt) (by rw [size_push']; exact Nat.lt_succ_of_lt lt)]
    exact Heap.get?_push_of_some _ e
  · exact (show ObjOk X.prog X.w _ _ _ (.lst (ys.map V.int)) from ⟨lens, out.toList, ep, vals_of_ints g1, by rw [Array.toArray_toList]; exact at2⟩)
end

/-! the end of a law whose call shows data -/
theorem lawG {P : Program} {w : World} {K : PySem.W.Frag} {mg mb : Str → Option Value} {k : Nat} {fa a : Addr} {x : Str} {sp : Sp} {s1 : Shared} {vs : List Value} {ns : List Int}
    (KX : K.In s1.heap) (gns : s1.heap.Ns mainGlobals mg) (bns : s1.heap.Ns builtinsNs mb) (boot : ∀ x : Str, x ≠ "__name__" → mb x = bootBuiltins x) (nl : s1.heap.NoLimit) (gn : s1.gens = #[])
    (ha : s1.heap.get? a = some { cls := .type "list", data := .seq vs.toArray }) (hi : IntsAre vs ns) (hl : ns.length ≤ sizeLine) (hr : Room k callerA)
    (F : ∀ base : Heap, K.In base → base.Ns mainGlobals mg → ∃ fd : FuncData, FnG P w K mg base k fa fd [x] sp ∧ Binds K fd [x] [])
    (prom : ∀ H : Hp, Only H → SqL K H a (ns.map V.int) → sp [.ref a] H (fun v _ => v = .bl true) fun _ _ _ => False) :
    codeAny (model P w) callerA (.call (.ref fa) ⟨[.ref a], []⟩) (fun r s' => r = .ok (.ret (.bool true)) ∧ OldK s1.heap s'.heap ∧ s'.os = s1.os ∧ AllBare s'.gens) s1 := by
  suffices main : ∀ H : Hp, Only H → SqL K H a (ns.map V.int) → HOk P w H s1.heap → (∀ b u, H b = some u → b = a ∧ K.lookup a = none) →
      codeAny (model P w) callerA (.call (.ref fa) ⟨[.ref a], []⟩) (fun r s' => r = .ok (.ret (.bool true)) ∧ OldK s1.heap s'.heap ∧ s'.os = s1.os ∧ AllBare s'.gens) s1 by
    cases lk : K.lookup a with
    | some o =>
      have same := (KX a o lk).symm.trans ha
      cases same
      refine main (fun _ => none) (fun _ => .inl rfl) (.inr ⟨_, vs.toArray, _, lk, rfl, rfl, rfl, ?_, ?_⟩) (fun b u z => nomatch z) (fun b u z => nomatch z)
      · rw [List.size_toArray, hi.length]
        exact hl
      · simpa using vals_ints hi
    | none =>
      refine main (fun b => if b = a then some (.frz { cls := .type "list", data := .seq vs.toArray } (.lst (ns.map V.int))) else none) ?_ (.inl (.inr ⟨_, if_pos rfl⟩)) ?_ ?_
      · intro b
        by_cases q : b = a
        · exact .inr ⟨_, _, if_pos q⟩
        · exact .inl (if_neg q)
      · intro b u z
        by_cases q : b = a
        · subst q
          have z2 := (if_pos rfl).symm.trans z
          cases z2
          exact ⟨ha, by rw [List.length_map]; exact hl, vs, _, vals_ints hi, ha⟩
        · have z2 := (if_neg q).symm.trans z
          cases z2
      · intro b u z
        by_cases q : b = a
        · exact ⟨q, lk⟩
        · have z2 := (if_neg q).symm.trans z
          cases z2
  intro H hO hS hok only
  have seen : ∀ {b : Addr} {o : Obj} {es : Array DictEntry} {ep : Nat}, s1.heap.get? b = some o → o.data = .dict es ep → H b = none := by
    intro b o es ep e d
    cases q : H b with
    | none => rfl
    | some u =>
      obtain ⟨rfl, _⟩ := only b u q
      rw [ha] at e
      cases e
      cases (show Data.seq vs.toArray _ = Data.dict es ep from d)
  have ns_of : ∀ {b : Addr} {m : Str → Option Value}, s1.heap.Ns b m → (hidT s1.heap H).Ns b m := by
    rintro b m ⟨o, es, ep, e, d, r⟩
    exact ⟨o, es, ep, hidT_get e (seen e d), d, r⟩
  have kb : K.In (hidT s1.heap H) := by
    intro b o e
    refine hidT_get (KX b o e) ?_
    cases q : H b with
    | none => rfl
    | some u =>
      obtain ⟨rfl, z⟩ := only b u q
      rw [z] at e
      cases e
  have md : Mod K mg (hidT s1.heap H) := ⟨kb, ns_of gns, ⟨mb, ns_of bns, boot⟩, let ⟨mc, p, q⟩ := nl; ⟨mc, ns_of p, q⟩⟩
  have e0 : Env0 P w K mg (hidT s1.heap H) callerA [] s1 H := by
    refine ⟨rfl, md, fun b o e => of_hidT e, Nat.le_of_eq (hidT_size _ _), trivial, fun b z => ?_, hok, .of_eq gn⟩
    exact absurd (show b ∈ ([] : List Addr) from z) (by simp)
  obtain ⟨fd, Fg, bnd⟩ := F _ kb (ns_of gns)
  refine codeAny_mono (Fg.go callerA [] s1 H _ [.ref a] [.ref a] _ _ rfl hr e0 (bnd s1 [.ref a] KX rfl) (.cons rfl .nil) (prom H hO hS)) ?_
  intro r s' z
  match r, z with
  | .ok (.ret u), z =>
    obtain ⟨v, H', os, bare, un, hok', rv, q⟩ := z
    obtain rfl : v = .bl true := q
    obtain rfl : u = Value.bool true := rv
    refine ⟨rfl, OldK.of_keep fun b o e => ?_, os, bare⟩
    cases q : H b with
    | none => exact un.keep b o e q (fun z => absurd (show b ∈ ([] : List Addr) from z) (by simp)) (by simp)
    | some u =>
      rcases hO b with z | ⟨ob, xs, z⟩
      · rw [q] at z
        cases z
      · obtain ⟨p1, _⟩ := hok b _ z
        obtain ⟨p2, _⟩ := hok' b _ (un.frzs b ob _ z)
        rw [e] at p1
        cases p1
        exact p2
  | .ok .next, z => exact False.elim z
  | .ok .brk, z => exact False.elim z
  | .ok .cont, z => exact False.elim z
  | .error e, z => exact False.elim z

theorem walkG {l : PySem.W.OpenLaw} {n k : Nat} {q : Program} {loose : List Str} {XP : (Str → Option Value) → Heap → Prop} {YP : World → Heap → Prop} {d : DefRec} {K : Params → PySem.W.Frag} {sp : PySem.W.Frag → Sp} {x : Str}
    (hn : l.most = some n) (small : n ≤ sizeLine) (hdf : d.params.defaults = []) (hr : Room k callerA) (hY : ∀ (w : World) (h : Heap), YP w h → (K w.params).In h)
    (F : ∀ (w : World) (mg : Str → Option Value) (fa : Addr) (h : Heap), (K w.params).In h → h.Ns mainGlobals mg → mg d.name = some (.ref fa) →
      ∀ base : Heap, (K w.params).In base → base.Ns mainGlobals mg → ∃ fd : FuncData, FnG l.prog w (K w.params) mg base k fa fd [x] (sp (K w.params)) ∧ Binds (K w.params) fd [x] [])
    (prom : ∀ (K : PySem.W.Frag) (H : Hp) (a : Addr) (ns : List Int), ns.length ≤ n → Only H → SqL K H a (ns.map V.int) → sp K [.ref a] H (fun v _ => v = .bl true) fun _ _ _ => False) :
    PySem.W.WalkO q loose XP YP l.row.toRowW d [] (fun f vs => PySem.call f vs) := by
  refine Att.attach_call hn hdf ?_
  intro w s0 s1 mg mb fa o pm cd doc a vs ns G Y ho hd hcd hmg hobj hints hlen hg
  exact lawG (hY w _ Y) G.T.g G.T.b G.T.builtins G.T.nolimit hg hobj hints (Nat.le_trans hlen small) hr (F w mg fa _ (hY w _ Y) G.T.g hmg) fun H hO hS => prom _ H a ns hlen hO hS
theorem CalG.at {P : Program} {w : World} {K : PySem.W.Frag} {mg : Str → Option Value} {base : Heap} {k : Nat} {x : Str} {ps : List Str} {sp : Sp} {fa : Addr} (c : CalG P w K mg base k x ps sp) (h : mg x = some (.ref fa)) :
    ∃ fd : FuncData, FnG P w K mg base k fa fd ps sp ∧ Binds K fd ps [] := by
  obtain ⟨f, fd, F, hm, _, hb⟩ := c.ex
  rw [hm] at h
  cases h
  exact ⟨fd, F, hb⟩
end Pl
namespace Pl
open PySem PySem.Spec PyProof.Rows L2
/-- a method of the class at C, as the top has left it -/
structure Mh (K : PySem.W.Frag) (C : Addr) (m qual : Str) (st : Stmt) (ps : List Str) : Prop where
  ex : ∃ f fd, Fun K m qual st f fd ∧ PySem.W.findIn K (.ref C) m = some (some (.ref f)) ∧ PySem.W.isFn K (.ref f) = true ∧ Binds K fd ps []
structure MCal (P : Program) (w : World) (K : PySem.W.Frag) (mg : Str → Option Value) (base : Heap) (k : Nat) (C : Addr) (m : Str) (ps : List Str) (sp : Sp) : Prop where
  ex : ∃ f fd, FnOk P w K mg base CX0 k f fd ps sp ∧ PySem.W.findIn K (.ref C) m = some (some (.ref f)) ∧ PySem.W.isFn K (.ref f) = true ∧ PySem.W.keepIn K (.ref f) = true ∧ Binds K fd ps []
/-- a property's getter -/
structure Ph (K : PySem.W.Frag) (C : Addr) (m qual : Str) (st : Stmt) (ps : List Str) : Prop where
  ex : ∃ p f fd, Fun K m qual st f fd ∧ PropOf K C m p f ∧ Binds K fd ps []
structure PCal (P : Program) (w : World) (K : PySem.W.Frag) (mg : Str → Option Value) (base : Heap) (k : Nat) (C : Addr) (m : Str) (ps : List Str) (sp : Sp) : Prop where
  ex : ∃ p f fd, FnOk P w K mg base CX0 k f fd ps sp ∧ PropOf K C m p f ∧ Binds K fd ps []
section
variable {P : Program} {w : World} {K : PySem.W.Frag} {mg : Str → Option Value} {base : Heap} {C : Addr} {x qual : Str} {st : Stmt} {N ps : List Str} {k : Nat} {sp : Sp}
theorem Mh.cal (D : Mh K C x qual st ps) (S : FnScope N ps (defScope st)) (lng : ∀ vs H Q E, sp vs H Q E → vs.length = ps.length)
    (bod : ∀ (f : Addr) (cdv : Value) (A : Around) (out : List Env) (s : Shared) (H : Hp) (vs : List V) (Q : VK) (E : XK),
      Room k (A.deeper (envOfC qual (defScope st) s.heap.objs.size f cdv)) → sp vs H Q E →
      ∃ t, PSs (cxOf CX0 P w K mg base N qual (defScope st) f cdv A out s H E).nox (defBody st) t ∧
        t { nx := fun _ H' => Q .non H', rt := Q } (start N vs) H) : MCal P w K mg base (k + 1) C x ps sp := by
  obtain ⟨f, fd, F, h1, h2, hb⟩ := D.ex
  exact ⟨f, fd, F.ok S lng (bod f), h1, h2, F.kp, hb⟩
theorem Ph.cal (D : Ph K C x qual st ps) (S : FnScope N ps (defScope st)) (lng : ∀ vs H Q E, sp vs H Q E → vs.length = ps.length)
    (bod : ∀ (f : Addr) (cdv : Value) (A : Around) (out : List Env) (s : Shared) (H : Hp) (vs : List V) (Q : VK) (E : XK),
      Room k (A.deeper (envOfC qual (defScope st) s.heap.objs.size f cdv)) → sp vs H Q E →
      ∃ t, PSs (cxOf CX0 P w K mg base N qual (defScope st) f cdv A out s H E).nox (defBody st) t ∧
        t { nx := fun _ H' => Q .non H', rt := Q } (start N vs) H) : PCal P w K mg base (k + 1) C x ps sp := by
  obtain ⟨p, f, fd, F, h1, hb⟩ := D.ex
  exact ⟨p, f, fd, F.ok S lng (bod f), h1, hb⟩
end
section
variable {X : Cx} {k : Nat} {C : Addr} {ps : List Str} {sp : Sp} {p pos : Pos} {x : Str} {e : Expr} {es : List Expr} {t : TA} {te ta : TE}
/-- C(e, ..) -/
theorem pe_mk (c : MCal X.prog X.w X.K X.mg X.base k C "__init__" ps sp) (mk : PySem.W.makesIn X.K C = true) (kc : PySem.W.keepIn X.K (.ref C) = true) (hm : X.mg x = some (.ref C)) (hr : Room (k + 1) X.A) (ha : PA X (e :: es) t)
    (hg : Gl X x := by rfl) (hdb : (x == ("__debug__" : Str)) = false := by decide)
    (he : starEach (e :: es) X.env = (false, eval e X.env) :: starEach es X.env := by rfl) (hpl : (backTo pos (starEach es X.env)).any (·.1) = false := by rfl) :
    PE X (.Call (.Name x p) (e :: es) [] pos) (tMake C sp [] E0 t) := by
  obtain ⟨f, fd, F, h1, h2, kp, hb⟩ := c.ex
  exact pe_make ⟨mk, h1, h2, kc⟩ F hr hg hm hb .nil pass0 ha hdb he hpl
/-- o.f, a property -/
theorem pe_pr {f : Str} (c : PCal X.prog X.w X.K X.mg X.base k C f ps sp) (cl : Cls X.K C) (hr : Room (k + 1) X.A) (he : PE X e te)
    (hab : attributeBase e f X.env (eval e X.env) = eval e X.env := by rfl) : PE X (.Attribute e f pos) (tProp C sp [] E0 te) := by
  obtain ⟨q, f', fd, F, h1, hb⟩ := c.ex
  exact pe_prop he cl h1 F hr hb .nil pass0 hab
/-- len(o) -/
theorem call_lenM (c : MCal X.prog X.w X.K X.mg X.base k C "__len__" ps sp) (hr : Room (k + 1) X.A) :
    CallR X (.builtin "len") (fun xs H Q => ∃ (a dx : Addr) (fs : List (Str × V)), xs = [.ref a] ∧ H a = some (.ins C dx fs) ∧
      sp [.ref a] H (fun v H' => ∃ n : Nat, v = .int n ∧ n ≤ 1000 ∧ Q (.int n) H') E0) := by
  obtain ⟨f, fd, F, h1, h2, kp, hb⟩ := c.ex
  exact call_lenO h1 h2 F hr hb
/-- o(e, ..), an instance of C called -/
def tCallP (C : Addr) (sp : Sp) (tf : TE) (t : TA) : TE := fun σ H Q => tf σ H fun y H1 => ∃ a, y = V.ref a ∧ t σ H1 fun vs H2 =>
  ((∃ dx vs, SlX.Slt H2 a C dx vs) ∨ ∃ dx fs, H2 a = some (.ins C dx fs)) ∧ sp (V.ref a :: vs) H2 Q E0
/-- o(e, ..) -/
theorem pe_callM {fe : Expr} {tf : TE} (c : MCal X.prog X.w X.K X.mg X.base k C "__call__" ps sp) (fi : ∀ f, PySem.W.findIn X.K (.ref C) "__call__" = some (some (.ref f)) → PySem.W.fnIn X.K f = true) (hr : Room k X.A) (hf : PE X fe tf) (ha : PA X (e :: es) t)
    (ht : eval (.Call fe (e :: es) [] pos) X.env = (do callWith pos (← eval fe X.env) [] (backTo pos (starEach (e :: es) X.env)) (backToKw pos (keywordEach [] X.env))) := by rfl)
    (he : starEach (e :: es) X.env = (false, eval e X.env) :: starEach es X.env := by rfl) (hpl : (backTo pos (starEach es X.env)).any (·.1) = false := by rfl) :
    PE X (.Call fe (e :: es) [] pos) (tCallP C sp tf t) := by
  obtain ⟨f, fd, F, h1, h2, kp, hb⟩ := c.ex
  have R : FnR X.prog X.w X.K X.mg X.base CX0 k f sp := (F.raw hb .nil).imp fun vs H Q E h => by simpa using h
  show PE X (.Call fe (e :: es) [] pos) (StX.tCallO X C sp E0 tf t)
  exact StX.pe_callO hf ⟨h1, h2, fi f h1⟩ R hr pass0 ha ht he hpl
end
/-! what the head shows of each def -/
def FnAt (K : PySem.W.Frag) (f : Addr) (x qual : Str) (st : Stmt) : Prop := ∃ (od an : Option Addr) (sl : Array (Option Value)) (oc kV dc pm cd ct : Value),
  K.lookup f = some ⟨oc, od, .func (PySem.W.fnOf x qual (defArgs st) (defBody st) (defScope st) .none kV dc pm an cd ct), sl⟩ ∧ PySem.W.codeIn K cd qual = true ∧ PySem.W.keepIn K (.ref f) = true
/-- the parameters, all given -/
def BindOk (x qual : Str) (st : Stmt) (ps : List Str) : Prop := ∀ (kV doc pm : Value) (an : Option Addr) (cdv ct : Value) (us : List Value), us.length = ps.length →
  bindArgs (PySem.W.fnOf x qual (defArgs st) (defBody st) (defScope st) .none kV doc pm an cdv ct) ⟨us, []⟩ = pure (ps.zip us)
structure DfK (K : PySem.W.Frag) (x : Str) (st : Stmt) : Prop where
  ex : ∃ f, PySem.W.nsIn K mainGlobals x = some (some (.ref f)) ∧ FnAt K f x x st
theorem DfK.df {K : PySem.W.Frag} {h : Heap} {mg : Str → Option Value} {x : Str} {st : Stmt} {ps : List Str} (d : DfK K x st) (X : K.In h) (G : h.Ns mainGlobals mg) (b : BindOk x x st ps) : Df K mg x st ps := by
  obtain ⟨f, a, od, an, sl, oc, kV, dc, pm, cd, ct, l, c, k⟩ := d.ex
  have F := fun_mk (st := st) l c k
  exact ⟨f, _, F, PySem.W.mg_of X G a, F.binds b⟩
structure MhK (K : PySem.W.Frag) (C : Addr) (x qual : Str) (st : Stmt) : Prop where
  ex : ∃ f, PySem.W.findIn K (.ref C) x = some (some (.ref f)) ∧ PySem.W.isFn K (.ref f) = true ∧ FnAt K f x qual st
theorem MhK.mh {K : PySem.W.Frag} {C : Addr} {x qual : Str} {st : Stmt} {ps : List Str} (d : MhK K C x qual st) (b : BindOk x qual st ps) : Mh K C x qual st ps := by
  obtain ⟨f, a, i, od, an, sl, oc, kV, dc, pm, cd, ct, l, c, k⟩ := d.ex
  have F := fun_mk (st := st) l c k
  exact ⟨f, _, F, a, i, F.binds b⟩
structure PhK (K : PySem.W.Frag) (C : Addr) (x qual : Str) (st : Stmt) : Prop where
  ex : ∃ p f, PySem.W.findIn K (.ref C) x = some (some (.ref p)) ∧ PySem.W.specialIn K (.ref p) "__get__" = some (some (.builtin "property.__get__")) ∧ PySem.W.takesIn K (.ref p) = some true ∧
    (∃ rest, PySem.W.recIn K p "property" = some (.ref f :: rest)) ∧ FnAt K f x qual st
theorem PhK.ph {K : PySem.W.Frag} {C : Addr} {x qual : Str} {st : Stmt} {ps : List Str} (d : PhK K C x qual st) (b : BindOk x qual st ps) : Ph K C x qual st ps := by
  obtain ⟨p, f, a, g, t, r, od, an, sl, oc, kV, dc, pm, cd, ct, l, c, k⟩ := d.ex
  have F := fun_mk (st := st) l c k
  exact ⟨p, f, _, F, ⟨a, g, t, r⟩, F.binds b⟩
theorem DfK.of {K : PySem.W.Frag} {x : Str} {st : Stmt} {f : Addr} {od an : Option Addr} {sl : Array (Option Value)} {oc kV dc pm cd ct : Value}
    (a : PySem.W.nsIn K mainGlobals x = some (some (.ref f))) (l : K.lookup f = some ⟨oc, od, .func (PySem.W.fnOf x x (defArgs st) (defBody st) (defScope st) .none kV dc pm an cd ct), sl⟩) (c : PySem.W.codeIn K cd x = true) (k : PySem.W.keepIn K (.ref f) = true) : DfK K x st := ⟨⟨f, a, od, an, sl, oc, kV, dc, pm, cd, ct, l, c, k⟩⟩
theorem MhK.of {K : PySem.W.Frag} {C : Addr} {x qual : Str} {st : Stmt} {f : Addr} {od an : Option Addr} {sl : Array (Option Value)} {oc kV dc pm cd ct : Value}
    (a : PySem.W.findIn K (.ref C) x = some (some (.ref f))) (i : PySem.W.isFn K (.ref f) = true) (l : K.lookup f = some ⟨oc, od, .func (PySem.W.fnOf x qual (defArgs st) (defBody st) (defScope st) .none kV dc pm an cd ct), sl⟩) (c : PySem.W.codeIn K cd qual = true) (k : PySem.W.keepIn K (.ref f) = true) : MhK K C x qual st := ⟨⟨f, a, i, od, an, sl, oc, kV, dc, pm, cd, ct, l, c, k⟩⟩
theorem PhK.of {K : PySem.W.Frag} {C p : Addr} {x qual : Str} {st : Stmt} {f : Addr} {rest : List Value} {od an : Option Addr} {sl : Array (Option Value)} {oc kV dc pm cd ct : Value}
    (a : PySem.W.findIn K (.ref C) x = some (some (.ref p))) (g : PySem.W.specialIn K (.ref p) "__get__" = some (some (.builtin "property.__get__"))) (t : PySem.W.takesIn K (.ref p) = some true)
    (r : PySem.W.recIn K p "property" = some (.ref f :: rest)) (l : K.lookup f = some ⟨oc, od, .func (PySem.W.fnOf x qual (defArgs st) (defBody st) (defScope st) .none kV dc pm an cd ct), sl⟩) (c : PySem.W.codeIn K cd qual = true) (k : PySem.W.keepIn K (.ref f) = true) : PhK K C x qual st := ⟨⟨p, f, a, g, t, ⟨rest, r⟩, od, an, sl, oc, kV, dc, pm, cd, ct, l, c, k⟩⟩
structure CallF (K : PySem.W.Frag) (C : Addr) : Prop where
  ex : ∃ f, PySem.W.findIn K (.ref C) "__call__" = some (some (.ref f)) ∧ PySem.W.fnIn K f = true
theorem CallF.of {K : PySem.W.Frag} {C f : Addr} (a : PySem.W.findIn K (.ref C) "__call__" = some (some (.ref f))) (i : PySem.W.fnIn K f = true) : CallF K C := ⟨⟨f, a, i⟩⟩
structure ConI (K : PySem.W.Frag) (x : Str) (n : Int) : Prop where
  ex : ∃ t, PySem.W.nsIn K mainGlobals x = some (some (.int n t))
theorem ConI.of {K : PySem.W.Frag} {x : Str} {n : Int} {t : Tok} (a : PySem.W.nsIn K mainGlobals x = some (some (.int n t))) : ConI K x n := ⟨⟨t, a⟩⟩
theorem ConI.mg {K : PySem.W.Frag} {h : Heap} {mg : Str → Option Value} {x : Str} {n : Int} (c : ConI K x n) (X : K.In h) (G : h.Ns mainGlobals mg) : ∃ t, mg x = some (.int n t) := by
  obtain ⟨t, e⟩ := c.ex
  exact ⟨t, PySem.W.mg_of X G e⟩
end Pl
namespace Pl
open PySem PySem.Spec PyProof.Rows L2
/-! what raises -/
/-- an own error class over ValueError, as the top has left it -/
structure ExK (K : PySem.W.Frag) (mg : Str → Option Value) (x : Str) (C : Addr) : Prop where
  g : mg x = some (.ref C)
  xn : PySem.W.excIn K C [.type "ValueError", .type "Exception", .type "BaseException", .type "object"] "ValueError.__new__" = true
  kp : PySem.W.keepIn K (.ref C) = true
  ba : PySem.W.subIn K (.ref C) (.type "BaseException") = some true
  ty : PySem.W.typeIn K (.ref C) = some (.type "type")
  me : PySem.W.exmOne K (.ref C) (.ref C) = some true
structure ExF (K : PySem.W.Frag) (x : Str) (C : Addr) : Prop where
  a : PySem.W.nsIn K mainGlobals x = some (some (.ref C))
  xn : PySem.W.excIn K C [.type "ValueError", .type "Exception", .type "BaseException", .type "object"] "ValueError.__new__" = true
  kp : PySem.W.keepIn K (.ref C) = true
  ba : PySem.W.subIn K (.ref C) (.type "BaseException") = some true
  ty : PySem.W.typeIn K (.ref C) = some (.type "type")
  cl : PySem.W.isClsIn K C = true
  su : PySem.W.subIn K (.ref C) (.ref C) = some true
theorem exm_at {K : PySem.W.Frag} {S : Addr} {cls : Value} {b : Bool} (ba : PySem.W.subIn K (.ref S) (.type "BaseException") = some true) (cl : PySem.W.isClsIn K S = true)
    (ty : PySem.W.typeIn K (.ref S) = some (.type "type")) (su : PySem.W.subIn K cls (.ref S) = some b) : PySem.W.exmOne K cls (.ref S) = some b := by
  have cl2 : (PySem.W.clsIn K S).isSome = true := cl
  unfold PySem.W.exmOne PySem.W.kitCls
  simp [ba, ty, su, cl, cl2, PySem.W.isClsIn]
theorem ExF.k {K : PySem.W.Frag} {h : Heap} {mg : Str → Option Value} {x : Str} {C : Addr} (e : ExF K x C) (X : K.In h) (G : h.Ns mainGlobals mg) : ExK K mg x C :=
  ⟨PySem.W.mg_of X G e.a, e.xn, e.kp, e.ba, e.ty, exm_at e.ba e.cl e.ty e.su⟩
/-- whatever the slots are, the error is wished for -/
abbrev AnyS (W : WX) : XK := fun cls d H => ∀ σ, W cls d σ H
theorem passW {X : Cx} {W : WX} (tk : Takes X W) : Passes (L2.CX X.prog X.w) X (AnyS W) := fun _ σ _ _ e s' I c => tk e s' (XE.of_call I (fun _ _ _ h => h σ) c)
section
variable {X : Cx} {x m : Str} {j : Nat} {p p2 pos pos2 : Pos} {C : Addr} {W : WX}
/-- raise x('..') -/
theorem ps_err (e : ExK X.K X.mg x C) (tk : Takes X W) (hc : X.calm = true := by rfl) (hg : Gl X x := by rfl) (hdb : (x == ("__debug__" : Str)) = false := by decide) :
    PS X (.Raise (some (.Call (.Name x p) [.Constant (.str m) j p2] [] pos)) none pos2) (fun _ σ H => W (.ref C) none σ H) :=
  ps_raise hc tk (pmk_own PySem.F.excBase_ValueError e.xn e.g e.kp (raises_own e.ba e.ty) hg hdb)
end
structure MCalX (P : Program) (w : World) (K : PySem.W.Frag) (mg : Str → Option Value) (base : Heap) (k : Nat) (C : Addr) (m : Str) (ps : List Str) (sp : Sp) : Prop where
  ex : ∃ f fd, FnOk P w K mg base (L2.CX P w) k f fd ps sp ∧ PySem.W.findIn K (.ref C) m = some (some (.ref f)) ∧ PySem.W.isFn K (.ref f) = true ∧ PySem.W.keepIn K (.ref f) = true ∧ Binds K fd ps []
structure CalX (P : Program) (w : World) (K : PySem.W.Frag) (mg : Str → Option Value) (base : Heap) (k : Nat) (x : Str) (ps : List Str) (sp : Sp) : Prop where
  ex : ∃ f fd, FnOk P w K mg base (L2.CX P w) k f fd ps sp ∧ mg x = some (.ref f) ∧ PySem.W.keepIn K (.ref f) = true ∧ Binds K fd ps []
section
variable {P : Program} {w : World} {K : PySem.W.Frag} {mg : Str → Option Value} {base : Heap} {C : Addr} {x qual : Str} {st : Stmt} {N ps : List Str} {k : Nat} {sp : Sp}
theorem Mh.calX (D : Mh K C x qual st ps) (S : FnScope N ps (defScope st)) (lng : ∀ vs H Q E, sp vs H Q E → vs.length = ps.length)
    (bod : ∀ (f : Addr) (cdv : Value) (A : Around) (out : List Env) (s : Shared) (H : Hp) (vs : List V) (Q : VK) (E : XK),
      Room k (A.deeper (envOfC qual (defScope st) s.heap.objs.size f cdv)) → sp vs H Q E →
      ∃ t, PSs (cxOf (L2.CX P w) P w K mg base N qual (defScope st) f cdv A out s H E) (defBody st) t ∧
        t { nx := fun _ H' => Q .non H', rt := Q } (start N vs) H) : MCalX P w K mg base (k + 1) C x ps sp := by
  obtain ⟨f, fd, F, h1, h2, hb⟩ := D.ex
  exact ⟨f, fd, F.okX S lng (bod f), h1, h2, F.kp, hb⟩
theorem Df.calX (D : Df K mg x st ps) (S : FnScope N ps (defScope st)) (lng : ∀ vs H Q E, sp vs H Q E → vs.length = ps.length)
    (bod : ∀ (f : Addr) (cdv : Value) (A : Around) (out : List Env) (s : Shared) (H : Hp) (vs : List V) (Q : VK) (E : XK),
      Room k (A.deeper (envOfC x (defScope st) s.heap.objs.size f cdv)) → sp vs H Q E →
      ∃ t, PSs (cxOf (L2.CX P w) P w K mg base N x (defScope st) f cdv A out s H E) (defBody st) t ∧
        t { nx := fun _ H' => Q .non H', rt := Q } (start N vs) H) : CalX P w K mg base (k + 1) x ps sp := by
  obtain ⟨f, fd, F, hm, hb⟩ := D.ex
  exact ⟨f, fd, F.okX S lng (bod f), hm, F.kp, hb⟩
end
section
variable {X : Cx} {k : Nat} {C : Addr} {ps : List Str} {sp : Sp} {E : XK} {p pos : Pos} {x : Str} {e fe : Expr} {es : List Expr} {t : TA} {te ti tf : TE}
theorem pe_fnX (c : CalX X.prog X.w X.K X.mg X.base k x ps sp) (hx : Passes (L2.CX X.prog X.w) X E) (hr : Room k X.A) (ha : PA X (e :: es) t) (hg : Gl X x := by rfl) (hdb : (x == ("__debug__" : Str)) = false := by decide)
    (he : starEach (e :: es) X.env = (false, eval e X.env) :: starEach es X.env := by rfl) (hpl : (backTo pos (starEach es X.env)).any (·.1) = false := by rfl) :
    PE X (.Call (.Name x p) (e :: es) [] pos) (tCall sp [] E t) := by
  obtain ⟨f, fd, F, hm, kp, hb⟩ := c.ex
  exact pe_call F hr hg hm kp hb .nil hx ha hdb he hpl
theorem pe_mkX (c : MCalX X.prog X.w X.K X.mg X.base k C "__init__" ps sp) (hx : Passes (L2.CX X.prog X.w) X E) (mk : PySem.W.makesIn X.K C = true) (kc : PySem.W.keepIn X.K (.ref C) = true) (hm : X.mg x = some (.ref C)) (hr : Room (k + 1) X.A) (ha : PA X (e :: es) t)
    (hg : Gl X x := by rfl) (hdb : (x == ("__debug__" : Str)) = false := by decide)
    (he : starEach (e :: es) X.env = (false, eval e X.env) :: starEach es X.env := by rfl) (hpl : (backTo pos (starEach es X.env)).any (·.1) = false := by rfl) :
    PE X (.Call (.Name x p) (e :: es) [] pos) (tMake C sp [] E t) := by
  obtain ⟨f, fd, F, h1, h2, kp, hb⟩ := c.ex
  exact pe_make ⟨mk, h1, h2, kc⟩ F hr hg hm hb .nil hx ha hdb he hpl
/-- an instance of C called, which may raise -/
def tCallX (C : Addr) (sp : Sp) (E : XK) (tf : TE) (t : TA) : TE := fun σ H Q => tf σ H fun y H1 => ∃ a, y = V.ref a ∧ t σ H1 fun vs H2 =>
  ((∃ dx vs, SlX.Slt H2 a C dx vs) ∨ ∃ dx fs, H2 a = some (.ins C dx fs)) ∧ sp (V.ref a :: vs) H2 Q E
theorem pe_callX (c : MCalX X.prog X.w X.K X.mg X.base k C "__call__" ps sp) (hx : Passes (L2.CX X.prog X.w) X E) (fi : ∀ f, PySem.W.findIn X.K (.ref C) "__call__" = some (some (.ref f)) → PySem.W.fnIn X.K f = true) (hr : Room k X.A) (hf : PE X fe tf) (ha : PA X (e :: es) t)
    (ht : eval (.Call fe (e :: es) [] pos) X.env = (do callWith pos (← eval fe X.env) [] (backTo pos (starEach (e :: es) X.env)) (backToKw pos (keywordEach [] X.env))) := by rfl)
    (he : starEach (e :: es) X.env = (false, eval e X.env) :: starEach es X.env := by rfl) (hpl : (backTo pos (starEach es X.env)).any (·.1) = false := by rfl) :
    PE X (.Call fe (e :: es) [] pos) (tCallX C sp E tf t) := by
  obtain ⟨f, fd, F, h1, h2, kp, hb⟩ := c.ex
  have R : FnR X.prog X.w X.K X.mg X.base (L2.CX X.prog X.w) k f sp := (F.raw hb .nil).imp fun vs H Q E h => by simpa using h
  show PE X (.Call fe (e :: es) [] pos) (StX.tCallO X C sp E tf t)
  exact StX.pe_callO hf ⟨h1, h2, fi f h1⟩ R hr hx ha ht he hpl
/-- o[i] by the class's own __getitem__, which may raise -/
def tSub (C : Addr) (sp : Sp) (E : XK) (te ti : TE) : TE := fun σ H Q => te σ H fun x H1 => ti σ H1 fun y H2 => ∃ a dx fs, x = V.ref a ∧ H2 a = some (.ins C dx fs) ∧ sp [.ref a, y] H2 Q E
theorem pe_subX {i : Expr} (c : MCalX X.prog X.w X.K X.mg X.base k C "__getitem__" ps sp) (hx : Passes (L2.CX X.prog X.w) X E) (fi : ∀ f, PySem.W.findIn X.K (.ref C) "__getitem__" = some (some (.ref f)) → PySem.W.fnIn X.K f = true) (hr : Room (k + 1) X.A)
    (he : PE X e te) (hi : PE X i ti) (hs : ∀ o u, subscripted i true o u = runValue (.builtin "lifetime.subscript" ⟨[o, u], []⟩) := by intro o u; with_unfolding_all rfl) : PE X (.Subscript e i pos) (tSub C sp E te ti) := by
  obtain ⟨f, fd, F, h1, h2, kp, hb⟩ := c.ex
  refine ⟨fun pins s σ H Q I h => ?_⟩
  refine Subscript_ (binT he hi I h fun v u s2 x y H2 I2 rx ry q => ?_)
  obtain ⟨a, dx, fs, rfl, ea, q⟩ := q
  obtain rfl : v = Value.ref a := rx
  obtain ⟨mA, O, _⟩ := ins_get I2.hok ea
  obtain ⟨od, J, _⟩ := O.look
  obtain ⟨m, fr⟩ := I2.fr
  have hl : [V.ref a, y].length = ps.length := F.len _ _ _ _ q
  have bt : BindsTo s2 fd ⟨[.ref a, u], []⟩ (ps.zip [Value.ref a, u]) := by simpa using hb s2 [.ref a, u] I2.kIn (by simpa using hl)
  refine PySem.W.sub_K fr I2.ok.mod.kin J h1 (fi f h1) h2 (wpAny_call (codeAny_mono (F.run X.A.in1 X.stack s2 H2 ⟨[.ref a, u], []⟩ [.ref a, u] [.ref a, y] Q E hr.in1 I2.env0.in1 bt (.cons rfl (.cons ry .nil)) q) ?_)) (hs _ _)
  intro res s' z
  match res, z with
  | .ok (.ret u), z => exact I2.after z
  | .ok .next, z => exact False.elim z
  | .ok .brk, z => exact False.elim z
  | .ok .cont, z => exact False.elim z
  | .error er, z => exact hx pins σ H2 s2 er s' I2 z
end
structure ItemF (K : PySem.W.Frag) (C : Addr) : Prop where
  ex : ∃ f, PySem.W.findIn K (.ref C) "__getitem__" = some (some (.ref f)) ∧ PySem.W.fnIn K f = true
theorem ItemF.of {K : PySem.W.Frag} {C f : Addr} (a : PySem.W.findIn K (.ref C) "__getitem__" = some (some (.ref f))) (i : PySem.W.fnIn K f = true) : ItemF K C := ⟨⟨f, a, i⟩⟩
theorem ItemF.fi {K : PySem.W.Frag} {C : Addr} (c : ItemF K C) : ∀ f, PySem.W.findIn K (.ref C) "__getitem__" = some (some (.ref f)) → PySem.W.fnIn K f = true := fun f h => by
  obtain ⟨g, a, b⟩ := c.ex
  rw [a] at h
  cases h
  exact b
end Pl
namespace Pl
open PySem PySem.Spec PyProof.Rows L2
section
open PySem.W
variable {prog : Program} {w : World} {A : Around} {E : Value → Shared → Prop} {s : Shared} {K : Frag} {x C f : Addr} {ox : Obj} {od : Option Obj} {T : String}
/-- x op b, x an instance whose class has the operator, b of a built-in type -/
theorem binL {op : Operator} {b : Value} {fo ro rc : Option Value} {Q : Value → Shared → Prop} (inK : K.In s.heap) (ia : InstAt s.heap x ox C od) (tb : Looks (model prog w) s.heap (typeOf b) (.type T)) (sf : selfFirst K C = true)
    (fa : findIn K (.ref C) (PySem.dunder op.info.2) = some (some (.ref f))) (fn : isFn K (.ref f) = true) (fr : findIn K (.ref C) (dunderR op.info.2) = some rc) (pr : rc = none ∨ ∃ g : Addr, rc = some (.ref g))
    (t1 : findIn K (.type T) (PySem.dunder op.info.2) = some fo) (t2 : findIn K (.type T) (dunderR op.info.2) = some ro) (no : subIn K (.type T) (.ref C) = some false)
    (go : wpAny (model prog w) A (call (.ref f) [.ref x, b]) (PySem.W.CmpBack Q) E s) : wpAny (model prog w) A (binaryOp op (.ref x) b) Q E s := by
  obtain ⟨cd, rest, c1, c2⟩ := ksp_first sf
  rcases oi : op.info with ⟨sg, nm⟩
  rw [oi] at fa fr t1 t2; dsimp only at fa fr t1 t2
  have step := ksp_try inK ia fa fn go
  obtain ⟨hp, gs, dr, tk, os⟩ := s
  have l1 : Looks (model prog w) hp (typeOf (.ref x)) (.ref C) := ia.type
  have l2 : Looks (model prog w) hp (typeOf b) (.type T) := tb
  have l3 : Looks (model prog w) hp (fillsNumberSlot (.ref C) nm) true := fills_K inK c1 c2 fa
  have l4 := ksp_fillsT (M := model prog w) (nm := nm) (T := T) (h := hp) inK t1 t2
  have l5 : Looks (model prog w) hp (isSubtype (.type T) (.ref C)) false := looks_subIn inK no
  have l6 : Looks (model prog w) hp (numberSlotInPython (.ref C) nm) true := ksp_inPy inK fa fr pr
  have l7 : Looks (model prog w) hp (numberSlotInPython (.type T) nm) false := Looks.of_pure rfl
  have l8 : Looks (model prog w) hp (typeLookup (.type T) (dunderR nm)) ro := looks_findIn inK t2
  generalize ((fo.isSome && !isSeqSlot fo) || (ro.isSome && !isSeqSlot ro)) = rt at l4
  have ne : (Value.ref C == Value.type T) = false := Bool.eq_false_iff.mpr fun q => by cases beq_iff_eq.mp q
  simp only [binaryOp, oi]
  refine wpAny_holding (wpAny_bind ?_); unfold binaryOp1
  refine wpAny_bind (l1.at (wpAny_bind (l2.at (wpAny_bind (l3.at ?_))))); simp only [ne, Bool.false_eq_true, if_false]
  cases rt <;> (ksp_lk; refine wpAny_mono step (fun r s' hr => ?_) fun _ _ e => e; obtain ⟨v, rfl, hq⟩ := hr; ksp_lk; exact hq)
end
/-- the built-in type of a value -/
inductive TyS (H : Hp) : V → String → Prop where
  | non : TyS H .non "NoneType"
  | bl (b : Bool) : TyS H (.bl b) "bool"
  | int (i : Int) : TyS H (.int i) "int"
  | str (z : Str) : TyS H (.str z) "str"
  | lst {a : Addr} {xs : List V} (e : H a = some (.lst xs)) : TyS H (.ref a) "list"
  | tup {a : Addr} {xs : List V} (e : H a = some (.tup xs)) : TyS H (.ref a) "tuple"
  | dK {a : Addr} {xs : List (Key × V)} (e : H a = some (.dK xs)) : TyS H (.ref a) "dict"
theorem TyS.tyX {K : PySem.W.Frag} {H : Hp} {x : V} {T : String} (t : TyS H x T) : TyX K H x (.type T) := by
  cases t with
  | non => exact .base .non
  | bl b => exact .base (.bl b)
  | int i => exact .base (.int i)
  | str z => exact .base (.str z)
  | lst e => exact .base (.lst e)
  | tup e => exact .base (.tup e)
  | dK e => exact .base (.dK e)
theorem TyS.same {H H' : Hp} {x : V} {T : String} (k : Same H H') (t : TyS H x T) : TyS H' x T := by
  cases t with
  | non => exact .non
  | bl b => exact .bl b
  | int i => exact .int i
  | str z => exact .str z
  | lst e => exact .lst (k _ _ e)
  | tup e => exact .tup (k _ _ e)
  | dK e => exact .dK (k _ _ e)
theorem TyS.looks {X : Cx} {pins : List (Addr × Obj)} {σ : L2.St} {H : Hp} {s : Shared} {x : V} {u : Value} {T : String} (I : Inv X pins σ H s) (r : RelV x u) (t : TyS H x T) : PySem.W.Looks (model X.prog X.w) s.heap (typeOf u) (.type T) := by
  cases t with
  | non => cases (show u = Value.none from r); exact PySem.W.Looks.of_pure rfl
  | bl b => cases (show u = Value.bool b from r); exact PySem.W.Looks.of_pure rfl
  | int i => obtain ⟨t, q⟩ := (show ∃ t, u = Value.int i t from r); cases q; exact PySem.W.Looks.of_pure rfl
  | str z => obtain ⟨t, q⟩ := (show ∃ t, u = Value.str z t from r); cases q; exact PySem.W.Looks.of_pure rfl
  | @lst a xs e =>
    cases (show u = Value.ref a from r)
    obtain ⟨_, _, n, _, h1⟩ := (show ObjOk X.prog X.w H s.heap a (.lst xs) from I.hok a _ e)
    exact fun A Q E s' k q => wpAny_typeOf_ref (k _ _ h1) q
  | @tup a xs e =>
    cases (show u = Value.ref a from r)
    obtain ⟨_, _, _, o, h1, h2, _⟩ := (show ObjOk X.prog X.w H s.heap a (.tup xs) from I.hok a _ e)
    exact fun A Q E s' k q => wpAny_typeOf_ref (k _ _ h1) (by rw [h2]; exact q)
  | @dK a xs e =>
    cases (show u = Value.ref a from r)
    obtain ⟨_, _, vs, _, o, es, ep, h1, h2, _⟩ := (show ObjOk X.prog X.w H s.heap a (.dK xs) from I.hok a _ e)
    exact fun A Q E s' k q => wpAny_typeOf_ref (k _ _ h1) (by rw [h2.1]; exact q)
/-- what the written part says of C + T -/
def AddT (K : PySem.W.Frag) (C : Addr) (T : String) : Prop := ∃ fo ro, PySem.W.findIn K (.type T) "__add__" = some fo ∧ PySem.W.findIn K (.type T) "__radd__" = some ro ∧ PySem.W.subIn K (.type T) (.ref C) = some false
theorem AddT.of {K : PySem.W.Frag} {C : Addr} {T : String} {fo ro : Option Value} (a : PySem.W.findIn K (.type T) "__add__" = some fo) (b : PySem.W.findIn K (.type T) "__radd__" = some ro) (c : PySem.W.subIn K (.type T) (.ref C) = some false) : AddT K C T := ⟨fo, ro, a, b, c⟩
structure AddC (K : PySem.W.Frag) (C : Addr) : Prop where
  sf : PySem.W.selfFirst K C = true
  rd : ∃ g : Addr, PySem.W.findIn K (.ref C) "__radd__" = some (some (.ref g))
theorem AddC.of {K : PySem.W.Frag} {C g : Addr} (a : PySem.W.selfFirst K C = true) (b : PySem.W.findIn K (.ref C) "__radd__" = some (some (.ref g))) : AddC K C := ⟨a, g, b⟩
theorem dpI (K : PySem.W.Frag) (H : Hp) : ∀ ns : List Int, DpAll K H (ns.map V.int) (ns.map PyData.int)
  | [] => .nil
  | n :: ns => .cons (.int n) (dpI K H ns)
theorem depI : ∀ ns : List Int, PyData.depthAll (ns.map PyData.int) = 0
  | [] => rfl
  | n :: ns => by
    show max 0 (PyData.depthAll (ns.map PyData.int)) = 0
    rw [depI ns]; rfl
section
variable {X : Cx} {k : Nat} {C : Addr} {ps : List Str} {sp : Sp} {E : XK}
/-- a + b by the class's own __add__, which may raise; what it returns is an object -/
def rAddO (K : PySem.W.Frag) (C : Addr) (sp : Sp) (E : XK) : R2 := fun x y H Q => ∃ (a dx : Addr) (fs : List (Str × V)), x = .ref a ∧ H a = some (.ins C dx fs) ∧
  ((∃ (b db : Addr) (fb : List (Str × V)), y = .ref b ∧ H b = some (.ins C db fb)) ∨ (∃ T, TyS H y T ∧ AddT K C T)) ∧ sp [.ref a, y] H (fun v H' => ∃ p, v = .ref p ∧ Q (.ref p) H') E
theorem op_addO (c : MCalX X.prog X.w X.K X.mg X.base k C "__add__" ps sp) (ac : AddC X.K C) (hx : Passes (L2.CX X.prog X.w) X E) (hr : Room k X.A) : OpR X (binaryOp .Add) (rAddO X.K C sp E) := by
  obtain ⟨f, fd, F, h1, h2, kp, hb⟩ := c.ex
  obtain ⟨g, h3⟩ := ac.rd
  intro pins s σ H x y v u Q I rx ry h
  obtain ⟨a, dx, fs, rfl, ea, oy, q⟩ := h
  obtain rfl : v = Value.ref a := rx
  obtain ⟨mA, O, _⟩ := ins_get I.hok ea
  obtain ⟨od, J, _⟩ := O.look
  have go : wpAny (model X.prog X.w) X.A (call (.ref f) [.ref a, u]) (PySem.W.CmpBack (EP X pins σ Q)) X.xe s := by
    have hl : [V.ref a, y].length = ps.length := F.len _ _ _ _ q
    have bt : BindsTo s fd ⟨[.ref a, u], []⟩ (ps.zip [Value.ref a, u]) := by simpa using hb s [.ref a, u] I.kIn (by simpa using hl)
    refine wpAny_call (codeAny_mono (F.run X.A X.stack s H ⟨[.ref a, u], []⟩ [.ref a, u] [.ref a, y] _ E hr I.env0 bt (.cons rfl (.cons ry .nil)) q) ?_)
    intro res s' z
    match res, z with
    | .ok (.ret u'), z =>
      obtain ⟨v', H', J2, rv, p, rfl, q2⟩ := I.after z
      obtain rfl : u' = Value.ref p := rv
      exact ⟨.ref p, H', J2, rfl, q2⟩
    | .ok .next, z => exact False.elim z
    | .ok .brk, z => exact False.elim z
    | .ok .cont, z => exact False.elim z
    | .error er, z => exact hx pins σ H s er s' I z
  rcases oy with ⟨b, db, fb, rfl, eb⟩ | ⟨T, ty, fo, ro, t1, t2, no⟩
  · obtain rfl : u = Value.ref b := ry
    obtain ⟨mB, O2, _⟩ := ins_get I.hok eb
    obtain ⟨od2, J2, _⟩ := O2.look
    obtain ⟨m, fr⟩ := I.fr
    exact PySem.W.binop_K fr I.ok.mod.kin J J2.type ac.sf h1 h2 go
  · exact binL (op := .Add) I.kIn J (ty.looks I ry) ac.sf h1 h2 h3 (.inr ⟨g, rfl⟩) t1 t2 no go
/-- max of a tuple of ints -/
theorem call_maxT (calm : X.calm = true) (hu : X.A.units + 66 < cLine) : CallR X (.builtin "max") (fun vs H Q => ∃ (a : Addr) (n : Int) (ns : List Int), vs = [V.ref a] ∧ SqT X.K H a ((n :: ns).map V.int) ∧ Q (.int (ns.foldl max n)) H) := by
  intro pins s σ H vs us Q I r h
  obtain ⟨a, n, ns, rfl, sq, q⟩ := h
  obtain ⟨its, rv, tp, _⟩ := I.tuple sq
  rw [Vals.ref1 r]
  obtain ⟨as, rd⟩ := Dp.readsAll I _ _ its (dpI X.K H (n :: ns)) rv
  have dp : PyData.depthAll ((n :: ns).map PyData.int) = 0 := depI _
  refine PySem.W.max_tuple_data (x := .int n) (xs := ns.map PyData.int) (I.ok.hd calm) tp (by simpa using rd) ⟨?_, ?_⟩ ?_ fun i v h' tk bs hv rv' hk => ?_
  · intro x hx y hy
    obtain ⟨i, _, rfl⟩ := List.mem_map.mp (show x ∈ (n :: ns).map PyData.int from hx)
    obtain ⟨j, _, rfl⟩ := List.mem_map.mp (show y ∈ (n :: ns).map PyData.int from hy)
    rfl
  · intro x hx
    obtain ⟨i, _, rfl⟩ := List.mem_map.mp (show x ∈ (n :: ns).map PyData.int from hx)
    exact fun z => nomatch z
  · have e : PyData.depthAll (.int n :: ns.map PyData.int) = 0 := dp
    rw [e]; omega
  · rw [PySem.W.maxD_ints] at rv'
    cases rv'
    exact ⟨.int _, H, I.kept hk, ⟨_, rfl⟩, q⟩
end
end Pl
namespace Pl
open PySem PySem.Spec PyProof.Rows L2
/-! what some built-ins do, over the written part alone -/
def rTupleOf (K : PySem.W.Frag) : List V → Hp → VK → Prop := fun xs H Q => ∃ p ys, xs = [.ref p] ∧ ((SqL K H p ys ∧ ∀ l, H l = none → Q (.ref l) (upd H l (.tup ys))) ∨ (SqT K H p ys ∧ Q (.ref p) H))
def rListOf (K : PySem.W.Frag) : List V → Hp → VK → Prop := fun xs H Q => ∃ p ys, xs = [.ref p] ∧ (SqL K H p ys ∨ SqT K H p ys) ∧ ∀ l, H l = none → Q (.ref l) (upd H l (.lst ys))
def rLenSq (K : PySem.W.Frag) : List V → Hp → VK → Prop := fun xs H Q => ∃ p ys, xs = [.ref p] ∧ (SqL K H p ys ∨ SqT K H p ys) ∧ Q (.int ys.length) H
def rSortedT (K : PySem.W.Frag) : List V → Hp → VK → Prop := fun vs H Q => ∃ (a : Addr) (ns : List Int), vs = [V.ref a] ∧ SqT K H a (ns.map V.int) ∧ ns.length < 64 ∧
    ∀ (ns' : List Int) (p : Addr), ns'.Perm ns → ns'.Pairwise (· ≤ ·) → H p = none → Q (.ref p) (upd H p (.lst (ns'.map V.int)))
section
variable {X : Cx}
/-- xs[i] by values, 0 ≤ i, for xs[i] op= e -/
theorem get_list : PGet X (fun x y H Q => ∃ (p : Addr) (xs : List V) (i : Int) (v : V), x = .ref p ∧ y = .int i ∧ SqL X.K H p xs ∧ 0 ≤ i ∧ xs[i.toNat]? = some v ∧ Q v H) := by
  intro pins s σ H o i ov iv Q I ro ri h
  obtain ⟨p, xs, n, v, rfl, rfl, sq, n0, e, q⟩ := h
  obtain rfl : ov = Value.ref p := ro
  obtain ⟨t, rfl⟩ := (show ∃ t, iv = Value.int n t from ri)
  obtain ⟨its, rv, pl, hz⟩ := I.list sq
  obtain ⟨u, eu, ru⟩ := rv.get e
  have l1 := (List.getElem?_eq_some_iff.mp e).1
  have l2 : (sizeLine : Nat) = 16777216 := sizeLine_eq
  exact wpAny_getItem_list pl.isList n0 (by omega) (by simpa using eu) ⟨v, H, I, ru, q⟩
/-- a call that is shown not to raise -/
theorem passF : Passes (L2.CX X.prog X.w) X (fun _ _ _ => False) := fun _ _ _ _ _ _ _ c => by
  obtain ⟨_, _, _, _, _, _, _, _, _, _, _, _, z⟩ := c
  exact z.elim
end
end Pl
namespace Pl
open PySem PySem.Spec PyProof.Rows L2
section
open PySem.W
variable {prog : Program} {w : World} {A : Around} {E : Value → Shared → Prop} {s : Shared} {K : Frag} {x C L f : Addr} {h₀ : Heap} {m : Str → Option Value} {ox : Obj} {od : Option Obj} {b tb : Value}
theorem special_ne {Q : Option Value → Shared → Prop} (X : K.In s.heap) (I : InstAt s.heap x ox C od) (hne : findIn K (.ref C) "__ne__" = some (some (.builtin "object.__ne__")))
    (h : wpAny (model prog w) A (call (.builtin "object.__ne__") [.ref x, b]) (fun v => Q (some v)) E s) : wpAny (model prog w) A (callSpecialIfBound? (.ref x) "__ne__" [b]) Q E s := by
  simp only [callSpecialIfBound?, bindSpecialIfBound?]
  refine wpAny_holding (wpAny_bind (wpAny_bind (wpAny_bind (I.type.here ((looks_findIn X hne).here ?_)))))
  refine wpAny_bind (wpAny_askSetting (wpAny_ite ?_))
  simp only [PySem.F.cmp_object.ne.bind]
  have fin : wpAny (model prog w) A (call (.builtin "object.__ne__") ([.ref x] ++ [b]) >>= fun v => pure (some v)) Q E s := wpAny_bind (wpAny_mono h (fun v s' h' => wpAny_pure h') fun _ _ h' => h')
  split
  · exact wpAny_bind (wpAny_pure (wpAny_pure fin))
  · exact wpAny_tryCatch (wpAny_bind (wpAny_pure (wpAny_pure fin)))
theorem ne_entry {Q : PySem.Fin → Shared → Prop} (hu : A.units < cLine) (X : K.In s.heap) (I : InstAt s.heap x ox C od) (hs : findIn K (.ref C) "__eq__" = some (some (.ref f))) (hf : isFn K (.ref f) = true)
    (h : wpAny (model prog w) A (call (.ref f) [.ref x, b]) (fun v s' => ∃ r, v = .bool r ∧ Q (.done (.ret (.bool (!r)))) s') E s) : wpAny (model prog w) A (Builtin.«object.__ne__» ⟨[.ref x, b], []⟩) Q E s := by
  unfold Builtin.«object.__ne__»
  refine wpAny_bind (wpAny_pure ?_)
  refine wpAny_bind (wpAny_cRoomFor hu ?_)
  refine wpAny_bind (ifBound_K X I hs hf (wpAny_mono h (fun v s' hv => ?_) fun _ _ e => e))
  obtain ⟨r, rfl, q⟩ := hv
  exact wpAny_bind (wpAny_pure (wpAny_pure q))
theorem ne_K {Q : Value → Shared → Prop} (hu : A.units + 1 < cLine) (F : Fr h₀ L s.heap m) (X₀ : K.In h₀) (I : InstAt s.heap x ox C od) (hb : Looks (model prog w) s.heap (typeOf b) tb) (hn : notFirst K C tb = true)
    (hne : findIn K (.ref C) "__ne__" = some (some (.builtin "object.__ne__"))) (hm : mroIn K C (.type "object") = some true)
    (hs : findIn K (.ref C) "__eq__" = some (some (.ref f))) (hf : isFn K (.ref f) = true)
    (h : wpAny (model prog w) A.in1 (call (.ref f) [.ref x, b]) (fun v s' => ∃ r, v = .bool r ∧ Q (.bool (!r)) s') E s) : wpAny (model prog w) A (richCompare .NotEq (.ref x) b) Q E s := by
  have X := X₀.keeps F.keep
  have one : wpAny (model prog w) A (tryCompare (.ref x) "__ne__" b) (fun r s' => ∃ v, r = some v ∧ Q v s') E s := by
    unfold tryCompare
    refine wpAny_bind (special_ne X I hne (wpAny_call (codeAny_call_builtin PySem.F.cmp_object.ne.plain PySem.F.cmpEntry_ne
      (check_slot PySem.F.cmpKind_ne PySem.F.cmpSplit_ne (I.type.andThen (looks_mroIn X hm)) (PySem.F.cmpArgs_ne _ _) (ne_entry (A := A.in1) hu X I hs hf ?_)))))
    refine wpAny_mono h (fun v s' hv => ?_) fun _ _ e => e
    obtain ⟨r, rfl, q⟩ := hv
    exact ⟨r, rfl, wpAny_pure ⟨_, rfl, q⟩⟩
  unfold richCompare
  simp only [oneThing_ref]
  refine wpAny_holding (wpAny_bind (wpAny_cRoomFor (by omega) ?_))
  refine wpAny_bind (I.type.here (wpAny_bind (hb.here ?_)))
  split
  · rename_i q
    have e : subIn K tb (.ref C) = some false := by
      rcases Bool.or_eq_true_iff.mp hn with e | e
      · rw [beq_iff_eq.mp e] at q; simp at q
      · exact beq_iff_eq.mp e
    refine wpAny_bind ((looks_subIn X e).here ?_)
    simp only [Bool.false_eq_true, if_false]
    refine wpAny_bind (wpAny_mono one (fun r s' z => ?_) fun _ _ e => e)
    obtain ⟨v, rfl, hq⟩ := z
    exact wpAny_pure hq
  · refine wpAny_bind (wpAny_pure ?_)
    simp only [Bool.false_eq_true, if_false]
    refine wpAny_bind (wpAny_mono one (fun r s' z => ?_) fun _ _ e => e)
    obtain ⟨v, rfl, hq⟩ := z
    exact wpAny_pure hq
end
/-- what the written part says of == and != of C -/
structure EqC (K : PySem.W.Frag) (C : Addr) : Prop where
  ne : PySem.W.findIn K (.ref C) "__ne__" = some (some (.builtin "object.__ne__"))
  mro : PySem.W.mroIn K C (.type "object") = some true
/-- the second operand: of the class, or of a built-in type that is not below it -/
def EqY (K : PySem.W.Frag) (C : Addr) (H : Hp) (y : V) : Prop := (∃ (b db : Addr) (fb : List (Str × V)), y = .ref b ∧ H b = some (.ins C db fb)) ∨ (∃ T, TyS H y T ∧ PySem.W.subIn K (.type T) (.ref C) = some false)
def rEqO (K : PySem.W.Frag) (C : Addr) (sp : Sp) : R2 := fun x y H Q => ∃ (a dx : Addr) (fs : List (Str × V)), x = .ref a ∧ H a = some (.ins C dx fs) ∧ EqY K C H y ∧ sp [.ref a, y] H (fun v H' => ∃ r, v = .bl r ∧ Q (.bl r) H') E0
def rNeO (K : PySem.W.Frag) (C : Addr) (sp : Sp) : R2 := fun x y H Q => ∃ (a dx : Addr) (fs : List (Str × V)), x = .ref a ∧ H a = some (.ins C dx fs) ∧ EqY K C H y ∧ sp [.ref a, y] H (fun v H' => ∃ r, v = .bl r ∧ Q (.bl (!r)) H') E0
section
variable {X : Cx} {k : Nat} {C : Addr} {ps : List Str} {sp : Sp}
theorem EqY.looks {pins : List (Addr × Obj)} {σ : L2.St} {H : Hp} {s : Shared} {y : V} {u : Value} (I : Inv X pins σ H s) (r : RelV y u) (e : EqY X.K C H y) :
    ∃ tb, PySem.W.Looks (model X.prog X.w) s.heap (typeOf u) tb ∧ PySem.W.notFirst X.K C tb = true := by
  rcases e with ⟨b, db, fb, rfl, eb⟩ | ⟨T, ty, no⟩
  · obtain rfl : u = Value.ref b := r
    obtain ⟨mB, O, _⟩ := ins_get I.hok eb
    obtain ⟨od, J, _⟩ := O.look
    exact ⟨_, J.type, by simp [PySem.W.notFirst]⟩
  · exact ⟨_, ty.looks I r, by simp [PySem.W.notFirst, no]⟩
theorem op_eqO (c : MCal X.prog X.w X.K X.mg X.base k C "__eq__" ps sp) (hr : Room k X.A) : OpR X (compareOp .Eq) (rEqO X.K C sp) := by
  obtain ⟨f, fd, F, h1, h2, kp, hb⟩ := c.ex
  intro pins s σ H x y v u Q I rx ry h
  obtain ⟨a, dx, fs, rfl, ea, ey, q⟩ := h
  obtain rfl : v = Value.ref a := rx
  obtain ⟨tb, lk, nf⟩ := ey.looks I ry
  obtain ⟨mA, O, _⟩ := ins_get I.hok ea
  obtain ⟨od, J, _⟩ := O.look
  obtain ⟨m, fr⟩ := I.fr
  show wpAny (model X.prog X.w) X.A (richCompare .Eq (.ref a) u) (EP X pins σ Q) X.xe s
  refine PySem.W.cmp_K (op := .Eq) hr.units0 fr I.ok.mod.kin J lk nf h1 h2 ?_
  have hl : [V.ref a, y].length = ps.length := F.len _ _ _ _ q
  have bt : BindsTo s fd ⟨[.ref a, u], []⟩ (ps.zip [Value.ref a, u]) := by simpa using hb s [.ref a, u] I.kIn (by simpa using hl)
  refine wpAny_call (codeAny_mono (F.run X.A X.stack s H ⟨[.ref a, u], []⟩ [.ref a, u] [.ref a, y] _ E0 hr I.env0 bt (.cons rfl (.cons ry .nil)) q) ?_)
  intro res s' z
  match res, z with
  | .ok (.ret u'), z =>
    obtain ⟨v', H', J2, rv, r, rfl, q2⟩ := I.after z
    obtain rfl : u' = Value.bool r := rv
    exact ⟨.bl r, H', J2, rfl, q2⟩
  | .ok .next, z => exact False.elim z
  | .ok .brk, z => exact False.elim z
  | .ok .cont, z => exact False.elim z
  | .error er, z => exact False.elim z
theorem op_neO (c : MCal X.prog X.w X.K X.mg X.base k C "__eq__" ps sp) (ec : EqC X.K C) (hr : Room (k + 1) X.A) : OpR X (compareOp .NotEq) (rNeO X.K C sp) := by
  obtain ⟨f, fd, F, h1, h2, kp, hb⟩ := c.ex
  intro pins s σ H x y v u Q I rx ry h
  obtain ⟨a, dx, fs, rfl, ea, ey, q⟩ := h
  obtain rfl : v = Value.ref a := rx
  obtain ⟨tb, lk, nf⟩ := ey.looks I ry
  obtain ⟨mA, O, _⟩ := ins_get I.hok ea
  obtain ⟨od, J, _⟩ := O.look
  obtain ⟨m, fr⟩ := I.fr
  show wpAny (model X.prog X.w) X.A (richCompare .NotEq (.ref a) u) (EP X pins σ Q) X.xe s
  refine ne_K (by have := hr.un; omega) fr I.ok.mod.kin J lk nf ec.ne ec.mro h1 h2 ?_
  have hl : [V.ref a, y].length = ps.length := F.len _ _ _ _ q
  have bt : BindsTo s fd ⟨[.ref a, u], []⟩ (ps.zip [Value.ref a, u]) := by simpa using hb s [.ref a, u] I.kIn (by simpa using hl)
  refine wpAny_call (codeAny_mono (F.run X.A.in1 X.stack s H ⟨[.ref a, u], []⟩ [.ref a, u] [.ref a, y] _ E0 hr.in1 I.env0.in1 bt (.cons rfl (.cons ry .nil)) q) ?_)
  intro res s' z
  match res, z with
  | .ok (.ret u'), z =>
    obtain ⟨v', H', J2, rv, r, rfl, q2⟩ := I.after z
    obtain rfl : u' = Value.bool r := rv
    exact ⟨r, rfl, .bl (!r), H', J2, rfl, q2⟩
  | .ok .next, z => exact False.elim z
  | .ok .brk, z => exact False.elim z
  | .ok .cont, z => exact False.elim z
  | .error er, z => exact False.elim z
/-- repr(o), o an instance whose class has its own __repr__ -/
theorem call_reprO (c : MCal X.prog X.w X.K X.mg X.base k C "__repr__" ps sp) (hr : Room (k + 1) X.A) :
    CallR X (.builtin "repr") (fun xs H Q => ∃ (a dx : Addr) (fs : List (Str × V)), xs = [.ref a] ∧ H a = some (.ins C dx fs) ∧ sp [.ref a] H (fun v H' => ∃ z, v = .str z ∧ Q (.str z) H') E0) := by
  obtain ⟨f, fd, F, h1, h2, kp, hb⟩ := c.ex
  intro pins s σ H xs us Q I r h
  obtain ⟨a, dx, fs, rfl, ea, h⟩ := h
  obtain ⟨u, rfl, ru⟩ := vals1 r
  obtain rfl : u = Value.ref a := ru
  obtain ⟨mA, O, _⟩ := ins_get I.hok ea
  obtain ⟨od, J, _⟩ := O.look
  obtain ⟨m, fr⟩ := I.fr
  refine PySem.W.repr_K hr.in1.units0 fr I.ok.mod.kin J h1 h2 ?_
  have hl : [V.ref a].length = ps.length := F.len _ _ _ _ h
  have bt : BindsTo s fd ⟨[.ref a], []⟩ (ps.zip [Value.ref a]) := by simpa using hb s [.ref a] I.kIn (by simpa using hl)
  refine wpAny_call (codeAny_mono (F.run X.A.in1 X.stack s H ⟨[.ref a], []⟩ [.ref a] [.ref a] _ E0 hr.in1 I.env0.in1 bt (.cons rfl .nil) h) ?_)
  intro res s' z
  match res, z with
  | .ok (.ret u), z =>
    obtain ⟨v, H', J2, rv, n, rfl, q⟩ := I.after z
    obtain ⟨t, rfl⟩ := (show ∃ t, u = Value.str n t from rv)
    exact ⟨.str n, H', J2, ⟨_, rfl⟩, q⟩
  | .ok .next, z => exact False.elim z
  | .ok .brk, z => exact False.elim z
  | .ok .cont, z => exact False.elim z
  | .error er, z => exact False.elim z
end
end Pl
namespace Pl
open PySem PySem.Spec PyProof.Rows L2
/-! a list comprehension out of which an error may come -/
theorem note_eq {v : Value} {a b : Env} (h : a.frame = b.frame) : noteFrame v a = noteFrame v b := by
  unfold noteFrame PySem.frameOf
  rw [h]
theorem fly_of_call {X : Cx} {pins : List (Addr × Obj)} {σ : L2.St} {H : Hp} {s s' : Shared} {E : XK} {u : Value} (I : Inv X pins σ H s) (c : L2.CX X.prog X.w X.stack H s E u s') :
    ∃ (a : Addr) (B : Heap) (sI : Shared) (ps : List (Addr × Obj)) (σ1 : L2.St) (H1 : Hp) (cls : Value) (d : Option Addr), u = .ref a ∧ Inv X ps σ1 H1 sI ∧ (∀ b o, sI.heap.get? b = some o → b ∉ frs X.stack → B.get? b = some o) ∧
      sI.heap.UpToSlots s'.heap ∧ HandSPX.FlyingZ B X.stack a (Zc cls d) s'.heap ∧ H1 a = none ∧ s'.os = sI.os ∧ AllBare s'.gens ∧ E cls d H1 := by
  obtain ⟨a0, ⟨vs0, T0, oT0, ts0, oe0, q1, q2, q3, q4, q5, q6⟩⟩ : ∃ a0 : Addr, ∃ vs0 T0 oT0 ts0 oe0, u = .ref a0 ∧ s'.heap.get? a0 = some oe0 ∧ oe0.data = .fields vs0 ∧ vs0[1]? = some (.ref T0) ∧ s'.heap.get? T0 = some oT0 ∧ (oT0.data = .fields ts0 ∧ ts0[3]? = some Value.none) := by
    obtain ⟨a, B, H', cls, d, rfl, ⟨_, _, _, oe, vs, T, oT, ts, he, hz, hd, h1, hnT, hTe, hT, hdT, h3⟩, _⟩ := c
    exact ⟨a, vs, T, oT, ts, oe, rfl, he, hd, h1, hT, hdT, h3⟩
  obtain ⟨a, B, sI, ps, σ1, H1, cls, d, e, J, nb, up, sky, na, os, ag, w⟩ := XE.of_call (W := fun cls d _ H => E cls d H) I (fun _ _ _ h => h) c
  rw [e] at q1
  cases q1
  refine ⟨_, B, sI, ps, σ1, H1, cls, d, e, J, nb, up, ?_, na, os, ag, w⟩
  rcases sky with ⟨_, _, _, oe, vs, he, _, hd, h1⟩ | fl | ⟨_, _, _, oe, vs, T, oT, ts, he, _, hd, h1, _, _, hT, hdT, h3⟩
  · rw [q2] at he
    cases he
    rw [q3] at hd
    cases hd
    rw [q4] at h1
    cases h1
  · exact fl
  · rw [q2] at he
    cases he
    rw [q3] at hd
    cases hd
    rw [q4] at h1
    cases h1
    rw [q5] at hT
    cases hT
    rw [q6.1] at hdT
    cases hdT
    rw [q6.2] at h3
    cases h3
/-- what a comprehension's block comes to -/
def cPost (M : Model) (A : Around) (E : Value → Shared → Prop) (use : Option (Value → Sem Unit)) (Q : Value → Shared → Prop) (acc : Value) (C : Addr) (fr : Option Addr) : Result → Shared → Prop
  | .ok f, s' => compPost M A E use Q acc C (.ok f) s'
  | .error x, s' => ∃ m, s'.heap.Ns C m ∧ ∀ h2, Heap.SameBut C s'.heap h2 → ∀ ce : Env, ce.frame = fr → wpAny M A (passOn "comprehension.variables-let-go" x ce : Sem Value) (fun _ _ => False) E { s' with heap := h2 }
section
variable {M : Model} {A : Around} {E : Value → Shared → Prop} {s : Shared} {env : Env}
theorem compX {e : Expr} {scope : Scope} {pos : Pos} {mk first : Sem Value} {g : Comprehension} {gs : List Comprehension} {cl : List (Str × Addr)} {use : Option (Value → Sem Unit)} {Q : Value → Shared → Prop}
    (hcl : clausesOf e = g :: gs) (hs : ∀ x, foldedSetIterable g.iter env x = pure x) (hclos : closureFor scope env = pure cl) (hkind : scope.kind = .function) (hnames : ∀ x ∈ scope.names, x.2 = .local → scope.names.lookup x.1 = some .local)
    (h : wpAny M A first (fun x s1 => wpAny M A (pyIter x) (fun it s2 => wpAny M A mk (fun acc s3 => wpAny M A (newFunctionEnv scope env.globals cl [] env.qual none .none (some env)) (fun ce s4 =>
        codeAny M A (.compStart e 0 it acc { ce with scope := relabel scope env }) (cPost M A E use Q acc ce.locals ce.frame) s4) E s3) E s2) E s1) E s) :
    wpAny M A (comprehension e scope env pos mk false first use) Q E s := by
  have same : ∀ {α : Type} {t : Sem α} {P R : α → Shared → Prop} {z : Shared}, wpAny M A t P E z → (∀ a z, P a z → R a z) → wpAny M A t R E z := fun a b => wpAny_mono a b fun _ _ y => y
  unfold comprehension
  rw [hclos, hcl]
  refine wpAny_bind (same h fun x s1 h1 => wpAny_bind (wpAny_standAt (wpAny_bind (wpAny_of_eq (hs x) (wpAny_bind (wpAny_holding (same h1 fun it s2 h2 => ?_)))))))
  refine wpAny_standIf (wpAny_bind (same h2 fun acc s3 h3 => wpAny_bind (wpAny_pure (wpAny_bind (same h3 fun ce s4 h4 => ?_)))))
  dsimp only
  have hv : ∀ x ∈ (scope.names.filter fun x => (x.2 == .local || x.2 == .cell) && x.1 != (".0" : Str)).reverse, x.2 = .local → Env.kindOf { ce with scope := relabel scope env } x.1 = some .local :=
    fun x hx hl => lookup_relabel_local (hnames x (List.mem_filter.mp (List.mem_reverse.mp hx)).1 hl)
  refine wpAny_holding (wpAny_bind (wpAny_attempt (wpAny_holding (wpAny_run (codeAny_mono h4 fun r s5 hr => ?_)))))
  cases r with
  | ok f =>
    cases use with
    | none =>
      obtain ⟨m, hn, hr⟩ := hr
      exact wpAny_bind (wpAny_holding (wpAny_comp_letGo (cenv := { ce with scope := relabel scope env }) hkind _ s5 m hv hn fun h5 m5 _ sb => wpAny_pure (hr h5 sb)))
    | some u =>
      refine wpAny_bind (wpAny_rule (wpAny_bind (wpAny_holding (same hr fun _ s6 hr6 => ?_))))
      obtain ⟨m, hn, hr6⟩ := hr6
      refine wpAny_bind (wpAny_comp_letGo (cenv := { ce with scope := relabel scope env }) hkind _ s6 m (fun x hx hl => ?_) hn fun h6 m6 _ sb => wpAny_pure (hr6 h6 sb))
      rcases List.mem_append.mp hx with k | k
      · exact hv x (List.mem_of_mem_drop k) hl
      · exact hv x (List.mem_of_mem_take k) hl
  | error x =>
    obtain ⟨m, hn, hr⟩ : ∃ m, s5.heap.Ns ce.locals m ∧ ∀ h2, Heap.SameBut ce.locals s5.heap h2 → ∀ c2 : Env, c2.frame = ce.frame → wpAny M A (passOn "comprehension.variables-let-go" x c2 : Sem Value) (fun _ _ => False) E { s5 with heap := h2 } := hr
    exact wpAny_bind (wpAny_holding (wpAny_comp_letGo (cenv := { ce with scope := relabel scope env }) hkind _ s5 m hv hn fun h5 m5 _ sb => wpAny_mono (hr h5 sb _ rfl) (fun _ _ z => z.elim) fun _ _ y => y))
end
/-- the block's context, with its own wish of errors -/
abbrev blkE (X : Cx) (s : Shared) (H : Hp) (scope : Scope) (ce : Env) (fp : List Addr) (z : Value → Shared → Prop) : Cx := { X.blk s H scope ce fp with xe := z }
theorem inv_xe {X : Cx} {pins : List (Addr × Obj)} {σ : L2.St} {H : Hp} {s : Shared} {z : Value → Shared → Prop} (I : Inv X pins σ H s) : Inv { X with xe := z } pins σ H s := by
  obtain ⟨⟨a1, a2, a3, a4, a5, a6, a7, a8, a9, a10, a11, a12, a13, a14, a15, a16, a17, a18⟩, b1, b2, b3, b4, b5, b6, b7, b8, b9, b10⟩ := I
  exact ⟨⟨a1, a2, a3, a4, a5, a6, a7, a8, a9, a10, a11, a12, a13, a14, a15, a16, a17, a18⟩, b1, b2, b3, b4, b5, b6, b7, b8, b9, b10⟩
/-- an error out of the block is in the def's own air -/
theorem out_of_blk {X : Cx} {pins ps : List (Addr × Obj)} {σ σ1 : L2.St} {H3 H : Hp} {s3 s s' : Shared} {W : WX} {scope : Scope} {ce : Env} {fp : List Addr} {z : Value → Shared → Prop} {use : Option (Value → Sem Unit)} {Qf : Value → Shared → Prop} {acc u : Value}
    (tk : Takes X W) (hst : X.stack = X.env :: X.outer) (hfr : X.env.frame = some X.env.locals) (I3 : Inv X pins σ H3 s3) (cL : ce.locals = s3.heap.objs.size) (cF : ce.frame = X.env.frame)
    (f3 : ∀ b ∈ fp, (b ∈ X.ex ∨ X.s_0.heap.objs.size ≤ b) ∧ b ≠ X.env.locals ∧ (∀ x c, X.env.cells.lookup x = some c → c ≠ b) ∧ ∀ p ∈ X.pn ++ pins, p.1 ≠ b)
    (I : Inv (blkE X s3 H3 scope ce fp z) ps σ1 H s) (c : L2.CX X.prog X.w X.stack H s (AnyS W) u s') :
    notedBy (model X.prog X.w) X.A ce (fun x s2 => cPost (model X.prog X.w) X.A X.xe use Qf acc ce.locals X.env.frame (.error x) s2) u s' := by
  obtain ⟨a, B, sI, p1, σ2, H1, cls, d, rfl, J, nb, up, fl, na, os, ag, w⟩ := fly_of_call (X := blkE X s3 H3 scope ce fp z) I c
  have nfr : ce.locals ∉ frs X.stack := fun hb => by
    obtain ⟨_, o, e, _⟩ := J.ok.funs.mem hb
    have l := Heap.lt_size e
    rw [cL] at l
    exact absurd l (Nat.lt_irrefl _)
  obtain ⟨m, ⟨oC, es, ep, eC, dC, kC⟩, _⟩ := J.loc
  have eC : sI.heap.get? ce.locals = some oC := eC
  have bC : B.get? ce.locals = some oC := nb _ _ eC nfr
  have hfr2 : X.A.frames = some (X.env :: X.outer) := by rw [← hst]; exact J.ok.frames
  have fl2 : HandSPX.FlyingZ B (X.env :: X.outer) a (Zc cls d) s'.heap := by rw [← hst]; exact fl
  show wpAny _ _ (noteFrame (.ref a) ce) _ _ s'
  rw [note_eq cF]
  refine HandSPX.looks_onZ Zc.steady hfr2 hfr fl2 fun h1 held up1 => ?_
  obtain ⟨g1, g2, g3, oe, vs, T, oT, ts, he, hz, hd, hv1, hnT, hTe, hT, hdT, h3⟩ := held
  have c1 : h1.get? ce.locals = some oC := g1 _ _ bC
  refine ⟨m, ⟨oC, es, ep, c1, dC, kC⟩, fun h2 sb c2 hc2 => ?_⟩
  have off : ∀ b o, h1.get? b = some o → (∀ es ep, o.data ≠ .dict es ep) → b ≠ ce.locals := fun b o e k q => by
    rw [q, c1] at e
    cases e
    exact k _ _ dC
  have aC : a ≠ ce.locals := off _ _ he fun _ _ q => by rw [hd] at q; cases q
  have tC : T ≠ ce.locals := off _ _ hT fun _ _ q => by rw [hdT] at q; cases q
  have st2 : ∀ b o, b ≠ ce.locals → h1.get? b = some o → h2.get? b = some o := fun b o n e => (sb.2 b n).trans e
  have hide : ∀ {h : Heap} {b : Addr} {o : Obj}, (PySem.W.hideAll h [ce.locals]).get? b = some o → b ≠ ce.locals ∧ h.get? b = some o := fun {h b o} e => by
    refine ⟨fun q => ?_, PySem.W.of_hideAll _ e⟩
    rw [q, PySem.W.hideAll_none _ List.mem_cons_self] at e
    cases e
  have hid2 : ∀ {h : Heap} {b : Addr}, h.get? b = none → (PySem.W.hideAll h [ce.locals]).get? b = none := fun {h b} e => by
    cases q : (PySem.W.hideAll h [ce.locals]).get? b with
    | none => rfl
    | some o => rw [(hide q).2] at e; cases e
  have hid3 : ∀ {h : Heap} {b : Addr} {o : Obj}, h.get? b = some o → b ≠ ce.locals → (PySem.W.hideAll h [ce.locals]).get? b = some o := fun e n => PySem.W.hideAll_get _ e (by simpa using n)
  have tr2 : HandSPX.TracedZ h2 (PySem.W.hideAll B [ce.locals]) a (Zc cls d) (rawInt X.env.locals) := ⟨oe, vs, T, oT, ts, st2 _ _ aC he, hz, hd, hv1, hid2 hnT, hTe, st2 _ _ tC hT, hdT, h3⟩
  have sB : (PySem.W.hideAll B [ce.locals]).StaysIn h2 := fun b o e => st2 b o (hide e).1 (g1 b o (hide e).2)
  have ff0 : h1.FunFrames (PySem.W.hideAll B [ce.locals]) (X.env :: X.outer) := funFrames_none g3 fun L hL => hid2 (g3.mem hL).1
  have ff : ∀ {l : List Env}, h1.FunFrames (PySem.W.hideAll B [ce.locals]) l → (∀ L ∈ frs l, L ≠ ce.locals) → h2.FunFrames (PySem.W.hideAll B [ce.locals]) l := by
    intro l
    induction l with
    | nil => exact fun _ _ => trivial
    | cons e r ih =>
      rintro ⟨k1, ⟨L, o, k2, k3, k4, k5⟩, k6⟩ n
      exact ⟨k1, ⟨L, o, k2, k3, st2 L o (n L (List.mem_filterMap.mpr ⟨e, List.mem_cons_self, k2⟩)) k4, k5⟩, ih k6 fun b hb => n b (by
        obtain ⟨x, hx, q⟩ := List.mem_filterMap.mp hb
        exact List.mem_filterMap.mpr ⟨x, List.mem_cons_of_mem _ hx, q⟩)⟩
  have ff2 := ff ff0 fun L hL q => nfr (by rw [hst, ← q]; exact hL)
  show wpAny _ _ (PySem.passOn _ (.ref a) c2) _ _ _
  unfold PySem.passOn
  refine wpAny_bind (wpAny_field (s := { s' with heap := h2 }) (st2 _ _ aC he) hd hv1 ?_)
  rw [if_neg (by simp)]
  first
  | refine wpAny_bind (wpAny_pure ?_)
  | skip
  refine wpAny_bind ?_
  rw [hc2, hfr]
  refine HandSPX.setFlight_anyZ (s := { s' with heap := h2 }) sB ff2 tr2 fun h4 k1 k2 k3 k4 => wpAny_throw ?_
  have Jn : H1 ce.locals = none := J.free
  refine tk _ _ ⟨a, PySem.W.hideAll B [ce.locals], { sI with heap := PySem.W.hideAll sI.heap [ce.locals] }, pins, σ, H1, cls, d, rfl, ?_, fun b o e n => hid3 (nb b o (hide e).2 n) (hide e).1, ?_, .inr (.inr ⟨k1, hid2 g2, by rw [hst]; exact k2, k3⟩), na, os, ag, w σ⟩
  · have hn3 : ∀ b o, s3.heap.get? b = some o → b ≠ ce.locals := fun b o e q => by
      have l := Heap.lt_size e
      rw [q, cL] at l
      exact absurd l (Nat.lt_irrefl _)
    have U : Un (frs X.stack) fp H3 H1 s3.heap sI.heap := J.base
    refine I3.call' (ch := fp) J.os ⟨fun b o e n q r => hid3 (U.keep b o e n q r) (hn3 b o e), fun b o e n q r => ?_, U.free, fun b o e q => ?_, U.tups, U.frzs, U.tbls⟩ (fun b o e => ?_) J.bare f3
    · obtain ⟨sl, k⟩ := U.slot b o e n q r
      exact ⟨sl, hid3 k (hn3 b o e)⟩
    · obtain ⟨o', k⟩ := U.there b o e q
      exact ⟨o', hid3 k (hn3 b o e)⟩
    · refine (J.hok b o e).stay (fun c o2 hc r => hid3 r fun q => ?_) (fun _ r => r) fun _ _ r => r
      rcases hc with hc | hc
      · rw [hc] at q
        rw [q, Jn] at e
        cases e
      · rw [q, Jn] at hc
        cases hc
  · intro b o e k
    obtain ⟨n, e⟩ := hide e
    obtain ⟨sl, e1⟩ := up b o e k
    obtain ⟨sl2, e2⟩ := up1 b _ e1 k
    obtain ⟨sl3, e3⟩ := k4 b _ (st2 b _ n e2) k
    exact ⟨sl3, e3⟩
section
variable {X : Cx}
/-- the context of a comprehension's block whose errors are taken -/
abbrev Blk (X : Cx) (scope : Scope) (W : WX) (R : Cx → Prop) : Prop := ∀ (s : Shared) (H : Hp) (C : Addr) (cl : List (Str × Addr)) (fp : List Addr) (z : Value → Shared → Prop),
  Passes (L2.CX X.prog X.w) (blkE X s H scope (compEnvC scope cl C X.env) fp z) (AnyS W) → R (blkE X s H scope (compEnvC scope cl C X.env) fp z)
theorem lcX_core {pins : List (Addr × Obj)} {s : Shared} {σ : L2.St} {H : Hp} {Q : VK} {elt tg iter : Expr} {ifs : List Expr} {scope : Scope} {own : List (Str × Nat)} {pos pos' : Pos} {wi : TI} {g : TG} {tt : TT} {te : TE} {use : Option (Value → Sem Unit)} {Qf : Value → Shared → Prop} {W : WX}
    (hc : X.calm = true) (hN : X.N.Nodup) (tk : Takes X W) (hst : X.stack = X.env :: X.outer) (hfr : X.env.frame = some X.env.locals) (I : Inv X pins σ H s) (hi : PI X tg iter wi) (ok : BlkOk X.N X.env.scope scope own)
    (hg : Blk X scope W fun Y => PG Y tg g) (ht : Blk X scope W fun Y => PTs Y ifs tt) (he : Blk X scope W fun Y => PE Y elt te) (hs : ∀ x, foldedSetIterable iter X.env x = pure x) (h : tLc wi g tt te (own.map (·.2)) σ H Q)
    (fin : ∀ D C s' m H', Inv X pins σ H' s' → Q (.ref D) H' → s'.heap.Ns C m → FpOk X pins H' C → compPost (model X.prog X.w) X.A X.xe use Qf (.ref D) C (.ok .next) s') :
    wpAny (model X.prog X.w) X.A (comprehension (.ListComp elt [⟨tg, iter, ifs, 0⟩] scope pos) scope X.env pos' (newList []) false (eval iter X.env) use) Qf X.xe s := by
  refine compX (use := use) rfl hs (closure_ok fun y hy e => (ok.free y hy e).elim (fun k => I.ok.has _ (.inl k)) fun k => I.ok.has _ (.inr k)) ok.kind (fun y hy e => by rw [ok.uniq y hy, e]) ?_
  refine thn (hi.run pins s σ H _ I h) fun xv s1 hx => thn hx fun itv s2 h2 => ?_
  obtain ⟨it, fp, tn, J, H2, rfl, I2, T, st2, f2, q⟩ := h2
  refine wpAny_newObj_type (newEnv_comp ?_) (Nat.zero_le _)
  generalize hD : s2.heap.objs.size = D
  obtain ⟨Wv, ⟨m0, w0⟩, turn⟩ := q D (I2.hok.fresh (Nat.le_of_eq hD))
  generalize hs3 : ({ s2 with heap := s2.heap.push { cls := .type "list", data := .seq ([] : List Value).toArray } } : Shared) = s3
  have h3 : s3.heap = s2.heap.push { cls := .type "list", data := .seq ([] : List Value).toArray } := by rw [← hs3]
  have I3 : Inv X pins σ (upd H2 D (.lst [])) s3 := by
    rw [← hs3]
    exact I2.laid (t' := s2.toks) (fun _ _ e => Heap.get?_push_of_some _ e) (Nat.le_of_eq hD) ⟨Nat.zero_le _, [], 0, .nil, by rw [← hD]; exact Heap.get?_push_size _ rfl⟩
  have lt2 : ∀ b ∈ fp, b < s2.heap.objs.size := fun b hb => let ⟨_, e, _⟩ := T.obj _ _ st2 b hb; Heap.lt_size e
  have f3 : ∀ b ∈ fp, FpOk X pins (upd H2 D (.lst [])) b ∧ b < s3.heap.objs.size := fun b hb => by
    refine ⟨⟨?_, (f2 b hb).2⟩, by rw [h3, Heap.size_push]; exact Nat.lt_succ_of_lt (lt2 b hb)⟩
    rw [upd_ne (by rw [← hD]; exact Nat.ne_of_lt (lt2 b hb)), (f2 b hb).1]
  have f3' : ∀ b ∈ fp, (b ∈ X.ex ∨ X.s_0.heap.objs.size ≤ b) ∧ b ≠ X.env.locals ∧ (∀ x c, X.env.cells.lookup x = some c → c ≠ b) ∧ ∀ p ∈ X.pn ++ pins, p.1 ≠ b := fun b hb =>
    ⟨(f3 b hb).1.2.2.2.1, (f3 b hb).1.2.1, (f3 b hb).1.2.2.2.2.1, (f3 b hb).1.2.2.2.2.2⟩
  have st3 : tn 0 s3.heap := T.keep _ _ _ st2 fun _ _ _ e => by rw [h3]; exact Heap.get?_push_of_some _ e
  have I4 := block_start I3 ok hN f3
  show codeAny _ _ (.compStart _ 0 (.ref it) (.ref D) (compEnvC scope (cellsFrom (s3.heap.objs.size + 1) scope.names (cloFrom X.env.cells scope.names [])) s3.heap.objs.size X.env)) (cPost (model X.prog X.w) X.A X.xe use Qf (.ref D) s3.heap.objs.size X.env.frame) { s3 with heap := pushCells (s3.heap.push { cls := .type "dict", data := .dict #[] }) scope.names }
  have nfp : ∀ b ∈ fp, (upd H2 D (.lst [])) b = none := fun b hb => (f3 b hb).1.1
  have ps := fun (z : Value → Shared → Prop) (p : Passes (L2.CX X.prog X.w) (blkE X s3 (upd H2 D (.lst [])) scope (compEnvC scope (cellsFrom (s3.heap.objs.size + 1) scope.names (cloFrom X.env.cells scope.names [])) s3.heap.objs.size X.env) fp z) (AnyS W)) =>
    And.intro (hg _ _ _ _ _ z p) (And.intro (ht _ _ _ _ _ z p) (he _ _ _ _ _ z p))
  generalize hce : compEnvC scope (cellsFrom (s3.heap.objs.size + 1) scope.names (cloFrom X.env.cells scope.names [])) s3.heap.objs.size X.env = ce at I4 ps ⊢
  have cL : ce.locals = s3.heap.objs.size := by subst hce; rfl
  have cF : ce.frame = X.env.frame := by subst hce; rfl
  generalize hH3 : upd H2 D (.lst []) = H3 at I3 I4 ps w0 nfp f3
  generalize hs4 : ({ s3 with heap := pushCells (s3.heap.push { cls := .type "dict", data := .dict #[] }) scope.names } : Shared) = s4 at I4 ⊢
  have st4 : tn 0 s4.heap := T.keep _ _ _ st3 fun _ _ _ e => by rw [← hs4]; exact pushCells_keeps _ _ _ _ (Heap.get?_push_of_some _ e)
  obtain ⟨z, hz⟩ : ∃ z : Value → Shared → Prop, z = notedBy (model X.prog X.w) X.A ce (fun x s2 => cPost (model X.prog X.w) X.A X.xe use Qf (.ref D) s3.heap.objs.size X.env.frame (.error x) s2) := ⟨_, rfl⟩
  obtain ⟨Y, hY⟩ : ∃ Y : Cx, Y = blkE X s3 H3 scope ce fp z := ⟨_, rfl⟩
  have pas : Passes (L2.CX X.prog X.w) (blkE X s3 H3 scope ce fp z) (AnyS W) := fun ps' σ' H' s5 e s6 I5 c5 => by
    show z e s6
    rw [hz, ← cL]
    exact out_of_blk tk hst hfr I3 cL cF f3' I5 c5
  obtain ⟨pg, pt, pe⟩ := ps z pas
  have I4' : Inv (blkE X s3 H3 scope ce fp z) [] (wipe σ (own.map (·.2))) H3 s4 := inv_xe I4
  rw [← hY] at pg pt pe I4'
  have yp : Y.prog = X.prog := by rw [hY]
  have stat : ∀ {σ' : L2.St} {H' : Hp} {s' : Shared}, Inv Y [] σ' H' s' → (∀ b ∈ fp, H' b = none) → ∀ b ∈ fp, FpOk Y [] H' b := fun {σ' H' s'} I' hn b hb => by
    subst hY
    exact ⟨hn b hb, (I'.ok.exf b hb).1, I'.ok.exfs b hb, .inl hb, fun x c e => (I'.ok.exf b hb).2 x c e, fun p hp => absurd (show p ∈ ([] : List (Addr × Obj)) ++ [] from hp) (by simp)⟩
  have loop : codeAny (model X.prog X.w) X.A (.compLoop (.ListComp elt [⟨tg, iter, ifs, 0⟩] scope pos) 0 (.ref it) (.ref D) ce) (cPost (model X.prog X.w) X.A X.xe use Qf (.ref D) s3.heap.objs.size X.env.frame) s4 := by
    subst hY
    refine compLoop_any (fun n s' => ∃ i H', Inv (blkE X s3 H3 scope ce fp z) [] (wipe σ (own.map (·.2))) H' s' ∧ tn i s'.heap ∧ (∀ b ∈ fp, H' b = none) ∧ Wv i n H') ?_ m0 ⟨0, H3, I4', st4, nfp, w0⟩
    rw [← hz]
    rintro n s5 ⟨i, H5, I5, st5, n5, w5⟩
    rcases turn i n H5 w5 with ⟨stop, qq⟩ | ⟨go, Nx, hNx, step⟩
    · refine thnF (T.done (blkE X s3 H3 scope ce fp z) rfl rfl rfl hc i [] s5 _ H5 (fun _ _ => False) I5 (stat I5 n5) st5 stop) fun r s6 ⟨hr, I6⟩ => ?_
      subst hr
      have I7 : Inv X pins σ H5 s6 := I3.call' (ch := fp) I6.os I6.base I6.hok I6.bare f3'
      have nC : H5 s3.heap.objs.size = none := by rw [← cL]; exact I6.free
      obtain ⟨m, hn, _⟩ := I6.loc
      have hn : s6.heap.Ns ce.locals m := hn
      rw [cL] at hn
      exact fin D _ s6 m H5 I7 qq hn (I3.fpOk (Nat.le_refl _) nC)
    · refine thnF (T.item (blkE X s3 H3 scope ce fp z) rfl rfl rfl hc i [] s5 _ H5 (fun _ _ => False) I5 (stat I5 n5) st5 go) fun r s6 ⟨u, hr, h6⟩ => ?_
      subst hr
      refine thnF h6 fun _ s7 ⟨x, H7, I7, r7, y7, st7, n7⟩ => ?_
      have I7' := I7.pinned (stat I7 n7) (T.obj _ _ st7)
      refine thn (pg.run _ s7 _ H7 x u _ I7' r7 (step x H7 y7)) fun _ s8 ⟨σ8, H8, I8, hw8, q8⟩ => ?_
      refine thn (pt.run _ s8 σ8 H8 _ I8 q8) fun b s9 ⟨H9, I9, q9⟩ => ?_
      have again : ∀ {s' : Shared} {H' : Hp}, Inv (blkE X s3 H3 scope ce fp z) ([] ++ pinsAt fp s7.heap) σ8 H' s' → Nx H' → ∃ m, m < n ∧ ∃ i H', Inv (blkE X s3 H3 scope ce fp z) [] (wipe σ (own.map (·.2))) H' s' ∧ tn i s'.heap ∧ (∀ b ∈ fp, H' b = none) ∧ Wv i m H' := fun {s' H'} I' nx => by
        obtain ⟨m', hm, w'⟩ := hNx H' nx
        have pin' : ∀ b ∈ fp, ∀ o, s7.heap.get? b = some o → s'.heap.get? b = some o ∧ H' b = none := fun b hb o e =>
          let y := I'.pin (b, o) (List.mem_append_right _ (List.mem_append_right _ (mem_pinsAt hb e)))
          ⟨y.1, y.2.1⟩
        refine ⟨m', hm, i + 1, H', (I'.unpinned (pins := [])).weak (by rw [← hw8, wipe_length]) (fun j v e => ?_), T.keep _ _ _ st7 fun b hb o e => (pin' b hb o e).1, fun b hb => ?_, w'⟩
        · rw [← hw8] at e
          exact (wipe_some e).1
        · obtain ⟨o, e, _⟩ := T.obj _ _ st7 b hb
          exact (pin' b hb o e).2
      cases b with
      | false =>
        rw [if_neg Bool.false_ne_true] at q9 ⊢
        exact again I9 q9
      | true =>
        rw [if_pos rfl] at q9 ⊢
        refine thn (pe.run _ s9 σ8 H9 _ I9 q9) fun v s10 ⟨yv, H10, I10, r10, acc, hD10, hz10, nx⟩ => ?_
        exact app_ok (X := blkE X s3 H3 scope ce fp z) I10 hD10 hz10 r10 fun s11 I11 => again I11 nx
  exact codeAny_compStart_list loop (T.self X.A 0 _ _ _ st4 loop)
variable {elt tg iter : Expr} {ifs : List Expr} {scope : Scope} {own : List (Str × Nat)} {pos : Pos} {wi : TI} {g : TG} {tt : TT} {te : TE} {W : WX}
/-- as a value -/
theorem pe_lcX (tk : Takes X W) (hc : X.calm = true) (hN : X.N.Nodup) (hi : PI X tg iter wi) (ok : BlkOk X.N X.env.scope scope own)
    (hg : Blk X scope W fun Y => PG Y tg g) (ht : Blk X scope W fun Y => PTs Y ifs tt) (he : Blk X scope W fun Y => PE Y elt te) (hs : ∀ x, foldedSetIterable iter X.env x = pure x := by intro _; rfl)
    (hst : X.stack = X.env :: X.outer := by rfl) (hfr : X.env.frame = some X.env.locals := by rfl) :
    PE X (.ListComp elt [⟨tg, iter, ifs, 0⟩] scope pos) (tLc wi g tt te (own.map (·.2))) := by
  refine ⟨fun pins s σ H Q I h => ?_⟩
  rw [eval_ListComp]
  refine lcX_core hc hN tk hst hfr I hi ok hg ht he hs h fun D C s' m H' I' q hn f => ⟨m, hn, fun h2 sb => ?_⟩
  obtain ⟨f0, f1, f2, f3, f4, f5⟩ := f
  exact ⟨.ref D, H', I'.turned (t' := s'.toks) (fun b o hb e => (sb.2 b hb).trans e) f0 f1 f3 f4 f5, rfl, q⟩
/-- name = [..], a local -/
theorem ps_setLcX {i : Nat} {y : Str} {py spos : Pos} (tk : Takes X W) (hc : X.calm = true) (hN : X.N.Nodup) (hy : X.N[i]? = some y) (hyl : X.env.scope.names.lookup y = some .local)
    (hsw : swapsWith (.ListComp elt [⟨tg, iter, ifs, 0⟩] scope pos) (some (.Name y py)) spos.line X.env = pure true) (hi : PI X tg iter wi) (ok : BlkOk X.N X.env.scope scope own)
    (hg : Blk X scope W fun Y => PG Y tg g) (ht : Blk X scope W fun Y => PTs Y ifs tt) (he : Blk X scope W fun Y => PE Y elt te) (hs : ∀ x, foldedSetIterable iter X.env x = pure x := by intro _; rfl)
    (hst : X.stack = X.env :: X.outer := by rfl) (hfr : X.env.frame = some X.env.locals := by rfl) :
    PS X (.Assign [.Name y py] (.ListComp elt [⟨tg, iter, ifs, 0⟩] scope pos) spos) (tAsg (tLc wi g tt te (own.map (·.2))) (gName i)) := by
  refine ⟨fun pins s σ H D I h => ?_⟩
  rw [exec_Assign_Name_used _ _ _ _ hsw]
  refine wpAny_bind (wpAny_standAt (wpAny_bind ?_))
  show wpAny _ X.A (do let _ ← comprehension _ scope X.env (firstIterPos [⟨tg, iter, ifs, 0⟩] pos) (newList []) false (eval iter X.env) (some (assign (.Name y py) X.env))) _ _ s
  have h : tLc wi g tt te (own.map (·.2)) σ H (fun x H1 => gName i x σ H1 D.nx) := h
  refine wpAny_bind (thn (lcX_core (Qf := fun _ s' => SP X pins D .next s') hc hN tk hst hfr I hi ok hg ht he hs h fun L C s' m H' I' q hn f => ?_) fun _ s' hq => wpAny_pure (wpAny_pure hq))
  show wpAny _ _ (assign (.Name y py) X.env (.ref L)) _ _ _
  refine wpAny_assign_Name (store_ok2 (v := V.ref L) I' hN hy (.inl hyl) rfl (fun s2 I2 ⟨a, sb, ha⟩ => ?_) (.inr hyl))
  obtain ⟨f0, f1, f2, f3, f4, f5⟩ := f
  have haC : C ≠ a := ha.elim (fun k => by rw [k]; exact f1) fun k e => f4 y a k e.symm
  refine ⟨m, hn.sameBut sb haC, fun h3 sb3 => ?_⟩
  exact ⟨_, H', I2.turned (t' := s2.toks) (fun b o hb e => (sb3.2 b hb).trans e) f0 f1 f3 f4 f5, q⟩
end
end Pl
namespace Pl
open PySem PySem.Spec PyProof.Rows L2
/-! defs with a star parameter, objects made of a starred list, class methods, constants of a class -/
/-- a method by its raw promise -/
structure MCalR (P : Program) (w : World) (K : PySem.W.Frag) (mg : Str → Option Value) (base : Heap) (CX : CXT) (k : Nat) (C : Addr) (m : Str) (sp : Sp) : Prop where
  ex : ∃ f, FnR P w K mg base CX k f sp ∧ PySem.W.findIn K (.ref C) m = some (some (.ref f)) ∧ PySem.W.isFn K (.ref f) = true
theorem MCal.raw {P : Program} {w : World} {K : PySem.W.Frag} {mg : Str → Option Value} {base : Heap} {k : Nat} {C : Addr} {m : Str} {ps : List Str} {sp : Sp} (c : MCal P w K mg base k C m ps sp) : MCalR P w K mg base CX0 k C m sp := by
  obtain ⟨f, fd, F, h1, h2, kp, hb⟩ := c.ex
  exact ⟨f, (F.raw hb .nil).imp fun vs H Q E h => by simpa using h, h1, h2⟩
theorem MCalX.raw {P : Program} {w : World} {K : PySem.W.Frag} {mg : Str → Option Value} {base : Heap} {k : Nat} {C : Addr} {m : Str} {ps : List Str} {sp : Sp} (c : MCalX P w K mg base k C m ps sp) : MCalR P w K mg base (L2.CX P w) k C m sp := by
  obtain ⟨f, fd, F, h1, h2, kp, hb⟩ := c.ex
  exact ⟨f, (F.raw hb .nil).imp fun vs H Q E h => by simpa using h, h1, h2⟩
/-- what is left over stands in a new tuple -/
def spStar (sp : Sp) : Sp := fun vs H Q E => ∃ (a : V) (rest : List V), vs = a :: rest ∧ rest.length ≤ sizeLine ∧ ∀ p, H p = none → sp [a, .ref p] (upd H p (.tup rest)) Q E
def BindStar (x qual : Str) (st : Stmt) (p1 pv : Str) : Prop := ∀ (kV doc pm : Value) (an : Option Addr) (cdv ct : Value) (us rest : List Value), us.length = [p1].length →
  bindArgs (PySem.W.fnOf x qual (defArgs st) (defBody st) (defScope st) .none kV doc pm an cdv ct) ⟨us ++ rest, []⟩ = (newTuple rest >>= fun t => pure ([p1].zip us ++ [(pv, t)]))
section
variable {P : Program} {w : World} {K : PySem.W.Frag} {mg : Str → Option Value} {base : Heap} {C : Addr} {x qual : Str} {st : Stmt} {N : List Str} {p1 pv : Str} {k : Nat} {sp : Sp}
theorem MhK.star (D : MhK K C x qual st) (S : FnScope N [p1, pv] (defScope st)) (hb : BindStar x qual st p1 pv)
    (bod : ∀ (f : Addr) (cdv : Value) (A : Around) (out : List Env) (s : Shared) (H : Hp) (vs : List V) (Q : VK) (E : XK),
      Room k (A.deeper (envOfC qual (defScope st) s.heap.objs.size f cdv)) → sp vs H Q E →
      ∃ t, PSs (cxOf CX0 P w K mg base N qual (defScope st) f cdv A out s H E).nox (defBody st) t ∧ t { nx := fun _ H' => Q .non H', rt := Q } (start N vs) H) : MCalR P w K mg base CX0 (k + 1) C x (spStar sp) := by
  obtain ⟨f, a, i, od, an, sl, oc, kV, dc, pm, cd, ct, l, c, kp⟩ := D.ex
  refine ⟨f, (StX.fn_star (ps := [p1]) (pv := pv) (sp := sp) (k := k) l c S StX.cxUp_none (hb kV dc pm an cd ct) fun A out s H vs Q E hr h => ?_).imp fun vs H Q E h => ?_, a, i⟩
  · obtain ⟨t, h1, h2⟩ := bod f cd A out s H vs Q E hr h
    exact ⟨t, h1.nox, h2⟩
  · obtain ⟨v, rest, rfl, hl, q⟩ := h
    exact ⟨[v], rest, rfl, rfl, hl, q⟩
theorem MhK.starX (D : MhK K C x qual st) (S : FnScope N [p1, pv] (defScope st)) (hb : BindStar x qual st p1 pv)
    (bod : ∀ (f : Addr) (cdv : Value) (A : Around) (out : List Env) (s : Shared) (H : Hp) (vs : List V) (Q : VK) (E : XK),
      Room k (A.deeper (envOfC qual (defScope st) s.heap.objs.size f cdv)) → sp vs H Q E →
      ∃ t, PSs (cxOf (L2.CX P w) P w K mg base N qual (defScope st) f cdv A out s H E) (defBody st) t ∧ t { nx := fun _ H' => Q .non H', rt := Q } (start N vs) H) : MCalR P w K mg base (L2.CX P w) (k + 1) C x (spStar sp) := by
  obtain ⟨f, a, i, od, an, sl, oc, kV, dc, pm, cd, ct, l, c, kp⟩ := D.ex
  refine ⟨f, (StX.fn_star (ps := [p1]) (pv := pv) (sp := sp) (k := k) l c S StX.cxUp (hb kV dc pm an cd ct) fun A out s H vs Q E hr h => ?_).imp fun vs H Q E h => ?_, a, i⟩
  · exact bod f cd A out s H vs Q E hr h
  · obtain ⟨v, rest, rfl, hl, q⟩ := h
    exact ⟨[v], rest, rfl, rfl, hl, q⟩
end
/-- C(*e) -/
def tMkS (K : PySem.W.Frag) (C : Addr) (sp : Sp) (E : XK) (te : TE) : TE := fun σ H Q => te σ H fun y H1 => ∃ a xs, y = V.ref a ∧ (SqT K H1 a xs ∨ SqL K H1 a xs) ∧
  ∀ x dx, H1 x = none → H1 dx = none → dx ≠ x → sp (V.ref x :: xs) (upd (upd H1 dx (.own x)) x (.ins C dx [])) (fun v H2 => v = .non ∧ Q (.ref x) H2) E
section
variable {X : Cx} {CX : CXT} {k : Nat} {C : Addr} {sp : Sp} {E : XK} {p pos sps : Pos} {x : Str} {e fe : Expr} {es : List Expr} {te tf : TE} {t : TA}
theorem pe_mkS (c : MCalR X.prog X.w X.K X.mg X.base CX k C "__init__" sp) (hx : Passes CX X E) (mk : PySem.W.makesIn X.K C = true) (kc : PySem.W.keepIn X.K (.ref C) = true) (hm : X.mg x = some (.ref C)) (hr : Room (k + 1) X.A) (he : PE X e te)
    (hg : Gl X x := by rfl) (hdb : (x == ("__debug__" : Str)) = false := by decide) (hst : starEach [.Starred e sps] X.env = [(true, eval e X.env)] := by rfl) :
    PE X (.Call (.Name x p) [.Starred e sps] [] pos) (tMkS X.K C sp E te) := by
  obtain ⟨f, F, h1, h2⟩ := c.ex
  refine ⟨fun pins s σ H Q I h => wpAny_Call_Name_kw (ld_glob I hg hm ?_ hdb)⟩
  refine PySem.W.callWith_S (h₀ := X.base) I.ok.mod.kin kc (thn (he.run pins s σ H _ I h) fun v s1 ⟨y, H1, I1, ry, a, xs, ey, hxs, q⟩ => ?_) hst
  subst ey
  obtain rfl : v = Value.ref a := ry
  exact StX.star_any I1 hxs fun us s2 I2 rv => ⟨I2.kIn, StX.run_makeR ⟨mk, h1, h2, kc⟩ F hr hx I2 rv q⟩
/-- v(*e), v a variable that holds the class -/
def tMkV (K : PySem.W.Frag) (C : Addr) (sp : Sp) (E : XK) (tf te : TE) : TE := fun σ H Q => tf σ H fun z H0 => z = .ref C ∧ tMkS K C sp E te σ H0 Q
theorem pe_mkV (c : MCalR X.prog X.w X.K X.mg X.base CX k C "__init__" sp) (hx : Passes CX X E) (mk : PySem.W.makesIn X.K C = true) (kc : PySem.W.keepIn X.K (.ref C) = true) (hr : Room (k + 1) X.A) (hf : PE X fe tf) (he : PE X e te)
    (ht : eval (.Call fe [.Starred e sps] [] pos) X.env = (do callWith pos (← eval fe X.env) [] (backTo pos (starEach [.Starred e sps] X.env)) (backToKw pos (keywordEach [] X.env))) := by rfl)
    (hst : starEach [.Starred e sps] X.env = [(true, eval e X.env)] := by rfl) : PE X (.Call fe [.Starred e sps] [] pos) (tMkV X.K C sp E tf te) := by
  obtain ⟨f, F, h1, h2⟩ := c.ex
  refine ⟨fun pins s σ H Q I h => ?_⟩
  refine Call_ (thn (hf.run pins s σ H _ I h) fun u s0 ⟨z, H0, I0, rz, ez, h0⟩ => ?_) ht
  subst ez
  obtain rfl : u = Value.ref C := rz
  refine PySem.W.callWith_S (h₀ := X.base) I0.ok.mod.kin kc (thn (he.run pins s0 σ H0 _ I0 h0) fun v s1 ⟨y, H1, I1, ry, a, xs, ey, hxs, q⟩ => ?_) hst
  subst ey
  obtain rfl : v = Value.ref a := ry
  exact StX.star_any I1 hxs fun us s2 I2 rv => ⟨I2.kIn, StX.run_makeR ⟨mk, h1, h2, kc⟩ F hr hx I2 rv q⟩
/-- C(e, ..) by a raw promise -/
theorem pe_mkR (c : MCalR X.prog X.w X.K X.mg X.base CX k C "__init__" sp) (hx : Passes CX X E) (mk : PySem.W.makesIn X.K C = true) (kc : PySem.W.keepIn X.K (.ref C) = true) (hm : X.mg x = some (.ref C)) (hr : Room (k + 1) X.A) (ha : PA X (e :: es) t)
    (hg : Gl X x := by rfl) (hdb : (x == ("__debug__" : Str)) = false := by decide)
    (he : starEach (e :: es) X.env = (false, eval e X.env) :: starEach es X.env := by rfl) (hpl : (backTo pos (starEach es X.env)).any (·.1) = false := by rfl) :
    PE X (.Call (.Name x p) (e :: es) [] pos) (StX.tMakeR C sp E t) := by
  obtain ⟨f, F, h1, h2⟩ := c.ex
  exact StX.pe_makeR ⟨mk, h1, h2, kc⟩ F hr hg hm hx ha hdb he hpl
end
/-! class methods -/
structure CmK (K : PySem.W.Frag) (C : Addr) (m qual : Str) (st : Stmt) : Prop where
  ex : ∃ (mc : Value) (p g : Addr), ClX.CRead K C mc ∧ ClX.CMet K C mc m p g ∧ FnAt K g m qual st
theorem CmK.of {K : PySem.W.Frag} {C p g : Addr} {mc : Value} {m qual : Str} {st : Stmt} {rest : List Value} {od an : Option Addr} {sl : Array (Option Value)} {oc kV dc pm cd ct : Value}
    (rd : PySem.W.readsIn K C mc = true) (ga : PySem.W.specialIn K (.ref C) "__getattribute__" = some (some (.builtin "type.__getattribute__")))
    (at_ : PySem.W.findCls K (.ref C) mc m = some (.get (.builtin "classmethod.__get__") (.ref p) .none (.ref C))) (rc : PySem.W.recIn K p "classmethod" = some (.ref g :: rest)) (fi : PySem.W.fnIn K g = true)
    (l : K.lookup g = some ⟨oc, od, .func (PySem.W.fnOf m qual (defArgs st) (defBody st) (defScope st) .none kV dc pm an cd ct), sl⟩) (c : PySem.W.codeIn K cd qual = true) (k : PySem.W.keepIn K (.ref g) = true) : CmK K C m qual st :=
  ⟨⟨mc, p, g, ⟨rd, ga⟩, ⟨at_, ⟨rest, rc⟩, fi⟩, od, an, sl, oc, kV, dc, pm, cd, ct, l, c, k⟩⟩
structure CmCal (P : Program) (w : World) (K : PySem.W.Frag) (mg : Str → Option Value) (base : Heap) (CX : CXT) (k : Nat) (C : Addr) (m : Str) (sp : Sp) : Prop where
  ex : ∃ (mc : Value) (p g : Addr), ClX.CRead K C mc ∧ ClX.CMet K C mc m p g ∧ FnR P w K mg base CX k g sp
section
variable {P : Program} {w : World} {K : PySem.W.Frag} {mg : Str → Option Value} {base : Heap} {C : Addr} {x qual : Str} {st : Stmt} {N ps : List Str} {k : Nat} {sp : Sp}
theorem CmK.cal (D : CmK K C x qual st) (b : BindOk x qual st ps) (S : FnScope N ps (defScope st)) (lng : ∀ vs H Q E, sp vs H Q E → vs.length = ps.length)
    (bod : ∀ (f : Addr) (cdv : Value) (A : Around) (out : List Env) (s : Shared) (H : Hp) (vs : List V) (Q : VK) (E : XK),
      Room k (A.deeper (envOfC qual (defScope st) s.heap.objs.size f cdv)) → sp vs H Q E →
      ∃ t, PSs (cxOf CX0 P w K mg base N qual (defScope st) f cdv A out s H E).nox (defBody st) t ∧ t { nx := fun _ H' => Q .non H', rt := Q } (start N vs) H) : CmCal P w K mg base CX0 (k + 1) C x sp := by
  obtain ⟨mc, p, g, h1, h2, od, an, sl, oc, kV, dc, pm, cd, ct, l, c, kp⟩ := D.ex
  have F := fun_mk (st := st) l c kp
  exact ⟨mc, p, g, h1, h2, ((F.ok S lng (bod g)).raw (F.binds b) .nil).imp fun vs H Q E h => by simpa using h⟩
end
/-- a constant of a class -/
structure CvK (K : PySem.W.Frag) (C : Addr) (f : Str) (n : Int) : Prop where
  ex : ∃ (mc : Value) (t : Tok), ClX.CRead K C mc ∧ ClX.CVal K C mc f (.int n) (.int n t)
theorem CvK.of {K : PySem.W.Frag} {C : Addr} {mc : Value} {f : Str} {n : Int} {t : Tok} (rd : PySem.W.readsIn K C mc = true) (ga : PySem.W.specialIn K (.ref C) "__getattribute__" = some (some (.builtin "type.__getattribute__")))
    (at_ : PySem.W.findCls K (.ref C) mc f = some (.val (.int n t))) : CvK K C f n := ⟨⟨mc, t, ⟨rd, ga⟩, at_, ⟨t, rfl⟩⟩⟩
section
variable {X : Cx} {CX : CXT} {k : Nat} {C : Addr} {sp : Sp} {E : XK} {pos apos : Pos} {f m : Str} {e o : Expr} {es : List Expr} {te ta : TE} {t : TA} {n : Int} {pl : Sem Bool}
theorem pe_cv (c : CvK X.K C f n) (he : PE X e te) (hb : attributeBase e f X.env (eval e X.env) = eval e X.env := by rfl) : PE X (.Attribute e f pos) (fun σ H Q => te σ H fun x H1 => x = .ref C ∧ Q (.int n) H1) := by
  obtain ⟨mc, t, r, v⟩ := c.ex
  refine ⟨fun pins s σ H Q I h => ?_⟩
  refine attr_of hb (thn (he.run pins s σ H _ I h) fun u s1 ⟨x, H1, I1, rx, ex, q⟩ => ?_)
  subst ex
  obtain rfl : u = Value.ref C := rx
  exact ClX.getcval_ok I1 r v fun s2 I2 => ⟨.int n, H1, I2, v.rel, q⟩
theorem pe_cm (c : CmCal X.prog X.w X.K X.mg X.base CX k C m sp) (hx : Passes CX X E) (hr : Room k X.A) (he : PE X o ta) (ha : PA X (e :: es) t)
    (hst : starEach (e :: es) X.env = (false, eval e X.env) :: starEach es X.env := by rfl) (hpl : (backTo pos (starEach es X.env)).any (·.1) = false := by rfl)
    (ht : eval (.Call (.Attribute o m apos) (e :: es) [] pos) X.env = (do
      let ov ← eval o X.env
      standAt apos.atName
      let (f, first) ← holding [ov] (getMethod ov m pl)
      callWith pos f first (backTo pos (starEach (e :: es) X.env)) (backToKw pos (keywordEach [] X.env))) := by rfl) :
    PE X (.Call (.Attribute o m apos) (e :: es) [] pos) (ClX.tCMeth C sp E ta t) := by
  obtain ⟨mc, p, g, h1, h2, F⟩ := c.ex
  exact ClX.pe_cmeth he h1 h2 F hr hx ha hst hpl ht
end
end Pl
namespace Pl
open PySem PySem.Spec PyProof.Rows L2 TL
/-! the texts of amounts, lines, divisions -/
abbrev wd (n : Int) : Str := toString n
theorem wd_all : ∀ i : Fin 31, (decide (10 ∉ tl (wd (i.val : Int))) && decide (32 ∉ tl (wd (i.val : Int))) && decide ((tl (wd (i.val : Int))).length ≤ 2)) = true := by decide +kernel
theorem wd_inj31 : ∀ i j : Fin 31, wd (i.val : Int) = wd (j.val : Int) → i = j := by decide +kernel
theorem wd_ok {n : Int} (h0 : 0 ≤ n) (h1 : n ≤ 30) : 10 ∉ tl (wd n) ∧ 32 ∉ tl (wd n) ∧ (tl (wd n)).length ≤ 2 := by
  have e : ((n.toNat : Nat) : Int) = n := by omega
  have h := wd_all ⟨n.toNat, by omega⟩
  simp only [e, Bool.and_eq_true, decide_eq_true_eq] at h
  exact ⟨h.1.1, h.1.2, h.2⟩
theorem wd_inj {n m : Int} (h0 : 0 ≤ n) (h1 : n ≤ 30) (k0 : 0 ≤ m) (k1 : m ≤ 30) (h : wd n = wd m) : n = m := by
  have e : ((n.toNat : Nat) : Int) = n := by omega
  have e2 : ((m.toNat : Nat) : Int) = m := by omega
  have q := wd_inj31 ⟨n.toNat, by omega⟩ ⟨m.toNat, by omega⟩ (by simpa only [e, e2] using h)
  have := congrArg Fin.val q
  simp only at this
  omega
def line (ns : List Int) : Str := Str.join " " (ns.map wd)
def text (rows : List (List Int)) : Str := Str.join "" (rows.map fun ns => line ns ++ "\n")
theorem joinL_mem {S : List Nat} {c : Nat} : ∀ {ps : List (List Nat)}, c ∈ joinL S ps → c ∈ S ∨ ∃ p ∈ ps, c ∈ p
  | [], h => by simp [joinL] at h
  | [p], h => .inr ⟨p, List.mem_singleton.mpr rfl, h⟩
  | p :: q :: r, h => by
    unfold joinL at h
    rcases List.mem_append.mp h with h | h
    · exact .inr ⟨p, List.mem_cons_self, h⟩
    · rcases List.mem_append.mp h with h | h
      · exact .inl h
      · rcases joinL_mem h with h | ⟨z, hz, h⟩
        · exact .inl h
        · exact .inr ⟨z, List.mem_cons_of_mem _ hz, h⟩
theorem joinL_len {S : List Nat} {k : Nat} : ∀ {ps : List (List Nat)}, (∀ p ∈ ps, p.length ≤ k) → (joinL S ps).length ≤ (k + S.length) * ps.length
  | [], _ => Nat.zero_le _
  | [p], h => by
    have := h p (List.mem_singleton.mpr rfl)
    show p.length ≤ (k + S.length) * 1
    omega
  | p :: q :: r, h => by
    have h1 := h p List.mem_cons_self
    have h2 := joinL_len (S := S) (ps := q :: r) fun z hz => h z (List.mem_cons_of_mem _ hz)
    show (p ++ (S ++ joinL S (q :: r))).length ≤ (k + S.length) * ((q :: r).length + 1)
    rw [List.length_append, List.length_append, Nat.mul_add, Nat.mul_one]
    omega
theorem tl_line (ns : List Int) : tl (line ns) = joinL [32] (ns.map fun n => tl (wd n)) := by
  unfold line
  rw [tl_join, List.map_map]
  rfl
theorem line_free {ns : List Int} (am : ∀ r ∈ ns, 0 ≤ r ∧ r ≤ 30) : 10 ∉ tl (line ns) := fun h => by
  rw [tl_line] at h
  rcases joinL_mem h with h | ⟨p, hp, h⟩
  · exact absurd h (by decide)
  · obtain ⟨n, hn, rfl⟩ := List.mem_map.mp hp
    exact (wd_ok (am n hn).1 (am n hn).2).1 h
theorem line_len {ns : List Int} (am : ∀ r ∈ ns, 0 ≤ r ∧ r ≤ 30) : (line ns).length ≤ 3 * ns.length := by
  have h : (tl (line ns)).length ≤ 3 * ns.length := by
    rw [tl_line]
    have := joinL_len (S := [32]) (k := 2) (ps := ns.map fun n => tl (wd n)) fun p hp => by
      obtain ⟨n, hn, rfl⟩ := List.mem_map.mp hp
      exact (wd_ok (am n hn).1 (am n hn).2).2.2
    simpa using this
  rw [len_tl]; exact h
theorem split_line {ns : List Int} (ne : ns ≠ []) (am : ∀ r ∈ ns, 0 ≤ r ∧ r ≤ 30) : Txt.split (line ns) " " = ns.map wd := by
  have e : line ns = Txt.join " " (ns.map wd) := (join_eq _ _).symm
  rw [e]
  refine split_join (s := 32) (S := []) rfl (by decide +kernel) (by simpa using ne) fun p hp => ?_
  obtain ⟨n, hn, rfl⟩ := List.mem_map.mp hp
  exact (wd_ok (am n hn).1 (am n hn).2).2.1
theorem tl_text (rows : List (List Int)) : tl (text rows) = (rows.map fun ns => tl (line ns) ++ [10]).flatten := by
  unfold text
  rw [tl_join]
  have e : ∀ ps : List (List Nat), joinL [] ps = ps.flatten := by
    intro ps
    induction ps with
    | nil => rfl
    | cons p r ih =>
      cases r with
      | nil => simp [joinL]
      | cons q r => 
        show p ++ ([] ++ joinL [] (q :: r)) = _
        rw [ih]
        simp
  have z : tl ("" : Str) = [] := rfl
  rw [z, e, List.map_map]
  refine congrArg List.flatten (List.map_congr_left fun ns _ => ?_)
  show tl (line ns ++ "\n") = _
  rw [tl_append]
  rfl
theorem body_tl : ∀ {rows : List (List Int)}, rows ≠ [] → (rows.map fun ns => tl (line ns) ++ [10]).flatten = joinL [10] (rows.map fun ns => tl (line ns)) ++ [10]
  | [], h => absurd rfl h
  | [r], _ => by simp [joinL]
  | r :: q :: rs, _ => by
    have ih := body_tl (rows := q :: rs) (by simp)
    rw [List.map_cons, List.flatten_cons, ih]
    show (tl (line r) ++ [10]) ++ _ = (tl (line r) ++ ([10] ++ joinL [10] ((q :: rs).map fun ns => tl (line ns)))) ++ [10]
    simp
def body (rows : List (List Int)) : Str := Str.join "\n" (rows.map line)
theorem tl_body (rows : List (List Int)) : tl (body rows) = joinL [10] (rows.map fun ns => tl (line ns)) := by
  unfold body
  rw [tl_join, List.map_map]
  rfl
theorem text_tl {rows : List (List Int)} (h : rows ≠ []) : tl (text rows) = tl (body rows) ++ [10] := by rw [tl_text, body_tl h, tl_body]
theorem text_ends {rows : List (List Int)} (h : rows ≠ []) : Txt.endswith (text rows) "\n" = true := by
  have e := text_tl h
  have l : (text rows).length = (tl (body rows)).length + 1 := by rw [len_tl, e]; simp
  unfold Txt.endswith
  have y1 : ("\n" : Str).length = 1 := rfl
  rw [y1, StrLaws.subAt_eq, l, Nat.add_sub_cancel]
  show (decide (0 + 1 ≤ (tl (body rows)).length + 1) && ((tl (text rows)).drop (tl (body rows)).length).take 1 == [10]) = true
  rw [e, List.drop_left]
  simp
theorem text_cut {rows : List (List Int)} (h : rows ≠ []) : cutS (text rows) none (some (-1)) = body rows := by
  refine ext_tl ?_
  have e := text_tl h
  have l : (text rows).length = (tl (body rows)).length + 1 := by rw [len_tl, e]; simp
  have i1 : HT.sIx (text rows).length 0 none = 0 := HT.sIx_none _ _
  have i2 : HT.sIx (text rows).length (text rows).length (some (-1)) = (tl (body rows)).length := by
    rw [l]
    unfold HT.sIx
    simp
    try omega
  unfold cutS
  show (((tl (text rows)).drop _).take _) = _
  rw [i1, i2, e, List.drop_zero, Nat.sub_zero, List.take_left]
theorem body_split {rows : List (List Int)} (h : rows ≠ []) (am : ∀ ns ∈ rows, ∀ r ∈ ns, 0 ≤ r ∧ r ≤ 30) : Txt.split (body rows) "\n" = rows.map line := by
  have e : body rows = Txt.join "\n" (rows.map line) := (join_eq _ _).symm
  rw [e]
  refine split_join (s := 10) (S := []) rfl (by decide +kernel) (by simpa using h) fun p hp => ?_
  obtain ⟨n, hn, rfl⟩ := List.mem_map.mp hp
  exact line_free (am n hn)
theorem text_len {rows : List (List Int)} {m k : Nat} (hk : rows.length ≤ k) (hm : ∀ ns ∈ rows, ns.length ≤ m) (am : ∀ ns ∈ rows, ∀ r ∈ ns, 0 ≤ r ∧ r ≤ 30) : (text rows).length ≤ (3 * m + 1) * k := by
  have h : (tl (text rows)).length ≤ (3 * m + 1) * rows.length := by
    rw [tl_text]
    induction rows with
    | nil => simp
    | cons r rs ih =>
      have h1 := line_len (am r List.mem_cons_self)
      have h2 := hm r List.mem_cons_self
      have h3 := ih (by simp at hk; omega) (fun ns h => hm ns (List.mem_cons_of_mem _ h)) (fun ns h => am ns (List.mem_cons_of_mem _ h))
      rw [List.map_cons, List.flatten_cons, List.length_append, List.length_append, ← len_tl]
      simp only [List.length_cons, List.length_nil, Nat.mul_add, Nat.mul_one]
      omega
  rw [len_tl]
  exact Nat.le_trans h (Nat.mul_le_mul_left _ hk)
theorem body_len {rows : List (List Int)} (h : rows ≠ []) : (body rows).length + 1 = (text rows).length := by
  rw [len_tl, len_tl, text_tl h]; simp
/-! methods without arguments, texts with values in them -/
section
variable {X : Cx} {k : Nat} {C : Addr} {ps : List Str} {sp : Sp} {E : XK} {pos apos : Pos} {m : Str} {o v1 v2 : Expr} {rest : List Expr} {ta : TE} {ts : List TE} {pl : Sem Bool}
def tMt0 (C : Addr) (m : Str) (sp : Sp) (E : XK) (ta : TE) : TE := fun σ H Q => ta σ H fun x H1 => ∃ a dx fs, x = .ref a ∧ H1 a = some (.ins C dx fs) ∧ fs.lookup m = none ∧ sp [x] H1 Q E
theorem pe_mt0 (c : MCal X.prog X.w X.K X.mg X.base k C m ps sp) (cl : Cls X.K C) (hr : Room k X.A) (he : PE X o ta)
    (ht : eval (.Call (.Attribute o m apos) [] [] pos) X.env = (do
      let ov ← eval o X.env
      standAt apos.atName
      let (f, first) ← holding [ov] (getMethod ov m pl)
      callWith pos f first (backTo pos (starEach [] X.env)) (backToKw pos (keywordEach [] X.env))) := by rfl) : PE X (.Call (.Attribute o m apos) [] [] pos) (tMt0 C m sp E0 ta) := by
  obtain ⟨f, fd, F, h1, h2, kp, hb⟩ := c.ex
  exact pe_meth0 (dvs := []) he cl ⟨h1, h2, kp⟩ F hr hb .nil pass0 ht
theorem pe_mt0X (c : MCalX X.prog X.w X.K X.mg X.base k C m ps sp) (hx : Passes (L2.CX X.prog X.w) X E) (cl : Cls X.K C) (hr : Room k X.A) (he : PE X o ta)
    (ht : eval (.Call (.Attribute o m apos) [] [] pos) X.env = (do
      let ov ← eval o X.env
      standAt apos.atName
      let (f, first) ← holding [ov] (getMethod ov m pl)
      callWith pos f first (backTo pos (starEach [] X.env)) (backToKw pos (keywordEach [] X.env))) := by rfl) : PE X (.Call (.Attribute o m apos) [] [] pos) (tMt0 C m sp E ta) := by
  obtain ⟨f, fd, F, h1, h2, kp, hb⟩ := c.ex
  exact pe_meth0 (dvs := []) he cl ⟨h1, h2, kp⟩ F hr hb .nil hx ht
def tJoined (ts : List TE) : TE := fun σ H Q => tJs ts Str.empty σ H fun out H1 => Q (.str out) H1
theorem pe_js (h : PJ X (v1 :: v2 :: rest) ts) : PE X (.JoinedStr (v1 :: v2 :: rest) pos) (tJoined ts) := pe_joined h
end
end Pl
namespace Pl
open PySem PySem.Spec PyProof.Rows L2
/-! zip(*rows), rows some tuples -/
section
variable {M : Model} {A : Around} {E : Value → Shared → Prop}
/-- a loop whose turns end as foreseen -/
theorem forIn_wp {α β : Type} {f : α → β → Sem (ForInStep β)} : ∀ (l : List α) (r : Nat → β) (P : Nat → Shared → Prop) (s : Shared),
    (∀ j x s, l[j]? = some x → P j s → wpAny M A (f x (r j)) (fun t s' => t = .yield (r (j + 1)) ∧ P (j + 1) s') E s) → P 0 s → wpAny M A (forIn l (r 0) f) (fun t s' => t = r l.length ∧ P l.length s') E s
  | [], r, P, s, _, h => by
    rw [List.forIn_nil]
    exact wpAny_pure ⟨rfl, h⟩
  | x :: l, r, P, s, st, h => by
    rw [List.forIn_cons]
    refine wpAny_bind (wpAny_mono (st 0 x s rfl h) (fun t s' ht => ?_) fun _ _ e => e)
    obtain ⟨rfl, h'⟩ := ht
    exact forIn_wp l (fun j => r (j + 1)) (fun j => P (j + 1)) s' (fun j y s q => st (j + 1) y s q) h'
end
def tiO (l : Addr) : Obj := { cls := .type "tuple_iterator", data := .fields #[.ref l, .int 0 0] }
/-- the iterators laid one after another -/
def itH (h : Heap) : List Addr → Heap
  | [] => h
  | l :: r => itH (h.push (tiO l)) r
def itV (n : Nat) : List Addr → List Value
  | [] => []
  | l :: r => .ref n :: itV (n + 1) r
theorem itH_keep : ∀ {ls : List Addr} {h : Heap} {b : Addr} {o : Obj}, h.get? b = some o → (itH h ls).get? b = some o
  | [], _, _, _, e => e
  | l :: r, h, b, o, e => itH_keep (ls := r) (Heap.get?_push_of_some _ e)
theorem itH_size : ∀ {ls : List Addr} {h : Heap}, (itH h ls).objs.size = h.objs.size + ls.length
  | [], _ => rfl
  | l :: r, h => by
    show (itH (h.push (tiO l)) r).objs.size = _
    rw [itH_size, Heap.size_push, List.length_cons]
    omega
theorem itH_at : ∀ {ls : List Addr} {h : Heap} {j : Nat} {l : Addr}, ls[j]? = some l → (itH h ls).get? (h.objs.size + j) = some (tiO l)
  | l :: r, h, 0, _, e => by
    cases e
    exact itH_keep (ls := r) (h := h.push (tiO l)) (Heap.get?_push_size _ rfl)
  | l :: r, h, j + 1, x, e => by
    have z := itH_at (ls := r) (h := h.push (tiO l)) (j := j) e
    rw [Heap.size_push] at z
    rw [show h.objs.size + (j + 1) = h.objs.size + 1 + j by omega]
    exact z
theorem itV_at : ∀ {ls : List Addr} {n j : Nat}, j < ls.length → (itV n ls)[j]? = some (.ref (n + j))
  | l :: r, n, 0, _ => rfl
  | l :: r, n, j + 1, h => by
    have z := itV_at (ls := r) (n := n + 1) (j := j) (by simpa using h)
    rw [show n + (j + 1) = n + 1 + j by omega]
    exact z
theorem itV_len : ∀ {ls : List Addr} {n : Nat}, (itV n ls).length = ls.length
  | [], _ => rfl
  | l :: r, n => by
    show (itV (n + 1) r).length + 1 = _
    rw [itV_len]
    rfl
section
variable {prog : Program} {w : World} {A : Around} {E : Value → Shared → Prop}
theorem iterAll_go {f : Value → Array Value → Sem (ForInStep (Array Value))} (hf : ∀ x a, f x a = (do let v ← holding a.toList (pyIter x); pure (.yield (a.push v)))) : ∀ (ls : List Addr) (acc : Array Value) (s : Shared) (Q : Array Value → Shared → Prop),
    (∀ l ∈ ls, ∃ xs, s.heap.IsTuple l xs) → Q (acc ++ (itV s.heap.objs.size ls).toArray) { s with heap := itH s.heap ls } → wpAny (model prog w) A (forIn (ls.map Value.ref) acc f) Q E s
  | [], acc, s, Q, _, h => by
    rw [List.map_nil, List.forIn_nil]
    refine wpAny_pure ?_
    have e : acc ++ (itV s.heap.objs.size []).toArray = acc := by simp [itV]
    rw [e] at h
    exact h
  | l :: r, acc, s, Q, ht, h => by
    rw [List.map_cons, List.forIn_cons, hf]
    obtain ⟨xs, hl⟩ := ht l List.mem_cons_self
    refine wpAny_bind (wpAny_bind (wpAny_holding (wpAny_pyIter_tuple hl (wpAny_pure ?_))))
    refine iterAll_go hf r _ _ Q (fun b hb => ?_) ?_
    · obtain ⟨ys, z⟩ := ht b (List.mem_cons_of_mem _ hb)
      exact ⟨ys, z.push _⟩
    · have e : (acc.push (Value.ref s.heap.objs.size)) ++ (itV (s.heap.push (tiO l)).objs.size r).toArray = acc ++ (itV s.heap.objs.size (l :: r)).toArray := by
        rw [Heap.size_push]
        apply Array.toList_inj.mp
        simp [itV]
      show Q ((acc.push (Value.ref s.heap.objs.size)) ++ (itV (s.heap.push (tiO l)).objs.size r).toArray) { s with heap := itH (s.heap.push (tiO l)) r }
      rw [e]
      exact h
theorem iterAll_wp {ls : List Addr} {s : Shared} {Q : List Value → Shared → Prop} (ht : ∀ l ∈ ls, ∃ xs, s.heap.IsTuple l xs) (h : Q (itV s.heap.objs.size ls) { s with heap := itH s.heap ls }) :
    wpAny (model prog w) A (Builtin.SmallTypes.iterAll (ls.map Value.ref)) Q E s := by
  unfold Builtin.SmallTypes.iterAll
  refine wpAny_bind (iterAll_go (fun x a => rfl) ls #[] s _ ht (wpAny_pure ?_))
  have e : (#[] ++ (itV s.heap.objs.size ls).toArray : Array Value).toList = itV s.heap.objs.size ls := by simp
  show Q (#[] ++ (itV s.heap.objs.size ls).toArray : Array Value).toList _
  rw [e]
  exact h
end
abbrev zN3 (h : Heap) (ls : List Addr) : Heap := (itH h ls).push { cls := .type "tuple", data := .seq (itV h.objs.size ls).toArray }
abbrev zN4 (h : Heap) (ls : List Addr) : Heap := (zN3 h ls).push { cls := .type "tuple", data := .seq ((itV h.objs.size ls).map fun _ => Value.none).toArray }
abbrev zN5 (h : Heap) (ls : List Addr) : Heap := (zN4 h ls).push { cls := .type "zip", data := .fields #[.none, .bool false, .bool false, .ref (itH h ls).objs.size, .ref (zN3 h ls).objs.size] }
theorem meets_zipN (ls : List Addr) (hn : ls.length ≤ 100) :
    Meets (Builtin.«zip.__new__» ⟨.type "zip" :: ls.map Value.ref, []⟩) (fun _ R s => (∀ l ∈ ls, ∃ xs, s.heap.IsTuple l xs) ∧ R (.ok (.ret (.ref (zN4 s.heap ls).objs.size))) { s with heap := zN5 s.heap ls }) :=
  .of_wp fun prog w A R s h => by
    obtain ⟨hp, g, d, tk, os⟩ := s
    obtain ⟨ht, h⟩ := h
    have ht : ∀ l ∈ ls, ∃ xs, Heap.IsTuple (Shared.heap ⟨hp, g, d, tk, os⟩) l xs := ht
    have hsub := sub_zip
    unfold Builtin.«zip.__new__»
    refine wpAny_bind (wpAny_of_eq (a := ((.type "zip" : Value), ls.map Value.ref)) ?_ ?_)
    · unfold Builtin.SmallTypes.newClass
      show (isType (.type "zip") >>= _) = _
      rw [show isType (.type "zip") = pure true from rfl]
      show (isSubtype (.type "zip") (.type "zip") >>= _) = _
      rw [hsub]
      rfl
    dsimp only
    rw [if_neg (by simp)]
    have z1 : (itV hp.objs.size ls).length ≤ sizeLine := by rw [itV_len]; exact Nat.le_trans hn (by decide)
    have z2 : ((itV hp.objs.size ls).map fun _ => Value.none).length ≤ sizeLine := by rw [List.length_map]; exact z1
    refine wpAny_bind (iterAll_wp ht (wpAny_bind (wpAny_newTuple (wpAny_bind (wpAny_newTuple (wpAny_bind ?_) z2)) z1)))
    show wpAny _ _ (newObj (.type "zip") (.fields #[.none, .bool false, .bool false, .ref (itH hp ls).objs.size, .ref (zN3 hp ls).objs.size])) _ _ _
    exact wpAny_newObj_type (wpAny_pure ⟨_, rfl, h⟩) (by size_fits)
/-- the checks of the call's form -/
theorem zip_checks : ∀ us : List Value, 2 ≤ us.length → us.length ≤ 4 → checkTypeCall "zip" ⟨us, []⟩ = pure () ∧ checkBuiltinCall "zip.__new__" ⟨.type "zip" :: us, []⟩ = pure () ∧ ∀ obj, argsOk "object.__init__" ⟨obj :: us, []⟩
  | [a, b], _, _ => ⟨F.typeCall_zip_2 _ _, F.newCall_zip_2 _ _, fun obj => F.args_object_init_3 obj _ _⟩
  | [a, b, c], _, _ => ⟨by kernel_rfl, by kernel_rfl, fun obj => by unfold argsOk; kernel_rfl⟩
  | [a, b, c, d], _, _ => ⟨by kernel_rfl, by kernel_rfl, fun obj => by unfold argsOk; kernel_rfl⟩
  | [], h, _ => absurd h (by simp)
  | [_], h, _ => absurd h (by simp)
  | _ :: _ :: _ :: _ :: _ :: _, _, h => absurd h (by simp)
section
variable {prog : Program} {w : World} {A : Around} {E : Value → Shared → Prop} {s : Shared}
theorem call_zipN {ls : List Addr} {Q : Value → Shared → Prop} (h2 : 2 ≤ ls.length) (h4 : ls.length ≤ 4) (ht : ∀ l ∈ ls, ∃ xs, s.heap.IsTuple l xs)
    (h : Q (.ref (zN4 s.heap ls).objs.size) { s with heap := zN5 s.heap ls }) : wpAny (model prog w) A (call (.type "zip") (ls.map Value.ref)) Q E s := by
  obtain ⟨c1, c2, c3⟩ := zip_checks (ls.map Value.ref) (by simpa using h2) (by simpa using h4)
  exact callType_new F.called_zip (by decide) c1 c2 c3 F.entry_zip_new (meets_zipN ls (by omega)) ⟨ht, ⟨_, Heap.get?_push_size _ rfl, rfl⟩, h⟩
end
abbrev ZR (h : Heap) (z TI TO : Addr) (f0 : Value) (f1 : Bool) : Prop := h.get? z = some { cls := .type "zip", dict := none, data := .fields #[f0, .bool f1, .bool false, .ref TI, .ref TO], slots := #[] }
abbrev TupO (h : Heap) (T : Addr) (us : List Value) : Prop := h.get? T = some { cls := .type "tuple", data := .seq us.toArray }
/-- the iterators stand at i, the first j of them one further -/
def ItsJ (h : Heap) (its ls : List Addr) (i j : Nat) : Prop := ∀ (m : Nat) (it l : Addr), its[m]? = some it → ls[m]? = some l → h.IsTupleIter it l (if m < j then i + 1 else i)
def Fld0 (f0 : Value) : Prop := f0 = .none ∨ ∃ T : Nat, f0 = rawInt T
theorem take_set {α : Type} {xs olds : List α} {j : Nat} {x : α} (h : xs[j]? = some x) (l : olds.length = xs.length) : (xs.take j ++ olds.drop j).set j x = xs.take (j + 1) ++ olds.drop (j + 1) := by
  have lt : j < xs.length := (List.getElem?_eq_some_iff.mp h).1
  have e1 : (xs.take j).length = j := by rw [List.length_take]; omega
  rw [List.set_append_right _ _ (by omega), e1, Nat.sub_self, List.drop_eq_getElem_cons (show j < olds.length by omega), List.set_cons_zero, List.take_add_one, h]
  simp
theorem ItsJ.start {h : Heap} {its ls : List Addr} {i n : Nat} (q : ItsJ h its ls i n) (l : its.length ≤ n) : ItsJ h its ls (i + 1) 0 := fun m it l' e1 e2 => by
  have z := q m it l' e1 e2
  rw [if_pos (Nat.lt_of_lt_of_le (List.getElem?_eq_some_iff.mp e1).1 l)] at z
  rw [if_neg (by omega)]
  exact z
/-- one of them moves -/
theorem ItsJ.next {h h' : Heap} {its ls : List Addr} {i j : Nat} {it l : Addr} (q : ItsJ h its ls i j) (nd : its.Nodup) (e1 : its[j]? = some it) (e2 : ls[j]? = some l) (k : ∀ b ∈ its, b ≠ it → ∀ o, h.get? b = some o → h'.get? b = some o) (a : h'.IsTupleIter it l (i + 1)) : ItsJ h' its ls i (j + 1) := fun m b l' f1 f2 => by
  by_cases c : m = j
  · subst c
    rw [e1] at f1
    rw [e2] at f2
    cases f1
    cases f2
    rw [if_pos (Nat.lt_succ_self _)]
    exact a
  · have z := q m b l' f1 f2
    have n : b ≠ it := fun z => by
      rw [z] at f1
      exact c ((List.getElem?_inj (List.getElem?_eq_some_iff.mp f1).1 nd).mp (f1.trans e1.symm))
    have e : (if m < j + 1 then i + 1 else i) = (if m < j then i + 1 else i) := by
      by_cases d : m < j
      · rw [if_pos d, if_pos (by omega)]
      · rw [if_neg d, if_neg (by omega)]
    rw [e]
    exact z.at fun o q => k b (List.mem_of_getElem? f1) n o q
section
variable {prog : Program} {w : World} {A : Around} {E : Value → Shared → Prop} {s : Shared} {z TI TO : Addr} {its ls : List Addr}
theorem free_or_held {f0 : Value} {f1 : Bool} {Q : Bool → Shared → Prop} (hz : ZR s.heap z TI TO f0 f1) (hf : Fld0 f0) (yes : Q true s) (no : ∀ h1, ZR h1 z TI TO f0 true → Heap.SameBut z s.heap h1 → Q false { s with heap := h1 }) :
    wpAny (model prog w) A (Builtin.SmallTypes.ownedTupleIsFree (.ref z)) Q E s := by
  rcases hf with rfl | ⟨T, rfl⟩
  · unfold Builtin.SmallTypes.ownedTupleIsFree
    exact wpAny_bind (wpAny_field hz rfl (x := .none) rfl (wpAny_pure yes))
  · cases e : s.heap.get? T with
    | some o => exact wpAny_tupleHeld_zip hz e no
    | none =>
      unfold Builtin.SmallTypes.ownedTupleIsFree
      refine wpAny_bind (wpAny_field hz rfl (x := rawInt T) rfl ?_)
      show wpAny _ _ (loadIfAlive ((T : Int).toNat) >>= _) _ _ _
      rw [Int.toNat_natCast]
      refine wpAny_bind ?_
      have k : (fun (a : Option Obj) (s' : Shared) => wpAny (model prog w) A (if a.isNone = true then pure true else do
          if (← field (.ref z) 1) != .bool true then setField (.ref z) 1 (.bool true)
          return false) Q E s') (s.heap.get? T) s := by
        rw [e]
        exact wpAny_pure yes
      exact fun _ _ _ => k
theorem zipN_item {f0 : Value} {f1 : Bool} {i : Nat} {olds xs : List Value} {Q : Value → Shared → Prop} (ap : (z :: TI :: TO :: its).Nodup) (al : ∀ l ∈ ls, l ∉ z :: TI :: TO :: its) (ne : its ≠ []) (few : its.length ≤ 100) (ll : its.length = ls.length)
    (hz : ZR s.heap z TI TO f0 f1) (hf : Fld0 f0) (hTI : TupO s.heap TI (its.map Value.ref)) (hTO : TupO s.heap TO olds) (lo : olds.length = its.length) (hi : ItsJ s.heap its ls i 0) (lx : xs.length = its.length)
    (hx : ∀ (j : Nat) (l : Addr) (x : Value), ls[j]? = some l → xs[j]? = some x → ∃ items, s.heap.IsTuple l items ∧ items[i]? = some x)
    (hQ : ∀ h' g0 g1 olds', ZR h' z TI TO g0 g1 → Fld0 g0 → TupO h' TI (its.map Value.ref) → TupO h' TO olds' → olds'.length = its.length → ItsJ h' its ls (i + 1) 0 → TupO h' s.heap.objs.size xs → h'.objs.size = s.heap.objs.size + 1 →
      (∀ c o, c ∉ z :: TI :: TO :: its → s.heap.get? c = some o → h'.get? c = some o) → Q (.ref s.heap.objs.size) { s with heap := h' }) :
    wpAny (model prog w) A (Builtin.«zip.__next__» ⟨[.ref z], []⟩) (fun fin s' => ∃ v, fin = .done (.ret v) ∧ Q v s') E s := by
  show wpAny _ _ (field (.ref z) 2 >>= _) _ _ _
  refine wpAny_bind (wpAny_field hz rfl (x := .bool false) rfl ?_)
  show wpAny _ _ (field (.ref z) 3 >>= _) _ _ _
  refine wpAny_bind (wpAny_field hz rfl (x := .ref TI) rfl ?_)
  refine wpAny_bind (wpAny_seqItems hTI rfl ?_)
  have emp : ((its.map Value.ref).toArray).isEmpty = false := by
    cases its with
    | nil => exact absurd rfl ne
    | cons a r => simp
  simp only [emp, Bool.false_eq_true, if_false]
  have nd : (z ≠ TI ∧ z ≠ TO ∧ z ∉ its) ∧ (TI ≠ TO ∧ TI ∉ its) ∧ TO ∉ its ∧ its.Nodup := by simpa [not_or] using ap
  refine wpAny_bind (free_or_held hz hf ?_ fun h1 hz1 sb1 => ?_)
  · simp only [if_true]
    refine wpAny_bind (wpAny_rule ?_)
    refine wpAny_bind (wpAny_field hz rfl (x := .ref TO) rfl ?_)
    refine wpAny_bind (wpAny_setField_rec hz (by simp) fun h1 hz1 sb1 => ?_)
    replace hz1 : ZR h1 z TI TO .ellipsis f1 := hz1
    refine wpAny_bind (wpAny_mono (forIn_wp (its.map Value.ref).zipIdx (fun _ => (none, ())) (fun j s' => ∃ h, s' = { s with heap := h } ∧ h.objs.size = s.heap.objs.size ∧ ZR h z TI TO .ellipsis f1 ∧ TupO h TI (its.map Value.ref) ∧
      TupO h TO (xs.take j ++ olds.drop j) ∧ ItsJ h its ls i j ∧ ∀ c o, c ∉ z :: TI :: TO :: its → s.heap.get? c = some o → h.get? c = some o) _ ?_ ?_) ?_ fun _ _ e => e)
    · rintro j ⟨v, k⟩ s2 hj ⟨h, rfl, sz, hz2, hTI2, hTO2, hi2, kp⟩
      obtain ⟨it, e1, rfl, rfl⟩ : ∃ it, its[j]? = some it ∧ v = .ref it ∧ k = j := by
        rw [List.getElem?_zipIdx, List.getElem?_map] at hj
        cases q : its[j]? with
        | none => rw [q] at hj; cases hj
        | some it =>
          rw [q] at hj
          simp at hj
          exact ⟨it, rfl, hj.1.symm, hj.2.symm⟩
      have lt : k < its.length := (List.getElem?_eq_some_iff.mp e1).1
      have e2 : ls[k]? = some ls[k] := List.getElem?_eq_getElem (by omega)
      have e3 : xs[k]? = some xs[k] := List.getElem?_eq_getElem (by omega)
      obtain ⟨items, hl, hx2⟩ := hx k _ _ e2 e3
      have ml := al _ (List.mem_of_getElem? e2)
      have mi := List.mem_of_getElem? e1
      have it0 := hi2 k it _ e1 e2
      rw [if_neg (Nat.lt_irrefl _)] at it0
      have nTO : TO ≠ it := fun q => nd.2.2.1 (by rw [q]; exact mi)
      have nTI : TI ≠ it := fun q => nd.2.1.2 (by rw [q]; exact mi)
      have nz : z ≠ it := fun q => nd.1.2.2 (by rw [q]; exact mi)
      refine wpAny_bind (wpAny_onRaise ?_)
      show wpAny _ _ (Builtin.SmallTypes.nextOf (.ref it) >>= _) _ _ _
      refine wpAny_bind (RZ.nextOf_tuple_item (s := { s with heap := h }) it0 (hl.at fun o q => kp _ o ml q) hx2 fun h3 it3 sb3 => wpAny_pure ?_)
      have hTO3 : TupO h3 TO (xs.take k ++ olds.drop k) := (sb3.2 _ nTO).trans hTO2
      refine wpAny_bind (wpAny_seqItems hTO3 rfl ?_)
      have lz : (xs.take k ++ olds.drop k).length ≤ 100 := by rw [List.length_append, List.length_take, List.length_drop]; omega
      refine wpAny_bind (wpAny_updateSeq hTO3 rfl ?_ (by rw [List.size_toArray]; exact Nat.le_trans lz (by decide)) (by rw [Array.size_setIfInBounds, List.size_toArray]; exact Nat.le_trans lz (by decide)))
      refine wpAny_bind (wpAny_letGo (wpAny_pure ⟨rfl, _, rfl, ?_, ?_, ?_, ?_, ?_, ?_⟩))
      · rw [(Heap.SameBut.update ..).1, sb3.1, sz]
      · exact ((Heap.SameBut.update ..).2 _ nd.1.2.1).trans ((sb3.2 _ nz).trans hz2)
      · exact ((Heap.SameBut.update ..).2 _ nd.2.1.1).trans ((sb3.2 _ nTI).trans hTI2)
      · show (Heap.update _ TO _).get? TO = _
        rw [Heap.get?_update_self _ hTO3 rfl]
        simp only [Obj.mapSeq]
        rw [← take_set e3 (by omega), ← List.setIfInBounds_toArray]
        rw [if_pos (by simp)]
      · refine hi2.next nd.2.2.2 e1 e2 (fun b hb nb o q => ?_) (it3.at fun o q => ((Heap.SameBut.update ..).2 _ (Ne.symm nTO)).trans q)
        exact ((Heap.SameBut.update ..).2 _ (fun q => nd.2.2.1 (by rw [← q]; exact hb))).trans ((sb3.2 _ nb).trans q)
      · intro c o hc q
        simp only [List.mem_cons, not_or] at hc
        exact ((Heap.SameBut.update ..).2 _ hc.2.2.1).trans ((sb3.2 _ (fun y => hc.2.2.2 (by rw [y]; exact mi))).trans (kp c o (by simp only [List.mem_cons, not_or]; exact hc) q))
    · refine ⟨h1, rfl, sb1.1, hz1, (sb1.2 _ (Ne.symm nd.1.1)).trans hTI, (sb1.2 _ (Ne.symm nd.1.2.1)).trans hTO, fun m it l f1 f2 => ?_, fun c o hc q => ?_⟩
      · exact (hi m it l f1 f2).at fun o q => (sb1.2 _ (fun y => nd.1.2.2 (by rw [← y]; exact List.mem_of_getElem? f1))).trans q
      · simp only [List.mem_cons, not_or] at hc
        exact (sb1.2 _ hc.1).trans q
    · rintro t s2 ⟨rfl, h, rfl, sz, hz2, hTI2, hTO2, hi2, kp⟩
      have ez : (its.map Value.ref).zipIdx.length = its.length := by simp
      rw [ez] at hTO2 hi2
      rw [← lx, List.take_length, lx, ← lo, List.drop_length, List.append_nil] at hTO2
      dsimp only
      refine wpAny_bind (wpAny_seqItems hTO2 rfl ?_)
      have lxz : xs.length ≤ sizeLine := Nat.le_trans (show xs.length ≤ 100 by omega) (by decide)
      show wpAny _ _ (newTuple xs.toArray.toList >>= _) _ _ _
      rw [show xs.toArray.toList = xs by simp]
      refine wpAny_bind (wpAny_newTuple ?_ lxz)
      have zlt : z < h.objs.size := Heap.lt_size hz2
      have hz3 : ZR (h.push { cls := .type "tuple", data := .seq xs.toArray }) z TI TO .ellipsis f1 := Heap.get?_push_of_some _ hz2
      refine wpAny_bind ?_
      show wpAny _ _ (Builtin.SmallTypes.ownedTupleHandOut (.ref z) (.ref h.objs.size)) _ _ _
      unfold Builtin.SmallTypes.ownedTupleHandOut
      refine wpAny_bind (wpAny_setField_rec hz3 (by simp) fun h4 hz4 sb4 => ?_)
      replace hz4 : ZR h4 z TI TO (rawInt h.objs.size) f1 := hz4
      refine wpAny_setField_rec hz4 (by simp) fun h5 hz5 sb5 => ?_
      replace hz5 : ZR h5 z TI TO (rawInt h.objs.size) false := hz5
      have up : ∀ c o, c ≠ z → h.get? c = some o → h5.get? c = some o := fun c o n e => (sb5.2 _ n).trans ((sb4.2 _ n).trans (Heap.get?_push_of_some _ e))
      have hT5 : TupO h5 h.objs.size xs := (sb5.2 _ (Nat.ne_of_gt zlt)).trans ((sb4.2 _ (Nat.ne_of_gt zlt)).trans (Heap.get?_push_size _ rfl))
      have s5 : h5.objs.size = h.objs.size + 1 := by rw [sb5.1, sb4.1, Heap.size_push]
      refine wpAny_pure ⟨_, rfl, ?_⟩
      rw [sz] at hT5 s5 ⊢
      refine hQ h5 _ _ xs hz5 (.inr ⟨_, rfl⟩) (up _ _ (Ne.symm nd.1.1) hTI2) (up _ _ (Ne.symm nd.1.2.1) hTO2) lx ?_ hT5 s5 fun c o hc q => up c o (fun y => hc (by rw [y]; exact List.mem_cons_self)) (kp c o hc q)
      intro m it l g1 g2
      exact (hi2.start (Nat.le_refl _) m it l g1 g2).at fun o q => up it o (fun y => nd.1.2.2 (by rw [← y]; exact List.mem_of_getElem? g1)) q
  · simp only [Bool.false_eq_true, if_false]
    refine wpAny_bind ?_
    rw [← Array.forIn_toList]
    show wpAny _ _ (forIn (its.map Value.ref) _ _) _ _ _
    refine wpAny_mono (forIn_wp (its.map Value.ref) (fun j => (none, (xs.take j).toArray)) (fun j s' => ∃ h, s' = { s with heap := h } ∧ h.objs.size = s.heap.objs.size ∧ ZR h z TI TO f0 true ∧ TupO h TI (its.map Value.ref) ∧
      TupO h TO olds ∧ ItsJ h its ls i j ∧ ∀ c o, c ∉ z :: TI :: TO :: its → s.heap.get? c = some o → h.get? c = some o) _ ?_ ?_) ?_ fun _ _ e => e
    · rintro k v s2 hj ⟨h, rfl, sz, hz2, hTI2, hTO2, hi2, kp⟩
      obtain ⟨it, e1, rfl⟩ : ∃ it, its[k]? = some it ∧ v = .ref it := by
        rw [List.getElem?_map] at hj
        cases q : its[k]? with
        | none => rw [q] at hj; cases hj
        | some it =>
          rw [q] at hj
          exact ⟨it, rfl, (Option.some.inj hj).symm⟩
      have lt : k < its.length := (List.getElem?_eq_some_iff.mp e1).1
      have e2 : ls[k]? = some ls[k] := List.getElem?_eq_getElem (by omega)
      have e3 : xs[k]? = some xs[k] := List.getElem?_eq_getElem (by omega)
      obtain ⟨items, hl, hx2⟩ := hx k _ _ e2 e3
      have ml := al _ (List.mem_of_getElem? e2)
      have mi := List.mem_of_getElem? e1
      have it0 := hi2 k it _ e1 e2
      rw [if_neg (Nat.lt_irrefl _)] at it0
      refine wpAny_bind (wpAny_holding ?_)
      show wpAny _ _ (Builtin.SmallTypes.nextOf (.ref it) >>= _) _ _ _
      refine wpAny_bind (RZ.nextOf_tuple_item (s := { s with heap := h }) it0 (hl.at fun o q => kp _ o ml q) hx2 fun h3 it3 sb3 => wpAny_pure ?_)
      refine wpAny_pure ⟨?_, h3, rfl, sb3.1.trans sz, (sb3.2 _ (fun q => nd.1.2.2 (by rw [q]; exact mi))).trans hz2, (sb3.2 _ (fun q => nd.2.1.2 (by rw [q]; exact mi))).trans hTI2,
        (sb3.2 _ (fun q => nd.2.2.1 (by rw [q]; exact mi))).trans hTO2, hi2.next nd.2.2.2 e1 e2 (fun b hb nb o q => (sb3.2 _ nb).trans q) it3, fun c o hc q => ?_⟩
      · show ForInStep.yield (none, ((xs.take k).toArray).push xs[k]) = _
        rw [List.take_add_one, e3]
        simp
      · exact (sb3.2 _ (fun y => hc (by rw [y]; simp [mi]))).trans (kp c o hc q)
    · refine ⟨h1, rfl, sb1.1, hz1, (sb1.2 _ (Ne.symm nd.1.1)).trans hTI, (sb1.2 _ (Ne.symm nd.1.2.1)).trans hTO, fun m it l f1 f2 => ?_, fun c o hc q => ?_⟩
      · exact (hi m it l f1 f2).at fun o q => (sb1.2 _ (fun y => nd.1.2.2 (by rw [← y]; exact List.mem_of_getElem? f1))).trans q
      · simp only [List.mem_cons, not_or] at hc
        exact (sb1.2 _ hc.1).trans q
    · rintro t s2 ⟨rfl, h, rfl, sz, hz2, hTI2, hTO2, hi2, kp⟩
      rw [List.length_map] at hi2
      have lxz : xs.length ≤ sizeLine := Nat.le_trans (show xs.length ≤ 100 by omega) (by decide)
      dsimp only
      have ex : xs.take (its.map Value.ref).length = xs := by rw [List.length_map, ← lx, List.take_length]
      rw [ex]
      refine wpAny_bind (wpAny_newTuple ?_ lxz)
      refine wpAny_pure ⟨_, rfl, ?_⟩
      show Q (.ref h.objs.size) _
      have s5 : (h.push { cls := .type "tuple", data := .seq xs.toArray }).objs.size = h.objs.size + 1 := Heap.size_push _ _
      have hT5 : TupO (h.push { cls := .type "tuple", data := .seq xs.toArray }) h.objs.size xs := Heap.get?_push_size _ rfl
      rw [sz] at s5 hT5 ⊢
      refine hQ _ _ _ olds (Heap.get?_push_of_some _ hz2) hf (Heap.get?_push_of_some _ hTI2) (Heap.get?_push_of_some _ hTO2) lo ?_ hT5 s5 fun c o hc q => Heap.get?_push_of_some _ (kp c o hc q)
      intro m it l g1 g2
      exact (hi2.start (Nat.le_refl _) m it l g1 g2).at fun o q => Heap.get?_push_of_some _ q
theorem zipN_end {f0 : Value} {f1 : Bool} {i : Nat} {it0 l0 : Addr} {itr : List Addr} {items : Array Value} {Q : Fin → Shared → Prop} (hh : A.handled = none) (ap : (z :: TI :: TO :: (it0 :: itr)).Nodup) (al : l0 ∉ z :: TI :: TO :: (it0 :: itr))
    (hz : ZR s.heap z TI TO f0 f1) (hf : Fld0 f0) (hTI : TupO s.heap TI ((it0 :: itr).map Value.ref)) (hi : s.heap.IsTupleIter it0 l0 i) (hl : s.heap.IsTuple l0 items) (he : items[i]? = none)
    (hE : ∀ h' e, (∀ c o, c ∉ z :: TI :: TO :: (it0 :: itr) → s.heap.get? c = some o → h'.get? c = some o) → (∃ o, h'.get? e = some o ∧ o.cls = .type "StopIteration") → E (.ref e) { s with heap := h' }) :
    wpAny (model prog w) A (Builtin.«zip.__next__» ⟨[.ref z], []⟩) Q E s := by
  have nd : z ≠ it0 := fun q => by
    rw [q] at ap
    simp at ap
  have ml : l0 ≠ z := fun q => al (by rw [q]; exact List.mem_cons_self)
  show wpAny _ _ (field (.ref z) 2 >>= _) _ _ _
  refine wpAny_bind (wpAny_field hz rfl (x := .bool false) rfl ?_)
  show wpAny _ _ (field (.ref z) 3 >>= _) _ _ _
  refine wpAny_bind (wpAny_field hz rfl (x := .ref TI) rfl ?_)
  refine wpAny_bind (wpAny_seqItems hTI rfl ?_)
  have emp : (((it0 :: itr).map Value.ref).toArray).isEmpty = false := by simp
  simp only [emp, Bool.false_eq_true, if_false]
  refine wpAny_bind (free_or_held hz hf ?_ fun h1 hz1 sb1 => ?_)
  · simp only [if_true]
    refine wpAny_bind (wpAny_rule ?_)
    refine wpAny_bind (wpAny_field hz rfl (x := .ref TO) rfl ?_)
    refine wpAny_bind (wpAny_setField_rec hz (by simp) fun h1 hz1 sb1 => ?_)
    replace hz1 : ZR h1 z TI TO .ellipsis f1 := hz1
    refine wpAny_bind ?_
    simp only [List.map_cons, List.zipIdx_cons, List.forIn_cons]
    refine wpAny_bind (wpAny_bind (wpAny_onRaise ?_))
    show wpAny _ _ (Builtin.SmallTypes.nextOf (.ref it0) >>= _) _ _ _
    refine wpAny_bind (RZ.nextOf_tuple_end (s := { s with heap := h1 }) hh (hi.at fun o q => (sb1.2 _ (Ne.symm nd)).trans q) (hl.at fun o q => (sb1.2 _ ml).trans q) he fun h2 e k2 ⟨oe, ho, hc⟩ => ?_)
    have hz2 : ZR h2 z TI TO .ellipsis f1 := k2 _ _ nd hz1
    have ez : e ≠ z := fun x => by
      subst x
      rw [hz2] at ho
      cases ho
      simp at hc
    refine wpAny_setField_rec hz2 (by simp) fun h3 _ sb3 => hE h3 e (fun c o hc q => ?_) ⟨oe, (sb3.2 _ ez).trans ho, hc⟩
    simp only [List.mem_cons, not_or] at hc
    exact (sb3.2 _ hc.1).trans (k2 _ _ hc.2.2.2.1 ((sb1.2 _ hc.1).trans q))
  · simp only [Bool.false_eq_true, if_false]
    refine wpAny_bind ?_
    rw [← Array.forIn_toList]
    simp only [List.map_cons, List.forIn_cons]
    refine wpAny_bind (wpAny_bind (wpAny_holding ?_))
    show wpAny _ _ (Builtin.SmallTypes.nextOf (.ref it0) >>= _) _ _ _
    refine wpAny_bind (RZ.nextOf_tuple_end (s := { s with heap := h1 }) hh (hi.at fun o q => (sb1.2 _ (Ne.symm nd)).trans q) (hl.at fun o q => (sb1.2 _ ml).trans q) he fun h2 e k2 ho => hE h2 e (fun c o hc q => ?_) ho)
    simp only [List.mem_cons, not_or] at hc
    exact k2 _ _ hc.2.2.2.1 ((sb1.2 _ hc.1).trans q)
end
/-- the tuples at ls side by side, the items in new tuples -/
def ItzN (K : PySem.W.Frag) (ls : List Addr) : It :=
  ⟨fun i H => ∀ a ∈ ls, ∃ xs x, SqT K H a xs ∧ xs[i]? = some x,
    fun i H v H' => ∃ (T : Addr) (vs : List V), v = .ref T ∧ H T = none ∧ H' = upd H T (.tup vs) ∧ vs.length = ls.length ∧ ∀ (j : Nat) (a : Addr) (xs : List V), ls[j]? = some a → SqT K H a xs → xs[i]? = vs[j]?,
    fun i H => ∃ a r xs, ls = a :: r ∧ SqT K H a xs ∧ xs.length ≤ i⟩
/-- what stands in each of them at i -/
theorem cols {X : Cx} {pins : List (Addr × Obj)} {σ : L2.St} {H : Hp} {s : Shared} {i : Nat} (I : Inv X pins σ H s) : ∀ {ls : List Addr}, (∀ a ∈ ls, ∃ xs x, SqT X.K H a xs ∧ xs[i]? = some x) →
    ∃ (vs : List V) (us : List Value), Vals vs us ∧ vs.length = ls.length ∧ us.length = ls.length ∧ (∀ (j : Nat) (a : Addr) (xs : List V), ls[j]? = some a → SqT X.K H a xs → xs[i]? = vs[j]?) ∧
      ∀ (j : Nat) (l : Addr) (x : Value), ls[j]? = some l → us[j]? = some x → ∃ items, s.heap.IsTuple l items ∧ items[i]? = some x
  | [], _ => ⟨[], [], .nil, rfl, rfl, fun j a xs e => by simp at e, fun j l x e => by simp at e⟩
  | a :: r, h => by
    obtain ⟨vs, us, rv, l1, l2, k1, k2⟩ := cols I (ls := r) fun b hb => h b (List.mem_cons_of_mem _ hb)
    obtain ⟨xs, x, sq, hx⟩ := h a List.mem_cons_self
    obtain ⟨its, rv2, tp, _⟩ := I.tuple sq
    obtain ⟨u, hu, ru⟩ := rv2.get hx
    refine ⟨x :: vs, u :: us, .cons ru rv, by simp [l1], by simp [l2], fun j b ys e q => ?_, fun j b y e q => ?_⟩
    · cases j with
      | zero =>
        obtain rfl : a = b := Option.some.inj e
        rw [I.tuple_inj q sq]
        exact hx
      | succ j => exact k1 j b ys e q
    · cases j with
      | zero =>
        obtain rfl : a = b := Option.some.inj e
        obtain rfl : u = y := Option.some.inj q
        exact ⟨_, tp, by simpa using hu⟩
      | succ j => exact k2 j b y e q
theorem turn_zipN {P : Program} {w : World} {K : PySem.W.Frag} {x : Str} {tpos : Pos} {z TI TO : Addr} {its ls : List Addr} (ap : (z :: TI :: TO :: its).Nodup) (al : ∀ l ∈ ls, l ∉ z :: TI :: TO :: its) (ne : its ≠ []) (few : its.length ≤ 100) (ll : its.length = ls.length) :
    Turn P w K (.Name x tpos) (ItzN K ls) (z :: TI :: TO :: its) z (fun i h => ∃ f0 f1 olds, ZR h z TI TO f0 f1 ∧ Fld0 f0 ∧ TupO h TI (its.map Value.ref) ∧ TupO h TO olds ∧ olds.length = its.length ∧ ItsJ h its ls i 0) where
  mem := List.mem_cons_self
  obj := fun i h ⟨f0, f1, olds, hz, hf, hTI, hTO, lo, hi⟩ c hc => by
    rcases List.mem_cons.mp hc with rfl | hc
    · exact ⟨_, hz, fun v q => nomatch q⟩
    rcases List.mem_cons.mp hc with rfl | hc
    · exact ⟨_, hTI, fun v q => nomatch q⟩
    rcases List.mem_cons.mp hc with rfl | hc
    · exact ⟨_, hTO, fun v q => nomatch q⟩
    · obtain ⟨m, lt, e⟩ := List.getElem_of_mem hc
      obtain ⟨o, e1, _, d1⟩ := hi m c ls[m] (by rw [← e]; exact List.getElem?_eq_getElem lt) (List.getElem?_eq_getElem (by omega))
      exact ⟨o, e1, fun v q => by rw [d1] at q; cases q⟩
  keep := fun i h h' ⟨f0, f1, olds, hz, hf, hTI, hTO, lo, hi⟩ k => by
    refine ⟨f0, f1, olds, k z (by simp) _ hz, hf, k TI (by simp) _ hTI, k TO (by simp) _ hTO, lo, fun m it l e1 e2 => ?_⟩
    exact (hi m it l e1 e2).at fun o q => k it (by simp [List.mem_of_getElem? e1]) o q
  item := by
    rintro X hP hw hK hc i pins s σ H E I hfp ⟨f0, f1, olds, hz, hf, hTI, hTO, lo, hi⟩ hg
    subst hP hw hK
    obtain ⟨vs, us, rv, l1, l2, k1, k2⟩ := cols I hg
    have hT : s.TypeIs (.ref z) "zip" := ⟨_, hz, rfl⟩
    unfold pyNext
    refine wpAny_bind (wpAny_attempt (wpAny_callSpecial?_slot (name := Str.ofString "__next__") hT F.slot_zip_next (wpAny_call_entry F.slot_zip_next hT F.entry_zip_next
      (zipN_item (xs := us) ap al ne few ll hz hf hTI hTO lo hi (by omega) k2 fun h' g0 g1 olds' a1 a2 a3 a4 a5 a6 a7 a8 a9 => wpAny_pure ?_) (F.args_zip_next_1 _))))
    refine ⟨_, rfl, ?_⟩
    show wpAny _ _ (pure ()) _ _ _
    refine wpAny_pure ?_
    have new : ObjOk X.prog X.w (upd H s.heap.objs.size (.tup vs)) h' s.heap.objs.size (.tup vs) := ⟨by exact Nat.le_trans (show vs.length ≤ 100 by omega) (by decide), us, rv, ⟨_, a7, rfl, _, rfl⟩⟩
    have I1 : Inv X pins σ (upd H s.heap.objs.size (.tup vs)) { s with heap := h' } := I.turnedNew (t' := s.toks) (ch := z :: TI :: TO :: its) (fun c o hb q => a9 c o hb q) hfp (Nat.le_refl _) new
    refine ⟨.ref s.heap.objs.size, _, I1, rfl, ⟨_, vs, rfl, I.hok.fresh (Nat.le_refl _), rfl, l1, k1⟩, ⟨g0, g1, olds', a1, a2, a3, a4, a5, a6⟩, fun c hcm => ?_⟩
    have hlt : c < s.heap.objs.size := by
      rcases List.mem_cons.mp hcm with rfl | hc
      · exact Heap.lt_size hz
      rcases List.mem_cons.mp hc with rfl | hc
      · exact Heap.lt_size hTI
      rcases List.mem_cons.mp hc with rfl | hc
      · exact Heap.lt_size hTO
      · obtain ⟨m, lt, e⟩ := List.getElem_of_mem hc
        obtain ⟨o, e1, _, d1⟩ := hi m c ls[m] (by rw [← e]; exact List.getElem?_eq_getElem lt) (List.getElem?_eq_getElem (by omega))
        exact Heap.lt_size e1
    rw [upd_ne (Nat.ne_of_lt hlt)]
    exact (hfp c hcm).1
  done := by
    rintro X hP hw hK hc i pins s σ H E I hfp ⟨f0, f1, olds, hz, hf, hTI, hTO, lo, hi⟩ ⟨a, r, xs, rfl, sq, le⟩
    subst hP hw hK
    obtain ⟨itl, rv, tp, _⟩ := I.tuple sq
    have l1 := rv.length
    cases its with
    | nil => exact absurd rfl ne
    | cons it0 itr =>
      have hT : s.TypeIs (.ref z) "zip" := ⟨_, hz, rfl⟩
      have i0 : s.heap.IsTupleIter it0 a i := hi 0 it0 a rfl rfl
      unfold pyNext
      refine wpAny_bind (wpAny_attempt (wpAny_callSpecial?_slot (name := Str.ofString "__next__") hT F.slot_zip_next (wpAny_call_entry F.slot_zip_next hT F.entry_zip_next
        (zipN_end (I.ok.hd hc) ap (al a List.mem_cons_self) hz hf hTI i0 tp (by simp; omega) fun h' e hk he => ?_) (F.args_zip_next_1 _))))
      obtain ⟨o, ho, hc2⟩ := he
      refine wpAny_bind (wpAny_isInstance (T := "StopIteration") (b := true) ⟨o, ho, hc2⟩ isSubtype_stop ?_)
      exact wpAny_pure ⟨rfl, I.turnedL (t' := s.toks) (ch := z :: TI :: TO :: (it0 :: itr)) (fun c o hb q => hk c o hb q) hfp⟩
  self := fun A i s Q E ⟨f0, f1, olds, hz, _⟩ h => by
    have hT : s.TypeIs (.ref z) "zip" := ⟨_, hz, rfl⟩
    refine wpAny_pyIter_slot hT F.slot_zip_iter (wpAny_call_entry F.slot_zip_iter hT F.entry_zip_iter ?_ (F.args_zip_iter_1 _))
    show wpAny _ _ (ret (.ref z)) _ _ s
    exact wpAny_pure ⟨_, rfl, "zip", _, hT, F.slot_zip_next.lookup, h⟩
def itA (n : Nat) : List Addr → List Addr
  | [] => []
  | _ :: r => n :: itA (n + 1) r
theorem itA_map : ∀ {ls : List Addr} {n : Nat}, (itA n ls).map Value.ref = itV n ls
  | [], _ => rfl
  | l :: r, n => by
    show Value.ref n :: (itA (n + 1) r).map Value.ref = Value.ref n :: itV (n + 1) r
    rw [itA_map]
theorem itA_len {ls : List Addr} {n : Nat} : (itA n ls).length = ls.length := by rw [← List.length_map (f := Value.ref), itA_map, itV_len]
theorem itA_mem : ∀ {ls : List Addr} {n b : Nat}, b ∈ itA n ls → n ≤ b ∧ b < n + ls.length
  | l :: r, n, b, h => by
    rcases List.mem_cons.mp h with rfl | h
    · simp
    · have z := itA_mem (ls := r) h
      simp only [List.length_cons]
      omega
theorem itA_nodup : ∀ {ls : List Addr} {n : Nat}, (itA n ls).Nodup
  | [], _ => List.nodup_nil
  | l :: r, n => by
    refine List.nodup_cons.mpr ⟨fun h => ?_, itA_nodup⟩
    have z := itA_mem (ls := r) h
    omega
theorem itA_at {ls : List Addr} {n j it : Nat} (h : (itA n ls)[j]? = some it) : it = n + j ∧ j < ls.length := by
  have lt := (List.getElem?_eq_some_iff.mp h).1
  rw [itA_len] at lt
  have e := itV_at (ls := ls) (n := n) lt
  rw [← itA_map, List.getElem?_map, h] at e
  exact ⟨Value.ref.inj (Option.some.inj e), lt⟩
theorem vals_refs : ∀ {ls : List Addr} {us : List Value}, Vals (ls.map V.ref) us → us = ls.map Value.ref
  | [], _, .nil => rfl
  | l :: r, _, .cons h t => by
    rw [vals_refs t]
    exact congrArg (· :: r.map Value.ref) (show _ = Value.ref l from h)
def iZipS (K : PySem.W.Frag) (te : TE) : TI := fun σ H R => te σ H fun y H1 => ∃ (p : Addr) (ls : List Addr), y = .ref p ∧ (SqT K H1 p (ls.map V.ref) ∨ SqL K H1 p (ls.map V.ref)) ∧ 2 ≤ ls.length ∧ ls.length ≤ 4 ∧ (∀ a ∈ ls, ∃ xs, SqT K H1 a xs) ∧ R (ItzN K ls) H1
theorem pi_zipS {X : Cx} {e : Expr} {te : TE} {x : Str} {p pos tpos sps : Pos} (hg : Gl X "zip") (hm : X.mg "zip" = none) (he : PE X e te) (hst : starEach [.Starred e sps] X.env = [(true, eval e X.env)] := by rfl) :
    PI X (.Name x tpos) (.Call (.Name "zip" p) [.Starred e sps] [] pos) (iZipS X.K te) := by
  refine ⟨fun pins s σ H R I h => ?_⟩
  refine Call_ (ld_blt I hg hm PyProof.Rows.boot_zip ?_)
  show wpAny _ _ (callWith pos (.type "zip") [] (backTo pos (starEach [.Starred e sps] X.env)) []) _ _ _
  rw [hst]
  refine PySem.W.ks_call (P := fun _ => True) rfl (fun _ _ => ⟨.machine, .inr (.inl rfl), PySem.W.Looks.of_pure rfl⟩) (PySem.W.ks_lone ?_)
  refine thn (he.run pins s σ H _ I h) fun v s1 ⟨y, H1, I1, ry, a, ls, ey, hxs, l2, l4, ht, q⟩ => ?_
  subst ey
  obtain rfl : v = Value.ref a := ry
  refine StX.star_any I1 hxs fun us s2 I2 rv => ⟨trivial, ?_⟩
  obtain rfl := vals_refs rv
  have tt : ∀ l ∈ ls, ∃ xs, s2.heap.IsTuple l xs := fun l hl => by
    obtain ⟨xs, sq⟩ := ht l hl
    obtain ⟨its, _, tp, _⟩ := I2.tuple sq
    exact ⟨_, tp⟩
  refine call_zipN l2 l4 tt ?_
  have z0 : (itH s2.heap ls).objs.size = s2.heap.objs.size + ls.length := itH_size
  have z3 : (zN3 s2.heap ls).objs.size = s2.heap.objs.size + ls.length + 1 := by rw [Heap.size_push, z0]
  have z4 : (zN4 s2.heap ls).objs.size = s2.heap.objs.size + ls.length + 2 := by rw [Heap.size_push, z3]
  have g5 : (zN5 s2.heap ls).get? (zN4 s2.heap ls).objs.size = some _ := Heap.get?_push_size _ rfl
  have g4 : (zN5 s2.heap ls).get? (zN3 s2.heap ls).objs.size = some _ := Heap.get?_push_of_some _ (Heap.get?_push_size _ rfl)
  have g3 : (zN5 s2.heap ls).get? (itH s2.heap ls).objs.size = some _ := Heap.get?_push_of_some _ (Heap.get?_push_of_some _ (Heap.get?_push_size _ rfl))
  have kp : ∀ b o, s2.heap.get? b = some o → (zN5 s2.heap ls).get? b = some o := fun b o e => Heap.get?_push_of_some _ (Heap.get?_push_of_some _ (Heap.get?_push_of_some _ (itH_keep e)))
  have I3 : Inv X pins σ H1 { s2 with heap := zN5 s2.heap ls } := I2.kept (t' := s2.toks) kp
  have ap : ((zN4 s2.heap ls).objs.size :: (itH s2.heap ls).objs.size :: (zN3 s2.heap ls).objs.size :: itA s2.heap.objs.size ls).Nodup := by
    rw [z4, z0, z3]
    refine List.nodup_cons.mpr ⟨fun h => ?_, List.nodup_cons.mpr ⟨fun h => ?_, List.nodup_cons.mpr ⟨fun h => ?_, itA_nodup⟩⟩⟩
    · rcases List.mem_cons.mp h with h | h
      · omega
      rcases List.mem_cons.mp h with h | h
      · omega
      · have := itA_mem h
        omega
    · rcases List.mem_cons.mp h with h | h
      · omega
      · have := itA_mem h
        omega
    · have := itA_mem h
      omega
  have ge : ∀ b ∈ (zN4 s2.heap ls).objs.size :: (itH s2.heap ls).objs.size :: (zN3 s2.heap ls).objs.size :: itA s2.heap.objs.size ls, s2.heap.objs.size ≤ b := by
    rw [z4, z0, z3]
    intro b hb
    rcases List.mem_cons.mp hb with h | h
    · omega
    rcases List.mem_cons.mp h with h | h
    · omega
    rcases List.mem_cons.mp h with h | h
    · omega
    · exact (itA_mem h).1
  have st : ∃ f0 f1 olds, ZR (zN5 s2.heap ls) (zN4 s2.heap ls).objs.size (itH s2.heap ls).objs.size (zN3 s2.heap ls).objs.size f0 f1 ∧ Fld0 f0 ∧ TupO (zN5 s2.heap ls) (itH s2.heap ls).objs.size ((itA s2.heap.objs.size ls).map Value.ref) ∧
      TupO (zN5 s2.heap ls) (zN3 s2.heap ls).objs.size olds ∧ olds.length = (itA s2.heap.objs.size ls).length ∧ ItsJ (zN5 s2.heap ls) (itA s2.heap.objs.size ls) ls 0 0 := by
    refine ⟨.none, false, _, g5, .inl rfl, by rw [itA_map]; exact g3, g4, by rw [List.length_map, itV_len, itA_len], fun m it l e1 e2 => ?_⟩
    obtain ⟨rfl, _⟩ := itA_at e1
    exact ⟨_, Heap.get?_push_of_some _ (Heap.get?_push_of_some _ (Heap.get?_push_of_some _ (itH_at e2))), rfl, rfl⟩
  have T : Turn X.prog X.w X.K (.Name x tpos) (ItzN X.K ls) _ _ _ := turn_zipN (its := itA s2.heap.objs.size ls) (ls := ls) ap (fun l hl hm => by
    obtain ⟨xs, o, e, _⟩ := tt l hl
    exact absurd (Nat.lt_of_lt_of_le (Heap.lt_size e) (ge l hm)) (Nat.lt_irrefl _)) (fun z => by
    have := itA_len (ls := ls) (n := s2.heap.objs.size)
    rw [z] at this
    simp at this
    omega) (by rw [itA_len]; omega) itA_len
  exact T.self X.A 0 _ _ _ st ⟨_, _, _, _, H1, rfl, I3, T, st, fun b hb => I2.fpOk (ge b hb) (I2.hok.fresh (ge b hb)), q⟩
def rSumT (K : PySem.W.Frag) : List V → Hp → VK → Prop := fun vs H Q => ∃ (a : Addr) (ns : List Int), vs = [V.ref a] ∧ SqT K H a (ns.map V.int) ∧ Q (.int ns.sum) H
def rMaxT (K : PySem.W.Frag) : List V → Hp → VK → Prop := fun vs H Q => ∃ (a : Addr) (n : Int) (ns : List Int), vs = [V.ref a] ∧ SqT K H a ((n :: ns).map V.int) ∧ Q (.int (ns.foldl max n)) H
/-- a comprehension within a comprehension -/
theorem blkOk_in {N : List Str} {scO scope : Scope} {cl : List (Str × Addr)} {C : Addr} {env : Env} {own : List (Str × Nat)} (sc : Scope) (he : env.scope = sc) (h : blkC N (relS scO sc) scope own = true) : BlkOk N (compEnvC scO cl C env).scope scope own := by
  subst he
  exact blkOk_by h
def rJoin (K : PySem.W.Frag) : V → List V → Hp → VK → Prop := fun x xs H Q => ∃ (a : Str) (p : Addr) (ys : List Str), x = .str a ∧ xs = [.ref p] ∧ (SqL K H p (ys.map V.str) ∨ SqT K H p (ys.map V.str)) ∧
  (ys.map (·.length)).sum + ys.length * a.length ≤ 16777216 ∧ Q (.str (Txt.join a ys)) H
theorem pe_joinK {X : Cx} {K : PySem.W.Frag} {o e : Expr} {to te : TE} {apos pos : Pos} (ho : PE X o to) (he : PE X e te) (hK : X.K = K := by rfl) (hs : starEach [e] X.env = [(false, eval e X.env)] := by rfl)
    (hbase : attributeBase o "join" X.env (eval o X.env) = eval o X.env := by rfl) (hline : (apos.endLine == pos.line) = true := by rfl) : PE X (.Call (.Attribute o "join" apos) [e] [] pos) (tM1 (rJoin K) to te) := by
  subst hK
  exact pe_join ho he hs hbase hline
theorem pi_tupK {X : Cx} {K : PySem.W.Frag} {tg e : Expr} {te : TE} (he : PE X e te) (hK : X.K = K := by rfl) : PI X tg e (iTup K te) := by
  subst hK
  exact pi_tup he
theorem pi_listK {X : Cx} {K : PySem.W.Frag} {tg e : Expr} {te : TE} (he : PE X e te) (hK : X.K = K := by rfl) : PI X tg e (iList K te) := by
  subst hK
  exact pi_list he
end Pl
namespace Pl
open PySem PySem.Spec PyProof.Rows L2
/-! repr of any data -/
/-- it can be shown -/
def ShV (x : V) (d : PyData) : Prop := d.showable = true ∧ d.hasDict = false ∧ d.depth ≤ 60 ∧ d.shown.length ≤ sizeLine ∧ ∀ i, x = .int i → i.natAbs.log2 < 1920
def rReprV (K : PySem.W.Frag) : List V → Hp → VK → Prop := fun xs H Q => ∃ (x : V) (d : PyData), xs = [x] ∧ Dp K H x d ∧ ShV x d ∧ Q (.str d.shown) H
section
variable {X : Cx}
theorem call_reprV (gd : X.A.guards = some []) (hu : X.A.units + 66 < cLine) : CallR X (.builtin "repr") (rReprV X.K) := by
  intro pins s σ H xs us Q I r h
  obtain ⟨x, d, rfl, dp, ⟨sh, nd, dep, sz, lg⟩, q⟩ := h
  obtain ⟨u, rfl, ru⟩ := vals1 r
  cases dp with
  | non =>
    obtain rfl : u = Value.none := ru
    exact PySem.P.repr_of_none ⟨.str _, H, I.tok _, ⟨_, rfl⟩, by simpa [PyData.shown] using q⟩
  | bl b =>
    obtain rfl : u = Value.bool b := ru
    refine PySem.P.repr_of_bool ⟨.str _, H, I.tok _, ⟨_, rfl⟩, ?_⟩
    cases b <;> simpa [PyData.shown] using q
  | int i =>
    obtain ⟨t, rfl⟩ := (show ∃ t, u = Value.int i t from ru)
    exact PySem.P.repr_of_int (lg i rfl) ⟨.str _, H, I.tok _, ⟨_, rfl⟩, by simpa [PyData.shown] using q⟩
  | str z =>
    obtain ⟨t, rfl⟩ := (show ∃ t, u = Value.str z t from ru)
    rw [PyData.shown_str] at sz q
    exact PySem.P.repr_of_str ⟨.str _, H, I.tok _, ⟨_, rfl⟩, q⟩ sz
  | @lst a ys ds sq al =>
    exact call_reprD gd hu pins s σ H [.ref a] [u] Q I r ⟨a, _, rfl, .lst sq al, sh, nd, dep, sz, q⟩
  | @tup a ys ds sq al =>
    exact call_reprD gd hu pins s σ H [.ref a] [u] Q I r ⟨a, _, rfl, .tup sq al, sh, nd, dep, sz, q⟩
theorem readsInts {h : Heap} : ∀ {ns : List Int} {us : List Value}, Vals (ns.map V.int) us → ReadsAll h us (ns.map PyData.int) []
  | [], _, .nil => .nil
  | n :: ns, _, .cons r t => by
    obtain ⟨k, rfl⟩ := (show ∃ t, _ = Value.int n t from r)
    exact .cons (as := []) (.int n k) (readsInts t)
/-- a dict with an int and a tuple of ints -/
def dicD (k : Int) (ns : List Int) : PyData := .dict [(.int k, .tuple (ns.map PyData.int))]
theorem call_repr1 (gd : X.A.guards = some []) (hu : X.A.units + 66 < cLine) : CallR X (.builtin "repr") (fun xs H Q => ∃ (a t : Addr) (k : Int) (ns : List Int), xs = [.ref a] ∧ H a = some (.dK [(.inl k, .ref t)]) ∧ H t = some (.tup (ns.map V.int)) ∧
    (dicD k ns).showable = true ∧ (dicD k ns).depth ≤ 60 ∧ (dicD k ns).shown.length ≤ sizeLine ∧ Q (.str (dicD k ns).shown) H) := by
  intro pins s σ H xs us Q I r h
  obtain ⟨a, t, k, ns, rfl, ea, et, sh, dep, sz, q⟩ := h
  obtain ⟨u, rfl, ru⟩ := vals1 r
  obtain rfl : u = Value.ref a := ru
  obtain ⟨_, hm, vs, kv, o, es, ep, h1, h2, h3, h4, h5, h6⟩ := (show ObjOk X.prog X.w H s.heap a (.dK [(.inl k, .ref t)]) from I.hok a _ ea)
  obtain ⟨_, its, rv, ot, g1, g2, n, g3⟩ := (show ObjOk X.prog X.w H s.heap t (.tup (ns.map V.int)) from I.hok t _ et)
  have rt : Reads s.heap (.ref t) (.tuple (ns.map PyData.int)) [] := .tuple g1 g2 g3 (by simpa using readsInts rv)
  have rd : Reads s.heap (.ref a) (dicD k ns) (a :: [] ++ []) := by
    generalize hes : es.toList = l at h5
    have key : ∀ {kvs : List (Key × V)}, kvs = [(Sum.inl k, V.ref t)] → KV kvs vs → ∃ q, vs = [q] ∧ q.1 = Sum.inl k ∧ q.2 = Value.ref t := fun {kvs} e z => by
      cases z with
      | nil => cases e
      | cons hp hr =>
        cases e
        cases hr
        exact ⟨_, rfl, hp.1.symm, hp.2⟩
    obtain ⟨q, rfl, q1, q2⟩ := key rfl kv
    cases h5 with
    | cons hk hv hrest =>
      cases hrest
      rename_i e
      rw [q1] at hk
      rcases keyIs_shape (k := Sum.inl k) (v := e.key) hk with ⟨i, tk, e1, e2⟩ | ⟨i, tk, e1, e2⟩
      · cases e1
        refine .dict h1 h2.1 h3 ?_ ?_
        · rw [hes]
          exact .cons (as := []) (by show Reads _ e.key _ _; rw [e2]; exact .int _ _) .nil
        · rw [hes]
          exact .cons (as := []) (by show Reads _ e.val _ _; rw [hv, q2]; exact rt) .nil
      · cases e1
  refine repr_of_reads' rd sh (fun _ z => ?_) gd (by omega) (fun _ _ e => e) (fun h' v tk hk => ?_) sz
  · simp at z
    rw [z] at hm
    simp at hm
  · exact ⟨.str _, H, I.kept hk, ⟨_, rfl⟩, q⟩
/-- x is shown as z -/
def ThD (K : PySem.W.Frag) (H : Hp) (x : V) (z : Str) : Prop := (∃ d, Dp K H x d ∧ ShV x d ∧ z = d.shown) ∨
  (∃ (a t : Addr) (k : Int) (ns : List Int), x = .ref a ∧ H a = some (.dK [(.inl k, .ref t)]) ∧ H t = some (.tup (ns.map V.int)) ∧ (dicD k ns).showable = true ∧ (dicD k ns).depth ≤ 60 ∧ (dicD k ns).shown.length ≤ sizeLine ∧ z = (dicD k ns).shown)
def rReprW (K : PySem.W.Frag) : List V → Hp → VK → Prop := fun xs H Q => ∃ (x : V) (z : Str), xs = [x] ∧ ThD K H x z ∧ Q (.str z) H
theorem call_reprW (gd : X.A.guards = some []) (hu : X.A.units + 66 < cLine) : CallR X (.builtin "repr") (rReprW X.K) := by
  intro pins s σ H xs us Q I r h
  obtain ⟨x, z, rfl, ⟨d, dp, sv, rfl⟩ | ⟨a, t, k, ns, rfl, c1, c2, c3, c4, c5, rfl⟩, q⟩ := h
  · exact call_reprV gd hu pins s σ H [x] us Q I r ⟨x, d, rfl, dp, sv, q⟩
  · exact call_repr1 gd hu pins s σ H _ us Q I r ⟨a, t, k, ns, rfl, c1, c2, c3, c4, c5, q⟩
end
end Pl
namespace Pl
open PySem PySem.Spec PyProof.Rows L2 PySem.MeetsSeq PySem.MeetsSeq2 PySem.MeetsSeq3 PySem.SeqAt
section
variable {prog : Program} {w : World} {A : Around} {E : Value → Shared → Prop} {s : Shared}
theorem adj_rev (n : Nat) : Builtin.Slice.sliceAdjust none none (-1) (n : Int) = ((n : Int) - 1, -1) := by
  simp [Builtin.Slice.sliceAdjust]
theorem places_rev (n : Nat) : Builtin.Slice.slicePlaces ((n : Int) - 1) (-1) (-1) = n := by
  unfold Builtin.Slice.slicePlaces
  simp
  try omega
theorem fm_congr {α β : Type} {f g : α → Option β} : ∀ {l : List α}, (∀ x ∈ l, f x = g x) → l.filterMap f = l.filterMap g
  | [], _ => rfl
  | x :: l, h => by rw [List.filterMap_cons, List.filterMap_cons, h x List.mem_cons_self, fm_congr fun y hy => h y (List.mem_cons_of_mem _ hy)]
theorem pick_rev (xs : Array Value) : ((List.range xs.size).filterMap fun (m : Nat) => xs[(((xs.size : Int) - 1) + (m : Int) * (-1)).toNat]?).toArray = xs.toList.reverse.toArray := by
  congr 1
  have e : ∀ m ∈ List.range xs.size, xs[(((xs.size : Int) - 1) + (m : Int) * (-1)).toNat]? = (xs.toList.reverse)[m]? := fun m hm => by
    have := List.mem_range.mp hm
    rw [show (((xs.size : Int) - 1) + (m : Int) * (-1)).toNat = xs.size - 1 - m by omega, List.getElem?_reverse (by simpa using this)]
    simp
  rw [fm_congr e]
  have z := PySem.W.krv_all xs.toList.reverse.toArray
  simpa using z
theorem tup_rev {t sl : Addr} {items : Array Value} {vl vu vk : Value} {Q : Value → Shared → Prop} (ht : IsTup s.heap t items) (hs : s.heap.IsSliceOf sl vl vu vk) (pl : IsPart vl none) (pu : IsPart vu none) (pk : IsPart vk (some (-1)))
    (h : Q (.ref s.heap.objs.size) { s with heap := s.heap.push { cls := .type "tuple", data := .seq items.toList.reverse.toArray } }) (hsz : items.size ≤ sizeLine) : wpAny (model prog w) A (getItem (.ref t) (.ref sl)) Q E s := by
  have hok : sizeOk (.seq items.toList.reverse.toArray) := by
    show items.toList.reverse.toArray.size ≤ sizeLine
    simpa using hsz
  obtain ⟨os, hos, hcs, hds⟩ := id hs
  have hTs : s.TypeIs (.ref sl) "slice" := ⟨os, hos, hcs⟩
  unfold getItem
  try with_reducible refine wpAny_holding ?_
  first | refine wpAny_bind (wpAny_pure ?_) | skip
  refine wpAny_bind (wpAny_sequenceKey ht.typeIs (by decide) ?_)
  refine wpAny_bind (wpAny_callSpecial?_slot (name := Str.ofString "__getitem__") ht.typeIs PyProof.Rows.slot_tuple_getitem (wpAny_call_entry PyProof.Rows.slot_tuple_getitem ht.typeIs F.entry_tuple_getitem ?_ (F.args_tuple_getitem_2 _ _)))
  show wpAny _ _ (Builtin.Tuple.tupleItemsOf (.ref t) >>= _) _ _ s
  refine wpAny_bind (tupleItemsOf_ ht ?_)
  refine wpAny_bind (wpAny_typeOf hTs ?_)
  rw [if_pos (by decide)]
  refine wpAny_bind ?_
  unfold Builtin.Slice.sliceApplied Builtin.Slice.sliceFields
  refine wpAny_bind (wpAny_bind (wpAny_field hos hds (x := vl) rfl (wpAny_bind (wpAny_field hos hds (x := vu) rfl (wpAny_bind (wpAny_field hos hds (x := vk) rfl (wpAny_pure ?_)))))))
  refine wpAny_bind (HT.slicePart_ pk ?_)
  show wpAny _ _ (if ((-1 : Int) == 0) = true then _ else _) _ _ s
  rw [if_neg (by decide)]
  refine wpAny_bind (HT.slicePart_ pl (wpAny_bind (HT.slicePart_ pu (wpAny_bind (wpAny_pure ?_)))))
  show wpAny _ _ (match Builtin.Slice.sliceAdjust none none (-1) (items.size : Int) with | (lo, hi) => pure (lo, (-1 : Int), Builtin.Slice.slicePlaces lo hi (-1))) _ _ s
  rw [adj_rev]
  show wpAny _ _ (pure ((items.size : Int) - 1, (-1 : Int), Builtin.Slice.slicePlaces ((items.size : Int) - 1) (-1) (-1))) _ _ s
  rw [places_rev]
  refine wpAny_pure ?_
  show wpAny _ _ (if (((items.size : Int) - 1) == 0 && (-1 : Int) == 1 && items.size == items.size) = true then _ else _) _ _ s
  rw [if_neg (by simp), pick_rev]
  first
    | exact wpAny_bind (m := Builtin.Tuple.tupleExact _) (wpAny_newObj_type (wpAny_pure ⟨_, rfl, wpAny_pure h⟩) hok)
    | exact wpAny_bind (m := Builtin.Tuple.tupleExact _) (wpAny_newObj_type (wpAny_bind (wpAny_pure (wpAny_pure ⟨_, rfl, wpAny_pure h⟩))) hok)
    | exact wpAny_bind (wpAny_bind (m := Builtin.Tuple.tupleExact _) (wpAny_newObj_type (wpAny_pure (wpAny_pure ⟨_, rfl, wpAny_pure h⟩)) hok))
    | exact wpAny_bind (wpAny_bind (m := Builtin.Tuple.tupleExact _) (wpAny_newObj_type (wpAny_pure ⟨_, rfl, wpAny_pure h⟩) hok))
end
def tRevT (K : PySem.W.Frag) (te : TE) : TE := fun σ H Q => te σ H fun x H1 => ∃ a xs, x = .ref a ∧ SqT K H1 a xs ∧ ∀ p, H1 p = none → Q (.ref p) (upd H1 p (.tup xs.reverse))
section
variable {X : Cx}
theorem pe_revT {e : Expr} {te : TE} {k : Nat} {p1 p2 p3 pos : Pos} (he : PE X e te) : PE X (.Subscript e (.Slice none none (some (.UnaryOp .USub (.Constant (.int 1) k p1) p2)) p3) pos) (tRevT X.K te) := by
  refine ⟨fun pins s σ H Q I h => ?_⟩
  refine Subscript_ (thn (he.run pins s σ H _ I h) fun v s1 ⟨x, H1, I1, r1, a, xs, ex, hx, q⟩ => ?_)
  subst ex
  cases r1
  have step : PO X (some (.UnaryOp .USub (.Constant (.int 1) k p1) p2)) (tPart (tUn (rU fun i => .int (-i)) (tC (.int 1)))) := po_some (pe_un un_neg pe_int)
  refine wpAny_Slice (thn (po_none.run pins s1 σ H1 (fun o H2 => o = none ∧ H2 = H1) I1 ⟨rfl, rfl⟩) fun vl s2 ⟨l, H2, I2, pl, el, e2⟩ => ?_)
  subst el e2
  refine thn (po_none.run pins s2 σ H2 (fun o H3 => o = none ∧ H3 = H2) I2 ⟨rfl, rfl⟩) fun vu s3 ⟨u, H3, I3, pu, eu, e3⟩ => ?_
  subst eu e3
  refine thn (step.run pins s3 σ H3 (fun o H4 => o = some (-1) ∧ H4 = H3) I3 ⟨1, rfl, -1, rfl, rfl, rfl⟩) fun vs s4 ⟨o, H4, I4, ps, eo, e4⟩ => ?_
  subst eo e4
  have I5 : Inv X pins σ H4 { s4 with heap := s4.heap.push { cls := .type "slice", data := .fields #[vl, vu, vs] } } := I4.kept (t' := s4.toks) fun _ _ q => Heap.get?_push_of_some _ q
  obtain ⟨its, r, ht, hz⟩ := I5.tuple hx
  have hlen := r.length
  show wpAny (model X.prog X.w) X.A (subscriptTail e (.Slice none none (some (.UnaryOp .USub (.Constant (.int 1) k p1) p2)) p3) (.ref a) (.ref s4.heap.objs.size)) (EP X pins σ Q) X.xe { s4 with heap := s4.heap.push { cls := .type "slice", data := .fields #[vl, vu, vs] } }
  refine tail_any (ops := [.ref a, .ref s4.heap.objs.size]) ht.typeIs PyProof.Rows.slot_tuple_getitem.lookup ?_ (by with_unfolding_all rfl)
  refine tup_rev ht (Heap.IsSliceOf.new _ vl vu vs) pl pu ps ?_ (by rw [List.size_toArray]; omega)
  refine ⟨.ref _, _, I5.laid (t' := s4.toks) (o := .tup xs.reverse) (fun _ _ q => Heap.get?_push_of_some _ q) (Nat.le_refl _) ?_, rfl, q _ (I5.hok.fresh (Nat.le_refl _))⟩
  exact ⟨by rw [List.length_reverse]; exact hz, its.reverse, r.reverse, ⟨_, Heap.get?_push_size _ rfl, rfl, _, rfl⟩⟩
end
end Pl
namespace Pl
open PySem PySem.Spec PyProof.Rows L2 PySem.MeetsSeq PySem.MeetsSeq2 PySem.MeetsSeq3 PySem.SeqAt
/-! blocks of any number of clauses -/
section
variable {elt t i t1 i1 : Expr} {ifs ifs1 : List Expr} {G : List Comprehension} {scope : Scope} {pos : Pos} {it acc : Value} {env : Env} {j : Nat}
theorem turn_mid (h0 : G[j]? = some ⟨t, i, ifs, 0⟩) (h1 : G[j + 1]? = some ⟨t1, i1, ifs1, 0⟩) : compTurn (.ListComp elt G scope pos) j it acc env = (do
    standAt i.pos
    match ← pyNext it with
    | none => pure (.done .next)
    | some v =>
      letOwnedTupleGo t it v
      assign t env v
      let mut ok := true
      for c in ifs do if ok then ok ← isTrue c env (eval c env)
      if ok then
        let x ← eval i1 env
        standAt i1.pos
        let x ← foldedSetIterable i1 env x
        let _ ← runOwn (.compStart (.ListComp elt G scope pos) (j + 1) (← holding [x] (pyIter x)) acc env) env
      again (.compLoop (.ListComp elt G scope pos) j it acc env)) := by
  unfold compTurn
  dsimp only
  rw [h0]
  dsimp only
  rw [h1]
  rfl
theorem turn_last (h0 : G[j]? = some ⟨t, i, ifs, 0⟩) (h1 : G[j + 1]? = none) : compTurn (.ListComp elt G scope pos) j it acc env = (do
    standAt i.pos
    match ← pyNext it with
    | none => pure (.done .next)
    | some v =>
      letOwnedTupleGo t it v
      assign t env v
      let mut ok := true
      for c in ifs do if ok then ok ← isTrue c env (eval c env)
      if ok then (do let _ ← call (.builtin "list.append") [acc, ← eval elt env])
      again (.compLoop (.ListComp elt G scope pos) j it acc env)) := by
  unfold compTurn
  dsimp only
  rw [h0]
  dsimp only
  rw [h1]
  rfl
end
section
variable {prog : Program} {w : World} {A : Around} {R : Result → Shared → Prop} {s : Shared} {elt t i : Expr} {ifs : List Expr} {G : List Comprehension} {scope : Scope} {pos : Pos} {it acc : Value} {env : Env} {j : Nat}
/-- what runs behind a clause's store and tests -/
def Behind (prog : Program) (w : World) (A : Around) (elt : Expr) (G : List Comprehension) (scope : Scope) (pos : Pos) (j : Nat) (acc : Value) (env : Env) (N : Value → Shared → Prop) (post : Shared → Prop) (s : Shared) : Prop :=
  match G[j + 1]? with
  | some g => wpAny (model prog w) A (eval g.iter env) (fun x s5 => wpAny (model prog w) A (pyIter x) (fun it1 s6 => codeAny (model prog w) A (.compStart (.ListComp elt G scope pos) (j + 1) it1 acc env) (fun r s' => match r with | .ok _ => post s' | .error _ => False) s6) N s5) N s
  | none => wpAny (model prog w) A (eval elt env) (fun x s5 => wpAny (model prog w) A (call (.builtin "list.append") [acc, x]) (fun _ s6 => post s6) N s5) N s
theorem loop_any (h0 : G[j]? = some ⟨t, i, ifs, 0⟩) (hb : ∀ g, G[j + 1]? = some g → g.is_async = 0 ∧ ∀ x, foldedSetIterable g.iter env x = pure x) (I : Nat → Shared → Prop)
    (turn : ∀ n s, I n s → wpAny (model prog w) A (pyNext it) (fun r s1 => match r with
      | none => R (.ok .next) s1
      | some v => wpAny (model prog w) A (letOwnedTupleGo t it v) (fun _ s2 => wpAny (model prog w) A (assign t env v) (fun _ s3 => wpAny (model prog w) A (forIn ifs true fun c r => if r = true then do let ok ← isTrue c env (eval c env); pure (ForInStep.yield ok) else pure (ForInStep.yield r)) (fun ok s4 =>
          if ok = true then Behind prog w A elt G scope pos j acc env (notedBy (model prog w) A env fun e s' => R (.error e) s') (fun s' => ∃ m, m < n ∧ I m s') s4 else ∃ m, m < n ∧ I m s4)
          (notedBy (model prog w) A env fun e s' => R (.error e) s') s3) (notedBy (model prog w) A env fun e s' => R (.error e) s') s2) (notedBy (model prog w) A env fun e s' => R (.error e) s') s1) (notedBy (model prog w) A env fun e s' => R (.error e) s') s)
    (n : Nat) (h : I n s) : codeAny (model prog w) A (.compLoop (.ListComp elt G scope pos) j it acc env) R s := by
  refine codeAny_loop rfl I (fun n s hI => ?_) n h; show wpAny _ A ((compTurn (.ListComp elt G scope pos) j it acc env).onRaise (fun x => do noteFrame x env; theTreesLotGoes x)) _ _ s
  refine wpAny_noted ?_
  have T := turn n s hI
  cases h1 : G[j + 1]? with
  | some g =>
    obtain ⟨t1, i1, ifs1, as⟩ := g
    obtain ⟨ha, hs⟩ := hb _ h1
    obtain rfl : as = 0 := ha
    rw [turn_mid h0 h1]
    refine wpAny_bind (wpAny_standAt (wpAny_bind (wpAny_mono T (fun r s1 q1 => ?_) fun _ _ e => e)))
    cases r with
    | none => exact wpAny_pure q1
    | some v =>
      refine wpAny_bind (wpAny_mono q1 (fun _ s2 q2 => wpAny_bind (wpAny_mono q2 (fun _ s3 q3 => wpAny_bind (wpAny_mono q3 (fun ok s4 q4 => ?_) fun _ _ e => e)) fun _ _ e => e)) fun _ _ e => e)
      cases ok with
      | false => exact wpAny_pure ⟨rfl, q4⟩
      | true =>
        have q4 : Behind prog w A elt G scope pos j acc env _ _ s4 := q4
        unfold Behind at q4
        rw [h1] at q4
        refine wpAny_bind (wpAny_mono q4 (fun x s5 q5 => ?_) fun _ _ e => e)
        refine wpAny_bind (wpAny_standAt (wpAny_bind (wpAny_of_eq (hs x) (wpAny_bind (wpAny_holding (wpAny_mono q5 (fun it1 s6 q6 => ?_) fun _ _ e => e))))))
        refine wpAny_bind (wpAny_runOwn ?_)
        rw [Around.mark_none]
        refine codeAny_mono q6 fun r s' hr => ?_
        cases r with
        | ok f => first | exact wpAny_pure ⟨rfl, hr⟩ | exact wpAny_bind (wpAny_pure (wpAny_pure ⟨rfl, hr⟩))
        | error e => exact hr.elim
  | none =>
    rw [turn_last h0 h1]
    refine wpAny_bind (wpAny_standAt (wpAny_bind (wpAny_mono T (fun r s1 q1 => ?_) fun _ _ e => e)))
    cases r with
    | none => exact wpAny_pure q1
    | some v =>
      refine wpAny_bind (wpAny_mono q1 (fun _ s2 q2 => wpAny_bind (wpAny_mono q2 (fun _ s3 q3 => wpAny_bind (wpAny_mono q3 (fun ok s4 q4 => ?_) fun _ _ e => e)) fun _ _ e => e)) fun _ _ e => e)
      cases ok with
      | false => exact wpAny_pure ⟨rfl, q4⟩
      | true =>
        have q4 : Behind prog w A elt G scope pos j acc env _ _ s4 := q4
        unfold Behind at q4
        rw [h1] at q4
        exact wpAny_bind (wpAny_bind (wpAny_mono q4 (fun x s5 q5 => wpAny_bind (wpAny_mono q5 (fun _ s6 q6 => wpAny_pure (wpAny_pure ⟨rfl, q6⟩)) fun _ _ e => e)) fun _ _ e => e))
theorem start_any (hg : ∃ g, G[j]? = some g ∧ g.is_async = 0) (a : codeAny (model prog w) A (.compLoop (.ListComp elt G scope pos) j it acc env) R s)
    (b : wpAny (model prog w) A (pyIter it) (fun it' s' => codeAny (model prog w) A (.compLoop (.ListComp elt G scope pos) j it' acc env) R s') (notedBy (model prog w) A env fun x s' => R (.error x) s') s) :
    codeAny (model prog w) A (.compStart (.ListComp elt G scope pos) j it acc env) R s := by
  obtain ⟨g, h0, ha⟩ := hg
  refine codeAny_of_tree ?_; show wpAny _ _ ((compStart (.ListComp elt G scope pos) j it acc env).onRaise (fun x => do noteFrame x env; standAt theWindowsPlace)) _ _ s
  refine wpAny_notedAt ?_
  unfold compStart
  have hcl : (clausesOf (.ListComp elt G scope pos))[j]? = some g := h0
  rw [hcl]
  simp only [Option.elim_some, ha]
  rw [if_neg (by simp)]
  refine wpAny_bind (wpAny_askSetting (wpAny_ite ?_))
  split
  · first | exact wpAny_bind (wpAny_pure (wpAny_pure (And.intro rfl a))) | exact wpAny_pure (And.intro rfl a)
  · first
      | exact wpAny_bind (wpAny_rule (wpAny_bind (wpAny_standAt (wpAny_bind (wpAny_mono b (fun it' s' h' => wpAny_pure (And.intro rfl h')) fun _ _ x => x)))))
      | (refine wpAny_bind (wpAny_rule ?_); exact wpAny_bind (wpAny_standAt (wpAny_bind (wpAny_mono b (fun it' s' h' => wpAny_pure (And.intro rfl h')) fun _ _ x => x))))
end
theorem Behind.mono {prog : Program} {w : World} {A : Around} {elt : Expr} {G : List Comprehension} {scope : Scope} {pos : Pos} {j : Nat} {acc : Value} {env : Env} {N : Value → Shared → Prop} {p p' : Shared → Prop} {s : Shared} (h : Behind prog w A elt G scope pos j acc env N p s) (k : ∀ s', p s' → p' s') : Behind prog w A elt G scope pos j acc env N p' s := by
  unfold Behind at h ⊢
  cases e : G[j + 1]? with
  | some g =>
    rw [e] at h
    exact wpAny_mono h (fun x s5 q5 => wpAny_mono q5 (fun it s6 q6 => codeAny_mono q6 fun r s' hr => by
      cases r with
      | ok f => exact k s' hr
      | error x => exact hr) fun _ _ z => z) fun _ _ z => z
  | none =>
    rw [e] at h
    exact wpAny_mono h (fun x s5 q5 => wpAny_mono q5 (fun _ s6 q6 => k s6 q6) fun _ _ z => z) fun _ _ z => z
theorem drop_cons {α : Type} {G r : List α} {n : Nat} {a : α} (h : G.drop n = a :: r) : G[n]? = some a := by
  have z := congrArg (·[0]?) h
  simpa using z
theorem drop_none {α : Type} {G : List α} {n : Nat} (h : G.drop n = []) : G[n]? = none := by
  have z := congrArg (·[0]?) h
  simpa using z
/-! what a block of several clauses does -/
def TIn : Type := L2.St → Hp → Addr → (Hp → Prop) → Prop
def tItem (te : TE) : TIn := fun σ H D Nx => te σ H fun y H1 => ∃ acc, H1 D = some (.lst acc) ∧ acc.length < sizeLine ∧ Nx (upd H1 D (.lst (acc ++ [y])))
/-- a further clause; us: its names and those of the clauses behind it -/
def tClause (wi : TI) (g : TG) (tt : TT) (us : List Nat) (t : TIn) : TIn := fun σ H D Nx => wi σ H fun J H1 => ∃ W : Nat → Nat → Hp → Prop, (∃ m, W 0 m H1) ∧ ∀ j k H2, W j k H2 →
  (J.stop j H2 ∧ Nx H2) ∨ (J.go j H2 ∧ ∃ Nx1 : Hp → Prop, (∀ H', Nx1 H' → ∃ k', k' < k ∧ W (j + 1) k' H') ∧ ∀ x H', J.yld j H2 x H' → g x (wipe σ us) H' fun σ1 H3 => wipe σ1 us = wipe σ us ∧ tt σ1 H3 fun b H4 => if b = true then t σ1 H4 D Nx1 else Nx1 H4)
inductive PIns (Y : Cx) (elt : Expr) : List Comprehension → List Nat → TIn → Prop
  | nil {te : TE} : PE Y elt te → PIns Y elt [] [] (tItem te)
  | cons {tg iter : Expr} {ifs : List Expr} {wi : TI} {g : TG} {tt : TT} {us vs : List Nat} {r : List Comprehension} {t : TIn} : PI Y tg iter wi → PG Y tg g → PTs Y ifs tt → (∀ i ∈ vs, i ∈ us) → (∀ env x, foldedSetIterable iter env x = pure x) → PIns Y elt r vs t → PIns Y elt (⟨tg, iter, ifs, 0⟩ :: r) us (tClause wi g tt us t)
section
variable {X : Cx}
theorem inner_ok {s3 : Shared} {H3 : Hp} {scope : Scope} {ce : Env} {fp : List Addr} {elt : Expr} {pos : Pos} {G : List Comprehension} {D : Addr} (hc : X.calm = true) (hce : (X.blk s3 H3 scope ce fp).env = ce) : ∀ {r : List Comprehension} {us : List Nat} {t : TIn}, PIns (X.blk s3 H3 scope ce fp) elt r us t →
    ∀ {j : Nat}, G.drop (j + 1) = r → ∀ {pins : List (Addr × Obj)} {σ : L2.St} {H : Hp} {s : Shared} {Nx : Hp → Prop} {N : Value → Shared → Prop}, Inv (X.blk s3 H3 scope ce fp) pins σ H s → t σ H D Nx →
      Behind X.prog X.w X.A elt G scope pos j (.ref D) ce N (fun s' => ∃ H', Inv (X.blk s3 H3 scope ce fp) pins (wipe σ us) H' s' ∧ Nx H') s := by
  intro r us t P
  induction P with
  | @nil te pe =>
    intro j hG pins σ H s Nx N I q
    have e : G[j + 1]? = none := drop_none hG
    unfold Behind
    rw [e]
    refine thnF (pe.run _ s σ H _ I q) fun z s1 ⟨yv, H1, I1, r1, acc, hD, hz, nx⟩ => ?_
    exact app_ok (X := X.blk s3 H3 scope ce fp) I1 hD hz r1 fun s2 I2 => ⟨_, I2, nx⟩
  | @cons tg iter ifs wi g tt us vs r t pi pg pt hv hs Pr ih =>
    intro j hG pins σ H s Nx N I q
    have e : G[j + 1]? = some ⟨tg, iter, ifs, 0⟩ := drop_cons hG
    have hG2 : G.drop (j + 1 + 1) = r := by
      have z := congrArg (List.drop 1) hG
      simpa [List.drop_drop] using z
    unfold Behind
    rw [e]
    refine thnF (pi.run _ s σ H _ I q) fun xv s1 hx => thnF hx fun itv s2 h2 => ?_
    obtain ⟨it, fp1, tn, J, H2, e1, I2, T, st2, f2, W, ⟨m, w0⟩, turn⟩ := h2
    subst e1
    have stat : ∀ {H' : Hp}, (∀ b ∈ fp1, H' b = none) → ∀ b ∈ fp1, FpOk (X.blk s3 H3 scope ce fp) pins H' b := fun hn b hb => ⟨hn b hb, (f2 b hb).2⟩
    have hnx : ∀ g', G[j + 1 + 1]? = some g' → g'.is_async = 0 ∧ ∀ x, foldedSetIterable g'.iter ce x = pure x := by
      intro g' hg'
      cases Pr with
      | nil pe =>
        rw [drop_none hG2] at hg'
        cases hg'
      | cons a b c d e f =>
        rw [drop_cons hG2] at hg'
        cases hg'
        exact ⟨rfl, e ce⟩
    have loop : codeAny (model X.prog X.w) X.A (.compLoop (.ListComp elt G scope pos) (j + 1) (.ref it) (.ref D) ce) (fun r s' => match r with | .ok _ => ∃ H', Inv (X.blk s3 H3 scope ce fp) pins (wipe σ us) H' s' ∧ Nx H' | .error _ => False) s2 := by
      refine loop_any e hnx (fun k s' => ∃ jj H', Inv (X.blk s3 H3 scope ce fp) pins (wipe σ us) H' s' ∧ tn jj s'.heap ∧ (∀ b ∈ fp1, H' b = none) ∧ W jj k H') ?_ m ⟨0, H2, I2.weak (wipe_length _ _) (fun j v e => (wipe_some e).1), st2, fun b hb => (f2 b hb).1, w0⟩
      rintro k s4 ⟨jj, H4, I4, st4, n4, w4⟩
      rcases turn jj k H4 w4 with ⟨stop, nx⟩ | ⟨go, Nx1, hNx1, step⟩
      · refine thnF (T.done (X.blk s3 H3 scope ce fp) rfl rfl rfl hc jj _ s4 (wipe σ us) H4 (fun _ _ => False) I4 (stat n4) st4 stop) fun r s5 ⟨hr, I5⟩ => ?_
        subst hr
        exact ⟨_, I5, nx⟩
      · refine thnF (T.item (X.blk s3 H3 scope ce fp) rfl rfl rfl hc jj _ s4 (wipe σ us) H4 (fun _ _ => False) I4 (stat n4) st4 go) fun r s5 ⟨u, hr, h5⟩ => ?_
        subst hr
        refine thnF h5 fun _ s6 ⟨x, H6, I6, r6, y6, st6, n6⟩ => ?_
        have I6' := I6.pinned (stat n6) (T.obj _ _ st6)
        refine thnF (pg.run _ s6 (wipe σ us) H6 x u _ I6' r6 (step x H6 y6)) fun _ s7 ⟨σ7, H7, I7, hw, q7⟩ => ?_
        refine thnF (pt.run _ s7 σ7 H7 _ I7 q7) fun b s8 ⟨H8, I8, q8⟩ => ?_
        have fin : ∀ {σ' : L2.St} {s' : Shared} {H' : Hp}, Inv (X.blk s3 H3 scope ce fp) (pins ++ pinsAt fp1 s6.heap) σ' H' s' → (wipe σ us).length = σ'.length → (∀ (n : Nat) v, (wipe σ us)[n]? = some (some v) → σ'[n]? = some (some v)) → Nx1 H' → ∃ m, m < k ∧ ∃ jj H', Inv (X.blk s3 H3 scope ce fp) pins (wipe σ us) H' s' ∧ tn jj s'.heap ∧ (∀ b ∈ fp1, H' b = none) ∧ W jj m H' := fun {σ' s' H'} I' hl hk nx => by
          obtain ⟨m', hm, w'⟩ := hNx1 H' nx
          have pin' : ∀ b ∈ fp1, ∀ o, s6.heap.get? b = some o → s'.heap.get? b = some o ∧ H' b = none := fun b hb o eo => by
            have z := I'.pin (b, o) (List.mem_append_right _ (List.mem_append_right _ (mem_pinsAt hb eo)))
            exact ⟨z.1, z.2.1⟩
          refine ⟨m', hm, jj + 1, H', I'.unpinned.weak hl hk, T.keep _ _ _ st6 fun b hb o eo => (pin' b hb o eo).1, fun b hb => ?_, w'⟩
          obtain ⟨o, eo, _⟩ := T.obj _ _ st6 b hb
          exact (pin' b hb o eo).2
        have hl7 : (wipe σ us).length = σ7.length := by rw [← hw, wipe_length]
        have hk7 : ∀ (n : Nat) v, (wipe σ us)[n]? = some (some v) → σ7[n]? = some (some v) := fun n v z => by
          rw [← hw] at z
          exact (wipe_some z).1
        cases b with
        | false =>
          simp only [Bool.false_eq_true, if_false] at q8 ⊢
          exact fin I8 hl7 hk7 q8
        | true =>
          simp only [if_true] at q8 ⊢
          refine (ih hG2 I8 q8).mono fun s' ⟨H', I', nx⟩ => fin I' (hl7.trans (wipe_length _ _).symm) (fun n v z => ?_) nx
          rw [← hw] at z
          obtain ⟨z1, z2⟩ := wipe_some z
          rw [wipe_out fun y => z2 (hv n y)]
          exact z1
    exact start_any ⟨_, e, rfl⟩ loop (T.self X.A 0 _ _ _ st2 loop)
/-- the whole block: the first clause's source is the def's own; us: all names of the block -/
def tLcN (wi : TI) (g : TG) (tt : TT) (t : TIn) (us : List Nat) : TE := fun σ H Q => wi σ H fun J H1 => ∀ D, H1 D = none → ∃ W : Nat → Nat → Hp → Prop, (∃ m, W 0 m (upd H1 D (.lst []))) ∧ ∀ i m H, W i m H →
  (J.stop i H ∧ Q (.ref D) H) ∨ (J.go i H ∧ ∃ Nx : Hp → Prop, (∀ H', Nx H' → ∃ m', m' < m ∧ W (i + 1) m' H') ∧ ∀ x H', J.yld i H x H' → g x (wipe σ us) H' fun σ2 H2 => wipe σ2 us = wipe σ us ∧ tt σ2 H2 fun b H3 => if b = true then t σ2 H3 D Nx else Nx H3)
theorem lcN_core {pins : List (Addr × Obj)} {s : Shared} {σ : L2.St} {H : Hp} {Q : VK} {elt tg iter : Expr} {ifs : List Expr} {rest : List Comprehension} {scope : Scope} {own : List (Str × Nat)} {vs : List Nat} {pos pos' : Pos} {wi : TI} {g : TG} {tt : TT} {t : TIn} {use : Option (Value → Sem Unit)} {Qf : Value → Shared → Prop}
    (hc : X.calm = true) (hN : X.N.Nodup) (I : Inv X pins σ H s) (hi : PI X tg iter wi) (ok : BlkOk X.N X.env.scope scope own) (hv : ∀ i ∈ vs, i ∈ own.map (·.2))
    (hq : ∀ (s : Shared) (H : Hp) (C : Addr) (cl : List (Str × Addr)) (fp : List Addr), PG (X.blk s H scope (compEnvC scope cl C X.env) fp) tg g ∧ PTs (X.blk s H scope (compEnvC scope cl C X.env) fp) ifs tt ∧ PIns (X.blk s H scope (compEnvC scope cl C X.env) fp) elt rest vs t)
    (hs : ∀ x, foldedSetIterable iter X.env x = pure x) (h : tLcN wi g tt t (own.map (·.2)) σ H Q)
    (hRR : ∀ D C s' m H', Inv X pins σ H' s' → Q (.ref D) H' → s'.heap.Ns C m → FpOk X pins H' C → compPost (model X.prog X.w) X.A X.xe use Qf (.ref D) C (.ok .next) s') :
    wpAny (model X.prog X.w) X.A (comprehension (.ListComp elt (⟨tg, iter, ifs, 0⟩ :: rest) scope pos) scope X.env pos' (newList []) false (eval iter X.env) use) Qf X.xe s := by
  have hfree : ∀ y ∈ scope.names, y.2 = .free → ∃ c, X.env.cells.lookup y.1 = some c := fun y hy e => (ok.free y hy e).elim (fun k => I.ok.has _ (.inl k)) fun k => I.ok.has _ (.inr k)
  refine wpAny_comprehension_free (use := use) rfl hs (closure_ok hfree) ok.kind (fun y hy e => by rw [ok.uniq y hy, e]) (thn (hi.run pins s σ H _ I h) fun xv s1 hx => thn hx fun itv s2 h2 => ?_)
  obtain ⟨it, fp, tn, J, H2, e, I2, T, st2, f2, q⟩ := h2
  subst e
  refine wpAny_newObj_type (newEnv_comp ?_) (by show 0 ≤ sizeLine; decide)
  generalize hD : s2.heap.objs.size = D
  obtain ⟨W, ⟨m0, w0⟩, turn⟩ := q D (I2.hok.fresh (Nat.le_of_eq hD))
  generalize hs3 : ({ s2 with heap := s2.heap.push { cls := .type "list", data := .seq ([] : List Value).toArray } } : Shared) = s3
  have h3 : s3.heap = s2.heap.push { cls := .type "list", data := .seq ([] : List Value).toArray } := by rw [← hs3]
  have I3 : Inv X pins σ (upd H2 D (.lst [])) s3 := by
    rw [← hs3]
    exact I2.laid (t' := s2.toks) (fun b o e => Heap.get?_push_of_some _ e) (Nat.le_of_eq hD) ⟨Nat.zero_le _, [], 0, .nil, by rw [← hD]; exact Heap.get?_push_size _ rfl⟩
  have f3 : ∀ b ∈ fp, FpOk X pins (upd H2 D (.lst [])) b ∧ b < s3.heap.objs.size := fun b hb => by
    obtain ⟨o, e, _⟩ := T.obj _ _ st2 b hb
    have lt := Heap.lt_size e
    exact ⟨⟨by rw [upd_ne (by rw [← hD]; exact Nat.ne_of_lt lt)]; exact (f2 b hb).1, (f2 b hb).2⟩, by rw [h3, Heap.size_push]; exact Nat.lt_succ_of_lt lt⟩
  have st3 : tn 0 s3.heap := T.keep _ _ _ st2 fun b _ o e => by rw [h3]; exact Heap.get?_push_of_some _ e
  have I4 := block_start I3 ok hN f3
  obtain ⟨pg, pt, pin⟩ := hq s3 (upd H2 D (.lst [])) s3.heap.objs.size (cellsFrom (s3.heap.objs.size + 1) scope.names (cloFrom X.env.cells scope.names [])) fp
  show codeAny _ _ (.compStart (.ListComp elt (⟨tg, iter, ifs, 0⟩ :: rest) scope pos) 0 (.ref it) (.ref D) (compEnvC scope (cellsFrom (s3.heap.objs.size + 1) scope.names (cloFrom X.env.cells scope.names [])) s3.heap.objs.size X.env)) (compPost (model X.prog X.w) X.A X.xe use Qf (.ref D) s3.heap.objs.size) { s3 with heap := pushCells (s3.heap.push { cls := .type "dict", data := .dict #[] }) scope.names }
  have nfp : ∀ b ∈ fp, (upd H2 D (.lst [])) b = none := fun b hb => (f3 b hb).1.1
  generalize hce : compEnvC scope (cellsFrom (s3.heap.objs.size + 1) scope.names (cloFrom X.env.cells scope.names [])) s3.heap.objs.size X.env = ce at I4 pg pt pin ⊢
  have cL : ce.locals = s3.heap.objs.size := by subst hce; rfl
  generalize hH3 : upd H2 D (.lst []) = H3 at I3 I4 pg pt pin w0 nfp f3
  generalize hs4 : ({ s3 with heap := pushCells (s3.heap.push { cls := .type "dict", data := .dict #[] }) scope.names } : Shared) = s4 at I4 ⊢
  have st4 : tn 0 s4.heap := T.keep _ _ _ st3 fun b _ o e => by rw [← hs4]; exact pushCells_keeps _ _ _ _ (Heap.get?_push_of_some _ e)
  have stat : ∀ {σ' : L2.St} {H' : Hp} {s' : Shared}, Inv (X.blk s3 H3 scope ce fp) [] σ' H' s' → (∀ b ∈ fp, H' b = none) → ∀ b ∈ fp, FpOk (X.blk s3 H3 scope ce fp) [] H' b := fun {σ' H' s'} I' hn b hb => ⟨hn b hb, (I'.ok.exf b hb).1, I'.ok.exfs b hb, .inl hb, fun x c e => (I'.ok.exf b hb).2 x c e, fun p hp => absurd (show p ∈ ([] : List (Addr × Obj)) ++ [] from hp) (by simp)⟩
  have hnx : ∀ g', (⟨tg, iter, ifs, 0⟩ :: rest : List Comprehension)[0 + 1]? = some g' → g'.is_async = 0 ∧ ∀ x, foldedSetIterable g'.iter ce x = pure x := by
    intro g' hg'
    cases pin with
    | nil pe => cases hg'
    | cons a b c d e f =>
      cases hg'
      exact ⟨rfl, e ce⟩
  have loop : codeAny (model X.prog X.w) X.A (.compLoop (.ListComp elt (⟨tg, iter, ifs, 0⟩ :: rest) scope pos) 0 (.ref it) (.ref D) ce) (compPost (model X.prog X.w) X.A X.xe use Qf (.ref D) s3.heap.objs.size) s4 := by
    refine loop_any rfl hnx (fun n s' => ∃ i H', Inv (X.blk s3 H3 scope ce fp) [] (wipe σ (own.map (·.2))) H' s' ∧ tn i s'.heap ∧ (∀ b ∈ fp, H' b = none) ∧ W i n H') ?_ m0 ⟨0, H3, I4, st4, nfp, w0⟩
    rintro n s5 ⟨i, H5, I5, st5, n5, w5⟩
    rcases turn i n H5 w5 with ⟨stop, qq⟩ | ⟨go, Nx, hNx, step⟩
    · refine thnF (T.done (X.blk s3 H3 scope ce fp) rfl rfl rfl hc i [] s5 _ H5 (fun _ _ => False) I5 (stat I5 n5) st5 stop) fun r s6 ⟨hr, I6⟩ => ?_
      subst hr
      have I7 : Inv X pins σ H5 s6 := I3.call' (ch := fp) I6.os I6.base I6.hok I6.bare fun b hb => ⟨(f3 b hb).1.2.2.2.1, (f3 b hb).1.2.1, (f3 b hb).1.2.2.2.2.1, (f3 b hb).1.2.2.2.2.2⟩
      have nC : H5 s3.heap.objs.size = none := by
        have z : H5 ce.locals = none := I6.free
        rwa [cL] at z
      obtain ⟨m, hn, _⟩ := I6.loc
      have hn : s6.heap.Ns ce.locals m := hn
      rw [cL] at hn
      exact hRR D s3.heap.objs.size s6 m H5 I7 qq hn (I3.fpOk (Nat.le_refl _) nC)
    · refine thnF (T.item (X.blk s3 H3 scope ce fp) rfl rfl rfl hc i [] s5 _ H5 (fun _ _ => False) I5 (stat I5 n5) st5 go) fun r s6 ⟨u, hr, h6⟩ => ?_
      subst hr
      refine thnF h6 fun _ s7 ⟨x, H7, I7, r7, y7, st7, n7⟩ => ?_
      have I7' := I7.pinned (stat I7 n7) (T.obj _ _ st7)
      refine thnF (pg.run _ s7 _ H7 x u _ I7' r7 (step x H7 y7)) fun _ s8 ⟨σ8, H8, I8, hw8, q8⟩ => ?_
      refine thnF (pt.run _ s8 σ8 H8 _ I8 q8) fun b s9 ⟨H9, I9, q9⟩ => ?_
      have fin : ∀ {σ9 : L2.St} {s' : Shared} {H' : Hp}, Inv (X.blk s3 H3 scope ce fp) ([] ++ pinsAt fp s7.heap) σ9 H' s' → (wipe σ (own.map (·.2))).length = σ9.length → (∀ (j : Nat) v, (wipe σ (own.map (·.2)))[j]? = some (some v) → σ9[j]? = some (some v)) → Nx H' →
          ∃ m, m < n ∧ ∃ i H', Inv (X.blk s3 H3 scope ce fp) [] (wipe σ (own.map (·.2))) H' s' ∧ tn i s'.heap ∧ (∀ b ∈ fp, H' b = none) ∧ W i m H' := fun {σ9 s' H'} I' hl hk nx => by
        obtain ⟨m', hm, w'⟩ := hNx H' nx
        have pin' : ∀ b ∈ fp, ∀ o, s7.heap.get? b = some o → s'.heap.get? b = some o ∧ H' b = none := fun b hb o e => by
          have z := I'.pin (b, o) (List.mem_append_right _ (List.mem_append_right _ (mem_pinsAt hb e)))
          exact ⟨z.1, z.2.1⟩
        refine ⟨m', hm, i + 1, H', (I'.unpinned (pins := [])).weak hl hk, T.keep _ _ _ st7 fun b hb o e => (pin' b hb o e).1, fun b hb => ?_, w'⟩
        obtain ⟨o, e, _⟩ := T.obj _ _ st7 b hb
        exact (pin' b hb o e).2
      have hl8 : (wipe σ (own.map (·.2))).length = σ8.length := by rw [← hw8, wipe_length]
      cases b with
      | false =>
        simp only [Bool.false_eq_true, if_false] at q9 ⊢
        exact fin I9 hl8 (fun j v e => by rw [← hw8] at e; exact (wipe_some e).1) q9
      | true =>
        simp only [if_true] at q9 ⊢
        refine (inner_ok (G := ⟨tg, iter, ifs, 0⟩ :: rest) hc rfl pin (j := 0) rfl I9 q9).mono fun s' ⟨H', I', nx⟩ => fin I' (hl8.trans (wipe_length _ _).symm) (fun n v z => ?_) nx
        rw [← hw8] at z
        obtain ⟨z1, z2⟩ := wipe_some z
        rw [wipe_out fun y => z2 (hv n y)]
        exact z1
  exact start_any ⟨_, rfl, rfl⟩ loop (T.self X.A 0 _ _ _ st4 loop)
/-- a block of several clauses as a value -/
theorem pe_lcN {elt tg iter : Expr} {ifs : List Expr} {rest : List Comprehension} {scope : Scope} {own : List (Str × Nat)} {vs : List Nat} {pos : Pos} {wi : TI} {g : TG} {tt : TT} {t : TIn} (hc : X.calm = true) (hN : X.N.Nodup) (hi : PI X tg iter wi) (ok : BlkOk X.N X.env.scope scope own) (hv : ∀ i ∈ vs, i ∈ own.map (·.2))
    (hq : ∀ (s : Shared) (H : Hp) (C : Addr) (cl : List (Str × Addr)) (fp : List Addr), PG (X.blk s H scope (compEnvC scope cl C X.env) fp) tg g ∧ PTs (X.blk s H scope (compEnvC scope cl C X.env) fp) ifs tt ∧ PIns (X.blk s H scope (compEnvC scope cl C X.env) fp) elt rest vs t)
    (hs : ∀ x, foldedSetIterable iter X.env x = pure x := by intro _; rfl) : PE X (.ListComp elt (⟨tg, iter, ifs, 0⟩ :: rest) scope pos) (tLcN wi g tt t (own.map (·.2))) := by
  refine ⟨fun pins s σ H Q I h => ?_⟩; rw [eval_ListComp]
  refine lcN_core hc hN I hi ok hv hq hs h fun D C s' m H' I' q hn f => ⟨m, hn, fun h'' sb => ?_⟩
  obtain ⟨f0, f1, f2, f3, f4, f5⟩ := f
  exact ⟨.ref D, H', I'.turned (t' := s'.toks) (fun b o hb e => (sb.2 b hb).trans e) f0 f1 f3 f4 f5, rfl, q⟩
theorem ps_setLcN {i : Nat} {y : Str} {py : Pos} {elt tg iter : Expr} {ifs : List Expr} {rest : List Comprehension} {scope : Scope} {own : List (Str × Nat)} {vs : List Nat} {pos spos : Pos} {wi : TI} {g : TG} {tt : TT} {t : TIn} (hc : X.calm = true) (hN : X.N.Nodup) (hy : X.N[i]? = some y) (hyl : X.env.scope.names.lookup y = some .local)
    (hsw : swapsWith (.ListComp elt (⟨tg, iter, ifs, 0⟩ :: rest) scope pos) (some (.Name y py)) spos.line X.env = pure true) (hi : PI X tg iter wi) (ok : BlkOk X.N X.env.scope scope own) (hv : ∀ i ∈ vs, i ∈ own.map (·.2))
    (hq : ∀ (s : Shared) (H : Hp) (C : Addr) (cl : List (Str × Addr)) (fp : List Addr), PG (X.blk s H scope (compEnvC scope cl C X.env) fp) tg g ∧ PTs (X.blk s H scope (compEnvC scope cl C X.env) fp) ifs tt ∧ PIns (X.blk s H scope (compEnvC scope cl C X.env) fp) elt rest vs t)
    (hs : ∀ x, foldedSetIterable iter X.env x = pure x := by intro _; rfl) : PS X (.Assign [.Name y py] (.ListComp elt (⟨tg, iter, ifs, 0⟩ :: rest) scope pos) spos) (tAsg (tLcN wi g tt t (own.map (·.2))) (gName i)) := by
  refine ⟨fun pins s σ H D I h => ?_⟩; rw [exec_Assign_Name_used _ _ _ _ hsw]
  refine wpAny_bind (wpAny_standAt (wpAny_bind ?_))
  show wpAny _ X.A (do let _ ← comprehension (.ListComp elt (⟨tg, iter, ifs, 0⟩ :: rest) scope pos) scope X.env (firstIterPos (⟨tg, iter, ifs, 0⟩ :: rest) pos) (newList []) false (eval iter X.env) (some (assign (.Name y py) X.env))) _ _ s
  have h : tLcN wi g tt t (own.map (·.2)) σ H (fun x H1 => gName i x σ H1 D.nx) := h
  refine wpAny_bind (thn (lcN_core (Qf := fun _ s' => SP X pins D .next s') hc hN I hi ok hv hq hs h fun L C s' m H' I' q hn f => ?_) fun _ s' hq => wpAny_pure (wpAny_pure hq))
  show wpAny _ _ (assign (.Name y py) X.env (.ref L)) _ _ _
  refine wpAny_assign_Name (store_ok2 (v := V.ref L) I' hN hy (.inl hyl) rfl (fun s2 I2 ⟨a, sb, ha⟩ => ?_) (.inr hyl))
  obtain ⟨f0, f1, f2, f3, f4, f5⟩ := f
  have haC : C ≠ a := ha.elim (fun z => by rw [z]; exact f1) fun z e => f4 y a z e.symm
  exact ⟨m, hn.sameBut sb haC, fun h3 sb3 => ⟨_, H', I2.turned (t' := s2.toks) (fun b o hb e => (sb3.2 b hb).trans e) f0 f1 f3 f4 f5, q⟩⟩
end
end Pl
namespace Pl
open PySem PySem.Spec PyProof.Rows L2 PySem.MeetsSeq PySem.MeetsSeq2 PySem.MeetsSeq3 PySem.SeqAt
/-! enumerate of a tuple -/
theorem meets_enum1 {v : Value} {o : Obj} {H : Heap → Prop} (B : Begins v o H) : Meets (Builtin.«enumerate.__new__» ⟨[.type "enumerate", v], []⟩) (fun _ R s => H s.heap ∧ R (.ok (.ret (.ref (s.heap.push o).objs.size))) { s with heap := (s.heap.push o).push { cls := .type "enumerate", data := .fields #[.none, .bool false, .ref s.heap.objs.size, rawInt 0, .none, .none] } }) :=
  .of_wp fun prog w A R s h => by
    obtain ⟨hp, g, d, tk, os⟩ := s
    obtain ⟨h1, h⟩ := h
    have hsub := sub_enumerate
    have q1 : ∀ {A' : Around} {E : Value → Shared → Prop} {Q : Value → Shared → Prop}, Q (.ref hp.objs.size) ⟨hp.push o, g, d, tk, os⟩ → wpAny (model prog w) A' (pyIter v) Q E ⟨hp, g, d, tk, os⟩ := fun q => B.iter prog w _ _ ⟨hp, g, d, tk, os⟩ _ h1 q
    wp_walk using q1
    refine wpAny_stack_any fun st => wpAny_pure ?_
    split
    · rename_i c _ _ _ _ _
      cases (c == Value.type "enumerate") <;> (wp_walk using q1; exact ⟨_, rfl, h⟩)
    · wp_walk using q1; exact ⟨_, rfl, h⟩
theorem call_enum1 {prog : Program} {w : World} {A : Around} {E : Value → Shared → Prop} {s : Shared} {v : Value} {o : Obj} {H : Heap → Prop} {Q : Value → Shared → Prop} (B : Begins v o H) (h1 : H s.heap)
    (h : ∀ h', IsEnum h' (s.heap.objs.size + 1) s.heap.objs.size 0 .none → h'.get? s.heap.objs.size = some o → (∀ b ob, s.heap.get? b = some ob → h'.get? b = some ob) → Q (.ref (s.heap.objs.size + 1)) { s with heap := h' }) :
    wpAny (model prog w) A (call (.type "enumerate") [v]) Q E s := by
  refine callType_new F.called_enumerate (by decide) (F.typeCall_enumerate_1 _) (F.newCall_enumerate_1 _) (fun obj => F.args_object_init_2 obj _) F.entry_enumerate_new (meets_enum1 B) ⟨h1, ?_⟩
  have hz : (s.heap.push o).objs.size = s.heap.objs.size + 1 := Heap.size_push ..
  show _ ∧ _
  rw [hz]
  have he : IsEnum ((s.heap.push o).push { cls := .type "enumerate", data := .fields #[.none, .bool false, .ref s.heap.objs.size, rawInt 0, .none, .none] }) (s.heap.objs.size + 1) s.heap.objs.size 0 .none := by
    have z := Heap.get?_push_size (s.heap.push o) (o := { cls := .type "enumerate", data := .fields #[.none, .bool false, .ref s.heap.objs.size, rawInt 0, .none, .none] }) rfl
    rwa [hz] at z
  exact ⟨⟨_, he, rfl⟩, h _ he (Heap.get?_push_of_some _ (Heap.get?_push_size _ B.free)) fun b ob x => Heap.get?_push_of_some _ (Heap.get?_push_of_some _ x)⟩
/-- the tuple at a, each item in a new pair -/
def IteT (K : PySem.W.Frag) (a : Addr) : It :=
  ⟨fun i H => ∃ (xs : List V) (x : V), SqT K H a xs ∧ xs[i]? = some x, fun i H v H' => ∃ T x, v = .ref T ∧ H T = none ∧ H' = upd H T (.tup [.int (i : Nat), x]) ∧ ∀ xs, SqT K H a xs → xs[i]? = some x, fun i H => ∃ xs : List V, SqT K H a xs ∧ xs.length = i⟩
theorem turn_enumT {P : Program} {w : World} {K : PySem.W.Frag} {elts : List Expr} {kk : Nat} {tpos : Pos} (a e it : Addr) :
    Turn P w K (.Tuple elts kk tpos) (IteT K a) [e, it] e (fun i h => (∃ old, IsEnum h e it ((i : Nat) : Int) old) ∧ h.IsTupleIter it a i ∧ e ≠ it) where
  mem := by simp
  obj := fun i h st b hb => by
    obtain ⟨⟨old, he⟩, ⟨o, ho, hc, hd⟩, _⟩ := st
    rcases (by simpa using hb : b = e ∨ b = it) with z | z
    · rw [z]; exact ⟨_, he, fun v q => nomatch q⟩
    · rw [z]; exact ⟨o, ho, fun v q => by rw [hd] at q; cases q⟩
  keep := fun i h h' st k => by
    obtain ⟨⟨old, he⟩, hi, hne⟩ := st
    exact ⟨⟨old, k e (by simp) _ he⟩, hi.at fun o q => k it (by simp) o q, hne⟩
  item := by
    intro X hP hw hK hc i pins s σ H E I hf st hg
    subst hP hw hK
    obtain ⟨⟨old, he⟩, hit, hne⟩ := st
    obtain ⟨xs, x, hq, hx⟩ := hg
    obtain ⟨its, rv, p, hz⟩ := I.tuple hq
    obtain ⟨u, hu, ru⟩ := rv.get hx
    have hel : e < s.heap.objs.size := Heap.lt_size he
    have hil : it < s.heap.objs.size := by obtain ⟨_, q, _⟩ := hit; exact Heap.lt_size q
    have ta : s.heap.IsTuple a its.toArray := p
    have hai : a ≠ it := fun z => by
      obtain ⟨o1, q1, c1, _⟩ := hit
      obtain ⟨o2, q2, c2, _⟩ := ta
      rw [z, q1] at q2
      cases q2
      rw [c1] at c2
      exact absurd c2 (by intro z; injection z with z; exact absurd z (by decide))
    have hea : e ≠ a := fun z => by
      obtain ⟨o2, q2, c2, _⟩ := ta
      rw [← z, show s.heap.get? e = some _ from he] at q2
      cases q2
      exact absurd c2 (by intro z; injection z with z; exact absurd z (by decide))
    have lt : i < its.toArray.size := by
      have := (List.getElem?_eq_some_iff.mp hu).1
      simpa using this
    refine wpAny_pyNext_enum_itemD (Draws.tuple (A := X.A.in1) (I.ok.hd hc) it a hai its.toArray) he ⟨hit, ta⟩ lt hne (by simp [hne, hea]) fun y h' tk hy ho ⟨hit', _⟩ hT hsz hk => ?_
    obtain rfl : y = u := by
      have z : its.toArray[i]? = some y := hy
      rw [List.getElem?_toArray, hu] at z
      exact (Option.some.inj z).symm
    refine ⟨_, rfl, wpAny_letOwnedTupleGo_enum (s := { s with heap := h', toks := tk + 1 }) ho fun h'' he' sb => ?_⟩
    have hT2 : h''.get? s.heap.objs.size = some { cls := .type "tuple", data := .seq #[.int i tk, y] } := (sb.2 _ (Nat.ne_of_gt hel)).trans hT
    have new : ObjOk X.prog X.w (upd H s.heap.objs.size (.tup [.int (i : Nat), x])) h'' s.heap.objs.size (.tup [.int (i : Nat), x]) := ⟨by show 2 ≤ sizeLine; decide, [.int i tk, y], .cons ⟨_, rfl⟩ (.cons ru .nil), ⟨_, hT2, rfl, _, rfl⟩⟩
    have I1 : Inv X pins σ (upd H s.heap.objs.size (.tup [.int (i : Nat), x])) { s with heap := h'', toks := tk + 1 } := I.turnedNew (ch := [e, it]) (fun b ob hb q => (sb.2 b (fun z => hb (by simp [z]))).trans (hk b ob (fun z => hb (by simp [z])) (fun z => hb (by simp [z])) q)) hf (Nat.le_refl _) new
    refine ⟨.ref s.heap.objs.size, _, I1, rfl, ⟨_, x, rfl, I.hok.fresh (Nat.le_refl _), rfl, fun ys hy => by rw [I.tuple_inj hy hq]; exact hx⟩, ⟨⟨y, ?_⟩, hit'.at fun o q => (sb.2 it (Ne.symm hne)).trans q, hne⟩, fun b hb => ?_⟩
    · rw [show ((i + 1 : Nat) : Int) = (i : Int) + 1 by omega]; exact he'
    · have hb' : b < s.heap.objs.size := by
        rcases (by simpa using hb : b = e ∨ b = it) with z | z
        · rw [z]; exact hel
        · rw [z]; exact hil
      rw [upd_ne (Nat.ne_of_lt hb')]
      exact (hf b hb).1
  done := by
    intro X hP hw hK hc i pins s σ H E I hf st hg
    subst hP hw hK
    obtain ⟨⟨old, he⟩, hit, hne⟩ := st
    obtain ⟨xs, hq, hx⟩ := hg
    obtain ⟨its, rv, p, hz⟩ := I.tuple hq
    obtain ⟨f0, f1, f2, f3, f4, f5⟩ := hf it (by simp)
    have hl := rv.length
    have en : its.toArray.size = i := by simp; omega
    have ta : s.heap.IsTuple a its.toArray := p
    have hai : a ≠ it := fun z => by
      obtain ⟨o1, q1, c1, _⟩ := hit
      obtain ⟨o2, q2, c2, _⟩ := ta
      rw [z, q1] at q2
      cases q2
      rw [c1] at c2
      exact absurd c2 (by intro z; injection z with z; exact absurd z (by decide))
    rw [← en] at hit
    exact wpAny_pyNext_enum_endD (Draws.tuple (A := X.A.in1) (I.ok.hd hc) it a hai its.toArray) he ⟨hit, ta⟩ fun h' eb => ⟨rfl, I.turned (t' := s.toks) (fun b o hb q => eb b o hb q) f0 f1 f3 f4 f5⟩
  self := fun A i s Q E st h => by
    obtain ⟨⟨_, he⟩, _⟩ := st
    exact wpAny_pyIter_enum he h
def iEnumT (K : PySem.W.Frag) (ta : TA) : TI := fun σ H R => ta σ H fun vs H1 => ∃ a xs, vs = [.ref a] ∧ SqT K H1 a xs ∧ R (IteT K a) H1
theorem pi_enumT {X : Cx} {e : Expr} {ta : TA} {p pos tpos : Pos} {elts : List Expr} {kk : Nat} (hg : Gl X "enumerate") (hm : X.mg "enumerate" = none) (ha : PA X [e] ta) (hs : starEach [e] X.env = [(false, eval e X.env)] := by rfl) : PI X (.Tuple elts kk tpos) (.Call (.Name "enumerate" p) [e] [] pos) (iEnumT X.K ta) := by
  refine ⟨fun pins s σ H R I h => ?_⟩; refine Call_ (ld_blt I hg hm boot_enumerate (PyProof.Rows.callWith_type1 (thn (ha.run pos pins s σ H _ I h) fun us s1 ⟨vs, H1, I1, r1, q1⟩ => ?_) hs rfl))
  obtain ⟨a, xs, ex, hq, q⟩ := q1
  subst ex
  cases r1 with
  | cons r rr =>
    cases rr
    cases r
    obtain ⟨its, rv, p', hz⟩ := I1.tuple hq
    have ta' : s1.heap.IsTuple a its.toArray := p'
    refine call_enum1 (begins_tuple a its.toArray) ta' fun h' he hit hk => wpAny_pyIter_enum he ?_
    have I2 : Inv X pins σ H1 { s1 with heap := h' } := I1.kept (t' := s1.toks) hk
    refine ⟨s1.heap.objs.size + 1, [s1.heap.objs.size + 1, s1.heap.objs.size], _, _, H1, rfl, I2, turn_enumT a (s1.heap.objs.size + 1) s1.heap.objs.size, ⟨⟨.none, he⟩, ⟨_, hit, rfl, rfl⟩, Nat.succ_ne_self _⟩, fun b hb => ?_, q⟩
    have hle : s1.heap.objs.size ≤ b := by
      rcases (by simpa using hb : b = s1.heap.objs.size + 1 ∨ b = s1.heap.objs.size) with z | z
      · rw [z]; exact Nat.le_succ _
      · rw [z]; exact Nat.le_refl _
    exact I1.fpOk hle (I1.hok.fresh hle)
theorem walk_enumT {K : PySem.W.Frag} {a : Addr} {xs : List V} : Walk (IteT K a) xs.length (fun H => SqT K H a xs) (YPair (fun i => some (.int (i : Nat))) (fun i => xs[i]?)) := by
  refine ⟨?_, ?_, ?_⟩
  · intro i H hi q
    exact ⟨xs, xs[i], q, by simp [hi]⟩
  · intro H q
    exact ⟨xs, q, rfl⟩
  · rintro i H v H' hi q ⟨T, x, e, n, e2, h1⟩
    exact ⟨T, _, x, e, n, e2, rfl, h1 xs q⟩
end Pl
namespace Pl
open PySem PySem.Spec PyProof.Rows L2 PySem.MeetsSeq PySem.MeetsSeq2 PySem.MeetsSeq3 PySem.SeqAt
section
variable {X : Cx}
/-- b is True -/
def rIsBl : R2 := fun x y H Q => ∃ b c : Bool, x = .bl b ∧ y = .bl c ∧ Q (.bl (decide (b = c))) H
theorem op_isBl : OpR X (compareOp .Is) rIsBl := by
  intro pins s σ H x y v u Q I rx ry h
  obtain ⟨b, c, rfl, rfl, q⟩ := h
  cases rx
  cases ry
  show wpAny _ _ ((isSame (Value.bool b) (Value.bool c)) >>= fun z => pure (Value.bool z)) _ _ s
  exact wpAny_bind (wpAny_isSame_plain (by cases b <;> cases c <;> rfl) (wpAny_pure (fin_bl I q (by cases b <;> cases c <;> rfl))))
end
end Pl
namespace Pl
open PySem PySem.Spec PyProof.Rows L2 PySem.MeetsSeq PySem.MeetsSeq2 PySem.MeetsSeq3 PySem.SeqAt
section
variable {X : Cx}
/-- sorted(range(..)) -/
def tSrtRg (te : L2.St → Hp → (Int → Int → Hp → Prop) → Prop) : TE := fun σ H Q => te σ H fun a b H1 => RgOk a b ∧ (b - a).toNat < 64 ∧ ∀ (ns : List Int) q, ns.Perm ((List.range (b - a).toNat).map fun i => a + (i : Nat)) → ns.Pairwise (· ≤ ·) → H1 q = none → Q (.ref q) (upd H1 q (.lst (ns.map V.int)))
theorem pe_sortedRg {e : Expr} {te : L2.St → Hp → (Int → Int → Hp → Prop) → Prop} {p pos : Pos} (hc : X.calm = true) (hg : Gl X "sorted") (hm : X.mg "sorted" = none) (he : PRg X e te) (na : starEach [e] X.env = (false, eval e X.env) :: starEach [] X.env := by rfl) : PE X (.Call (.Name "sorted" p) [e] [] pos) (tSrtRg te) := by
  refine ⟨fun pins s0 σ H0 Q I0 h => ?_⟩; refine wpAny_Call_Name_kw (ld_blt I0 hg hm boot_sorted ?_)
  refine PyProof.Rows.callWith_builtin1 (args_cons (thn (he pins s0 σ H0 _ I0 h) fun x s ⟨r, a, b, t, u, v, H, ex, hr, I, ok, few, q⟩ => args_nil ?_) na) na
  subst ex
  obtain ⟨b1, b2, b3, b4, b5⟩ := ok
  refine Calls.call_function_entry kind_sorted plain_sorted entry_sorted (args_sorted1 _) ?_
  unfold Builtin.«sorted»
  refine wpAny_bind (m := checkCount "sorted" 1 1 _) (wpAny_pure ?_)
  refine wpAny_bind (collect_range (A := X.A.in1) (n := (b - a).toNat) (I.ok.hd hc) hr (small_one b1 b2 b3 b4) (rangeSize_nat a b) b5 fun h1 tk acc kp hi0 => ?_)
  have rv := vals_rg hi0
  have I1 : Inv X pins σ H { s with heap := h1, toks := tk } := I.kept kp
  generalize hits : acc.toList = its at rv
  have er : rgV a b = ((List.range (b - a).toNat).map fun i => a + (i : Nat)).map V.int := by
    unfold rgV
    rw [List.map_map]
    rfl
  rw [er] at rv
  generalize hns : ((List.range (b - a).toNat).map fun i => a + (i : Nat)) = ns at rv q
  have hi := rv.ints
  have len : its.length = ns.length := hi.length
  have ln : ns.length = (b - a).toNat := by rw [← hns]; simp
  have small : its.length ≤ sizeLine := by rw [len, ln]; exact Nat.le_of_lt (Nat.lt_of_lt_of_le few (by decide))
  refine wpAny_bind (wpAny_newList ?_ small)
  have at1 : (h1.push (seqObj "list" its.toArray 0)).get? h1.objs.size = some (seqObj "list" its.toArray 0) := Heap.get?_push_size _ rfl
  refine wpAny_bind (wpAny_holding (wpAny_call_entry slot_list_sort ⟨_, at1, rfl⟩ entry_list_sort (list_sort_tree (s := { s with heap := h1.push (seqObj "list" its.toArray 0), toks := tk }) at1 hi (by rw [len, ln]; exact few) ?_) (args_list_sort _)))
  intro out ys g1 g2 g3
  refine ⟨_, rfl, ?_⟩
  obtain ⟨ep, at2⟩ := sortedHeap_at (vs := its) (out := out) at1
  have lens : (ys.map V.int).length ≤ sizeLine := by
    rw [List.length_map, g2.length_eq, ← len]
    exact small
  refine wpAny_pure ⟨_, rfl, .ref h1.objs.size, L2.upd H h1.objs.size (.lst (ys.map V.int)), I1.laid (t' := tk) (fun b u e => ?_) (Nat.le_refl _) ?_, rfl, q ys _ g2 g3 (I1.hok.fresh (Nat.le_refl _))⟩
  · have lt : b < h1.objs.size := Heap.lt_size e
    rw [sortedHeap_old (Nat.ne_of_lt lt) (by rw [size_push']; exact Nat.lt_succ_of_lt lt)]
    exact Heap.get?_push_of_some _ e
  · exact (show ObjOk X.prog X.w _ _ _ (.lst (ys.map V.int)) from ⟨lens, out.toList, ep, vals_of_ints g1, by rw [Array.toArray_toList]; exact at2⟩)
end
end Pl
namespace Pl
open PySem PySem.Spec PyProof.Rows L2 PySem.MeetsSeq PySem.MeetsSeq2 PySem.MeetsSeq3 PySem.SeqAt
/-! blocks of any number of clauses -/
section
variable {kx vx t i t1 i1 : Expr} {ifs ifs1 : List Expr} {G : List Comprehension} {scope : Scope} {pos : Pos} {it : Value} {D : Addr} {acc : Value} {env : Env} {j : Nat}
theorem dturn_mid (h0 : G[j]? = some ⟨t, i, ifs, 0⟩) (h1 : G[j + 1]? = some ⟨t1, i1, ifs1, 0⟩) : compTurn (.DictComp kx vx G scope pos) j it acc env = (do
    standAt i.pos
    match ← pyNext it with
    | none => pure (.done .next)
    | some v =>
      letOwnedTupleGo t it v
      assign t env v
      let mut ok := true
      for c in ifs do if ok then ok ← isTrue c env (eval c env)
      if ok then
        let x ← eval i1 env
        standAt i1.pos
        let x ← foldedSetIterable i1 env x
        let _ ← runOwn (.compStart (.DictComp kx vx G scope pos) (j + 1) (← holding [x] (pyIter x)) acc env) env
      again (.compLoop (.DictComp kx vx G scope pos) j it acc env)) := by
  unfold compTurn
  dsimp only
  rw [h0]
  dsimp only
  rw [h1]
  rfl
theorem dturn_last (h0 : G[j]? = some ⟨t, i, ifs, 0⟩) (h1 : G[j + 1]? = none) : compTurn (.DictComp kx vx G scope pos) j it (.ref D) env = (do
    standAt i.pos
    match ← pyNext it with
    | none => pure (.done .next)
    | some v =>
      letOwnedTupleGo t it v
      assign t env v
      let mut ok := true
      for c in ifs do if ok then ok ← isTrue c env (eval c env)
      if ok then
        (do
          let kv ← eval kx env
          let vv ← holding [kv] (eval vx env)
          standAt { kx.pos with endLine := vx.pos.endLine, endCol := vx.pos.endCol }
          holding [kv, vv] (dictSet D kv vv))
      again (.compLoop (.DictComp kx vx G scope pos) j it (.ref D) env)) := by
  unfold compTurn
  dsimp only
  rw [h0]
  dsimp only
  rw [h1]
  rfl
end
section
variable {prog : Program} {w : World} {A : Around} {R : Result → Shared → Prop} {s : Shared} {kx vx t i : Expr} {ifs : List Expr} {G : List Comprehension} {scope : Scope} {pos : Pos} {it : Value} {D : Addr} {env : Env} {j : Nat}
/-- what runs behind a clause's store and tests -/
def BehindD (prog : Program) (w : World) (A : Around) (kx vx : Expr) (G : List Comprehension) (scope : Scope) (pos : Pos) (j : Nat) (D : Addr) (env : Env) (N : Value → Shared → Prop) (post : Shared → Prop) (s : Shared) : Prop :=
  match G[j + 1]? with
  | some g => wpAny (model prog w) A (eval g.iter env) (fun x s5 => wpAny (model prog w) A (pyIter x) (fun it1 s6 => codeAny (model prog w) A (.compStart (.DictComp kx vx G scope pos) (j + 1) it1 (.ref D) env) (fun r s' => match r with | .ok _ => post s' | .error _ => False) s6) N s5) N s
  | none => wpAny (model prog w) A (eval kx env) (fun x s5 => wpAny (model prog w) A (eval vx env) (fun y s6 => wpAny (model prog w) A (dictSet D x y) (fun _ s7 => post s7) N s6) N s5) N s
theorem dloop_any (h0 : G[j]? = some ⟨t, i, ifs, 0⟩) (hb : ∀ g, G[j + 1]? = some g → g.is_async = 0 ∧ ∀ x, foldedSetIterable g.iter env x = pure x) (I : Nat → Shared → Prop)
    (turn : ∀ n s, I n s → wpAny (model prog w) A (pyNext it) (fun r s1 => match r with
      | none => R (.ok .next) s1
      | some v => wpAny (model prog w) A (letOwnedTupleGo t it v) (fun _ s2 => wpAny (model prog w) A (assign t env v) (fun _ s3 => wpAny (model prog w) A (forIn ifs true fun c r => if r = true then do let ok ← isTrue c env (eval c env); pure (ForInStep.yield ok) else pure (ForInStep.yield r)) (fun ok s4 =>
          if ok = true then BehindD prog w A kx vx G scope pos j D env (notedBy (model prog w) A env fun e s' => R (.error e) s') (fun s' => ∃ m, m < n ∧ I m s') s4 else ∃ m, m < n ∧ I m s4)
          (notedBy (model prog w) A env fun e s' => R (.error e) s') s3) (notedBy (model prog w) A env fun e s' => R (.error e) s') s2) (notedBy (model prog w) A env fun e s' => R (.error e) s') s1) (notedBy (model prog w) A env fun e s' => R (.error e) s') s)
    (n : Nat) (h : I n s) : codeAny (model prog w) A (.compLoop (.DictComp kx vx G scope pos) j it (.ref D) env) R s := by
  refine codeAny_loop rfl I (fun n s hI => ?_) n h; show wpAny _ A ((compTurn (.DictComp kx vx G scope pos) j it (.ref D) env).onRaise (fun x => do noteFrame x env; theTreesLotGoes x)) _ _ s
  refine wpAny_noted ?_
  have T := turn n s hI
  cases h1 : G[j + 1]? with
  | some g =>
    obtain ⟨t1, i1, ifs1, as⟩ := g
    obtain ⟨ha, hs⟩ := hb _ h1
    obtain rfl : as = 0 := ha
    rw [dturn_mid h0 h1]
    refine wpAny_bind (wpAny_standAt (wpAny_bind (wpAny_mono T (fun r s1 q1 => ?_) fun _ _ e => e)))
    cases r with
    | none => exact wpAny_pure q1
    | some v =>
      refine wpAny_bind (wpAny_mono q1 (fun _ s2 q2 => wpAny_bind (wpAny_mono q2 (fun _ s3 q3 => wpAny_bind (wpAny_mono q3 (fun ok s4 q4 => ?_) fun _ _ e => e)) fun _ _ e => e)) fun _ _ e => e)
      cases ok with
      | false => exact wpAny_pure ⟨rfl, q4⟩
      | true =>
        have q4 : BehindD prog w A kx vx G scope pos j D env _ _ s4 := q4
        unfold BehindD at q4
        rw [h1] at q4
        refine wpAny_bind (wpAny_mono q4 (fun x s5 q5 => ?_) fun _ _ e => e)
        refine wpAny_bind (wpAny_standAt (wpAny_bind (wpAny_of_eq (hs x) (wpAny_bind (wpAny_holding (wpAny_mono q5 (fun it1 s6 q6 => ?_) fun _ _ e => e))))))
        refine wpAny_bind (wpAny_runOwn ?_)
        rw [Around.mark_none]
        refine codeAny_mono q6 fun r s' hr => ?_
        cases r with
        | ok f => first | exact wpAny_pure ⟨rfl, hr⟩ | exact wpAny_bind (wpAny_pure (wpAny_pure ⟨rfl, hr⟩))
        | error e => exact hr.elim
  | none =>
    rw [dturn_last h0 h1]
    refine wpAny_bind (wpAny_standAt (wpAny_bind (wpAny_mono T (fun r s1 q1 => ?_) fun _ _ e => e)))
    cases r with
    | none => exact wpAny_pure q1
    | some v =>
      refine wpAny_bind (wpAny_mono q1 (fun _ s2 q2 => wpAny_bind (wpAny_mono q2 (fun _ s3 q3 => wpAny_bind (wpAny_mono q3 (fun ok s4 q4 => ?_) fun _ _ e => e)) fun _ _ e => e)) fun _ _ e => e)
      cases ok with
      | false => exact wpAny_pure ⟨rfl, q4⟩
      | true =>
        have q4 : BehindD prog w A kx vx G scope pos j D env _ _ s4 := q4
        unfold BehindD at q4
        rw [h1] at q4
        exact wpAny_bind (wpAny_bind (wpAny_mono q4 (fun kv s5 q5 => wpAny_bind (wpAny_holding (wpAny_mono q5 (fun vv s6 q6 => wpAny_bind (wpAny_standAt (wpAny_holding (wpAny_mono q6 (fun _ s7 q7 => wpAny_pure ⟨rfl, q7⟩) fun _ _ e => e)))) fun _ _ e => e))) fun _ _ e => e))
theorem dstart_any (hg : ∃ g, G[j]? = some g ∧ g.is_async = 0) (a : codeAny (model prog w) A (.compLoop (.DictComp kx vx G scope pos) j it (.ref D) env) R s)
    (b : wpAny (model prog w) A (pyIter it) (fun it' s' => codeAny (model prog w) A (.compLoop (.DictComp kx vx G scope pos) j it' (.ref D) env) R s') (notedBy (model prog w) A env fun x s' => R (.error x) s') s) :
    codeAny (model prog w) A (.compStart (.DictComp kx vx G scope pos) j it (.ref D) env) R s := by
  obtain ⟨g, h0, ha⟩ := hg
  refine codeAny_of_tree ?_; show wpAny _ _ ((compStart (.DictComp kx vx G scope pos) j it (.ref D) env).onRaise (fun x => do noteFrame x env; standAt theWindowsPlace)) _ _ s
  refine wpAny_notedAt ?_
  unfold compStart
  have hcl : (clausesOf (.DictComp kx vx G scope pos))[j]? = some g := h0
  rw [hcl]
  simp only [Option.elim_some, ha]
  rw [if_neg (by simp)]
  refine wpAny_bind (wpAny_askSetting (wpAny_ite ?_))
  split
  · first | exact wpAny_bind (wpAny_pure (wpAny_pure (And.intro rfl a))) | exact wpAny_pure (And.intro rfl a)
  · first
      | exact wpAny_bind (wpAny_rule (wpAny_bind (wpAny_standAt (wpAny_bind (wpAny_mono b (fun it' s' h' => wpAny_pure (And.intro rfl h')) fun _ _ x => x)))))
      | (refine wpAny_bind (wpAny_rule ?_); exact wpAny_bind (wpAny_standAt (wpAny_bind (wpAny_mono b (fun it' s' h' => wpAny_pure (And.intro rfl h')) fun _ _ x => x))))
end
theorem BehindD.mono {prog : Program} {w : World} {A : Around} {kx vx : Expr} {G : List Comprehension} {scope : Scope} {pos : Pos} {j : Nat} {D : Addr} {env : Env} {N : Value → Shared → Prop} {p p' : Shared → Prop} {s : Shared} (h : BehindD prog w A kx vx G scope pos j D env N p s) (k : ∀ s', p s' → p' s') : BehindD prog w A kx vx G scope pos j D env N p' s := by
  unfold BehindD at h ⊢
  cases e : G[j + 1]? with
  | some g =>
    rw [e] at h
    exact wpAny_mono h (fun x s5 q5 => wpAny_mono q5 (fun it s6 q6 => codeAny_mono q6 fun r s' hr => by
      cases r with
      | ok f => exact k s' hr
      | error x => exact hr) fun _ _ z => z) fun _ _ z => z
  | none =>
    rw [e] at h
    exact wpAny_mono h (fun x s5 q5 => wpAny_mono q5 (fun y s6 q6 => wpAny_mono q6 (fun _ s7 q7 => k s7 q7) fun _ _ z => z) fun _ _ z => z) fun _ _ z => z
theorem d_dictSetT {X : Cx} {pins : List (Addr × Obj)} {σ : L2.St} {H : Hp} {s : Shared} {E : Value → Shared → Prop} {D b : Addr} {kvs : List (List Key × V)} {k : List Key} {v : V} {u r : Value} {Q : Unit → Shared → Prop} (hu : X.A.units + 1 < cLine) (I : Inv X pins σ H s) (hD : H D = some (.dT kvs)) (eb : H b = some (.tup (k.map kV))) (hz : kvs.length < sizeLine)
    (ry : RelV (.ref b) u) (rv : RelV v r) (h : ∀ s', Inv X pins σ (upd H D (.dT (putK kvs k v))) s' → Q () s') : wpAny (model X.prog X.w) X.A (dictSet D u r) Q E s := by
  cases (show u = Value.ref b from ry)
  obtain ⟨z, hd, xs, rel, dd⟩ := dt_of I.hok hD
  have hz : xs.length ≤ sizeLine := by rw [← Paired.length rel]; exact z
  have hl : (putK kvs k v).length ≤ sizeLine := by have := length_putK kvs k v; omega
  refine wpAny_dictSet_heap (hsz := hz) (by show X.A.units < cLine; omega) (key_of I.hok eb) dd fun h' dd' hs => h _ ?_
  obtain ⟨q, es, ep, hq, h2, h3, h4, _, h5⟩ := dd'
  refine d_write I (by rw [hD]; exact True.intro) hs ⟨q, hq⟩ ⟨hl, hd, _, (rel.put k eb rv).keeps fun c ys ec => ?_, q, es, ep, hq, h2, h3, h4, h5⟩
  rw [upd_ne (ne_of ec hD (fun z => nomatch z))]
  exact ec
/-! what a block of several clauses does -/
def tItemD (tk tv : TE) : TIn := fun σ H D Nx => tk σ H fun y H1 => tv σ H1 fun z H2 => ∃ kvs k b, y = .ref b ∧ H2 b = some (.tup (k.map kV)) ∧ H2 D = some (.dT kvs) ∧ kvs.length < sizeLine ∧ Nx (upd H2 D (.dT (putK kvs k z)))
inductive PInsD (Y : Cx) (kx vx : Expr) : List Comprehension → List Nat → TIn → Prop
  | nil {tk tv : TE} : PE Y kx tk → PE Y vx tv → PInsD Y kx vx [] [] (tItemD tk tv)
  | cons {tg iter : Expr} {ifs : List Expr} {wi : TI} {g : TG} {tt : TT} {us vs : List Nat} {r : List Comprehension} {t : TIn} : PI Y tg iter wi → PG Y tg g → PTs Y ifs tt → (∀ i ∈ vs, i ∈ us) → (∀ env x, foldedSetIterable iter env x = pure x) → PInsD Y kx vx r vs t → PInsD Y kx vx (⟨tg, iter, ifs, 0⟩ :: r) us (tClause wi g tt us t)
section
variable {X : Cx}
theorem dinner_ok {s3 : Shared} {H3 : Hp} {scope : Scope} {ce : Env} {fp : List Addr} {kx vx : Expr} {pos : Pos} {G : List Comprehension} {D : Addr} (hc : X.calm = true) (hu : X.A.units + 1 < cLine) (hce : (X.blk s3 H3 scope ce fp).env = ce) : ∀ {r : List Comprehension} {us : List Nat} {t : TIn}, PInsD (X.blk s3 H3 scope ce fp) kx vx r us t →
    ∀ {j : Nat}, G.drop (j + 1) = r → ∀ {pins : List (Addr × Obj)} {σ : L2.St} {H : Hp} {s : Shared} {Nx : Hp → Prop} {N : Value → Shared → Prop}, Inv (X.blk s3 H3 scope ce fp) pins σ H s → t σ H D Nx →
      BehindD X.prog X.w X.A kx vx G scope pos j D ce N (fun s' => ∃ H', Inv (X.blk s3 H3 scope ce fp) pins (wipe σ us) H' s' ∧ Nx H') s := by
  intro r us t P
  induction P with
  | @nil tk tv pk pe =>
    intro j hG pins σ H s Nx N I q
    have e : G[j + 1]? = none := drop_none hG
    unfold BehindD
    rw [e]
    refine thnF (pk.run _ s σ H _ I q) fun z s1 ⟨yk, H1, I1, r1, q1⟩ => ?_
    refine thnF (pe.run _ s1 σ H1 _ I1 q1) fun z2 s2 ⟨yv, H2, I2, r2, kvs, k, b, ek, hb, hD, hz, nx⟩ => ?_
    subst ek
    exact d_dictSetT (X := X.blk s3 H3 scope ce fp) hu I2 hD hb hz r1 r2 fun s3 I3 => ⟨_, I3, nx⟩
  | @cons tg iter ifs wi g tt us vs r t pi pg pt hv hs Pr ih =>
    intro j hG pins σ H s Nx N I q
    have e : G[j + 1]? = some ⟨tg, iter, ifs, 0⟩ := drop_cons hG
    have hG2 : G.drop (j + 1 + 1) = r := by
      have z := congrArg (List.drop 1) hG
      simpa [List.drop_drop] using z
    unfold BehindD
    rw [e]
    refine thnF (pi.run _ s σ H _ I q) fun xv s1 hx => thnF hx fun itv s2 h2 => ?_
    obtain ⟨it, fp1, tn, J, H2, e1, I2, T, st2, f2, W, ⟨m, w0⟩, turn⟩ := h2
    subst e1
    have stat : ∀ {H' : Hp}, (∀ b ∈ fp1, H' b = none) → ∀ b ∈ fp1, FpOk (X.blk s3 H3 scope ce fp) pins H' b := fun hn b hb => ⟨hn b hb, (f2 b hb).2⟩
    have hnx : ∀ g', G[j + 1 + 1]? = some g' → g'.is_async = 0 ∧ ∀ x, foldedSetIterable g'.iter ce x = pure x := by
      intro g' hg'
      cases Pr with
      | nil pk pe =>
        rw [drop_none hG2] at hg'
        cases hg'
      | cons a b c d e f =>
        rw [drop_cons hG2] at hg'
        cases hg'
        exact ⟨rfl, e ce⟩
    have loop : codeAny (model X.prog X.w) X.A (.compLoop (.DictComp kx vx G scope pos) (j + 1) (.ref it) (.ref D) ce) (fun r s' => match r with | .ok _ => ∃ H', Inv (X.blk s3 H3 scope ce fp) pins (wipe σ us) H' s' ∧ Nx H' | .error _ => False) s2 := by
      refine dloop_any e hnx (fun k s' => ∃ jj H', Inv (X.blk s3 H3 scope ce fp) pins (wipe σ us) H' s' ∧ tn jj s'.heap ∧ (∀ b ∈ fp1, H' b = none) ∧ W jj k H') ?_ m ⟨0, H2, I2.weak (wipe_length _ _) (fun j v e => (wipe_some e).1), st2, fun b hb => (f2 b hb).1, w0⟩
      rintro k s4 ⟨jj, H4, I4, st4, n4, w4⟩
      rcases turn jj k H4 w4 with ⟨stop, nx⟩ | ⟨go, Nx1, hNx1, step⟩
      · refine thnF (T.done (X.blk s3 H3 scope ce fp) rfl rfl rfl hc jj _ s4 (wipe σ us) H4 (fun _ _ => False) I4 (stat n4) st4 stop) fun r s5 ⟨hr, I5⟩ => ?_
        subst hr
        exact ⟨_, I5, nx⟩
      · refine thnF (T.item (X.blk s3 H3 scope ce fp) rfl rfl rfl hc jj _ s4 (wipe σ us) H4 (fun _ _ => False) I4 (stat n4) st4 go) fun r s5 ⟨u, hr, h5⟩ => ?_
        subst hr
        refine thnF h5 fun _ s6 ⟨x, H6, I6, r6, y6, st6, n6⟩ => ?_
        have I6' := I6.pinned (stat n6) (T.obj _ _ st6)
        refine thnF (pg.run _ s6 (wipe σ us) H6 x u _ I6' r6 (step x H6 y6)) fun _ s7 ⟨σ7, H7, I7, hw, q7⟩ => ?_
        refine thnF (pt.run _ s7 σ7 H7 _ I7 q7) fun b s8 ⟨H8, I8, q8⟩ => ?_
        have fin : ∀ {σ' : L2.St} {s' : Shared} {H' : Hp}, Inv (X.blk s3 H3 scope ce fp) (pins ++ pinsAt fp1 s6.heap) σ' H' s' → (wipe σ us).length = σ'.length → (∀ (n : Nat) v, (wipe σ us)[n]? = some (some v) → σ'[n]? = some (some v)) → Nx1 H' → ∃ m, m < k ∧ ∃ jj H', Inv (X.blk s3 H3 scope ce fp) pins (wipe σ us) H' s' ∧ tn jj s'.heap ∧ (∀ b ∈ fp1, H' b = none) ∧ W jj m H' := fun {σ' s' H'} I' hl hk nx => by
          obtain ⟨m', hm, w'⟩ := hNx1 H' nx
          have pin' : ∀ b ∈ fp1, ∀ o, s6.heap.get? b = some o → s'.heap.get? b = some o ∧ H' b = none := fun b hb o eo => by
            have z := I'.pin (b, o) (List.mem_append_right _ (List.mem_append_right _ (mem_pinsAt hb eo)))
            exact ⟨z.1, z.2.1⟩
          refine ⟨m', hm, jj + 1, H', I'.unpinned.weak hl hk, T.keep _ _ _ st6 fun b hb o eo => (pin' b hb o eo).1, fun b hb => ?_, w'⟩
          obtain ⟨o, eo, _⟩ := T.obj _ _ st6 b hb
          exact (pin' b hb o eo).2
        have hl7 : (wipe σ us).length = σ7.length := by rw [← hw, wipe_length]
        have hk7 : ∀ (n : Nat) v, (wipe σ us)[n]? = some (some v) → σ7[n]? = some (some v) := fun n v z => by
          rw [← hw] at z
          exact (wipe_some z).1
        cases b with
        | false =>
          simp only [Bool.false_eq_true, if_false] at q8 ⊢
          exact fin I8 hl7 hk7 q8
        | true =>
          simp only [if_true] at q8 ⊢
          refine (ih hG2 I8 q8).mono fun s' ⟨H', I', nx⟩ => fin I' (hl7.trans (wipe_length _ _).symm) (fun n v z => ?_) nx
          rw [← hw] at z
          obtain ⟨z1, z2⟩ := wipe_some z
          rw [wipe_out fun y => z2 (hv n y)]
          exact z1
    exact dstart_any ⟨_, e, rfl⟩ loop (T.self X.A 0 _ _ _ st2 loop)
/-- the whole block: the first clause's source is the def's own; us: all names of the block -/
def tDcN (wi : TI) (g : TG) (tt : TT) (t : TIn) (us : List Nat) : TE := fun σ H Q => wi σ H fun J H1 => ∀ D, H1 D = none → ∃ W : Nat → Nat → Hp → Prop, (∃ m, W 0 m (upd H1 D (.dT []))) ∧ ∀ i m H, W i m H →
  (J.stop i H ∧ Q (.ref D) H) ∨ (J.go i H ∧ ∃ Nx : Hp → Prop, (∀ H', Nx H' → ∃ m', m' < m ∧ W (i + 1) m' H') ∧ ∀ x H', J.yld i H x H' → g x (wipe σ us) H' fun σ2 H2 => wipe σ2 us = wipe σ us ∧ tt σ2 H2 fun b H3 => if b = true then t σ2 H3 D Nx else Nx H3)
theorem dcN_core {pins : List (Addr × Obj)} {s : Shared} {σ : L2.St} {H : Hp} {Q : VK} {kx vx tg iter : Expr} {ifs : List Expr} {rest : List Comprehension} {scope : Scope} {own : List (Str × Nat)} {vs : List Nat} {pos pos' : Pos} {wi : TI} {g : TG} {tt : TT} {t : TIn} {use : Option (Value → Sem Unit)} {Qf : Value → Shared → Prop}
    (hc : X.calm = true) (hu : X.A.units + 1 < cLine) (hN : X.N.Nodup) (I : Inv X pins σ H s) (hi : PI X tg iter wi) (ok : BlkOk X.N X.env.scope scope own) (hv : ∀ i ∈ vs, i ∈ own.map (·.2))
    (hq : ∀ (s : Shared) (H : Hp) (C : Addr) (cl : List (Str × Addr)) (fp : List Addr), PG (X.blk s H scope (compEnvC scope cl C X.env) fp) tg g ∧ PTs (X.blk s H scope (compEnvC scope cl C X.env) fp) ifs tt ∧ PInsD (X.blk s H scope (compEnvC scope cl C X.env) fp) kx vx rest vs t)
    (hs : ∀ x, foldedSetIterable iter X.env x = pure x) (h : tDcN wi g tt t (own.map (·.2)) σ H Q)
    (hRR : ∀ D C s' m H', Inv X pins σ H' s' → Q (.ref D) H' → s'.heap.Ns C m → FpOk X pins H' C → compPost (model X.prog X.w) X.A X.xe use Qf (.ref D) C (.ok .next) s') :
    wpAny (model X.prog X.w) X.A (comprehension (.DictComp kx vx (⟨tg, iter, ifs, 0⟩ :: rest) scope pos) scope X.env pos' newDict false (eval iter X.env) use) Qf X.xe s := by
  have hfree : ∀ y ∈ scope.names, y.2 = .free → ∃ c, X.env.cells.lookup y.1 = some c := fun y hy e => (ok.free y hy e).elim (fun k => I.ok.has _ (.inl k)) fun k => I.ok.has _ (.inr k)
  refine wpAny_comprehension_free (use := use) rfl hs (closure_ok hfree) ok.kind (fun y hy e => by rw [ok.uniq y hy, e]) (thn (hi.run pins s σ H _ I h) fun xv s1 hx => thn hx fun itv s2 h2 => ?_)
  obtain ⟨it, fp, tn, J, H2, e, I2, T, st2, f2, q⟩ := h2
  subst e
  refine wpAny_newObj_type (newEnv_comp ?_)
  generalize hD : s2.heap.objs.size = D
  obtain ⟨W, ⟨m0, w0⟩, turn⟩ := q D (I2.hok.fresh (Nat.le_of_eq hD))
  generalize hs3 : ({ s2 with heap := s2.heap.push { cls := .type "dict", data := .dict #[] } } : Shared) = s3
  have h3 : s3.heap = s2.heap.push { cls := .type "dict", data := .dict #[] } := by rw [← hs3]
  have I3 : Inv X pins σ (upd H2 D (.dT [])) s3 := by
    rw [← hs3]
    refine I2.laid (t' := s2.toks) (fun b o e => Heap.get?_push_of_some _ e) (Nat.le_of_eq hD) ?_
    rw [← hD]
    exact dt_empty s2.heap I2.big
  have f3 : ∀ b ∈ fp, FpOk X pins (upd H2 D (.dT [])) b ∧ b < s3.heap.objs.size := fun b hb => by
    obtain ⟨o, e, _⟩ := T.obj _ _ st2 b hb
    have lt := Heap.lt_size e
    exact ⟨⟨by rw [upd_ne (by rw [← hD]; exact Nat.ne_of_lt lt)]; exact (f2 b hb).1, (f2 b hb).2⟩, by rw [h3, Heap.size_push]; exact Nat.lt_succ_of_lt lt⟩
  have st3 : tn 0 s3.heap := T.keep _ _ _ st2 fun b _ o e => by rw [h3]; exact Heap.get?_push_of_some _ e
  have I4 := block_start I3 ok hN f3
  obtain ⟨pg, pt, pin⟩ := hq s3 (upd H2 D (.dT [])) s3.heap.objs.size (cellsFrom (s3.heap.objs.size + 1) scope.names (cloFrom X.env.cells scope.names [])) fp
  show codeAny _ _ (.compStart (.DictComp kx vx (⟨tg, iter, ifs, 0⟩ :: rest) scope pos) 0 (.ref it) (.ref D) (compEnvC scope (cellsFrom (s3.heap.objs.size + 1) scope.names (cloFrom X.env.cells scope.names [])) s3.heap.objs.size X.env)) (compPost (model X.prog X.w) X.A X.xe use Qf (.ref D) s3.heap.objs.size) { s3 with heap := pushCells (s3.heap.push { cls := .type "dict", data := .dict #[] }) scope.names }
  have nfp : ∀ b ∈ fp, (upd H2 D (.dT [])) b = none := fun b hb => (f3 b hb).1.1
  generalize hce : compEnvC scope (cellsFrom (s3.heap.objs.size + 1) scope.names (cloFrom X.env.cells scope.names [])) s3.heap.objs.size X.env = ce at I4 pg pt pin ⊢
  have cL : ce.locals = s3.heap.objs.size := by subst hce; rfl
  generalize hH3 : upd H2 D (.dT []) = H3 at I3 I4 pg pt pin w0 nfp f3
  generalize hs4 : ({ s3 with heap := pushCells (s3.heap.push { cls := .type "dict", data := .dict #[] }) scope.names } : Shared) = s4 at I4 ⊢
  have st4 : tn 0 s4.heap := T.keep _ _ _ st3 fun b _ o e => by rw [← hs4]; exact pushCells_keeps _ _ _ _ (Heap.get?_push_of_some _ e)
  have stat : ∀ {σ' : L2.St} {H' : Hp} {s' : Shared}, Inv (X.blk s3 H3 scope ce fp) [] σ' H' s' → (∀ b ∈ fp, H' b = none) → ∀ b ∈ fp, FpOk (X.blk s3 H3 scope ce fp) [] H' b := fun {σ' H' s'} I' hn b hb => ⟨hn b hb, (I'.ok.exf b hb).1, I'.ok.exfs b hb, .inl hb, fun x c e => (I'.ok.exf b hb).2 x c e, fun p hp => absurd (show p ∈ ([] : List (Addr × Obj)) ++ [] from hp) (by simp)⟩
  have hnx : ∀ g', (⟨tg, iter, ifs, 0⟩ :: rest : List Comprehension)[0 + 1]? = some g' → g'.is_async = 0 ∧ ∀ x, foldedSetIterable g'.iter ce x = pure x := by
    intro g' hg'
    cases pin with
    | nil pk pe => cases hg'
    | cons a b c d e f =>
      cases hg'
      exact ⟨rfl, e ce⟩
  have loop : codeAny (model X.prog X.w) X.A (.compLoop (.DictComp kx vx (⟨tg, iter, ifs, 0⟩ :: rest) scope pos) 0 (.ref it) (.ref D) ce) (compPost (model X.prog X.w) X.A X.xe use Qf (.ref D) s3.heap.objs.size) s4 := by
    refine dloop_any rfl hnx (fun n s' => ∃ i H', Inv (X.blk s3 H3 scope ce fp) [] (wipe σ (own.map (·.2))) H' s' ∧ tn i s'.heap ∧ (∀ b ∈ fp, H' b = none) ∧ W i n H') ?_ m0 ⟨0, H3, I4, st4, nfp, w0⟩
    rintro n s5 ⟨i, H5, I5, st5, n5, w5⟩
    rcases turn i n H5 w5 with ⟨stop, qq⟩ | ⟨go, Nx, hNx, step⟩
    · refine thnF (T.done (X.blk s3 H3 scope ce fp) rfl rfl rfl hc i [] s5 _ H5 (fun _ _ => False) I5 (stat I5 n5) st5 stop) fun r s6 ⟨hr, I6⟩ => ?_
      subst hr
      have I7 : Inv X pins σ H5 s6 := I3.call' (ch := fp) I6.os I6.base I6.hok I6.bare fun b hb => ⟨(f3 b hb).1.2.2.2.1, (f3 b hb).1.2.1, (f3 b hb).1.2.2.2.2.1, (f3 b hb).1.2.2.2.2.2⟩
      have nC : H5 s3.heap.objs.size = none := by
        have z : H5 ce.locals = none := I6.free
        rwa [cL] at z
      obtain ⟨m, hn, _⟩ := I6.loc
      have hn : s6.heap.Ns ce.locals m := hn
      rw [cL] at hn
      exact hRR D s3.heap.objs.size s6 m H5 I7 qq hn (I3.fpOk (Nat.le_refl _) nC)
    · refine thnF (T.item (X.blk s3 H3 scope ce fp) rfl rfl rfl hc i [] s5 _ H5 (fun _ _ => False) I5 (stat I5 n5) st5 go) fun r s6 ⟨u, hr, h6⟩ => ?_
      subst hr
      refine thnF h6 fun _ s7 ⟨x, H7, I7, r7, y7, st7, n7⟩ => ?_
      have I7' := I7.pinned (stat I7 n7) (T.obj _ _ st7)
      refine thnF (pg.run _ s7 _ H7 x u _ I7' r7 (step x H7 y7)) fun _ s8 ⟨σ8, H8, I8, hw8, q8⟩ => ?_
      refine thnF (pt.run _ s8 σ8 H8 _ I8 q8) fun b s9 ⟨H9, I9, q9⟩ => ?_
      have fin : ∀ {σ9 : L2.St} {s' : Shared} {H' : Hp}, Inv (X.blk s3 H3 scope ce fp) ([] ++ pinsAt fp s7.heap) σ9 H' s' → (wipe σ (own.map (·.2))).length = σ9.length → (∀ (j : Nat) v, (wipe σ (own.map (·.2)))[j]? = some (some v) → σ9[j]? = some (some v)) → Nx H' →
          ∃ m, m < n ∧ ∃ i H', Inv (X.blk s3 H3 scope ce fp) [] (wipe σ (own.map (·.2))) H' s' ∧ tn i s'.heap ∧ (∀ b ∈ fp, H' b = none) ∧ W i m H' := fun {σ9 s' H'} I' hl hk nx => by
        obtain ⟨m', hm, w'⟩ := hNx H' nx
        have pin' : ∀ b ∈ fp, ∀ o, s7.heap.get? b = some o → s'.heap.get? b = some o ∧ H' b = none := fun b hb o e => by
          have z := I'.pin (b, o) (List.mem_append_right _ (List.mem_append_right _ (mem_pinsAt hb e)))
          exact ⟨z.1, z.2.1⟩
        refine ⟨m', hm, i + 1, H', (I'.unpinned (pins := [])).weak hl hk, T.keep _ _ _ st7 fun b hb o e => (pin' b hb o e).1, fun b hb => ?_, w'⟩
        obtain ⟨o, e, _⟩ := T.obj _ _ st7 b hb
        exact (pin' b hb o e).2
      have hl8 : (wipe σ (own.map (·.2))).length = σ8.length := by rw [← hw8, wipe_length]
      cases b with
      | false =>
        simp only [Bool.false_eq_true, if_false] at q9 ⊢
        exact fin I9 hl8 (fun j v e => by rw [← hw8] at e; exact (wipe_some e).1) q9
      | true =>
        simp only [if_true] at q9 ⊢
        refine (dinner_ok (G := ⟨tg, iter, ifs, 0⟩ :: rest) hc hu rfl pin (j := 0) rfl I9 q9).mono fun s' ⟨H', I', nx⟩ => fin I' (hl8.trans (wipe_length _ _).symm) (fun n v z => ?_) nx
        rw [← hw8] at z
        obtain ⟨z1, z2⟩ := wipe_some z
        rw [wipe_out fun y => z2 (hv n y)]
        exact z1
  exact dstart_any ⟨_, rfl, rfl⟩ loop (T.self X.A 0 _ _ _ st4 loop)
/-- a block of several clauses as a value -/
theorem pe_dcN {kx vx tg iter : Expr} {ifs : List Expr} {rest : List Comprehension} {scope : Scope} {own : List (Str × Nat)} {vs : List Nat} {pos : Pos} {wi : TI} {g : TG} {tt : TT} {t : TIn} (hc : X.calm = true) (hu : X.A.units + 1 < cLine) (hN : X.N.Nodup) (hi : PI X tg iter wi) (ok : BlkOk X.N X.env.scope scope own) (hv : ∀ i ∈ vs, i ∈ own.map (·.2))
    (hq : ∀ (s : Shared) (H : Hp) (C : Addr) (cl : List (Str × Addr)) (fp : List Addr), PG (X.blk s H scope (compEnvC scope cl C X.env) fp) tg g ∧ PTs (X.blk s H scope (compEnvC scope cl C X.env) fp) ifs tt ∧ PInsD (X.blk s H scope (compEnvC scope cl C X.env) fp) kx vx rest vs t)
    (hs : ∀ x, foldedSetIterable iter X.env x = pure x := by intro _; rfl) : PE X (.DictComp kx vx (⟨tg, iter, ifs, 0⟩ :: rest) scope pos) (tDcN wi g tt t (own.map (·.2))) := by
  refine ⟨fun pins s σ H Q I h => ?_⟩; rw [arm_eval_DictComp]
  refine dcN_core hc hu hN I hi ok hv hq hs h fun D C s' m H' I' q hn f => ⟨m, hn, fun h'' sb => ?_⟩
  obtain ⟨f0, f1, f2, f3, f4, f5⟩ := f
  exact ⟨.ref D, H', I'.turned (t' := s'.toks) (fun b o hb e => (sb.2 b hb).trans e) f0 f1 f3 f4 f5, rfl, q⟩
end
end Pl
namespace Pl
open PySem PySem.Spec PyProof.Rows L2
section
variable {X : Cx}
theorem fold_size (a : Array Nat) : ∀ (n : Nat) (acc : Array Nat), ((List.replicate n a).foldl (· ++ ·) acc).size = acc.size + n * a.size
  | 0, acc => by simp
  | n + 1, acc => by
    rw [List.replicate_succ, List.foldl_cons, fold_size a n, Array.size_append, Nat.add_mul]
    omega
/-- a text times an int -/
def rMulS : R2 := fun x y H Q => ∃ (z : Str) (n : Int), x = .str z ∧ y = .int n ∧ 2 ≤ n ∧ n ≤ 1000 ∧ 1 ≤ z.length ∧ z.length ≤ 1000 ∧ ∀ z' : Str, Q (.str z') H
theorem op_mulS : OpR X (binaryOp .Mult) rMulS := by
  intro pins s σ H x y v u Q I rx ry h
  obtain ⟨z, n, rfl, rfl, n2, n1, z1, z2, q⟩ := h
  obtain ⟨t, rfl⟩ := rx
  obtain ⟨t2, rfl⟩ := ry
  have c1 : ¬ n < 1 := by omega
  have c2 : (n == 1 || z.length == 0) = false := by
    have a : (n == 1) = false := by rw [beq_eq_false_iff_ne]; omega
    have b : (z.length == 0) = false := by rw [beq_eq_false_iff_ne]; omega
    rw [a, b]; rfl
  have lz : z.length * n.toNat ≤ sizeLine := by
    rw [sizeLine_eq]
    have := Nat.mul_le_mul z2 (show n.toNat ≤ 1000 by omega)
    omega
  refine PySem.P.mul_str ?_ (fun _ _ => ?_) (fun _ _ => ?_) ?_
  · have a : ¬ n < -(2 ^ 63 : Int) := by omega
    have b : ¬ n ≥ (2 ^ 63 : Int) := by omega
    rw [decide_eq_false a, decide_eq_false b]; rfl
  · intro c
    have : (1000 : Int) ≤ (2 ^ 63 - 1) / n := Int.le_ediv_of_mul_le (by omega) (by omega)
    omega
  · have z : ¬ z.length * n.toNat > sizeLine := by omega
    exact decide_eq_false z
  · rw [if_neg c1, if_neg (by rw [c2]; exact Bool.false_ne_true)]
    refine ⟨?_, ⟨.str _, H, I.tok _, ⟨_, rfl⟩, q _⟩⟩
    show ((List.replicate n.toNat z.cps).foldl (· ++ ·) #[]).size ≤ sizeLine
    rw [fold_size]
    have e : z.cps.size = z.length := rfl
    rw [e, Nat.mul_comm]
    show 0 + _ ≤ _
    omega
/-! repr of data with dicts -/
/-- ints that are not too long -/
def Sm (i : Int) : Prop := -1000000 ≤ i ∧ i ≤ 1000000001000
/-- ints and empty dicts -/
inductive PX (H : Hp) : List V → List PyData → Prop
  | nil : PX H [] []
  | int {i : Int} {vs : List V} {ds : List PyData} : Sm i → PX H vs ds → PX H (.int i :: vs) (.int i :: ds)
  | dic {a : Addr} {vs : List V} {ds : List PyData} : H a = some (.dK []) → PX H vs ds → PX H (.ref a :: vs) (.dict [] :: ds)
theorem reads_dic0 {pins : List (Addr × Obj)} {σ : L2.St} {H : Hp} {s : Shared} {a : Addr} (I : Inv X pins σ H s) (ea : H a = some (.dK [])) : Reads s.heap (.ref a) (PyData.dict []) (a :: [] ++ []) ∧ a ≠ sysModules := by
  obtain ⟨_, hm, vs, kv, o, es, ep, h1, h2, h3, h4, h5, h6⟩ := (show ObjOk X.prog X.w H s.heap a (.dK []) from I.hok a _ ea)
  refine ⟨?_, fun z => ?_⟩
  · generalize hes : es.toList = l at h5
    have key : ∀ {kvs : List (Key × V)}, kvs = [] → KV kvs vs → vs = [] := fun {kvs} e z => by
      cases z with
      | nil => rfl
      | cons hp hr => cases e
    obtain rfl := key rfl kv
    cases h5
    refine .dict h1 h2.1 h3 ?_ ?_
    · rw [hes]
      exact .nil
    · rw [hes]
      exact .nil
  · rw [z] at hm
    simp at hm
theorem reads_px {pins : List (Addr × Obj)} {σ : L2.St} {H : Hp} {s : Shared} (I : Inv X pins σ H s) : ∀ {vs : List V} {ds : List PyData} {us : List Value}, PX H vs ds → Vals vs us → ∃ as, ReadsAll s.heap us ds as ∧ sysModules ∉ as
  | _, _, _, .nil, r => by
    cases r
    exact ⟨[], .nil, fun z => nomatch z⟩
  | _, _, _, .int (i := i) _ h, r => by
    cases r with
    | cons r1 r2 =>
      obtain ⟨t, rfl⟩ := (show ∃ t, _ = Value.int i t from r1)
      obtain ⟨as, h1, h2⟩ := reads_px I h r2
      exact ⟨_, .cons (.int i t) h1, by simpa using h2⟩
  | _, _, _, .dic (a := a) ea h, r => by
    cases r with
    | cons r1 r2 =>
      cases r1
      obtain ⟨as, h1, h2⟩ := reads_px I h r2
      obtain ⟨g1, g2⟩ := reads_dic0 I ea
      exact ⟨_, .cons g1 h1, by simpa using ⟨fun z => g2 z.symm, h2⟩⟩
/-- a value and its text -/
def ShT (d : PyData) : Prop := d.showable = true ∧ d.depth ≤ 60 ∧ d.shown.length ≤ sizeLine
inductive ThT (K : PySem.W.Frag) (H : Hp) : V → Str → Prop
  | dp {x : V} {d : PyData} : Dp K H x d → ShV x d → ThT K H x d.shown
  | dic0 {a : Addr} : H a = some (.dK []) → ThT K H (.ref a) (PyData.dict []).shown
  | dic1 {a t : Addr} {k : Int} {ns : List Int} : H a = some (.dK [(.inl k, .ref t)]) → H t = some (.tup (ns.map V.int)) → ShT (dicD k ns) → ThT K H (.ref a) (dicD k ns).shown
  | px {a : Addr} {xs : List V} {ds : List PyData} : H a = some (.tup xs) → PX H xs ds → ShT (.tuple ds) → ThT K H (.ref a) (PyData.tuple ds).shown
def rReprT (K : PySem.W.Frag) : List V → Hp → VK → Prop := fun xs H Q => ∃ (x : V) (z : Str), xs = [x] ∧ ThT K H x z ∧ Q (.str z) H
theorem call_reprT (gd : X.A.guards = some []) (hu : X.A.units + 66 < cLine) : CallR X (.builtin "repr") (rReprT X.K) := by
  intro pins s σ H xs us Q I r h
  obtain ⟨x, z, rfl, h, q⟩ := h
  cases h with
  | dp dp sv => exact call_reprV gd hu pins s σ H [x] us Q I r ⟨x, _, rfl, dp, sv, q⟩
  | dic0 ea =>
    obtain ⟨u, rfl, ru⟩ := vals1 r
    cases ru
    obtain ⟨g1, g2⟩ := reads_dic0 I ea
    refine repr_of_reads' g1 (by decide +kernel) (fun _ z => ?_) gd (by have : PyData.depth (PyData.dict []) ≤ 1 := by decide +kernel
                                                                        omega) (fun _ _ e => e) (fun h' v tk hk => ?_) (by decide +kernel)
    · exact g2 (by simpa using z : sysModules = _).symm
    · exact ⟨.str _, H, I.kept hk, ⟨_, rfl⟩, q⟩
  | dic1 ea et sh => exact call_repr1 gd hu pins s σ H _ us Q I r ⟨_, _, _, _, rfl, ea, et, sh.1, sh.2.1, sh.2.2, q⟩
  | @px a xs ds ea px sh =>
    obtain ⟨u, rfl, ru⟩ := vals1 r
    cases ru
    obtain ⟨_, its, rv, ot, g1, g2, n, g3⟩ := (show ObjOk X.prog X.w H s.heap a (.tup xs) from I.hok a _ ea)
    obtain ⟨as, h1, h2⟩ := reads_px I px rv
    have sd := sh.2.1
    refine repr_of_reads' (.tuple g1 g2 g3 (by simpa using h1)) sh.1 (fun _ z => h2 z) gd (by omega) (fun _ _ e => e) (fun h' v tk hk => ?_) sh.2.2
    exact ⟨.str _, H, I.kept hk, ⟨_, rfl⟩, q⟩
end
theorem PX.same {H H' : Hp} (k : Same H H') : ∀ {vs : List V} {ds : List PyData}, PX H vs ds → PX H' vs ds
  | _, _, .nil => .nil
  | _, _, .int b h => .int b (h.same k)
  | _, _, .dic e h => .dic (k _ _ e) (h.same k)
theorem Sm.log {i : Int} (h : Sm i) : i.natAbs.log2 < 40 := by
  obtain ⟨a, b⟩ := h
  rcases Nat.eq_zero_or_pos i.natAbs with z | z
  · rw [z]; decide
  · exact (Nat.log2_lt (by omega)).mpr (by omega)
theorem Sm.text {i : Int} (h : Sm i) : (PyData.shown (.int i)).length ≤ 13 := by
  obtain ⟨a, b⟩ := h
  by_cases c : i < 0
  · exact PyData.shown_int_le (by omega)
  · show (Str.ofString (toString i)).length ≤ 13
    rw [PySem.ofString_length]
    cases i with
    | ofNat m =>
      have e : toString (Int.ofNat m) = Nat.repr m := rfl
      rw [e]
      have em : (Int.ofNat m) = (m : Int) := rfl
      rw [em] at b
      exact (Nat.length_repr_le_iff (by decide)).mpr (show m < 10 ^ 13 by omega)
    | negSucc m => omega
theorem px_all {H : Hp} : ∀ {vs : List V} {ds : List PyData}, PX H vs ds → PyData.showableAll ds = true ∧ PyData.depthAll ds ≤ 2 ∧ PyData.leavesShortAll 13 ds = true ∧ PyData.weightAll ds ≤ 60 * vs.length
  | _, _, .nil => by simp [PyData.showableAll, PyData.depthAll, PyData.leavesShortAll, PyData.weightAll]
  | _, _, .int (i := i) b h => by
    obtain ⟨a1, a2, a3, a4⟩ := px_all h
    have lg := b.log
    have tx := b.text
    refine ⟨?_, ?_, ?_, ?_⟩
    · simp only [PyData.showableAll, PyData.showable, a1, Bool.and_true, decide_eq_true_eq]
      omega
    · simp only [PyData.depthAll, PyData.depth]; omega
    · simp only [PyData.leavesShortAll, PyData.leavesShort, a3, Bool.and_true, decide_eq_true_eq]
      exact tx
    · simp only [PyData.weightAll, PyData.weight, List.length_cons]
      split <;> omega
  | _, _, .dic (a := a) e h => by
    obtain ⟨a1, a2, a3, a4⟩ := px_all h
    refine ⟨?_, ?_, ?_, ?_⟩
    · simp only [PyData.showableAll, PyData.showable, PyData.showableKv, a1, Bool.and_true]
    · simp only [PyData.depthAll, PyData.depth, PyData.depthKv]; omega
    · simp only [PyData.leavesShortAll, PyData.leavesShort, PyData.leavesShortKv, a3, Bool.and_true]
    · simp only [PyData.weightAll, PyData.weight, PyData.weightKv, List.length_cons]
      omega
theorem px_sh {H : Hp} {vs : List V} {ds : List PyData} (h : PX H vs ds) (l : vs.length ≤ 1000) : ShT (.tuple ds) := by
  obtain ⟨a1, a2, a3, a4⟩ := px_all h
  refine ⟨by simp only [PyData.showable]; exact a1, by simp only [PyData.depth]; omega, PyData.shown_fits (B := 13) (by decide) (by decide) ?_ ?_⟩
  · simp only [PyData.leavesShort]; exact a3
  · simp only [PyData.weight]; omega
end Pl
/-! list(zip(s, t)) of two tuples -/
namespace ZL
open PySem PySem.W PySem.Calls PySem.Spec
section
variable {prog : Program} {w : World} {A : Around} {E : Value → Shared → Prop} {s : Shared}
/-- zip.__next__ while the tuple that it gave out is held, over tuples -/
theorem held {z TI TO T i1 i2 l1 l2 : Addr} {f : Bool} {oT : Obj} {k1 k2 : Nat} {xs ys : Array Value} {Q : Value → Shared → Prop} (hh : A.handled = none) (D : ZipApart z TI TO i1 i2 l1 l2)
    (hz : IsZipHeld s.heap z TI TO T f) (hT : s.heap.get? T = some oT) (hTI : PySem.IsPair s.heap TI (.ref i1) (.ref i2))
    (h1 : s.heap.IsTupleIter i1 l1 k1) (h2 : s.heap.IsTupleIter i2 l2 k2) (hl1 : s.heap.IsTuple l1 xs) (hl2 : s.heap.IsTuple l2 ys)
    (hQ : ∀ x y, xs[k1]? = some x → ys[k2]? = some y → ∀ h', IsZipHeld h' z TI TO T true → h'.IsTupleIter i1 l1 (k1 + 1) → h'.IsTupleIter i2 l2 (k2 + 1) → PySem.IsPair h' s.heap.objs.size x y → h'.objs.size = s.heap.objs.size + 1 →
      (∀ c o, c ≠ z → c ≠ i1 → c ≠ i2 → s.heap.get? c = some o → h'.get? c = some o) → Q (.ref s.heap.objs.size) { s with heap := h' })
    (hE : (xs[k1]? = none ∨ ys[k2]? = none) → ∀ h' e, (∀ c o, c ≠ z → c ≠ i1 → c ≠ i2 → s.heap.get? c = some o → h'.get? c = some o) → (∃ o, h'.get? e = some o ∧ o.cls = .type "StopIteration") → E (.ref e) { s with heap := h' }) :
    wpAny (model prog w) A (Builtin.«zip.__next__» ⟨[.ref z], []⟩) (fun fin s' => ∃ v, fin = .done (.ret v) ∧ Q v s') E s := by
  show wpAny _ _ (field (.ref z) 2 >>= _) _ _ _
  refine wpAny_bind (wpAny_field hz rfl (x := .bool false) rfl ?_)
  show wpAny _ _ (field (.ref z) 3 >>= _) _ _ _
  refine wpAny_bind (wpAny_field hz rfl (x := .ref TI) rfl (wpAny_bind (wpAny_seqItems hTI rfl ?_)))
  show wpAny _ _ (Builtin.SmallTypes.ownedTupleIsFree (.ref z) >>= _) _ _ _
  refine wpAny_bind (wpAny_tupleHeld_zip hz hT fun h₁ hz₁ hs₁ => ?_)
  simp only [Bool.false_eq_true, if_false]
  refine wpAny_bind ?_
  rw [← Array.forIn_toList]
  simp only [List.forIn_cons, List.forIn_nil]
  refine wpAny_bind (wpAny_bind (wpAny_holding ?_))
  have g1 := h1.extBut hs₁.extBut D.i1z
  have p1 := hl1.extBut hs₁.extBut D.l1z
  show wpAny _ _ (Builtin.SmallTypes.nextOf (.ref i1) >>= _) _ _ _
  cases ex : xs[k1]? with
  | none => exact wpAny_bind (RZ.nextOf_tuple_end (s := { s with heap := h₁ }) hh g1 p1 ex fun h₂ e hs₂ he => hE (.inl ex) h₂ e (fun c o c1 c2 _ q => hs₂ _ _ c2 (hs₁.extBut _ _ c1 q)) he)
  | some x =>
    refine wpAny_bind (RZ.nextOf_tuple_item (s := { s with heap := h₁ }) g1 p1 ex fun h₂ h1₂ hs₂ => wpAny_pure (wpAny_pure ?_))
    refine wpAny_bind (wpAny_bind (wpAny_holding ?_))
    have g2 := (h2.extBut hs₁.extBut D.i2z).extBut hs₂.extBut D.i12.symm
    have p2 := (hl2.extBut hs₁.extBut D.l2z).extBut hs₂.extBut D.l2i1
    show wpAny _ _ (Builtin.SmallTypes.nextOf (.ref i2) >>= _) _ _ _
    cases ey : ys[k2]? with
    | none => exact wpAny_bind (RZ.nextOf_tuple_end (s := { s with heap := h₂ }) hh g2 p2 ey fun h₃ e hs₃ he => hE (.inr ey) h₃ e (fun c o c1 c2 c3 q => hs₃ _ _ c3 (hs₂.extBut _ _ c2 (hs₁.extBut _ _ c1 q))) he)
    | some y =>
      refine wpAny_bind (RZ.nextOf_tuple_item (s := { s with heap := h₂ }) g2 p2 ey fun h₃ h2₃ hs₃ => wpAny_pure (wpAny_pure (wpAny_pure ?_)))
      show wpAny _ _ (newTuple [x, y] >>= _) _ _ _
      refine wpAny_bind (wpAny_newTuple (wpAny_pure ⟨_, rfl, ?_⟩))
      have sz : h₃.objs.size = s.heap.objs.size := by rw [hs₃.1, hs₂.1, hs₁.1]
      have z3 : IsZipHeld h₃ z TI TO T true := hs₃.extBut _ _ D.i2z.symm (hs₂.extBut _ _ D.i1z.symm hz₁)
      have q1 := h1₂.extBut hs₃.extBut D.i12
      have np : PySem.IsPair (h₃.push { cls := .type "tuple", data := .seq #[x, y] }) h₃.objs.size x y := Heap.get?_push_size _ rfl
      have ns : (h₃.push { cls := .type "tuple", data := .seq #[x, y] }).objs.size = h₃.objs.size + 1 := Heap.size_push ..
      show Q (.ref h₃.objs.size) _
      rw [sz] at np ns ⊢
      exact hQ x y ex ey _ (Heap.get?_push_of_some _ z3) (q1.at fun o q => Heap.get?_push_of_some _ q) (h2₃.at fun o q => Heap.get?_push_of_some _ q) np ns fun c o c1 c2 c3 q => Heap.get?_push_of_some _ (hs₃.extBut _ _ c3 (hs₂.extBut _ _ c2 (hs₁.extBut _ _ c1 q)))
/-- what a zip over two tuples is between two turns -/
def St (h : Heap) (z TI TO i1 i2 l1 l2 S : Addr) (xs ys : Array Value) (k : Nat) : Prop :=
  PySem.IsPair h TI (.ref i1) (.ref i2) ∧ h.IsTupleIter i1 l1 k ∧ h.IsTupleIter i2 l2 k ∧ h.IsTuple l1 xs ∧ h.IsTuple l2 ys ∧
  ((IsZip h z TI TO .none ∧ ∃ a b, PySem.IsPair h TO a b) ∨ ∃ (T : Addr) (f : Bool) (oT : Obj), IsZipHeld h z TI TO T f ∧ h.get? T = some oT ∧ T ≠ z ∧ T ≠ i1 ∧ T ≠ i2 ∧ T ≠ S)
theorem St.keep {h h' : Heap} {z TI TO i1 i2 l1 l2 S : Addr} {xs ys : Array Value} {k : Nat} (x : St h z TI TO i1 i2 l1 l2 S xs ys k) (up : ∀ b o, b ≠ S → h.get? b = some o → h'.get? b = some o) (n : S ≠ z ∧ S ≠ TI ∧ S ≠ TO ∧ S ≠ i1 ∧ S ≠ i2 ∧ S ≠ l1 ∧ S ≠ l2) : St h' z TI TO i1 i2 l1 l2 S xs ys k := by
  obtain ⟨n1, n2, n3, n4, n5, n6, n7⟩ := n
  obtain ⟨a1, a2, a3, a4, a5, a6⟩ := x
  refine ⟨up _ _ n2.symm a1, a2.at fun o e => up _ _ n4.symm e, a3.at fun o e => up _ _ n5.symm e, ?_, ?_, ?_⟩
  · obtain ⟨o, ho, r⟩ := a4
    exact ⟨o, up _ _ n6.symm ho, r⟩
  · obtain ⟨o, ho, r⟩ := a5
    exact ⟨o, up _ _ n7.symm ho, r⟩
  · rcases a6 with ⟨b1, a, b, b2⟩ | ⟨T, f, oT, b1, b2, t1, t2, t3, t4⟩
    · exact .inl ⟨up _ _ n1.symm b1, a, b, up _ _ n3.symm b2⟩
    · exact .inr ⟨T, f, oT, up _ _ n1.symm b1, up _ _ t4 b2, t1, t2, t3, t4⟩
theorem tupAt {h h' : Heap} {l : Addr} {xs : Array Value} (x : h.IsTuple l xs) (up : ∀ o, h.get? l = some o → h'.get? l = some o) : h'.IsTuple l xs := by
  obtain ⟨o, ho, r⟩ := x
  exact ⟨o, up _ ho, r⟩
/-- the next pair -/
theorem nxt {z TI TO i1 i2 l1 l2 S : Addr} {xs ys : Array Value} {k : Nat} {x y : Value} {Q : Option Value → Shared → Prop} (hh : A.handled = none) (D : ZipApart z TI TO i1 i2 l1 l2) (st : St s.heap z TI TO i1 i2 l1 l2 S xs ys k) (hS : S < s.heap.objs.size) (ex : xs[k]? = some x) (ey : ys[k]? = some y)
    (hQ : ∀ h', St h' z TI TO i1 i2 l1 l2 S xs ys (k + 1) → PySem.IsPair h' s.heap.objs.size x y → h'.objs.size = s.heap.objs.size + 1 → (∀ c o, c ≠ z → c ≠ TO → c ≠ i1 → c ≠ i2 → s.heap.get? c = some o → h'.get? c = some o) → Q (some (.ref s.heap.objs.size)) { s with heap := h' }) :
    wpAny (model prog w) A (pyNext (.ref z)) Q E s := by
  obtain ⟨a1, a2, a3, a4, a5, a6⟩ := st
  have lz : ∀ {a : Addr} {o : Obj}, s.heap.get? a = some o → s.heap.objs.size ≠ a := fun e => Nat.ne_of_gt (Heap.lt_size e)
  have n1 : s.heap.objs.size ≠ i1 := by obtain ⟨o, e, _⟩ := a2; exact lz e
  have n2 : s.heap.objs.size ≠ i2 := by obtain ⟨o, e, _⟩ := a3; exact lz e
  rcases a6 with ⟨b1, a, b, b2⟩ | ⟨T, f, oT, b1, b2, t1, t2, t3, t4⟩
  · refine RZ.pyNext_zipT_item D b1 a1 b2 a2 a3 a4 a5 ex ey fun h' c1 c2 c3 c4 c5 c6 c7 => hQ h' ⟨c7 _ _ D.TIz D.TITO D.TIi1 D.TIi2 a1, c3, c4, tupAt a4 fun o e => c7 _ _ D.l1z D.l1TO D.l1i1 D.l1i2 e, tupAt a5 fun o e => c7 _ _ D.l2z D.l2TO D.l2i1 D.l2i2 e, .inr ⟨s.heap.objs.size, false, _, c1, c5, lz b1, n1, n2, Nat.ne_of_gt hS⟩⟩ c5 c6 c7
  · have hTy : s.TypeIs (.ref z) "zip" := ⟨_, b1, rfl⟩
    unfold pyNext
    refine wpAny_bind (wpAny_attempt (wpAny_callSpecial?_slot (name := Str.ofString "__next__") hTy F.slot_zip_next (wpAny_call_entry F.slot_zip_next hTy F.entry_zip_next (held hh D b1 b2 a1 a2 a3 a4 a5 (fun x' y' ex' ey' h' c1 c3 c4 c5 c6 c7 => ?_) (fun he => ?_)) (F.args_zip_next_1 _))))
    · rw [ex] at ex'
      rw [ey] at ey'
      cases ex'
      cases ey'
      exact wpAny_pure (hQ h' ⟨c7 _ _ D.TIz D.TIi1 D.TIi2 a1, c3, c4, tupAt a4 fun o e => c7 _ _ D.l1z D.l1i1 D.l1i2 e, tupAt a5 fun o e => c7 _ _ D.l2z D.l2i1 D.l2i2 e, .inr ⟨T, true, oT, c1, c7 _ _ t1 t2 t3 b2, t1, t2, t3, t4⟩⟩ c5 c6 fun c o d1 _ d3 d4 e => c7 c o d1 d3 d4 e)
    · rcases he with he | he
      · rw [ex] at he; cases he
      · rw [ey] at he; cases he
/-- no more pairs -/
theorem fin {z TI TO i1 i2 l1 l2 S : Addr} {xs ys : Array Value} {k : Nat} {Q : Option Value → Shared → Prop} (hh : A.handled = none) (D : ZipApart z TI TO i1 i2 l1 l2) (st : St s.heap z TI TO i1 i2 l1 l2 S xs ys k) (ex : xs[k]? = none)
    (hQ : ∀ h', (∀ c o, c ≠ z → c ≠ TO → c ≠ i1 → c ≠ i2 → s.heap.get? c = some o → h'.get? c = some o) → Q none { s with heap := h' }) : wpAny (model prog w) A (pyNext (.ref z)) Q E s := by
  obtain ⟨a1, a2, a3, a4, a5, a6⟩ := st
  rcases a6 with ⟨b1, a, b, b2⟩ | ⟨T, f, oT, b1, b2, t1, t2, t3, t4⟩
  · exact RZ.pyNext_zipT_end hh D b1 a1 b2 a2 a3 a4 a5 (.inl ex) hQ
  · have hTy : s.TypeIs (.ref z) "zip" := ⟨_, b1, rfl⟩
    unfold pyNext
    refine wpAny_bind (wpAny_attempt (wpAny_callSpecial?_slot (name := Str.ofString "__next__") hTy F.slot_zip_next (wpAny_call_entry F.slot_zip_next hTy F.entry_zip_next (held hh D b1 b2 a1 a2 a3 a4 a5 (fun x' y' ex' => ?_) (fun _ h' e hk he => ?_)) (F.args_zip_next_1 _))))
    · rw [ex] at ex'; cases ex'
    · obtain ⟨o, ho, hc⟩ := he
      exact wpAny_bind (wpAny_isInstance (T := "StopIteration") (b := true) ⟨o, ho, hc⟩ isSubtype_stop (wpAny_pure (hQ _ fun c o d1 _ d3 d4 q => hk c o d1 d3 d4 q)))
end
/-- the pairs made so far -/
structure Md (xs ys : Array Value) (lo : Addr) (h : Heap) (as : List Addr) : Prop where
  rise : as.Pairwise (· < ·)
  above : ∀ a ∈ as, lo ≤ a
  pairs : ∀ (j : Nat) (a : Addr), as[j]? = some a → ∃ x y, xs[j]? = some x ∧ ys[j]? = some y ∧ PySem.IsPair h a x y
section
variable {prog : Program} {w : World} {A : Around} {E : Value → Shared → Prop} {s : Shared} {R : Result → Shared → Prop} {z TI TO i1 i2 l1 l2 S lo : Addr} {xs ys : Array Value}
theorem loop (hh : A.handled = none) (D : ZipApart z TI TO i1 i2 l1 l2) (ln : xs.size = ys.size) (hn : xs.size ≤ sizeLine) (nS : S ≠ z ∧ S ≠ TI ∧ S ≠ TO ∧ S ≠ i1 ∧ S ≠ i2 ∧ S ≠ l1 ∧ S ≠ l2) (low : S < lo ∧ z < lo ∧ TO < lo ∧ i1 < lo ∧ i2 < lo) (res : Value) {h₁ : Heap}
    (hR : ∀ h' tk acc c as, (∀ b o, b ≠ S → b ≠ z → b ≠ TO → b ≠ i1 → b ≠ i2 → h₁.get? b = some o → h'.get? b = some o) → h'.get? S = some { cls := .type "list", dict := none, data := .seq acc c, slots := #[] } → as.length = xs.size → Md xs ys lo h' as → acc.toList = as.map Value.ref →
      R (.ok (.ret res)) { s with heap := h', toks := tk }) :
    ∀ (k i : Nat) (h : Heap) (tk c : Nat) (acc : Array Value) (as : List Addr), xs.size - i = k → i ≤ xs.size → St h z TI TO i1 i2 l1 l2 S xs ys i → (∀ b o, b ≠ S → b ≠ z → b ≠ TO → b ≠ i1 → b ≠ i2 → h₁.get? b = some o → h.get? b = some o) →
      h.get? S = some { cls := .type "list", dict := none, data := .seq acc c, slots := #[] } → acc.toList = as.map Value.ref → as.length = i → Md xs ys lo h as → lo ≤ h.objs.size →
      codeAny (model prog w) A (.builtin "list.extend.loop" ⟨[.ref S, .ref z, res], []⟩) R { s with heap := h, toks := tk } := by
  obtain ⟨lS, lz, lTO, l1', l2'⟩ := low
  intro k
  induction k with
  | zero =>
    intro i h tk c acc as hk hi st keep hS hacc hal md hl
    refine codeAny_builtin PySem.F.entry_extend_loop ?_
    rw [Around.under_plainId PySem.F.plain_extend_loop _]
    show wpAny _ A.in1 (pyNext (.ref z) >>= _) _ _ _
    refine wpAny_bind (fin (s := { s with heap := h, toks := tk }) (A := A.in1) hh D st (Array.getElem?_eq_none (by omega)) fun h' kp => wpAny_pure (hR h' tk acc c as (fun b o b1 b2 b3 b4 b5 e => kp b o b2 b3 b4 b5 (keep b o b1 b2 b3 b4 b5 e)) (kp S _ nS.1 nS.2.2.1 nS.2.2.2.1 nS.2.2.2.2.1 hS) (by omega) ⟨md.rise, md.above, fun j a hj => ?_⟩ hacc))
    obtain ⟨x, y, e1, e2, e3⟩ := md.pairs j a hj
    have ab := md.above a (List.mem_of_getElem? hj)
    exact ⟨x, y, e1, e2, kp a _ (Nat.ne_of_gt (Nat.lt_of_lt_of_le lz ab)) (Nat.ne_of_gt (Nat.lt_of_lt_of_le lTO ab)) (Nat.ne_of_gt (Nat.lt_of_lt_of_le l1' ab)) (Nat.ne_of_gt (Nat.lt_of_lt_of_le l2' ab)) e3⟩
  | succ k ih =>
    intro i h tk c acc as hk hi st keep hS hacc hal md hl
    have lt : i < xs.size := by omega
    have ex : xs[i]? = some xs[i] := Array.getElem?_eq_getElem lt
    have ey : ys[i]? = some (ys[i]'(by omega)) := Array.getElem?_eq_getElem (by omega)
    generalize xs[i] = x at ex
    generalize (ys[i]'(by omega)) = y at ey
    have sz : acc.size = i := by rw [← Array.length_toList, hacc, List.length_map, hal]
    refine codeAny_builtin PySem.F.entry_extend_loop ?_
    rw [Around.under_plainId PySem.F.plain_extend_loop _]
    show wpAny _ A.in1 (pyNext (.ref z) >>= _) _ _ _
    refine wpAny_bind (nxt (s := { s with heap := h, toks := tk }) (A := A.in1) (S := S) hh D st (Heap.lt_size hS) ex ey fun h' st' pr hz kp => ?_)
    dsimp only at pr hz kp ⊢
    have hS' := kp S _ nS.1 nS.2.2.1 nS.2.2.2.1 nS.2.2.2.2.1 hS
    have up : ∀ b o, b ≠ S → h'.get? b = some o → (h'.update S (Obj.mapSeq (·.push (Value.ref h.objs.size)))).get? b = some o := fun b o hb e => (Heap.get?_update_other _ _ (Ne.symm hb)).trans e
    have hSl : S < h.objs.size := Heap.lt_size hS
    show wpAny _ A.in1 (updateSeq S (·.push (Value.ref h.objs.size)) >>= _) _ _ _
    have new := up _ _ (Nat.ne_of_gt hSl) pr
    refine wpAny_bind ?_
    refine wpAny_updateSeq hS' rfl (wpAny_pure ⟨plainId_quiet PySem.F.plain_extend_loop _, ih (i + 1) _ tk _ (acc.push (Value.ref h.objs.size)) (as ++ [h.objs.size]) (by omega) lt (st'.keep up nS)
      (fun b o b1 b2 b3 b4 b5 e => up b o b1 (kp b o b2 b3 b4 b5 (keep b o b1 b2 b3 b4 b5 e))) (Heap.get?_update_self _ hS' rfl) (by rw [Array.toList_push, hacc, List.map_append]; rfl) (by rw [List.length_append, hal]; rfl) ⟨?_, ?_, ?_⟩ (Nat.le_of_lt (Nat.lt_of_le_of_lt hl (Heap.lt_size new)))⟩) (by rw [sz]; omega) (by show (acc.push (Value.ref h.objs.size)).size ≤ sizeLine + 1; rw [Array.size_push, sz]; omega)
    · refine List.pairwise_append.mpr ⟨md.rise, List.pairwise_singleton _ _, fun a ha b hb => ?_⟩
      rw [List.mem_singleton.mp hb]
      obtain ⟨j, hj⟩ := List.mem_iff_getElem?.mp ha
      obtain ⟨_, _, _, _, e⟩ := md.pairs j a hj
      exact Heap.lt_size e
    · intro a ha
      rcases List.mem_append.mp ha with ha | ha
      · exact md.above a ha
      · rw [List.mem_singleton.mp ha]; exact hl
    · intro j b hj
      by_cases c1 : j < as.length
      · rw [List.getElem?_append_left c1] at hj
        obtain ⟨x', y', e1, e2, e3⟩ := md.pairs j b hj
        have ab := md.above b (List.mem_of_getElem? hj)
        exact ⟨x', y', e1, e2, up b _ (Nat.ne_of_gt (Nat.lt_of_lt_of_le lS ab)) (kp b _ (Nat.ne_of_gt (Nat.lt_of_lt_of_le lz ab)) (Nat.ne_of_gt (Nat.lt_of_lt_of_le lTO ab)) (Nat.ne_of_gt (Nat.lt_of_lt_of_le l1' ab)) (Nat.ne_of_gt (Nat.lt_of_lt_of_le l2' ab)) e3)⟩
      · rw [List.getElem?_append_right (by omega)] at hj
        have j0 : j - as.length = 0 := by
          have := (List.getElem?_eq_some_iff.mp hj).1
          simp at this
          omega
        rw [j0] at hj
        have eb : h.objs.size = b := by simpa using hj
        subst eb
        have : j = i := by omega
        subst this
        exact ⟨x, y, ex, ey, new⟩
theorem zip_no_len : typeLookup (.type "zip") "__len__" = pure none := am_miss_of_fast (by decide +kernel)
theorem zip_no_hint : typeLookup (.type "zip") "__length_hint__" = pure none := am_miss_of_fast (by decide +kernel)
theorem hint {r : Addr} {Q : Bool → Shared → Prop} (hT : s.TypeIs (.ref r) "zip") (h : Q true s) : wpAny (model prog w) A (Builtin.List.listLengthHint (.ref r)) Q E s := by
  unfold Builtin.List.listLengthHint
  refine wpAny_bind (wpAny_specialOf hT zip_no_len ?_)
  wp_delta
  refine wpAny_ite_split (fun hab => absurd hab (by decide)) (fun _ => ?_)
  refine wpAny_ite_split (fun hab => absurd hab (by decide)) (fun _ => ?_)
  refine wpAny_bind (wpAny_specialOf hT zip_no_hint ?_)
  exact wpAny_pure h
theorem ext (hh : A.handled = none) (D : ZipApart z TI TO i1 i2 l1 l2) (ln : xs.size = ys.size) (hn : xs.size ≤ sizeLine) (nS : S ≠ z ∧ S ≠ TI ∧ S ≠ TO ∧ S ≠ i1 ∧ S ≠ i2 ∧ S ≠ l1 ∧ S ≠ l2) (res : Value) (c₀ : Nat) (hz : IsZip s.heap z TI TO .none)
    (st : St s.heap z TI TO i1 i2 l1 l2 S xs ys 0) (hS : s.heap.get? S = some { cls := .type "list", data := .seq #[] c₀ })
    (hR : ∀ h' tk acc c as, (∀ b o, b ≠ S → b ≠ z → b ≠ TO → b ≠ i1 → b ≠ i2 → s.heap.get? b = some o → h'.get? b = some o) → h'.get? S = some { cls := .type "list", dict := none, data := .seq acc c, slots := #[] } → as.length = xs.size → Md xs ys s.heap.objs.size h' as → acc.toList = as.map Value.ref →
      R (.ok (.ret res)) { s with heap := h', toks := tk }) :
    wpAny (model prog w) A.in1 (Builtin.List.listExtendWith (.ref S) (.ref z) res)
      (fun fin s' => match fin with | .done f => R (.ok f) s' | .again c' => c'.quiet = true ∧ codeAny (model prog w) A c' R s') (fun e s' => R (.error e) s') s := by
  have low : S < s.heap.objs.size ∧ z < s.heap.objs.size ∧ TO < s.heap.objs.size ∧ i1 < s.heap.objs.size ∧ i2 < s.heap.objs.size := by
    obtain ⟨a1, ⟨o1, e1, _⟩, ⟨o2, e2, _⟩, _, _, a6⟩ := id st
    refine ⟨Heap.lt_size hS, Heap.lt_size hz, ?_, Heap.lt_size e1, Heap.lt_size e2⟩
    rcases a6 with ⟨_, a, b, b2⟩ | ⟨T, f, oT, b1, _⟩
    · exact Heap.lt_size b2
    · have z1 : some _ = some _ := (show s.heap.get? z = some _ from hz).symm.trans (show s.heap.get? z = some _ from b1)
      injection z1 with z2
      injection z2 with _ _ z3
      injection z3 with z4
      simp [rawInt] at z4
  have key : ∀ (h : Heap) (c₁ tk : Nat), (∀ b o, b ≠ S → s.heap.get? b = some o → h.get? b = some o) → s.heap.objs.size ≤ h.objs.size → h.get? S = some { cls := .type "list", data := .seq #[] c₁ } →
      codeAny (model prog w) A (.builtin "list.extend.loop" ⟨[.ref S, .ref z, res], []⟩) R { s with heap := h, toks := tk } := fun h c₁ tk hk hl hS₁ =>
    loop (h₁ := s.heap) (lo := s.heap.objs.size) hh D ln hn nS low res hR xs.size 0 h tk c₁ #[] [] (Nat.sub_zero _) (Nat.zero_le _) (st.keep hk nS) (fun b o hb _ _ _ _ e => hk b o hb e) hS₁ rfl rfl ⟨List.Pairwise.nil, (fun _ ha => nomatch ha), (fun j a hj => by simp at hj)⟩ hl
  have hT : s.TypeIs (.ref z) "zip" := ⟨_, hz, rfl⟩
  unfold Builtin.List.listExtendWith
  refine wpAny_bind (wpAny_typeOf (T := "zip") hT ?_)
  have e1 : Builtin.List.listSameRef (.ref S) (.ref z) = false := by simp [Builtin.List.listSameRef, nS.1]
  have e2 : (Value.type "zip" == Value.type "list") = false := by decide
  have e3 : (Value.type "zip" == Value.type "tuple") = false := by decide
  simp only [e1, e2, e3, Bool.or_false, Bool.false_eq_true, if_false]
  refine wpAny_bind (wpAny_pyIter_zip hz ?_)
  refine wpAny_bind (wpAny_holding (hint hT ?_))
  refine wpAny_ite_split (fun _ => ?_) (fun hab => absurd rfl hab)
  refine wpAny_bind (wpAny_rule (wpAny_bind ?_))
  show wpAny _ _ (updateSeq S (·.push .none) >>= fun _ => updateSeq S (·.pop)) _ _ _
  refine wpAny_bind (wpAny_updateSeq hS rfl ?_)
  have hS₂ := Heap.get?_update_self (Obj.mapSeq (·.push Value.none)) hS rfl
  refine wpAny_updateSeq (hz := by seq_fits) hS₂ rfl ?_
  have hS₃ := Heap.get?_update_self (Obj.mapSeq (·.pop)) hS₂ rfl
  refine wpAny_pure ⟨plainId_quiet PySem.F.plain_extend_loop _, key _ _ _ (fun b o hb e => (Heap.get?_update_other _ _ (Ne.symm hb)).trans ((Heap.get?_update_other _ _ (Ne.symm hb)).trans e)) ?_ hS₃⟩
  exact Nat.le_of_eq ((Heap.SameBut.update _ S _).1.trans (Heap.SameBut.update _ S _).1).symm
theorem call {Q : Value → Shared → Prop} (hh : A.handled = none) (D : ZipApart z TI TO i1 i2 l1 l2) (ln : xs.size = ys.size) (hn : xs.size ≤ sizeLine) (hz : IsZip s.heap z TI TO .none) (hTI : PySem.IsPair s.heap TI (.ref i1) (.ref i2)) (hTO : PySem.IsPair s.heap TO .none .none)
    (h1 : s.heap.IsTupleIter i1 l1 0) (h2 : s.heap.IsTupleIter i2 l2 0) (hl1 : s.heap.IsTuple l1 xs) (hl2 : s.heap.IsTuple l2 ys)
    (hQ : ∀ h' tk acc c as, (∀ b o, b ≠ z → b ≠ TO → b ≠ i1 → b ≠ i2 → s.heap.get? b = some o → h'.get? b = some o) → h'.get? s.heap.objs.size = some { cls := .type "list", dict := none, data := .seq acc c, slots := #[] } → as.length = xs.size → Md xs ys (s.heap.objs.size + 1) h' as → acc.toList = as.map Value.ref →
      Q (.ref s.heap.objs.size) { s with heap := h', toks := tk }) : wpAny (model prog w) A (PySem.call (.type "list") [.ref z]) Q E s := by
  have lt : ∀ {a : Addr} {o : Obj}, s.heap.get? a = some o → s.heap.objs.size ≠ a := fun e => Nat.ne_of_gt (Heap.lt_size e)
  have nS : s.heap.objs.size ≠ z ∧ s.heap.objs.size ≠ TI ∧ s.heap.objs.size ≠ TO ∧ s.heap.objs.size ≠ i1 ∧ s.heap.objs.size ≠ i2 ∧ s.heap.objs.size ≠ l1 ∧ s.heap.objs.size ≠ l2 := by
    obtain ⟨o1, e1, _⟩ := h1
    obtain ⟨o2, e2, _⟩ := h2
    obtain ⟨o3, e3, _⟩ := hl1
    obtain ⟨o4, e4, _⟩ := hl2
    exact ⟨lt hz, lt hTI, lt hTO, lt e1, lt e2, lt e3, lt e4⟩
  refine callType_codes (Q₁ := fun obj s₁ => obj = .ref s.heap.objs.size ∧ s₁ = { s with heap := s.heap.push { cls := .type "list", data := .seq #[] } }) PySem.F.called_list (PySem.F.typeCall_list_1 _) PySem.F.entry_list_init (code_list_new _ ⟨rfl, rfl⟩) fun obj s₁ q₁ => ?_
  obtain ⟨rfl, rfl⟩ := q₁
  have hS : (s.heap.push { cls := .type "list", data := .seq #[] }).get? s.heap.objs.size = some { cls := .type "list", data := .seq #[] } := Heap.get?_push_size _ rfl
  refine ⟨⟨_, hS, rfl⟩, PySem.F.args_list_init_2 _ _, ?_⟩
  show wpAny _ _ (do let old ← Builtin.List.listItems (.ref s.heap.objs.size); Builtin.List.listUpdate (.ref s.heap.objs.size) (fun _ => #[]); letGo old.toList.reverse; Builtin.List.listExtendWith (.ref s.heap.objs.size) (.ref z) .none) _ _ _
  refine wpAny_bind ?_
  unfold Builtin.List.listItems
  refine wpAny_bind (wpAny_seqItems hS rfl (wpAny_pure ?_))
  show wpAny _ _ (updateSeq s.heap.objs.size (fun _ => #[]) >>= fun _ => letGo (#[] : Array Value).toList.reverse >>= fun _ => Builtin.List.listExtendWith (.ref s.heap.objs.size) (.ref z) .none) _ _ _
  refine wpAny_bind (wpAny_updateSeq hS rfl ?_)
  have hS₂ := Heap.get?_update_self (Obj.mapSeq (fun _ => (#[] : Array Value))) hS rfl
  have oth : ∀ b o, b ≠ s.heap.objs.size → s.heap.get? b = some o → ((s.heap.push { cls := .type "list", data := .seq #[] }).update s.heap.objs.size (Obj.mapSeq (fun _ => (#[] : Array Value)))).get? b = some o :=
    fun b o hb e => (Heap.get?_update_other _ _ (Ne.symm hb)).trans (Heap.get?_push_of_some _ e)
  have size2 : ((s.heap.push { cls := .type "list", data := .seq #[] }).update s.heap.objs.size (Obj.mapSeq (fun _ => (#[] : Array Value)))).objs.size = s.heap.objs.size + 1 := (Heap.SameBut.update _ _ _).1.trans (Heap.size_push ..)
  refine wpAny_bind (wpAny_letGo ?_)
  obtain ⟨n1, n2, n3, n4, n5, n6, n7⟩ := id nS
  refine ext (A := A.in1) hh D ln hn nS .none _ (oth _ _ n1.symm hz) ⟨oth _ _ n2.symm hTI, h1.at fun o e => oth _ _ n4.symm e, h2.at fun o e => oth _ _ n5.symm e, tupAt hl1 fun o e => oth _ _ n6.symm e, tupAt hl2 fun o e => oth _ _ n7.symm e, .inl ⟨oth _ _ n1.symm hz, _, _, oth _ _ n3.symm hTO⟩⟩ hS₂ fun h' tk acc c as hk hS' hl md hacc => ?_
  rw [size2] at md
  exact ⟨rfl, hQ h' tk acc c as (fun b o b1 b2 b3 b4 e => hk b o (Nat.ne_of_lt (Heap.lt_size e)) b1 b2 b3 b4 (oth b o (Nat.ne_of_lt (Heap.lt_size e)) e)) hS' hl md hacc⟩
end
end ZL
namespace Pl
open PySem PySem.Spec PyProof.Rows L2
/-- several objects laid at once -/
def updAll (H : Hp) : List (Addr × HO) → Hp
  | [] => H
  | p :: ps => upd (updAll H ps) p.1 p.2
theorem updAll_no {H : Hp} {b : Addr} : ∀ {ps : List (Addr × HO)}, b ∉ ps.map (·.1) → updAll H ps b = H b
  | [], _ => rfl
  | p :: ps, h => by
    rw [List.map_cons, List.mem_cons, not_or] at h
    show upd (updAll H ps) p.1 p.2 b = _
    rw [upd_ne h.1]
    exact updAll_no h.2
theorem updAll_get {H : Hp} : ∀ {ps : List (Addr × HO)} {p : Addr × HO}, (ps.map (·.1)).Nodup → p ∈ ps → updAll H ps p.1 = some p.2
  | [], _, _, h => nomatch h
  | q :: ps, p, nd, h => by
    rw [List.map_cons, List.nodup_cons] at nd
    show upd (updAll H ps) q.1 q.2 p.1 = _
    rcases List.mem_cons.mp h with rfl | h
    · exact upd_same
    · have ne : p.1 ≠ q.1 := fun e => nd.1 (by rw [← e]; exact List.mem_map.mpr ⟨p, h, rfl⟩)
      rw [upd_ne ne]
      exact updAll_get nd.2 h
theorem updAll_same {H : Hp} {ps : List (Addr × HO)} (h : ∀ p ∈ ps, H p.1 = none) : Same H (updAll H ps) := fun b o e => by
  rw [updAll_no]
  · exact e
  · intro hb
    obtain ⟨p, hp, rfl⟩ := List.mem_map.mp hb
    rw [h p hp] at e
    cases e
theorem adds {X : Cx} {pins : List (Addr × Obj)} {σ : L2.St} {H : Hp} {s : Shared} {tk : Nat} (I : Inv X pins σ H s) : ∀ (ps : List (Addr × HO)) (h' : Heap), (∀ b u, s.heap.get? b = some u → h'.get? b = some u) → (∀ p ∈ ps, s.heap.objs.size ≤ p.1) → (ps.map (·.1)).Nodup →
    (∀ p ∈ ps, ∀ (H' : Hp) (G : Heap), G.get? p.1 = h'.get? p.1 → ObjOk X.prog X.w H' G p.1 p.2) → Inv X pins σ (updAll H ps) { s with heap := h', toks := tk }
  | [], h', k, _, _, _ => I.kept k
  | p :: ps, h', k, lo, nd, ok => by
    rw [List.map_cons, List.nodup_cons] at nd
    obtain ⟨G, g1, g2⟩ := restrict h' fun b => decide (b ≠ p.1)
    have gk : ∀ b, b ≠ p.1 → G.get? b = h'.get? b := fun b hb => g1 b (decide_eq_true hb)
    have gn : G.get? p.1 = none := g2 p.1 (decide_eq_false (fun z => z rfl))
    have lp := lo p List.mem_cons_self
    have J := adds (tk := tk) I ps G (fun b u e => by
      rw [gk b (Nat.ne_of_lt (Nat.lt_of_lt_of_le (Heap.lt_size e) lp))]
      exact k b u e) (fun q hq => lo q (List.mem_cons_of_mem _ hq)) nd.2 (fun q hq H' G' e => ok q (List.mem_cons_of_mem _ hq) H' G' (by
        rw [e, gk]
        intro z
        exact nd.1 (by rw [← z]; exact List.mem_map.mpr ⟨q, hq, rfl⟩)))
    refine J.laidN (h' := h') (t' := tk) (fun b u e => ?_) gn ?_ (ok p List.mem_cons_self _ h' rfl)
    · by_cases z : b = p.1
      · rw [z] at e
        rw [show G.get? p.1 = some u from e] at gn
        cases gn
      · rw [← gk b z]
        exact e
    · rw [updAll_no nd.1]
      exact I.hok.fresh lp
/-- pairs in the heap -/
inductive PrA (H : Hp) : List V → List V → List V → Prop
  | nil : PrA H [] [] []
  | cons {q : Addr} {x y : V} {ws xs ys : List V} : H q = some (.tup [x, y]) → PrA H ws xs ys → PrA H (.ref q :: ws) (x :: xs) (y :: ys)
def prs : List Addr → List V → List V → List (Addr × HO)
  | a :: as, x :: xs, y :: ys => (a, .tup [x, y]) :: prs as xs ys
  | _, _, _ => []
theorem prs_fst : ∀ {as : List Addr} {xs ys : List V}, as.length = xs.length → as.length = ys.length → (prs as xs ys).map (·.1) = as
  | [], xs, ys, _, _ => by cases xs <;> cases ys <;> rfl
  | a :: as, [], _, h, _ => nomatch h
  | a :: as, x :: xs, [], _, h => nomatch h
  | a :: as, x :: xs, y :: ys, h1, h2 => by
    show a :: (prs as xs ys).map (·.1) = _
    rw [prs_fst (by simpa using h1) (by simpa using h2)]
theorem prs_mem {p : Addr × HO} : ∀ {as : List Addr} {xs ys : List V}, p ∈ prs as xs ys → ∃ (j : Nat) (a : Addr) (x y : V), as[j]? = some a ∧ xs[j]? = some x ∧ ys[j]? = some y ∧ p = (a, .tup [x, y])
  | [], _, _, h => nomatch h
  | a :: as, [], _, h => nomatch h
  | a :: as, x :: xs, [], h => nomatch h
  | a :: as, x :: xs, y :: ys, h => by
    rcases List.mem_cons.mp h with h | h
    · exact ⟨0, a, x, y, rfl, rfl, rfl, h⟩
    · obtain ⟨j, b, u, v, e1, e2, e3, e4⟩ := prs_mem h
      exact ⟨j + 1, b, u, v, e1, e2, e3, e4⟩
theorem prA_of {G : Hp} : ∀ {as : List Addr} {xs ys : List V}, as.length = xs.length → as.length = ys.length → (∀ p ∈ prs as xs ys, G p.1 = some p.2) → PrA G (as.map V.ref) xs ys
  | [], [], [], _, _, _ => .nil
  | [], x :: xs, _, h, _, _ => nomatch h
  | [], [], y :: ys, _, h, _ => nomatch h
  | a :: as, [], _, h, _, _ => nomatch h
  | a :: as, x :: xs, [], _, h, _ => nomatch h
  | a :: as, x :: xs, y :: ys, h1, h2, g => .cons (g (a, .tup [x, y]) List.mem_cons_self) (prA_of (by simpa using h1) (by simpa using h2) fun p hp => g p (List.mem_cons_of_mem _ hp))
theorem valsAt : ∀ {xs : List V} {us : List Value} {j : Nat} {x : V}, Vals xs us → xs[j]? = some x → ∃ u, us[j]? = some u ∧ RelV x u
  | _, _, _, _, .nil, h => by cases h
  | _, _, 0, _, .cons r _, h => by
    cases h
    exact ⟨_, rfl, r⟩
  | _, _, j + 1, _, .cons _ t, h => by
    obtain ⟨u, e, r⟩ := valsAt (j := j) t (by simpa using h)
    exact ⟨u, by simpa using e, r⟩
theorem valsRef : ∀ (as : List Addr), Vals (as.map V.ref) (as.map Value.ref)
  | [] => .nil
  | a :: as => .cons rfl (valsRef as)
def tLstZip (K : PySem.W.Frag) (ta : TA) : TE := fun σ H Q => ta σ H fun vs H1 => ∃ (a b : Addr) (xs ys : List V), vs = [.ref a, .ref b] ∧ SqT K H1 a xs ∧ SqT K H1 b ys ∧ xs.length = ys.length ∧
  ∀ (L : Addr) (ws : List V) (H2 : Hp), Same H1 H2 → H1 L = none → H2 L = some (.lst ws) → PrA H2 ws xs ys → Q (.ref L) H2
section
variable {X : Cx}
theorem pe_listZip {e e2 : Expr} {ta : TA} {p p2 pos pos2 : Pos} (hc : X.calm = true) (hgl : Gl X "list") (hml : X.mg "list" = none) (hgz : Gl X "zip") (hmz : X.mg "zip" = none) (ha : PA X [e, e2] ta)
    (na : starEach [.Call (.Name "zip" p2) [e, e2] [] pos2] X.env = (false, eval (.Call (.Name "zip" p2) [e, e2] [] pos2) X.env) :: starEach [] X.env := by rfl)
    (hs : starEach [e, e2] X.env = (false, eval e X.env) :: starEach [e2] X.env := by rfl) (hpl : (backTo pos2 (starEach [e2] X.env)).any (·.1) = false := by rfl) :
    PE X (.Call (.Name "list" p) [.Call (.Name "zip" p2) [e, e2] [] pos2] [] pos) (tLstZip X.K ta) := by
  refine ⟨fun pins s σ H Q I h => ?_⟩
  refine Call_ (ld_blt I hgl hml boot_list (PyProof.Rows.callWith_type1 (args_cons (thn (Q := fun v s2 => ∃ (s1 : Shared) (H1 : Hp) (a b : Addr) (xs ys : List V) (us vs : List Value) (h2 : Heap), v = .ref (s1.heap.objs.size + 4) ∧ s2 = { s1 with heap := h2 } ∧ Inv X pins σ H1 s1 ∧
      IsZip h2 (s1.heap.objs.size + 4) (s1.heap.objs.size + 2) (s1.heap.objs.size + 3) .none ∧ PySem.IsPair h2 (s1.heap.objs.size + 2) (.ref s1.heap.objs.size) (.ref (s1.heap.objs.size + 1)) ∧ PySem.IsPair h2 (s1.heap.objs.size + 3) .none .none ∧ h2.IsTupleIter s1.heap.objs.size a 0 ∧ h2.IsTupleIter (s1.heap.objs.size + 1) b 0 ∧ h2.objs.size = s1.heap.objs.size + 5 ∧
      (∀ c o, s1.heap.get? c = some o → h2.get? c = some o) ∧ s1.heap.IsTuple a us.toArray ∧ s1.heap.IsTuple b vs.toArray ∧ Vals xs us ∧ Vals ys vs ∧ xs.length ≤ sizeLine ∧ xs.length = ys.length ∧
      ∀ (L : Addr) (ws : List V) (H2 : Hp), Same H1 H2 → H1 L = none → H2 L = some (.lst ws) → PrA H2 ws xs ys → Q (.ref L) H2) ?_ fun v s2 q => args_nil ?_) na) na))
  · refine Call_ (ld_blt I hgz hmz PyProof.Rows.boot_zip (PyProof.Rows.callWith_type1 (thn (ha.run pos2 pins s σ H _ I h) fun us s1 ⟨vs, H1, I1, r1, q1⟩ => ?_) hs hpl))
    obtain ⟨a, b, xs, ys, rfl, sa, sb, ln, q⟩ := q1
    obtain ⟨u1, u2, rfl, ra, rb⟩ := vals2 r1
    cases ra
    cases rb
    obtain ⟨its, rv, p1, z1⟩ := I1.tuple sa
    obtain ⟨its2, rv2, p2', z2⟩ := I1.tuple sb
    refine RZ.call_zipT (show s1.heap.IsTuple a its.toArray from p1) (show s1.heap.IsTuple b its2.toArray from p2') fun h2 hz hTI hTO h1 h2' hsz hk => ?_
    exact ⟨s1, H1, a, b, xs, ys, its, its2, h2, rfl, rfl, I1, hz, hTI, hTO, h1, h2', hsz, hk, p1, p2', rv, rv2, by omega, ln, q⟩
  · obtain ⟨s1, H1, a, b, xs, ys, us, vs, h2, rfl, rfl, I1, hz, hTI, hTO, h1, h2', hsz, hk, p1, p2', rv, rv2, hn, ln, q⟩ := q
    have la : a < s1.heap.objs.size := by obtain ⟨o, ho, _⟩ := p1; exact Heap.lt_size ho
    have lb : b < s1.heap.objs.size := by obtain ⟨o, ho, _⟩ := p2'; exact Heap.lt_size ho
    have lx := rv.length
    have ly := rv2.length
    refine ZL.call (s := { s1 with heap := h2 }) (I1.ok.hd hc) (PySem.W.ktu_apart s1.heap.objs.size a b la lb) (by rw [List.size_toArray, List.size_toArray]; omega) (by rw [List.size_toArray]; omega) hz hTI hTO h1 h2' (ZL.tupAt p1 fun o e => hk _ _ e) (ZL.tupAt p2' fun o e => hk _ _ e) fun h' tk acc c as keep hS hl md hacc => ?_
    dsimp only at hS md keep ⊢
    rw [List.size_toArray] at hl
    rw [hsz] at hS md ⊢
    have asl : as.length = xs.length := by omega
    have nd : (((s1.heap.objs.size + 5, HO.lst (as.map V.ref)) :: prs as xs ys).map (·.1)).Nodup := by
      rw [List.map_cons, prs_fst asl (by omega), List.nodup_cons]
      refine ⟨fun z => ?_, md.rise.imp (fun h => Nat.ne_of_lt h)⟩
      exact Nat.not_succ_le_self _ (md.above _ z)
    have lo : ∀ p ∈ (s1.heap.objs.size + 5, HO.lst (as.map V.ref)) :: prs as xs ys, s1.heap.objs.size ≤ p.1 := fun p hp => by
      rcases List.mem_cons.mp hp with rfl | hp
      · exact Nat.le_add_right _ _
      · obtain ⟨j, a, x, y, e1, _, _, rfl⟩ := prs_mem hp
        exact Nat.le_trans (Nat.le_add_right _ 6) (md.above a (List.mem_of_getElem? e1))
    have ne : ∀ {b : Addr} {o : Obj}, s1.heap.get? b = some o → ∀ i, b ≠ s1.heap.objs.size + i := fun e i z => by
      have lt := Heap.lt_size e
      rw [z] at lt
      exact Nat.not_lt.mpr (Nat.le_add_right _ i) lt
    have J := adds (tk := tk) I1 ((s1.heap.objs.size + 5, HO.lst (as.map V.ref)) :: prs as xs ys) h' (fun b o e => keep b o (ne e 4) (ne e 3) (ne e 0) (ne e 1) (hk _ _ e)) lo nd (fun p hp H' G eG => by
      rcases List.mem_cons.mp hp with rfl | hp
      · refine ⟨by rw [List.length_map]; omega, as.map Value.ref, c, valsRef as, ?_⟩
        rw [← hacc, Array.toArray_toList]
        exact eG.trans hS
      · obtain ⟨j, a, x, y, e1, e2, e3, rfl⟩ := prs_mem hp
        obtain ⟨u, v, g1, g2, g3⟩ := md.pairs j a e1
        obtain ⟨u', g4, r1⟩ := valsAt rv e2
        obtain ⟨v', g5, r2⟩ := valsAt rv2 e3
        rw [List.getElem?_toArray] at g1 g2
        rw [g4] at g1
        rw [g5] at g2
        cases g1
        cases g2
        exact ⟨by show 2 ≤ sizeLine; decide, [u, v], .cons r1 (.cons r2 .nil), _, eG.trans g3, rfl, _, rfl⟩)
    refine ⟨.ref (s1.heap.objs.size + 5), _, J, rfl, q _ _ _ (updAll_same fun p hp => I1.hok.fresh (lo p hp)) (I1.hok.fresh (Nat.le_add_right _ _)) (updAll_get nd List.mem_cons_self) ?_⟩
    exact prA_of asl (by omega) fun p hp => updAll_get nd (List.mem_cons_of_mem _ hp)
end
end Pl
/-! min(xs, default=None) of a list of tuples of ints -/
namespace Pl
open PySem PySem.Spec PyProof.Rows L2
/-- the order of tuples of ints -/
def lx : List Int → List Int → Bool
  | [], [] => false
  | [], _ :: _ => true
  | _ :: _, [] => false
  | a :: as, b :: bs => decide (a < b) || (decide (a = b) && lx as bs)
theorem lx_irr : ∀ a : List Int, lx a a = false
  | [] => rfl
  | a :: as => by simp [lx, lx_irr as]
theorem lx_trans : ∀ {a b c : List Int}, lx a b = true → lx b c = true → lx a c = true
  | [], [], _, h, _ => nomatch h
  | [], _ :: _, [], _, h => nomatch h
  | [], _ :: _, _ :: _, _, _ => rfl
  | _ :: _, [], _, h, _ => nomatch h
  | _ :: _, _ :: _, [], _, h => nomatch h
  | a :: as, b :: bs, c :: cs, h1, h2 => by
    simp only [lx, Bool.or_eq_true, Bool.and_eq_true, decide_eq_true_eq] at h1 h2 ⊢
    rcases h1 with h1 | ⟨h1, h1'⟩ <;> rcases h2 with h2 | ⟨h2, h2'⟩
    · left; omega
    · left; omega
    · left; omega
    · right; exact ⟨by omega, lx_trans h1' h2'⟩
theorem lx_tri : ∀ {a b : List Int}, lx a b = false → lx b a = false → a = b
  | [], [], _, _ => rfl
  | [], _ :: _, h, _ => nomatch h
  | _ :: _, [], _, h => nomatch h
  | a :: as, b :: bs, h1, h2 => by
    simp only [lx, Bool.or_eq_false_iff, Bool.and_eq_false_iff, decide_eq_false_iff_not] at h1 h2
    have e : a = b := by omega
    subst e
    have e2 : as = bs := lx_tri (by simpa using h1.2) (by simpa using h2.2)
    rw [e2]
def tpD (g : List Int) : PyData := .tuple (g.map PyData.int)
theorem dataLt_lx : ∀ a b : List Int, PySem.W.dataLt (tpD a) (tpD b) = lx a b := by
  have key : ∀ a b : List Int, PyProof.Rows.lexLt itemOrd (PySem.W.keyToksAll (a.map PyData.int)) (PySem.W.keyToksAll (b.map PyData.int)) = lx a b := by
    intro a
    induction a with
    | nil =>
      intro b
      cases b with
      | nil =>
        show PyProof.Rows.lexLt itemOrd [Sum.inl 0] [Sum.inl 0] = false
        rw [lex_self (O := itemOrd)]
        rfl
      | cons b bs =>
        rw [List.map_cons, PySem.W.toks_all_cons]
        show PyProof.Rows.lexLt itemOrd [Sum.inl 0] (Sum.inl 1 :: _) = true
        rw [lex_diff (O := itemOrd) (by intro h; cases h)]
        rfl
    | cons a as ih =>
      intro b
      cases b with
      | nil =>
        rw [List.map_cons, PySem.W.toks_all_cons]
        show PyProof.Rows.lexLt itemOrd (Sum.inl 1 :: _) [Sum.inl 0] = false
        rw [lex_diff (O := itemOrd) (by intro h; cases h)]
        rfl
      | cons b bs =>
        rw [List.map_cons, List.map_cons, PySem.W.toks_all_cons, PySem.W.toks_all_cons, lex_self (O := itemOrd)]
        show PyProof.Rows.lexLt itemOrd (Sum.inl a :: PySem.W.keyToksAll _) (Sum.inl b :: PySem.W.keyToksAll _) = _
        by_cases e : a = b
        · subst e
          rw [lex_self (O := itemOrd), ih]
          simp [lx]
        · rw [lex_diff (O := itemOrd) (by intro h; cases h; exact e rfl)]
          show decide (a < b) = _
          simp [lx, e]
  intro a b
  show PyProof.Rows.lexLt itemOrd (PySem.W.keyToks (tpD a)) (PySem.W.keyToks (tpD b)) = _
  unfold tpD
  simp only [PySem.W.keyToks]
  exact key a b
theorem alikeInts : ∀ a b : List Int, PySem.W.alikeAll (a.map PyData.int) (b.map PyData.int) = true
  | [], b => by cases b <;> rfl
  | _ :: _, [] => rfl
  | a :: as, b :: bs => by
    show (PySem.W.alike (.int a) (.int b) && PySem.W.alikeAll (as.map PyData.int) (bs.map PyData.int)) = true
    rw [alikeInts as bs]
    rfl
theorem minD_lx : ∀ (ys : List (List Int)) (y : List Int), ∃ g, PySem.W.minD (tpD y) (ys.map tpD) = tpD g ∧ g ∈ y :: ys ∧ ∀ z ∈ y :: ys, lx z g = false := by
  intro ys
  induction ys with
  | nil => exact fun y => ⟨y, rfl, List.mem_cons_self, fun z hz => by rw [List.mem_singleton.mp hz]; exact lx_irr y⟩
  | cons k ys ih =>
    intro y
    have e : PySem.W.minD (tpD y) ((k :: ys).map tpD) = PySem.W.minD (if PySem.W.dataLt (tpD k) (tpD y) then tpD k else tpD y) (ys.map tpD) := rfl
    rw [e, dataLt_lx]
    cases c : lx k y with
    | true =>
      obtain ⟨g, e1, m, all⟩ := ih k
      refine ⟨g, by simpa using e1, ?_, fun z hz => ?_⟩
      · exact List.mem_cons_of_mem _ m
      · rcases List.mem_cons.mp hz with rfl | hz
        · cases d : lx z g with
          | false => rfl
          | true =>
            have := lx_trans c d
            rw [all k List.mem_cons_self] at this
            cases this
        · exact all z hz
    | false =>
      obtain ⟨g, e1, m, all⟩ := ih y
      refine ⟨g, by simpa using e1, ?_, fun z hz => ?_⟩
      · rcases List.mem_cons.mp m with rfl | m
        · exact List.mem_cons_self
        · exact List.mem_cons_of_mem _ (List.mem_cons_of_mem _ m)
      · rcases List.mem_cons.mp hz with rfl | hz
        · exact all z List.mem_cons_self
        · rcases List.mem_cons.mp hz with rfl | hz
          · cases d : lx z g with
            | false => rfl
            | true =>
              cases f : lx g y with
              | false =>
                have e2 := lx_tri (all y List.mem_cons_self) f
                subst e2
                rw [c] at d
                cases d
              | true =>
                have := lx_trans d f
                rw [c] at this
                cases this
          · exact all z (List.mem_cons_of_mem _ hz)
theorem depthTp : ∀ gs : List (List Int), PyData.depthAll (gs.map tpD) ≤ 2
  | [] => by simp [PyData.depthAll]
  | g :: gs => by
    have h := depthTp gs
    have h2 : ∀ l : List Int, PyData.depthAll (l.map PyData.int) ≤ 1 := fun l => by
      induction l with
      | nil => simp [PyData.depthAll]
      | cons x l ih => simp only [List.map_cons, PyData.depthAll, PyData.depth]; omega
    have h3 := h2 g
    simp only [List.map_cons, PyData.depthAll, tpD, PyData.depth]
    omega
def rMinDef (K : PySem.W.Frag) : List V → List V → Hp → VK → Prop := fun vs zs H Q => ∃ (a : Addr) (ws : List V) (gs : List (List Int)), vs = [V.ref a] ∧ zs = [.non] ∧ SqL K H a ws ∧ DpAll K H ws (gs.map tpD) ∧ (gs = [] → Q .non H) ∧
  ∀ (i : Nat) (v : V) (g : List Int), ws[i]? = some v → gs[i]? = some g → (∀ z ∈ gs, lx z g = false) → Q v H
theorem cr_minDef {X : Cx} (hc : X.calm = true) (hu : X.A.units + 64 < cLine) : CallRK X (.builtin "min") [Str.ofString "default"] (rMinDef X.K) := by
  intro pins s σ H vs zs us ws Q I r rz h
  obtain ⟨a, wv, gs, rfl, rfl, sq, dp, q0, q⟩ := h
  obtain rfl := Vals.ref1 r
  obtain ⟨w1, rfl, e1⟩ := vals1 rz
  obtain rfl : w1 = Value.none := e1
  obtain ⟨its, rv, hl, hz⟩ := I.list sq
  obtain ⟨as, rd⟩ := Dp.readsAll I _ _ _ dp rv
  have dt := depthTp gs
  refine PySem.W.min_list_default (I.ok.hd hc) hl.isList (by simpa using rd) ⟨fun x hx y hy => ?_, fun x hx e => ?_⟩ (by omega) (fun e h' tk hk => ?_) fun y ys i v h' tk bs e ev rd2 hk => ?_
  · obtain ⟨g, _, rfl⟩ := List.mem_map.mp hx
    obtain ⟨g', _, rfl⟩ := List.mem_map.mp hy
    exact alikeInts g g'
  · obtain ⟨g, _, rfl⟩ := List.mem_map.mp hx
    cases e
  · exact ⟨.non, H, I.kept hk, rfl, q0 (List.map_eq_nil_iff.mp e)⟩
  · cases gs with
    | nil => cases e
    | cons g0 gs =>
      rw [List.map_cons] at e
      obtain ⟨rfl, rfl⟩ := List.cons.inj e
      obtain ⟨g, eg, m, all⟩ := minD_lx gs g0
      rw [eg] at rd2
      rw [List.getElem?_toArray] at ev
      have il : i < wv.length := by
        have := (List.getElem?_eq_some_iff.mp ev).1
        have := rv.length
        omega
      have ew : wv[i]? = some wv[i] := List.getElem?_eq_getElem il
      obtain ⟨u, eu, ru⟩ := valsAt rv ew
      rw [ev] at eu
      cases eu
      obtain ⟨cs, r3, li, _, _⟩ := PySem.W.readsAll_at (by simpa using rd) i v ev
      have e4 := (Reads.unique (PySem.W.reads_keeps hk r3) _ _ rd2).1
      have lg : i < (g0 :: gs).length := by simpa using li
      have eg2 : (g0 :: gs)[i]? = some (g0 :: gs)[i] := List.getElem?_eq_getElem lg
      have e5 : (List.map tpD (g0 :: gs)).getD i .none = tpD (g0 :: gs)[i] := by
        rw [List.getD_eq_getElem?_getD, List.getElem?_map, eg2]
        rfl
      rw [List.map_cons] at e5
      rw [e5] at e4
      have e6 : (g0 :: gs)[i] = g := by
        have z := PyData.tuple.inj e4
        exact (List.map_inj_right (f := PyData.int) (fun _ _ h => PyData.int.inj h)).mp z
      rw [e6] at eg2
      exact ⟨wv[i], H, I.kept hk, ru, q i _ g ew eg2 all⟩
/-- a star among the items, within a block -/
theorem pa_starK {X : Cx} {K : PySem.W.Frag} {e : Expr} {es : List Expr} {te : TE} {t : TA} {p : Pos} (he : PE X e te) (hr : PA X es t) (hK : X.K = K := by rfl) (hs : starEach (.Starred e p :: es) X.env = (true, eval e X.env) :: starEach es X.env := by rfl) : PA X (.Starred e p :: es) (StX.tStar K te t) := by
  subst hK
  exact StX.pa_star he hr hs
end Pl
/-! zip(t, l) of a tuple and a list; len(set(t)) of a tuple of ints -/
namespace ZM
open PySem PySem.Spec
section
variable {prog : Program} {w : World} {A : Around} {E : Value → Shared → Prop} {s : Shared} {z TI TO i1 i2 l1 l2 : Addr} {k : Nat} {xs ys : Array Value} {x y a b : Value}
/-- the next pair of a zip over a tuple and a list -/
theorem next_item {Q : Value → Shared → Prop} (D : ZipApart z TI TO i1 i2 l1 l2) (hz : IsZip s.heap z TI TO .none) (hTI : IsPair s.heap TI (.ref i1) (.ref i2)) (hTO : IsPair s.heap TO a b)
    (h1 : s.heap.IsTupleIter i1 l1 k) (h2 : s.heap.IsListIter i2 l2 k) (hl1 : s.heap.IsTuple l1 xs) (hl2 : s.heap.IsList l2 ys) (hx : xs[k]? = some x) (hy : ys[k]? = some y)
    (hQ : ∀ h', IsZip h' z TI TO (rawInt s.heap.objs.size) → IsPair h' TO x y → h'.IsTupleIter i1 l1 (k + 1) → h'.IsListIter i2 l2 (k + 1) → IsPair h' s.heap.objs.size x y → h'.objs.size = s.heap.objs.size + 1 →
      (∀ c o, c ≠ z → c ≠ TO → c ≠ i1 → c ≠ i2 → s.heap.get? c = some o → h'.get? c = some o) → Q (.ref s.heap.objs.size) { s with heap := h' }) :
    wpAny (model prog w) A (Builtin.«zip.__next__» ⟨[.ref z], []⟩) (fun fin s' => ∃ v, fin = .done (.ret v) ∧ Q v s') E s := by
  show wpAny _ _ (field (.ref z) 2 >>= _) _ _ _
  refine wpAny_bind (wpAny_field hz rfl (x := .bool false) rfl ?_)
  show wpAny _ _ (field (.ref z) 3 >>= _) _ _ _
  refine wpAny_bind (wpAny_field hz rfl (x := .ref TI) rfl (wpAny_bind (wpAny_seqItems hTI rfl ?_)))
  show wpAny _ _ (Builtin.SmallTypes.ownedTupleIsFree (.ref z) >>= _) _ _ _
  refine wpAny_bind ?_
  unfold Builtin.SmallTypes.ownedTupleIsFree
  refine wpAny_bind (wpAny_field hz rfl (x := .none) rfl (wpAny_pure ?_))
  simp only [if_true]
  refine wpAny_bind (wpAny_rule (wpAny_bind (wpAny_field hz rfl (x := .ref TO) rfl (wpAny_bind (wpAny_setField_rec hz (by simp) fun g1 z1 c1 => ?_)))))
  have z1 : IsZip g1 z TI TO .ellipsis := z1
  refine wpAny_bind ?_
  simp only [List.zipIdx_cons, List.zipIdx_nil, List.forIn_cons, List.forIn_nil]
  refine wpAny_bind (wpAny_bind (wpAny_onRaise ?_))
  show wpAny _ _ (Builtin.SmallTypes.nextOf (.ref i1) >>= _) _ _ _
  refine wpAny_bind (RZ.nextOf_tuple_item (h1.extBut c1.extBut D.i1z) (hl1.extBut c1.extBut D.l1z) hx fun g2 n1 c2 => wpAny_pure ?_)
  have t2 : IsPair g2 TO a b := c2.extBut _ _ D.TOi1 (c1.extBut _ _ D.TOz hTO)
  refine wpAny_bind (wpAny_seqItems t2 rfl (wpAny_bind (wpAny_updateSeq_pair t2 fun g3 t3 c3 => wpAny_bind (wpAny_letGo (wpAny_pure ?_)))))
  have t3 : IsPair g3 TO x b := t3
  refine wpAny_bind (wpAny_bind (wpAny_onRaise ?_))
  show wpAny _ _ (Builtin.SmallTypes.nextOf (.ref i2) >>= _) _ _ _
  refine wpAny_bind (wpAny_nextOf_list_item (((h2.extBut c1.extBut D.i2z).extBut c2.extBut D.i12.symm).extBut c3.extBut D.TOi2.symm) (((hl2.extBut c1.extBut D.l2z).extBut c2.extBut D.l2i1).extBut c3.extBut D.l2TO) hy fun g4 n2 c4 => wpAny_pure ?_)
  have t4 : IsPair g4 TO x b := c4.extBut _ _ D.TOi2 t3
  refine wpAny_bind (wpAny_seqItems t4 rfl (wpAny_bind (wpAny_updateSeq_pair t4 fun g5 t5 c5 => wpAny_bind (wpAny_letGo (wpAny_pure (wpAny_pure ?_))))))
  have t5 : IsPair g5 TO x y := t5
  refine wpAny_bind (wpAny_seqItems t5 rfl (wpAny_bind (wpAny_newTuple ?_)))
  have sz : g5.objs.size = s.heap.objs.size := by rw [c5.1, c4.1, c3.1, c2.1, c1.1]
  have z5 : IsZip g5 z TI TO .ellipsis := c5.extBut _ _ D.TOz.symm (c4.extBut _ _ D.i2z.symm (c3.extBut _ _ D.TOz.symm (c2.extBut _ _ D.i1z.symm z1)))
  have m1 := ((n1.extBut c3.extBut D.TOi1.symm).extBut c4.extBut D.i12).extBut c5.extBut D.TOi1.symm
  have m2 := n2.extBut c5.extBut D.TOi2.symm
  have lz : z < g5.objs.size := Heap.lt_size z5
  show wpAny _ _ (Builtin.SmallTypes.ownedTupleHandOut (.ref z) (.ref g5.objs.size) >>= _) _ _ _
  refine wpAny_bind ?_
  unfold Builtin.SmallTypes.ownedTupleHandOut
  have z6 : IsZip (g5.push { cls := .type "tuple", data := .seq #[x, y] }) z TI TO .ellipsis := Heap.get?_push_of_some _ z5
  refine wpAny_bind (wpAny_setField_rec z6 (by simp) fun g7 z7 c7 => ?_)
  have z7 : IsZip g7 z TI TO (rawInt g5.objs.size) := z7
  refine wpAny_setField_rec z7 (by simp) fun g8 z8 c8 => wpAny_pure ⟨_, rfl, ?_⟩
  have z8 : IsZip g8 z TI TO (rawInt g5.objs.size) := z8
  have up : ∀ c o, c ≠ z → g5.get? c = some o → g8.get? c = some o := fun c o n e => c8.extBut _ _ n (c7.extBut _ _ n (Heap.get?_push_of_some _ e))
  have new : IsPair g8 g5.objs.size x y := c8.extBut _ _ (Nat.ne_of_gt lz) (c7.extBut _ _ (Nat.ne_of_gt lz) (Heap.get?_push_size _ rfl))
  have s8 : g8.objs.size = g5.objs.size + 1 := by rw [c8.1, c7.1, Heap.size_push]
  show Q (.ref g5.objs.size) _
  rw [sz] at z8 new s8 ⊢
  exact hQ g8 z8 (up _ _ D.TOz t5) (m1.at fun o e => up _ o D.i1z e) (m2.at fun o e => up _ o D.i2z e) new s8 fun c o n1 n2 n3 n4 e => up c o n1 (c5.extBut _ _ n2 (c4.extBut _ _ n4 (c3.extBut _ _ n2 (c2.extBut _ _ n3 (c1.extBut _ _ n1 e)))))
theorem next_end {Q : Fin → Shared → Prop} (hh : A.handled = none) (D : ZipApart z TI TO i1 i2 l1 l2) (hz : IsZip s.heap z TI TO .none) (hTI : IsPair s.heap TI (.ref i1) (.ref i2)) (hTO : IsPair s.heap TO a b)
    (h1 : s.heap.IsTupleIter i1 l1 k) (h2 : s.heap.IsListIter i2 l2 k) (hl1 : s.heap.IsTuple l1 xs) (hl2 : s.heap.IsList l2 ys) (hend : xs[k]? = none ∨ ys[k]? = none)
    (hE : ∀ h' e, (∀ c o, c ≠ z → c ≠ TO → c ≠ i1 → c ≠ i2 → s.heap.get? c = some o → h'.get? c = some o) → (∃ o, h'.get? e = some o ∧ o.cls = .type "StopIteration") → E (.ref e) { s with heap := h' }) :
    wpAny (model prog w) A (Builtin.«zip.__next__» ⟨[.ref z], []⟩) Q E s := by
  show wpAny _ _ (field (.ref z) 2 >>= _) _ _ _
  refine wpAny_bind (wpAny_field hz rfl (x := .bool false) rfl ?_)
  show wpAny _ _ (field (.ref z) 3 >>= _) _ _ _
  refine wpAny_bind (wpAny_field hz rfl (x := .ref TI) rfl (wpAny_bind (wpAny_seqItems hTI rfl ?_)))
  show wpAny _ _ (Builtin.SmallTypes.ownedTupleIsFree (.ref z) >>= _) _ _ _
  refine wpAny_bind ?_
  unfold Builtin.SmallTypes.ownedTupleIsFree
  refine wpAny_bind (wpAny_field hz rfl (x := .none) rfl (wpAny_pure ?_))
  simp only [if_true]
  refine wpAny_bind (wpAny_rule (wpAny_bind (wpAny_field hz rfl (x := .ref TO) rfl (wpAny_bind (wpAny_setField_rec hz (by simp) fun g1 z1 c1 => ?_)))))
  have z1 : IsZip g1 z TI TO .ellipsis := z1
  refine wpAny_bind ?_
  simp only [List.zipIdx_cons, List.zipIdx_nil, List.forIn_cons, List.forIn_nil]
  refine wpAny_bind (wpAny_bind (wpAny_onRaise ?_))
  show wpAny _ _ (Builtin.SmallTypes.nextOf (.ref i1) >>= _) _ _ _
  have stop : ∀ (g : Heap) (e : Addr), IsZip g z TI TO .ellipsis → (∃ o, g.get? e = some o ∧ o.cls = .type "StopIteration") → e ≠ z := fun g e gz ⟨o, ho, hc⟩ q => by
    subst q
    rw [gz] at ho
    cases ho
    simp at hc
  cases ex : xs[k]? with
  | none =>
    refine wpAny_bind (RZ.nextOf_tuple_end hh (h1.extBut c1.extBut D.i1z) (hl1.extBut c1.extBut D.l1z) ex fun g2 e c2 he => ?_)
    have z2 : IsZip g2 z TI TO .ellipsis := c2 _ _ D.i1z.symm z1
    have ne := stop g2 e z2 he
    obtain ⟨o, ho, hc⟩ := he
    exact wpAny_setField_rec z2 (by simp) fun g3 _ c3 => hE g3 e (fun c o n1 _ n3 _ q => c3.extBut _ _ n1 (c2 _ _ n3 (c1.extBut _ _ n1 q))) ⟨o, c3.extBut _ _ ne ho, hc⟩
  | some x =>
    have ey : ys[k]? = none := by
      rcases hend with q | q
      · rw [ex] at q; cases q
      · exact q
    refine wpAny_bind (RZ.nextOf_tuple_item (h1.extBut c1.extBut D.i1z) (hl1.extBut c1.extBut D.l1z) ex fun g2 n1 c2 => wpAny_pure ?_)
    have t2 : IsPair g2 TO a b := c2.extBut _ _ D.TOi1 (c1.extBut _ _ D.TOz hTO)
    refine wpAny_bind (wpAny_seqItems t2 rfl (wpAny_bind (wpAny_updateSeq_pair t2 fun g3 t3 c3 => wpAny_bind (wpAny_letGo (wpAny_pure ?_)))))
    refine wpAny_bind (wpAny_bind (wpAny_onRaise ?_))
    show wpAny _ _ (Builtin.SmallTypes.nextOf (.ref i2) >>= _) _ _ _
    refine wpAny_bind (wpAny_nextOf_list_end hh (((h2.extBut c1.extBut D.i2z).extBut c2.extBut D.i12.symm).extBut c3.extBut D.TOi2.symm) (((hl2.extBut c1.extBut D.l2z).extBut c2.extBut D.l2i1).extBut c3.extBut D.l2TO) ey fun g4 e c4 he => ?_)
    have z4 : IsZip g4 z TI TO .ellipsis := c4 _ _ D.i2z.symm (c3.extBut _ _ D.TOz.symm (c2.extBut _ _ D.i1z.symm z1))
    have ne := stop g4 e z4 he
    obtain ⟨o, ho, hc⟩ := he
    exact wpAny_setField_rec z4 (by simp) fun g5 _ c5 => hE g5 e (fun c o n1 n2 n3 n4 q => c5.extBut _ _ n1 (c4 _ _ n4 (c3.extBut _ _ n2 (c2.extBut _ _ n3 (c1.extBut _ _ n1 q))))) ⟨o, c5.extBut _ _ ne ho, hc⟩
theorem py_item {Q : Option Value → Shared → Prop} (D : ZipApart z TI TO i1 i2 l1 l2) (hz : IsZip s.heap z TI TO .none) (hTI : IsPair s.heap TI (.ref i1) (.ref i2)) (hTO : IsPair s.heap TO a b)
    (h1 : s.heap.IsTupleIter i1 l1 k) (h2 : s.heap.IsListIter i2 l2 k) (hl1 : s.heap.IsTuple l1 xs) (hl2 : s.heap.IsList l2 ys) (hx : xs[k]? = some x) (hy : ys[k]? = some y)
    (hQ : ∀ h', IsZip h' z TI TO (rawInt s.heap.objs.size) → IsPair h' TO x y → h'.IsTupleIter i1 l1 (k + 1) → h'.IsListIter i2 l2 (k + 1) → IsPair h' s.heap.objs.size x y → h'.objs.size = s.heap.objs.size + 1 →
      (∀ c o, c ≠ z → c ≠ TO → c ≠ i1 → c ≠ i2 → s.heap.get? c = some o → h'.get? c = some o) → Q (some (.ref s.heap.objs.size)) { s with heap := h' }) :
    wpAny (model prog w) A (pyNext (.ref z)) Q E s := by
  have hT : s.TypeIs (.ref z) "zip" := ⟨_, hz, rfl⟩
  unfold pyNext
  exact wpAny_bind (wpAny_attempt (wpAny_callSpecial?_slot (name := Str.ofString "__next__") hT F.slot_zip_next (wpAny_call_entry F.slot_zip_next hT F.entry_zip_next
    (next_item D hz hTI hTO h1 h2 hl1 hl2 hx hy fun h' a1 a2 a3 a4 a5 a6 a7 => wpAny_pure (hQ h' a1 a2 a3 a4 a5 a6 a7)) (F.args_zip_next_1 _))))
theorem py_end {Q : Option Value → Shared → Prop} (hh : A.handled = none) (D : ZipApart z TI TO i1 i2 l1 l2) (hz : IsZip s.heap z TI TO .none) (hTI : IsPair s.heap TI (.ref i1) (.ref i2)) (hTO : IsPair s.heap TO a b)
    (h1 : s.heap.IsTupleIter i1 l1 k) (h2 : s.heap.IsListIter i2 l2 k) (hl1 : s.heap.IsTuple l1 xs) (hl2 : s.heap.IsList l2 ys) (hend : xs[k]? = none ∨ ys[k]? = none)
    (hQ : ∀ h', (∀ c o, c ≠ z → c ≠ TO → c ≠ i1 → c ≠ i2 → s.heap.get? c = some o → h'.get? c = some o) → Q none { s with heap := h' }) : wpAny (model prog w) A (pyNext (.ref z)) Q E s := by
  have hT : s.TypeIs (.ref z) "zip" := ⟨_, hz, rfl⟩
  unfold pyNext
  refine wpAny_bind (wpAny_attempt (wpAny_callSpecial?_slot (name := Str.ofString "__next__") hT F.slot_zip_next (wpAny_call_entry F.slot_zip_next hT F.entry_zip_next (next_end hh D hz hTI hTO h1 h2 hl1 hl2 hend fun h' e hk ⟨o, ho, hc⟩ => ?_) (F.args_zip_next_1 _))))
  exact wpAny_bind (wpAny_isInstance (T := "StopIteration") (b := true) ⟨o, ho, hc⟩ isSubtype_stop (wpAny_pure (hQ _ hk)))
end
/-- the five objects of zip(t, l) -/
def objs5 (h : Heap) (l1 l2 : Addr) : Heap :=
  ((((h.push { cls := .type "tuple_iterator", data := .fields #[.ref l1, .int 0 0] }).push { cls := .type "list_iterator", data := .fields #[.ref l2, .int 0 0] }).push { cls := .type "tuple", data := .seq #[.ref h.objs.size, .ref (h.objs.size + 1)] }).push { cls := .type "tuple", data := .seq #[.none, .none] }).push
    { cls := .type "zip", data := .fields #[.none, .bool false, .bool false, .ref (h.objs.size + 2), .ref (h.objs.size + 3)] }
theorem meets_new (l1 l2 : Addr) (xs ys : Array Value) :
    Meets (Builtin.«zip.__new__» ⟨[.type "zip", .ref l1, .ref l2], []⟩) (fun _ R s => s.heap.IsTuple l1 xs ∧ s.heap.IsList l2 ys ∧ R (.ok (.ret (.ref (s.heap.objs.size + 4)))) { s with heap := objs5 s.heap l1 l2 }) :=
  .of_wp fun prog w A R s h => by
    obtain ⟨hp, g, d, tk, os⟩ := s
    obtain ⟨hl1, hl2, h⟩ := h
    have hsub := sub_zip
    have hL1 : Heap.IsTuple (Shared.heap ⟨hp, g, d, tk, os⟩) l1 xs := hl1
    have hL2 : Heap.IsList (Shared.heap ⟨hp.push { cls := .type "tuple_iterator", data := .fields #[.ref l1, .int 0 0] }, g, d, tk, os⟩) l2 ys := hl2.push _
    have e1 : (hp.push { cls := .type "tuple_iterator", data := .fields #[.ref l1, .int 0 0] }).objs.size = hp.objs.size + 1 := Heap.size_push ..
    have e2 : ((hp.push { cls := .type "tuple_iterator", data := .fields #[.ref l1, .int 0 0] }).push { cls := .type "list_iterator", data := .fields #[.ref l2, .int 0 0] }).objs.size = hp.objs.size + 2 := by rw [Heap.size_push, e1]
    wp_walk using wpAny_pyIter_tuple hL1, wpAny_pyIter_list hL2
    refine ⟨_, rfl, ?_⟩
    simp only [Heap.size_push]
    exact h
theorem call_new {l1 l2 : Addr} {xs ys : Array Value} {prog : Program} {w : World} {A : Around} {E : Value → Shared → Prop} {s : Shared} {Q : Value → Shared → Prop} (hl1 : s.heap.IsTuple l1 xs) (hl2 : s.heap.IsList l2 ys)
    (h : ∀ h', IsZip h' (s.heap.objs.size + 4) (s.heap.objs.size + 2) (s.heap.objs.size + 3) .none → IsPair h' (s.heap.objs.size + 2) (.ref s.heap.objs.size) (.ref (s.heap.objs.size + 1)) → IsPair h' (s.heap.objs.size + 3) .none .none →
      h'.IsTupleIter s.heap.objs.size l1 0 → h'.IsListIter (s.heap.objs.size + 1) l2 0 → h'.objs.size = s.heap.objs.size + 5 → (∀ c o, s.heap.get? c = some o → h'.get? c = some o) → Q (.ref (s.heap.objs.size + 4)) { s with heap := h' }) :
    wpAny (model prog w) A (call (.type "zip") [.ref l1, .ref l2]) Q E s := by
  refine callType_new F.called_zip (by decide) (F.typeCall_zip_2 _ _) (F.newCall_zip_2 _ _) (fun obj => F.args_object_init_3 obj _ _) F.entry_zip_new (meets_new l1 l2 xs ys) ⟨hl1, hl2, ?_⟩
  generalize ho1 : ({ cls := .type "tuple_iterator", data := .fields #[.ref l1, .int 0 0] } : Obj) = o1
  generalize ho2 : ({ cls := .type "list_iterator", data := .fields #[.ref l2, .int 0 0] } : Obj) = o2
  generalize ho3 : ({ cls := .type "tuple", data := .seq #[.ref s.heap.objs.size, .ref (s.heap.objs.size + 1)] } : Obj) = o3
  generalize ho4 : ({ cls := .type "tuple", data := .seq #[.none, .none] } : Obj) = o4
  generalize ho5 : ({ cls := .type "zip", data := .fields #[.none, .bool false, .bool false, .ref (s.heap.objs.size + 2), .ref (s.heap.objs.size + 3)] } : Obj) = o5
  have e : objs5 s.heap l1 l2 = ((((s.heap.push o1).push o2).push o3).push o4).push o5 := by rw [← ho1, ← ho2, ← ho3, ← ho4, ← ho5]; rfl
  have z1 : (s.heap.push o1).objs.size = s.heap.objs.size + 1 := Heap.size_push ..
  have z2 : ((s.heap.push o1).push o2).objs.size = s.heap.objs.size + 2 := by rw [Heap.size_push, z1]
  have z3 : (((s.heap.push o1).push o2).push o3).objs.size = s.heap.objs.size + 3 := by rw [Heap.size_push, z2]
  have z4 : ((((s.heap.push o1).push o2).push o3).push o4).objs.size = s.heap.objs.size + 4 := by rw [Heap.size_push, z3]
  have n1 : o1.isFreed = false := by rw [← ho1]; rfl
  have n2 : o2.isFreed = false := by rw [← ho2]; rfl
  have n3 : o3.isFreed = false := by rw [← ho3]; rfl
  have n4 : o4.isFreed = false := by rw [← ho4]; rfl
  have n5 : o5.isFreed = false := by rw [← ho5]; rfl
  have g5 := Heap.get?_push_size ((((s.heap.push o1).push o2).push o3).push o4) n5
  have g4 := Heap.get?_push_of_some o5 (Heap.get?_push_size (((s.heap.push o1).push o2).push o3) n4)
  have g3 := Heap.get?_push_of_some o5 (Heap.get?_push_of_some o4 (Heap.get?_push_size ((s.heap.push o1).push o2) n3))
  have g2 := Heap.get?_push_of_some o5 (Heap.get?_push_of_some o4 (Heap.get?_push_of_some o3 (Heap.get?_push_size (s.heap.push o1) n2)))
  have g1 := Heap.get?_push_of_some o5 (Heap.get?_push_of_some o4 (Heap.get?_push_of_some o3 (Heap.get?_push_of_some o2 (Heap.get?_push_size s.heap n1))))
  rw [z4] at g5
  rw [z3] at g4
  rw [z2] at g3
  rw [z1] at g2
  rw [← e] at g1 g2 g3 g4 g5
  subst ho1 ho2 ho3 ho4 ho5
  exact ⟨⟨_, g5, rfl⟩, h _ g5 g3 g4 ⟨_, g1, rfl, rfl⟩ ⟨_, g2, rfl, rfl⟩ (by rw [e, Heap.size_push, z4]) fun c o x => by
    rw [e]
    exact Heap.get?_push_of_some _ (Heap.get?_push_of_some _ (Heap.get?_push_of_some _ (Heap.get?_push_of_some _ (Heap.get?_push_of_some _ x))))⟩
end ZM
namespace Pl
open PySem PySem.Spec PyProof.Rows L2
/-- the tuple at a and the list at b as they stand at each turn, the items in new pairs -/
def ItzM (K : PySem.W.Frag) (a b : Addr) : It :=
  ⟨fun i H => ∃ (xs ys : List V) (x y : V), SqT K H a xs ∧ SqL K H b ys ∧ xs[i]? = some x ∧ ys[i]? = some y,
    fun i H v H' => ∃ T x y, v = .ref T ∧ H T = none ∧ H' = upd H T (.tup [x, y]) ∧ (∀ xs, SqT K H a xs → xs[i]? = some x) ∧ ∀ ys, SqL K H b ys → ys[i]? = some y,
    fun i H => ∃ xs ys : List V, SqT K H a xs ∧ SqL K H b ys ∧ (xs.length ≤ i ∨ ys.length ≤ i)⟩
theorem list_inj {X : Cx} {pins : List (Addr × Obj)} {σ : L2.St} {H : Hp} {s : Shared} {a : Addr} {xs ys : List V} (I : Inv X pins σ H s) (h : SqL X.K H a xs) (h' : SqL X.K H a ys) : xs = ys := I.list_inj h h'
theorem turn_zipM {P : Program} {w : World} {K : PySem.W.Frag} {elts : List Expr} {kk : Nat} {tpos : Pos} {a b z TI TO i1 i2 : Addr} (D : ZipApart z TI TO i1 i2 a b) :
    Turn P w K (.Tuple elts kk tpos) (ItzM K a b) [z, TI, TO, i1, i2] z (fun i h => IsZip h z TI TO .none ∧ PySem.IsPair h TI (.ref i1) (.ref i2) ∧ (∃ x y, PySem.IsPair h TO x y) ∧ h.IsTupleIter i1 a i ∧ h.IsListIter i2 b i) where
  mem := by simp
  obj := fun i h st c hc => by
    obtain ⟨hz, hTI, ⟨x, y, hTO⟩, ⟨o1, e1, _, d1⟩, ⟨o2, e2, _, d2⟩⟩ := st
    rcases (by simpa using hc : c = z ∨ c = TI ∨ c = TO ∨ c = i1 ∨ c = i2) with q | q | q | q | q <;> rw [q]
    · exact ⟨_, hz, fun v q => nomatch q⟩
    · exact ⟨_, hTI, fun v q => nomatch q⟩
    · exact ⟨_, hTO, fun v q => nomatch q⟩
    · exact ⟨o1, e1, fun v q => by rw [d1] at q; cases q⟩
    · exact ⟨o2, e2, fun v q => by rw [d2] at q; cases q⟩
  keep := fun i h h' st k => by
    obtain ⟨hz, hTI, ⟨x, y, hTO⟩, h1, h2⟩ := st
    exact ⟨k z (by simp) _ hz, k TI (by simp) _ hTI, ⟨x, y, k TO (by simp) _ hTO⟩, h1.at fun o q => k i1 (by simp) o q, h2.at fun o q => k i2 (by simp) o q⟩
  item := by
    intro X hP hw hK hc i pins s σ H E I hf st hg
    subst hP hw hK
    obtain ⟨hz, hTI, ⟨x0, y0, hTO⟩, h1, h2⟩ := st
    obtain ⟨xs, ys, x, y, hqx, hqy, hx, hy⟩ := hg
    obtain ⟨its, rv, p, _⟩ := I.tuple hqx
    obtain ⟨its2, rv2, p2, _⟩ := I.list hqy
    obtain ⟨u, hu, ru⟩ := rv.get hx
    obtain ⟨u2, hu2, ru2⟩ := rv2.get hy
    have hzl : z < s.heap.objs.size := Heap.lt_size hz
    refine ZM.py_item D hz hTI hTO h1 h2 p p2.isList (x := u) (y := u2) (by simpa using hu) (by simpa using hu2) fun h' z' TO' h1' h2' hT hsz hk => ?_
    refine ⟨_, rfl, wpAny_letOwnedTupleGo_zip (s := { s with heap := h' }) z' fun h'' z'' sb => ?_⟩
    have hT2 : h''.get? s.heap.objs.size = some { cls := .type "tuple", data := .seq #[u, u2] } := (sb.2 _ (Nat.ne_of_gt hzl)).trans hT
    have new : ObjOk X.prog X.w (upd H s.heap.objs.size (.tup [x, y])) h'' s.heap.objs.size (.tup [x, y]) := ⟨by show 2 ≤ sizeLine; decide, [u, u2], .cons ru (.cons ru2 .nil), ⟨_, hT2, rfl, _, rfl⟩⟩
    have I1 : Inv X pins σ (upd H s.heap.objs.size (.tup [x, y])) { s with heap := h'' } :=
      I.turnedNew (t' := s.toks) (ch := [z, TI, TO, i1, i2]) (fun c o hb q => (sb.2 c (fun q' => hb (by simp [q']))).trans (hk c o (fun q' => hb (by simp [q'])) (fun q' => hb (by simp [q'])) (fun q' => hb (by simp [q'])) (fun q' => hb (by simp [q'])) q)) hf (Nat.le_refl _) new
    refine ⟨.ref s.heap.objs.size, _, I1, rfl, ⟨_, x, y, rfl, I.hok.fresh (Nat.le_refl _), rfl, fun l hl => by rw [I.tuple_inj hl hqx]; exact hx, fun l hl => by rw [list_inj I hl hqy]; exact hy⟩, ⟨z'', ?_, ⟨u, u2, ?_⟩, ?_, ?_⟩, fun c hcm => ?_⟩
    · exact (sb.2 _ D.TIz).trans (hk _ _ D.TIz D.TITO D.TIi1 D.TIi2 hTI)
    · exact (sb.2 _ D.TOz).trans TO'
    · exact h1'.at fun o q => (sb.2 _ D.i1z).trans q
    · exact h2'.at fun o q => (sb.2 _ D.i2z).trans q
    · have hlt : c < s.heap.objs.size := by
        rcases (by simpa using hcm : c = z ∨ c = TI ∨ c = TO ∨ c = i1 ∨ c = i2) with q | q | q | q | q <;> rw [q]
        · exact hzl
        · exact Heap.lt_size hTI
        · exact Heap.lt_size hTO
        · obtain ⟨_, e1, _⟩ := h1; exact Heap.lt_size e1
        · obtain ⟨_, e2, _⟩ := h2; exact Heap.lt_size e2
      rw [upd_ne (Nat.ne_of_lt hlt)]
      exact (hf c hcm).1
  done := by
    intro X hP hw hK hc i pins s σ H E I hf st hg
    subst hP hw hK
    obtain ⟨hz, hTI, ⟨x0, y0, hTO⟩, h1, h2⟩ := st
    obtain ⟨xs, ys, hqx, hqy, hend⟩ := hg
    obtain ⟨its, rv, p, _⟩ := I.tuple hqx
    obtain ⟨its2, rv2, p2, _⟩ := I.list hqy
    have l1 := rv.length
    have l2 := rv2.length
    have he : its.toArray[i]? = none ∨ its2.toArray[i]? = none := by
      rcases hend with q | q
      · exact .inl (by simp; omega)
      · exact .inr (by simp; omega)
    exact ZM.py_end (I.ok.hd hc) D hz hTI hTO h1 h2 p p2.isList he fun h' hk => ⟨rfl, I.turnedL (t' := s.toks) (ch := [z, TI, TO, i1, i2]) (fun c o hb q =>
      hk c o (fun q' => hb (by simp [q'])) (fun q' => hb (by simp [q'])) (fun q' => hb (by simp [q'])) (fun q' => hb (by simp [q'])) q) hf⟩
  self := fun A i s Q E st h => wpAny_pyIter_zip st.1 h
def iZipM (K : PySem.W.Frag) (ta : TA) : TI := fun σ H R => ta σ H fun vs H1 => ∃ a b xs ys, vs = [.ref a, .ref b] ∧ SqT K H1 a xs ∧ SqL K H1 b ys ∧ R (ItzM K a b) H1
theorem pi_zipM {X : Cx} {e e2 : Expr} {ta : TA} {p pos tpos : Pos} {elts : List Expr} {kk : Nat} (hg : Gl X "zip") (hm : X.mg "zip" = none) (ha : PA X [e, e2] ta)
    (hs : starEach [e, e2] X.env = (false, eval e X.env) :: starEach [e2] X.env := by rfl) (hpl : (backTo pos (starEach [e2] X.env)).any (·.1) = false := by rfl) :
    PI X (.Tuple elts kk tpos) (.Call (.Name "zip" p) [e, e2] [] pos) (iZipM X.K ta) := by
  refine ⟨fun pins s σ H R I h => ?_⟩
  refine Call_ (ld_blt I hg hm PyProof.Rows.boot_zip (PyProof.Rows.callWith_type1 (thn (ha.run pos pins s σ H _ I h) fun us s1 ⟨vs, H1, I1, r1, q1⟩ => ?_) hs hpl))
  obtain ⟨a, b, xs, ys, rfl, hqx, hqy, q⟩ := q1
  obtain ⟨u1, u2, rfl, ra, rb⟩ := vals2 r1
  cases ra
  cases rb
  obtain ⟨its, rv, p1, _⟩ := I1.tuple hqx
  obtain ⟨its2, rv2, p2, _⟩ := I1.list hqy
  obtain ⟨o1, ho1, _⟩ := id p1
  have fresh5 : ∀ c, c ∈ [s1.heap.objs.size + 4, s1.heap.objs.size + 2, s1.heap.objs.size + 3, s1.heap.objs.size, s1.heap.objs.size + 1] → FpOk X pins H1 c := fun c hcm => by
    have hle : s1.heap.objs.size ≤ c := by
      rcases (by simpa using hcm : c = s1.heap.objs.size + 4 ∨ c = s1.heap.objs.size + 2 ∨ c = s1.heap.objs.size + 3 ∨ c = s1.heap.objs.size ∨ c = s1.heap.objs.size + 1) with z | z | z | z | z <;> rw [z]
      · exact Nat.le_add_right _ _
      · exact Nat.le_add_right _ _
      · exact Nat.le_add_right _ _
      · exact Nat.le_refl _
      · exact Nat.le_add_right _ _
    exact I1.fpOk hle (I1.hok.fresh hle)
  refine ZM.call_new (show s1.heap.IsTuple a its.toArray from p1) p2.isList fun h' hz hTI hTO h1 h2 hsz hk => wpAny_pyIter_zip hz ?_
  have I2 : Inv X pins σ H1 { s1 with heap := h' } := I1.kept (t' := s1.toks) hk
  exact ⟨s1.heap.objs.size + 4, [s1.heap.objs.size + 4, s1.heap.objs.size + 2, s1.heap.objs.size + 3, s1.heap.objs.size, s1.heap.objs.size + 1], _, _, H1, rfl, I2, turn_zipM (PySem.W.ktu_apart s1.heap.objs.size a b (Heap.lt_size ho1) p2.lt), ⟨hz, hTI, ⟨_, _, hTO⟩, h1, h2⟩, fresh5, q⟩
theorem walk_zipM {K : PySem.W.Frag} {a b : Addr} {xs ys : List V} (ln : xs.length = ys.length) : Walk (ItzM K a b) xs.length (fun H => SqT K H a xs ∧ SqL K H b ys) (YPair (fun i => xs[i]?) (fun i => ys[i]?)) := by
  refine ⟨?_, ?_, ?_⟩
  · intro i H hi q
    exact ⟨xs, ys, xs[i], ys[i]'(by omega), q.1, q.2, List.getElem?_eq_getElem hi, List.getElem?_eq_getElem (by omega)⟩
  · intro H q
    exact ⟨xs, ys, q.1, q.2, .inl (Nat.le_refl _)⟩
  · rintro i H v H' hi q ⟨T, x, y, e, n, e2, h1, h2⟩
    exact ⟨T, x, y, e, n, e2, h1 xs q.1, h2 ys q.2⟩
/-! len(set(t)) of a tuple of ints -/
def tLenSetT (K : PySem.W.Frag) (ta : TE) : TE := fun σ H Q => ta σ H fun x H1 => ∃ (l : Addr) (ns : List Int), x = .ref l ∧ SqT K H1 l (ns.map V.int) ∧ ns.length ≤ 1000 ∧ ∀ ks : List Int, ks.Nodup → (∀ k, k ∈ ks ↔ k ∈ ns) → Q (.int (ks.length : Nat)) H1
theorem pe_lenSetT {X : Cx} {a : Expr} {ta : TE} {p p2 q pos : Pos} (hg : Gl X "len") (hm : X.mg "len" = none) (hg2 : Gl X "set") (hm2 : X.mg "set" = none) (ha : PE X a ta) (hc : X.calm = true := by rfl)
    (na : starEach [a] X.env = (false, eval a X.env) :: starEach [] X.env := by rfl) : PE X (.Call (.Name "len" p) [.Call (.Name "set" p2) [a] [] q] [] pos) (tLenSetT X.K ta) := by
  refine ⟨fun pins s σ H Q I h => ?_⟩
  refine Call_ (ld_blt I hg hm boot_len ?_)
  refine PyProof.Rows.callWith_builtin1 (PyProof.Rows.args_cons ?_ rfl) rfl rfl
  refine Call_ (ld_blt I hg2 hm2 PyProof.Rows.boot_set ?_)
  refine PyProof.Rows.callWith_type1 (PyProof.Rows.args_cons (thn (ha.run pins s σ H _ I h) fun v s1 ⟨x, H1, I1, r1, q1⟩ => PyProof.Rows.args_nil ?_) na) na rfl
  obtain ⟨l, ns, rfl, hq, hl, q1⟩ := q1
  cases r1
  obtain ⟨its, rv, pt, hz⟩ := I1.tuple hq
  have hi : IntsAre its.toArray.toList ns := by
    have := rv.ints
    simpa using this
  refine call_set_tupI ns (I1.ok.hd hc) (show s1.heap.IsTuple l its.toArray from pt) hi (by unfold scanBound; omega) fun h' tk c R1 hcn k => ?_
  obtain ⟨o, es, ep, t, ho, hex, hdt, g, nd, hm3, hb, hf, hn, hr, hl2⟩ := R1
  refine PyProof.Rows.args_nil ?_
  have I2 : Inv X pins σ H1 { s1 with heap := h', toks := tk } := I1.kept k
  have le : (es.toList.map keyOf).length = es.size := by rw [List.length_map, Array.length_toList]
  refine call_len_set ho hex hdt hf (by rw [hn]; omega) ⟨.int ((es.toList.map keyOf).length : Nat), H1, I2.tok _, ⟨_, by rw [le]⟩, q1 _ nd fun j => ?_⟩
  rw [← hm3 j]
  exact decide_eq_true_iff
/-- b is not True -/
def rIsntBl : R2 := fun x y H Q => ∃ b c : Bool, x = .bl b ∧ y = .bl c ∧ Q (.bl (!decide (b = c))) H
theorem op_isnotBl {X : Cx} : OpR X (compareOp .IsNot) rIsntBl := by
  intro pins s σ H x y v u Q I rx ry h
  obtain ⟨b, c, rfl, rfl, q⟩ := h
  cases rx
  cases ry
  show wpAny _ _ ((isSame (Value.bool b) (Value.bool c)) >>= fun z => pure (Value.bool (!z))) _ _ s
  exact wpAny_bind (wpAny_isSame_plain (by cases b <;> cases c <;> rfl) (wpAny_pure (fin_bl I q (by cases b <;> cases c <;> rfl))))
end Pl

namespace Pl
open PySem PySem.Spec PyProof.Rows L2
/-! methods of lists within a comprehension -/
theorem pe_bmK {X : Cx} {K : PySem.W.Frag} {o e : Expr} {es : List Expr} {to : TE} {t : TA} {name : Str} {apos cpos : Pos} {T id : String} {r : V → List V → Hp → VK → Prop} (pa : PlainAttrs T) (slot : Slot T name id) (hty : typeOf (.builtin id) = pure (.type "method_descriptor")) (hm : MtR X id r) (ho : PE X o to) (ha : PA X (e :: es) t) (hK : X.K = K := by rfl)
    (hbase : attributeBase o name X.env (eval o X.env) = eval o X.env := by rfl)
    (hfew : ((backTo cpos (starEach (e :: es) X.env)).all (fun x => !x.1) && (backToKw cpos (keywordEach [] X.env)).all (fun x => x.1.isSome)
      && decide ((e :: es).length + ([] : List Keyword).length + (if ([] : List Keyword).isEmpty then 0 else 1) < 30)) = true := by rfl)
    (hline : (apos.endLine == cpos.line) = true := by rfl) (hs : starEach (e :: es) X.env = (false, eval e X.env) :: starEach es X.env := by rfl) (hplain : (backTo cpos (starEach es X.env)).any (·.1) = false := by rfl) :
    PE X (.Call (.Attribute o name apos) (e :: es) [] cpos) (tBM K T r to t) := by
  subst hK
  exact pe_bm pa slot hty hm ho ha hbase hfew hline hs hplain
end Pl
namespace Pl
open PySem PySem.Spec PyProof.Rows L2
/-! str of a list or a tuple -/
section
variable {X : Cx}
def rStrD (K : PySem.W.Frag) : List V → Hp → VK → Prop := fun xs H Q => ∃ (a : Addr) (d : PyData), xs = [.ref a] ∧ Dp K H (.ref a) d ∧ d.showable = true ∧ d.hasDict = false ∧ d.depth ≤ 60 ∧ d.shown.length ≤ sizeLine ∧ Q (.str d.shown) H
theorem call_strD (gd : X.A.guards = some []) (hu : X.A.units + 66 < cLine) : CallR X (.type "str") (rStrD X.K) := by
  intro pins s σ H xs us Q I r h
  obtain ⟨a, d, rfl, dp, sh, nd, dep, sz, q⟩ := h
  obtain ⟨u, rfl, ru⟩ := vals1 r
  obtain rfl : u = Value.ref a := ru
  obtain ⟨as, rd⟩ := Dp.reads I d _ _ dp rfl
  refine str_of_reads rd sh (PyData.noDict_hsm nd) gd (by omega) (fun _ _ e => e) (fun h' v tk hk => ?_) sz
  exact ⟨.str d.shown, H, I.kept hk, ⟨_, rfl⟩, q⟩
end
end Pl
namespace Pl
open PySem PySem.Spec PyProof.Rows L2
/-! t.count(x) of a tuple of flat values -/
def rCountT (K : PySem.W.Frag) : V → List V → Hp → VK → Prop := fun x xs H Q => ∃ (a : Addr) (ys : List V) (y : V), x = V.ref a ∧ xs = [y] ∧ SqT K H a ys ∧ flatV y = true ∧ ys.all flatV = true ∧ Q (.int (ys.countP (fun z => eqV z y) : Nat)) H
theorem countU {y : V} : ∀ {ys : List V} {us : List Value}, Vals ys us → ys.all flatV = true → us.countP (eqU y) = ys.countP (fun z => eqV z y)
  | _, _, .nil, _ => rfl
  | z :: ys, u :: us, .cons r t, f => by
    rw [List.all_cons, Bool.and_eq_true] at f
    rw [List.countP_cons, List.countP_cons, countU t f.2, eqU_of r f.1]
theorem mt_countT {X : Cx} : MtR X "tuple.count" (rCountT X.K) := by
  intro pins s σ H x xs v us Q I rx rxs h
  obtain ⟨a, ys, y, rfl, rfl, hs, fy, fys, q⟩ := h
  cases rx
  cases rxs with
  | cons ry rt =>
    rename_i uy ut
    cases rt
    obtain ⟨its, rv, ⟨⟨cls, dd, data, sl⟩, ho, hc, n, hd⟩, hlen⟩ := I.tuple hs
    simp only at hc hd
    subst hc hd
    refine call_meets PySem.F.slot_tuple_count ⟨_, ho, rfl⟩ PySem.F.entry_tuple_count (PySem.F.args_tuple_count_2 _ _)
      (SeqAt.tuple_countAt a its.toArray n dd sl uy (eqU y)) ⟨ho, fun u' hu' => mem_eqAt ry fy rv fys u' (by simpa using hu'), ?_⟩
    rw [show its.toArray.toList = its from rfl, countU rv fys]
    exact ⟨.int _, H, I.tok _, ⟨_, rfl⟩, q⟩
end Pl
/-! tuples that are known to be without a dict: t.count(x) -/
namespace Pl
open PySem PySem.Spec PyProof.Rows L2 PySem.MeetsSeq PySem.MeetsSeq2 PySem.MeetsSeq3 PySem.SeqAt
/-- a tuple that was made here -/
def Fz (H : Hp) (q : Addr) (xs : List V) : Prop := ∃ o : Obj, o.dict = none ∧ H q = some (.frz o (.tup xs))
theorem Fz.sq {K : PySem.W.Frag} {H : Hp} {q : Addr} {xs : List V} (h : Fz H q xs) : SqT K H q xs := by
  obtain ⟨o, _, h⟩ := h
  exact .inl (.inr ⟨o, h⟩)
theorem Fz.tyX {K : PySem.W.Frag} {H : Hp} {q : Addr} {xs : List V} (h : Fz H q xs) : TyX K H (.ref q) (.type "tuple") := by
  obtain ⟨o, _, h⟩ := h
  exact .fTuple h
def fzO (xs : List V) : HO → Prop := fun u => ∃ o : Obj, o.dict = none ∧ u = .frz o (.tup xs)
section
variable {X : Cx}
theorem fz_new {pins : List (Addr × Obj)} {s : Shared} {σ : L2.St} {H : Hp} {xs : List V} {us : List Value} {Q : VK} {n : Nat} (I : Inv X pins σ H s) (r : Vals xs us) (z : xs.length ≤ sizeLine) (q : ∀ (p : Addr) (u : HO), H p = none → fzO xs u → Q (.ref p) (upd H p u)) :
    EP X pins σ Q (.ref s.heap.objs.size) { s with heap := s.heap.push { cls := .type "tuple", data := .seq us.toArray n } } := by
  have e := Heap.get?_push_size s.heap (o := { cls := .type "tuple", data := .seq us.toArray n }) rfl
  refine ⟨.ref _, _, I.laid (t' := s.toks) (o := .frz { cls := .type "tuple", data := .seq us.toArray n } (.tup xs)) (fun _ _ q => Heap.get?_push_of_some _ q) (Nat.le_refl _) ?_, rfl, q _ _ (I.hok.fresh (Nat.le_refl _)) ⟨_, rfl, rfl⟩⟩
  exact ⟨e, z, us, r, ⟨_, e, rfl, _, rfl⟩⟩
def tTupF (t : TA) : TE := fun σ H Q => t σ H fun xs H1 => xs.length ≤ sizeLine ∧ ∀ (p : Addr) (u : HO), H1 p = none → fzO xs u → Q (.ref p) (upd H1 p u)
theorem pe_tupF {es : List Expr} {x1 pos} {t : TA} (h : PA X es t) : PE X (.Tuple es x1 pos) (tTupF t) := by
  refine ⟨fun pins s σ H Q I hq => wpAny_Tuple_spliced (thn (h.run pos pins s σ H _ I hq) fun us s1 ⟨xs, H1, I1, r, z, q⟩ => ⟨by rw [← r.length]; exact z, ?_⟩)⟩
  exact fz_new I1 r z q
/-- t + u: one of the two, or a new one -/
def rCatF (K : PySem.W.Frag) : R2 := fun x y H Q => ∃ (a b : Addr) (xs ys : List V), x = .ref a ∧ y = .ref b ∧ SqT K H a xs ∧ SqT K H b ys ∧ xs.length + ys.length ≤ sizeLine ∧
  (xs = [] → Q (.ref b) H) ∧ (xs ≠ [] → ys = [] → Q (.ref a) H) ∧ (xs ≠ [] → ys ≠ [] → ∀ (p : Addr) (u : HO), H p = none → fzO (xs ++ ys) u → Q (.ref p) (upd H p u))
theorem op_catF : OpR X (binaryOp .Add) (rCatF X.K) := by
  intro pins s σ H x y v w Q I rx ry h
  obtain ⟨a, b, xs, ys, rfl, rfl, ha, hb, hz, q0, q1, q2⟩ := h
  obtain rfl : v = Value.ref a := rx
  obtain rfl : w = Value.ref b := ry
  obtain ⟨its, r1, p1, _⟩ := I.tuple ha
  obtain ⟨its2, r2, p2, _⟩ := I.tuple hb
  by_cases hx : xs = []
  · subst hx
    cases r1
    exact L2.cat_tup0 p1 p2 ⟨.ref b, H, I, rfl, q0 rfl⟩
  · refine HT.cat_tup p1 p2 (mt r1.nil_iff.mp hx) (fun e => ⟨.ref a, H, I, rfl, q1 hx (r2.nil_iff.mp e)⟩) (fun e => ?_) (by rw [← r1.length, ← r2.length]; exact hz)
    exact fz_new I (r1.append r2) (by rw [List.length_append]; exact hz) (q2 hx (mt r2.nil_iff.mpr e))
/-- t[lo:hi]: itself, or a new one -/
def rSlF (K : PySem.W.Frag) : V → Option Int → Option Int → Hp → VK → Prop := fun x lo hi H Q => ∃ (a : Addr) (xs : List V), x = .ref a ∧ SqT K H a xs ∧
  (HT.sIx xs.length 0 lo = 0 ∧ HT.sIx xs.length xs.length hi = xs.length → Q (.ref a) H) ∧ (¬ (HT.sIx xs.length 0 lo = 0 ∧ HT.sIx xs.length xs.length hi = xs.length) → ∀ (p : Addr) (u : HO), H p = none → fzO (cutV xs lo hi) u → Q (.ref p) (upd H p u))
theorem sl_tupF : SlR X (rSlF X.K) := by
  intro pins s σ H x v vl vu lo hi sl Q I rx hs pl pu h
  obtain ⟨a, xs, rfl, hx, q1, q2⟩ := h
  obtain rfl : v = Value.ref a := rx
  obtain ⟨its, r, ht, hz⟩ := I.tuple hx
  have hlen : its.toArray.size = xs.length := by simpa using r.length.symm
  refine ⟨"tuple", _, PyProof.Rows.slot_tuple_getitem.lookup, ht.typeIs, ?_⟩
  by_cases hw : HT.sIx xs.length 0 lo = 0 ∧ HT.sIx xs.length xs.length hi = xs.length
  · exact L2.getItem_tuple_whole ht hs pl pu (hlen ▸ hw) ⟨.ref a, H, I, rfl, q1 hw⟩
  · refine HT.getItem_tuple_cut ht hs pl pu (hlen ▸ hw) ?_ (hlen ▸ hz)
    rw [hlen]
    exact fz_new I ((r.drop _).take _) (Nat.le_trans (cutV_length xs lo hi) hz) (q2 hw)
def tRevF (K : PySem.W.Frag) (te : TE) : TE := fun σ H Q => te σ H fun x H1 => ∃ (a : Addr) (xs : List V), x = .ref a ∧ SqT K H1 a xs ∧ ∀ (p : Addr) (u : HO), H1 p = none → fzO xs.reverse u → Q (.ref p) (upd H1 p u)
theorem pe_revF {e : Expr} {te : TE} {k : Nat} {p1 p2 p3 pos : Pos} (he : PE X e te) : PE X (.Subscript e (.Slice none none (some (.UnaryOp .USub (.Constant (.int 1) k p1) p2)) p3) pos) (tRevF X.K te) := by
  refine ⟨fun pins s σ H Q I h => Subscript_ (thn (he.run pins s σ H _ I h) fun v s1 ⟨x, H1, I1, r1, a, xs, ex, hx, q⟩ => ?_)⟩
  subst ex
  cases r1
  have step : PO X (some (.UnaryOp .USub (.Constant (.int 1) k p1) p2)) (tPart (tUn (rU fun i => .int (-i)) (tC (.int 1)))) := po_some (pe_un un_neg pe_int)
  refine wpAny_Slice (thn (po_none.run pins s1 σ H1 (fun o H2 => o = none ∧ H2 = H1) I1 ⟨rfl, rfl⟩) fun vl s2 ⟨l, H2, I2, pl, el, e2⟩ => ?_)
  subst el e2
  refine thn (po_none.run pins s2 σ H2 (fun o H3 => o = none ∧ H3 = H2) I2 ⟨rfl, rfl⟩) fun vu s3 ⟨w, H3, I3, pu, eu, e3⟩ => ?_
  subst eu e3
  refine thn (step.run pins s3 σ H3 (fun o H4 => o = some (-1) ∧ H4 = H3) I3 ⟨1, rfl, -1, rfl, rfl, rfl⟩) fun vs s4 ⟨o, H4, I4, ps, eo, e4⟩ => ?_
  subst eo e4
  have I5 : Inv X pins σ H4 { s4 with heap := s4.heap.push { cls := .type "slice", data := .fields #[vl, vu, vs] } } := I4.kept (t' := s4.toks) fun _ _ q => Heap.get?_push_of_some _ q
  obtain ⟨its, r, ht, hz⟩ := I5.tuple hx
  have hlen := r.length
  show wpAny (model X.prog X.w) X.A (subscriptTail e (.Slice none none (some (.UnaryOp .USub (.Constant (.int 1) k p1) p2)) p3) (.ref a) (.ref s4.heap.objs.size)) (EP X pins σ Q) X.xe { s4 with heap := s4.heap.push { cls := .type "slice", data := .fields #[vl, vu, vs] } }
  refine tail_any (ops := [.ref a, .ref s4.heap.objs.size]) ht.typeIs PyProof.Rows.slot_tuple_getitem.lookup ?_ (by with_unfolding_all rfl)
  refine tup_rev ht (Heap.IsSliceOf.new _ vl vu vs) pl pu ps ?_ (by rw [List.size_toArray]; omega)
  exact fz_new I5 r.reverse (by rw [List.length_reverse]; exact hz) q
/-- a method of such a tuple, by a builtin -/
def tBF (r : V → List V → Hp → VK → Prop) (to : TE) (t : TA) : TE := fun σ H Q => to σ H fun x H1 => (∃ (a : Addr) (xs : List V), x = .ref a ∧ Fz H1 a xs) ∧ t σ H1 fun ys H2 => r x ys H2 Q
theorem pe_bF {o e : Expr} {es : List Expr} {to : TE} {t : TA} {name : Str} {apos cpos : Pos} {id : String} {r : V → List V → Hp → VK → Prop} (pa : PlainAttrs "tuple") (slot : Slot "tuple" name id) (hty : typeOf (.builtin id) = pure (.type "method_descriptor")) (hm : MtR X id r) (ho : PE X o to) (ha : PA X (e :: es) t)
    (hbase : attributeBase o name X.env (eval o X.env) = eval o X.env := by rfl)
    (hfew : ((backTo cpos (starEach (e :: es) X.env)).all (fun x => !x.1) && (backToKw cpos (keywordEach [] X.env)).all (fun x => x.1.isSome)
      && decide ((e :: es).length + ([] : List Keyword).length + (if ([] : List Keyword).isEmpty then 0 else 1) < 30)) = true := by rfl)
    (hline : (apos.endLine == cpos.line) = true := by rfl) (hs : starEach (e :: es) X.env = (false, eval e X.env) :: starEach es X.env := by rfl) (hplain : (backTo cpos (starEach es X.env)).any (·.1) = false := by rfl) :
    PE X (.Call (.Attribute o name apos) (e :: es) [] cpos) (tBF r to t) := by
  refine ⟨fun pins s σ H Q I h => wpAny_Call_method_late hbase hfew hline rfl (thn (ho.run pins s σ H _ I h) fun v s1 ⟨x, H1, I1, r1, ⟨a, xs, ex, o', od, e'⟩, q1⟩ => ?_)⟩
  subst ex
  obtain rfl : v = Value.ref a := r1
  obtain ⟨g, _, _, _, p⟩ := I1.hok a _ e'
  refine ⟨"tuple", id, pa, slot, hty, p.typeIs, fun b e2 => ?_, ?_⟩
  · cases e2
    exact ⟨o', g, od⟩
  have hA := ha.run cpos pins s1 σ H1 _ I1 q1
  rw [hs] at hA ⊢
  refine Calls.callWith_builtin (by show (false || (backTo cpos (starEach es X.env)).any (·.1)) = false; rw [hplain] <;> rfl) (Calls.evalArgs_plain ?_)
  exact thn hA fun us s2 ⟨vs, H2, I2, r2, q2⟩ => hm pins s2 σ H2 (.ref a) vs _ us Q I2 rfl r2 q2
end
end Pl
/-! a run that is told nothing of what sleeping generators would do leaves them asleep -/
namespace GenZ
open PySem
open Sem (wp)
/-- none of these frames wakes anybody -/
def Own1 (F : Frame) : Prop := ∀ g k l c p, F ≠ .gen g k l c p
def OwnF (fs : List Frame) : Prop := ∀ F ∈ fs, Own1 F
theorem OwnF.split : ∀ {fs : List Frame}, OwnF fs → splitAtGen fs = none
  | [], _ => rfl
  | .ret k h g l c p kp :: fs, o => by
    show (splitAtGen fs).map _ = none
    rw [OwnF.split fun F hF => o F (List.mem_cons_of_mem _ hF)]
    rfl
  | .gen g k l c p :: fs, o => absurd rfl (o _ List.mem_cons_self g k l c p)
theorem OwnF.nil : OwnF [] := fun _ h => (nomatch h)
theorem own_of_split : ∀ {fs : List Frame}, splitAtGen fs = none → OwnF fs
  | [], _ => OwnF.nil
  | .ret k h g l c p kp :: fs, e => by
    have e' : (splitAtGen fs).map (fun x => (Frame.ret k h g l c p kp :: x.1, x.2.1, x.2.2)) = none := e
    rw [Option.map_eq_none_iff] at e'
    intro F hF
    rcases List.mem_cons.mp hF with z | z
    · rw [z]; intro _ _ _ _ _ q; cases q
    · exact own_of_split e' F z
  | .gen g k l c p :: fs, e => by cases e
def OwnG (y : GenState) : Prop := ∀ k l c p fs cl, y = .suspended k l c p fs cl → OwnF fs
def OwnE (e : End) : Prop := ∀ v g l k c p fs, e = .susp v g l k c p fs → OwnF fs
theorem OwnE.ret {r : Result} : OwnE (.ret r) := fun _ _ _ _ _ _ _ z => (nomatch z)
theorem OwnE.gs {e : End} (h : OwnE e) : OwnG e.genState := by
  cases e with
  | ret r => intro _ _ _ _ _ _ z; cases z
  | susp v g l k c p fs => intro _ _ _ _ _ _ z; cases z; exact h _ _ _ _ _ _ _ rfl
def dumb (F : Frame) : Frame := .ret (fun _ => .unsupported "") none false [] F.where_.1 F.where_.2 []
/-- looks the same, but what it would do is not told -/
def hid : GenState → GenState
  | .suspended _ l c p fs cl => .suspended (fun _ => .unsupported "") l c p (fs.map dumb) cl
  | x => x
theorem hid_seen (x : GenState) : (hid x).seen = x.seen := by
  cases x with
  | suspended k l c p fs cl =>
    show (GenStatus.suspended, some ((c, p) :: (fs.map dumb).map Frame.where_)) = (GenStatus.suspended, some ((c, p) :: fs.map Frame.where_))
    rw [List.map_map]
    have e : (Frame.where_ ∘ dumb) = Frame.where_ := funext fun F => by cases F <;> rfl
    rw [e]
  | _ => rfl
theorem hid_bare (x : GenState) : (hid x).bare = x.bare := by cases x <;> rfl
/-- these sleep -/
def Slp (x : GenState) : Prop := ∃ k l c p fs cl, x = .suspended k l c p fs cl
/-- the told table and the true one -/
structure Rl (φ : Nat → Option GenState) (G G' : Array GenState) : Prop where
  size : G'.size = G.size
  old : ∀ i x, φ i = some x → Slp x ∧ G[i]? = some (hid x) ∧ G'[i]? = some x
  new : ∀ i y, φ i = none → G[i]? = some y → G'[i]? = some y ∧ OwnG y
variable {φ : Nat → Option GenState} {G G' : Array GenState}
theorem Rl.push (r : Rl φ G G') {y : GenState} (o : OwnG y) : Rl φ (G.push y) (G'.push y) := by
  have sz := r.size
  refine ⟨by rw [Array.size_push, Array.size_push, sz], fun i x e => ?_, fun i z e h => ?_⟩
  · obtain ⟨h1, h2, h3⟩ := r.old i x e
    have l1 := (Array.getElem?_eq_some_iff.mp h2).1
    refine ⟨h1, ?_, ?_⟩
    · rw [Array.getElem?_push, if_neg (by omega)]; exact h2
    · rw [Array.getElem?_push, if_neg (by omega)]; exact h3
  · rw [Array.getElem?_push] at h ⊢
    rw [sz]
    by_cases c : i = G.size
    · rw [if_pos c] at h ⊢
      cases h
      exact ⟨rfl, o⟩
    · rw [if_neg c] at h ⊢
      exact r.new i z e h
theorem Rl.set (r : Rl φ G G') {g : Nat} {y : GenState} (n : φ g = none) (o : OwnG y) : Rl φ (G.setIfInBounds g y) (G'.setIfInBounds g y) := by
  have sz := r.size
  refine ⟨by simp [sz], fun i x e => ?_, fun i z e h => ?_⟩
  · obtain ⟨h1, h2, h3⟩ := r.old i x e
    have ne : g ≠ i := fun q => by rw [q, e] at n; cases n
    rw [Array.getElem?_setIfInBounds_ne ne, Array.getElem?_setIfInBounds_ne ne]
    exact ⟨h1, h2, h3⟩
  · by_cases c : g = i
    · subst c
      rw [Array.getElem?_setIfInBounds_self] at h ⊢
      rw [sz]
      split at h
      · cases h
        rename_i q
        rw [if_pos q]
        exact ⟨rfl, o⟩
      · cases h
    · rw [Array.getElem?_setIfInBounds_ne c] at h ⊢
      exact r.new i z e h
theorem ownRun : OwnG .running := fun _ _ _ _ _ _ z => (nomatch z)
theorem ownFin : OwnG .finished := fun _ _ _ _ _ _ z => (nomatch z)
theorem ownFresh {c : Code} : OwnG (.fresh c) := fun _ _ _ _ _ _ z => (nomatch z)
/-- what is not asleep is told as it is -/
theorem Rl.awake (r : Rl φ G G') {g : Nat} {y : GenState} (h : G[g]? = some y) (n : ¬ Slp y) : φ g = none ∧ G'[g]? = some y := by
  cases e : φ g with
  | none => exact ⟨rfl, (r.new g y e h).1⟩
  | some x =>
    obtain ⟨⟨k, l, c, p, fs, cl, rfl⟩, h2, _⟩ := r.old g x e
    rw [h] at h2
    cases h2
    exact absurd ⟨_, _, _, _, _, _, rfl⟩ n
variable {M : Model}
theorem no_unsup {Γ : Ctx} {p : Pos} {t : Sem PySem.Fin} {fs : List Frame} {s s' : Shared} {e : End} (h : Runs M Γ p t fs s e s') : ∀ m, t ≠ .unsupported m := by
  induction h with
  | segRet _ _ ih _ => exact ih
  | segGen _ _ ih _ => exact ih
  | segSuspOut _ _ ih => exact ih
  | segSuspGen _ _ _ _ ih _ => exact ih
  | _ => intro m z; cases z
def sw (s : Shared) (G : Array GenState) : Shared := { s with gens := G }
theorem sim {Γ : Ctx} {p : Pos} {t : Sem PySem.Fin} {fs : List Frame} {s s' : Shared} {e : End} (h : Runs M Γ p t fs s e s') : OwnF fs → ∀ G', Rl φ s.gens G' → OwnE e ∧ ∃ G1, Rl φ s'.gens G1 ∧ Runs M Γ p t fs (sw s G') e (sw s' G1) := by
  induction h with
  | done => exact fun _ G' r => ⟨.ret, G', r, .done⟩
  | raise => exact fun _ G' r => ⟨.ret, G', r, .raise⟩
  | again hq _ ih => exact fun o G' r => let ⟨a, G1, b, c⟩ := ih o G' r; ⟨a, G1, b, .again hq c⟩
  | rule _ ih => exact fun o G' r => let ⟨a, G1, b, c⟩ := ih o G' r; ⟨a, G1, b, .rule c⟩
  | «at» _ ih => exact fun o G' r => let ⟨a, G1, b, c⟩ := ih o G' r; ⟨a, G1, b, .at c⟩
  | load h1 _ ih => exact fun o G' r => let ⟨a, G1, b, c⟩ := ih o G' r; ⟨a, G1, b, .load h1 c⟩
  | update h1 _ ih => exact fun o G' r => let ⟨a, G1, b, c⟩ := ih o G' r; ⟨a, G1, b, .update h1 c⟩
  | loadIfAlive _ ih => exact fun o G' r => let ⟨a, G1, b, c⟩ := ih o G' r; ⟨a, G1, b, .loadIfAlive c⟩
  | point _ ih => exact fun o G' r => let ⟨a, G1, b, c⟩ := ih o G' r; ⟨a, G1, b, .point c⟩
  | alloc _ ih => exact fun o G' r => let ⟨a, G1, b, c⟩ := ih o G' r; ⟨a, G1, b, .alloc c⟩
  | fresh _ ih => exact fun o G' r => let ⟨a, G1, b, c⟩ := ih o G' r; ⟨a, G1, b, .fresh c⟩
  | ask _ ih => exact fun o G' r => let ⟨a, G1, b, c⟩ := ih o G' r; ⟨a, G1, b, .ask c⟩
  | choose h1 _ ih => exact fun o G' r => let ⟨a, G1, b, c⟩ := ih o G' r; ⟨a, G1, b, .choose h1 c⟩
  | os _ ih => exact fun o G' r => let ⟨a, G1, b, c⟩ := ih o G' r; ⟨a, G1, b, .os c⟩
  | handled _ ih => exact fun o G' r => let ⟨a, G1, b, c⟩ := ih o G' r; ⟨a, G1, b, .handled c⟩
  | stack _ ih => exact fun o G' r => let ⟨a, G1, b, c⟩ := ih o G' r; ⟨a, G1, b, .stack c⟩
  | thread _ ih => exact fun o G' r => let ⟨a, G1, b, c⟩ := ih o G' r; ⟨a, G1, b, .thread c⟩
  | @genState g st Γ p k s e s1 h1 _ ih =>
    intro o G' r
    obtain ⟨a, G1, b, c⟩ := ih o G' r
    refine ⟨a, G1, b, ?_⟩
    cases q : φ g with
    | none => exact .genState (r.new g st q h1).1 c
    | some x =>
      obtain ⟨_, h2, h3⟩ := r.old g x q
      rw [h1] at h2
      cases h2
      rw [hid_seen] at c
      exact .genState h3 c
  | @newGen Γ p k s e s' c _ ih =>
    intro o G' r
    obtain ⟨a, G1, b, d⟩ := ih o (G'.push (.fresh c)) (r.push ownFresh)
    refine ⟨a, G1, b, .newGen ?_⟩
    show Runs M Γ p (k G'.size) [] _ _ _
    rw [r.size]
    exact d
  | call _ _ ih1 ih2 =>
    intro o G' r
    obtain ⟨_, G1, b, c⟩ := ih1 OwnF.nil G' r
    obtain ⟨a, G2, b2, c2⟩ := ih2 OwnF.nil G1 b
    exact ⟨a, G2, b2, .call c c2⟩
  | callSusp _ ih =>
    intro o G' r
    obtain ⟨a, G1, b, c⟩ := ih OwnF.nil G' r
    refine ⟨?_, G1, b, .callSusp c⟩
    intro _ _ _ _ _ _ _ z
    cases z
    intro F hF
    rcases List.mem_append.mp hF with q | q
    · exact a _ _ _ _ _ _ _ rfl F q
    · rw [List.mem_singleton.mp q]; intro _ _ _ _ _ z; cases z
  | yield => exact fun _ G' r => ⟨fun _ _ _ _ _ _ _ z => by cases z; exact OwnF.nil, G', r, .yield⟩
  | resumeFresh h1 _ hq _ ih1 ih2 =>
    intro o G' r
    obtain ⟨n, h2⟩ := r.awake h1 fun ⟨_, _, _, _, _, _, z⟩ => (nomatch z)
    obtain ⟨a, G1, b, c⟩ := ih1 OwnF.nil _ (r.set n ownRun)
    obtain ⟨a2, G2, b2, c2⟩ := ih2 OwnF.nil _ (b.set n a.gs)
    exact ⟨a2, G2, b2, .resumeFresh h2 c hq c2⟩
  | @resumeSuspended Γ p g rr l k s k0 l0 c0 p0 fs0 cl e1 s1 e s' h1 hr hq _ ih1 ih2 =>
    intro o G' r
    cases q : φ g with
    | none =>
      obtain ⟨h2, og⟩ := r.new g _ q h1
      obtain ⟨a, G1, b, c⟩ := ih1 (og _ _ _ _ _ _ rfl) _ (r.set q ownRun)
      obtain ⟨a2, G2, b2, c2⟩ := ih2 OwnF.nil _ (b.set q a.gs)
      exact ⟨a2, G2, b2, .resumeSuspended h2 c hq c2⟩
    | some x =>
      obtain ⟨⟨k', l', c', p', fs', cl', rfl⟩, h2, _⟩ := r.old g x q
      rw [h1] at h2
      cases h2
      exact absurd rfl (no_unsup hr "")
  | resumeJustStarted h1 hv _ ih =>
    intro o G' r
    obtain ⟨n, h2⟩ := r.awake h1 fun ⟨_, _, _, _, _, _, z⟩ => (nomatch z)
    obtain ⟨a, G1, b, c⟩ := ih o G' r
    exact ⟨a, G1, b, .resumeJustStarted h2 hv c⟩
  | resumeThrowFresh h1 _ ih =>
    intro o G' r
    obtain ⟨n, h2⟩ := r.awake h1 fun ⟨_, _, _, _, _, _, z⟩ => (nomatch z)
    obtain ⟨a, G1, b, c⟩ := ih o _ (r.set n ownFin)
    exact ⟨a, G1, b, .resumeThrowFresh h2 c⟩
  | resumeRunning h1 _ ih =>
    intro o G' r
    obtain ⟨n, h2⟩ := r.awake h1 fun ⟨_, _, _, _, _, _, z⟩ => (nomatch z)
    obtain ⟨a, G1, b, c⟩ := ih o G' r
    exact ⟨a, G1, b, .resumeRunning h2 c⟩
  | resumeFinished h1 _ ih =>
    intro o G' r
    obtain ⟨n, h2⟩ := r.awake h1 fun ⟨_, _, _, _, _, _, z⟩ => (nomatch z)
    obtain ⟨a, G1, b, c⟩ := ih o G' r
    exact ⟨a, G1, b, .resumeFinished h2 c⟩
  | segRet _ _ ih1 ih2 =>
    intro o G' r
    obtain ⟨_, G1, b, c⟩ := ih1 OwnF.nil G' r
    obtain ⟨a, G2, b2, c2⟩ := ih2 (fun F hF => o F (List.mem_cons_of_mem _ hF)) G1 b
    exact ⟨a, G2, b2, .segRet c c2⟩
  | segGen _ _ ih1 ih2 => exact fun o _ _ => absurd rfl (o _ List.mem_cons_self _ _ _ _ _)
  | segSuspOut hs _ ih =>
    intro o G' r
    obtain ⟨a, G1, b, c⟩ := ih OwnF.nil G' r
    refine ⟨?_, G1, b, .segSuspOut hs c⟩
    intro _ _ _ _ _ _ _ z
    cases z
    intro F hF
    rcases List.mem_append.mp hF with q | q
    · exact a _ _ _ _ _ _ _ rfl F q
    · exact o F q
  | segSuspGen hs _ _ _ ih1 ih2 =>
    intro o G' r
    rw [o.split] at hs
    cases hs
/-- the true run, by the told one -/
def Tr (φ : Nat → Option GenState) (s s' : Shared) : Prop := ∃ G', Rl φ s.gens G' ∧ s' = sw s G'
theorem wk_sim {Γ : Ctx} {p : Pos} {g : Nat} {r : Resume} {s s' : Shared} {res : GenResult} (h : Wakes M Γ p g r s res s') {G' : Array GenState} (rl : Rl φ s.gens G') : ∃ G1, Rl φ s'.gens G1 ∧ Wakes M Γ p g r (sw s G') res (sw s' G1) := by
  unfold Wakes at h ⊢
  cases hg : s.gens[g]? with
  | none => rw [hg] at h; exact h.elim
  | some y =>
    rw [hg] at h
    cases y with
    | fresh c =>
      obtain ⟨n, h2⟩ := rl.awake hg fun ⟨_, _, _, _, _, _, z⟩ => (nomatch z)
      have h2' : (sw s G').gens[g]? = some (.fresh c) := h2
      rw [h2']
      cases r with
      | send v =>
        cases v with
        | none =>
          obtain ⟨e1, s1, hr, hq, rfl, rfl⟩ := h
          obtain ⟨a, G1, b, c1⟩ := sim hr OwnF.nil _ (rl.set n ownRun)
          exact ⟨_, b.set n a.gs, e1, sw s1 G1, c1, hq, rfl, rfl⟩
        | _ =>
          obtain ⟨rfl, rfl⟩ := h
          exact ⟨G', rl, rfl, rfl⟩
      | throw x =>
        obtain ⟨rfl, rfl⟩ := h
        exact ⟨_, rl.set n ownFin, rfl, rfl⟩
    | suspended k l c p' fs cl =>
      obtain ⟨e1, s1, hr, hq, rfl, rfl⟩ := h
      cases q : φ g with
      | some x =>
        obtain ⟨⟨k', l', c', p2, fs', cl', rfl⟩, h2, _⟩ := rl.old g x q
        rw [hg] at h2
        cases h2
        exact absurd rfl (no_unsup hr "")
      | none =>
        obtain ⟨h2, og⟩ := rl.new g _ q hg
        have h2' : (sw s G').gens[g]? = some (.suspended k l c p' fs cl) := h2
        rw [h2']
        obtain ⟨a, G1, b, c1⟩ := sim hr (og _ _ _ _ _ _ rfl) _ (rl.set q ownRun)
        exact ⟨_, b.set q a.gs, e1, sw s1 G1, c1, hq, rfl, rfl⟩
    | running =>
      obtain ⟨n, h2⟩ := rl.awake hg fun ⟨_, _, _, _, _, _, z⟩ => (nomatch z)
      have h2' : (sw s G').gens[g]? = some .running := h2
      rw [h2']
      obtain ⟨rfl, rfl⟩ := h
      exact ⟨G', rl, rfl, rfl⟩
    | finished =>
      obtain ⟨n, h2⟩ := rl.awake hg fun ⟨_, _, _, _, _, _, z⟩ => (nomatch z)
      have h2' : (sw s G').gens[g]? = some .finished := h2
      rw [h2']
      obtain ⟨rfl, rfl⟩ := h
      exact ⟨G', rl, rfl, rfl⟩
theorem wp_sim {α : Type} (Γ : Ctx) (t : Sem α) : ∀ (Q : α → Pos → Shared → Prop) (E : Value → Pos → Shared → Prop) (p : Pos) (s : Shared) (G' : Array GenState), Rl φ s.gens G' → wp M Γ t Q E p s →
    wp M Γ t (fun a p' s' => ∃ s1, Tr φ s1 s' ∧ Q a p' s1) (fun x p' s' => ∃ s1, Tr φ s1 s' ∧ E x p' s1) p (sw s G') := by
  induction t with
  | pure a => exact fun Q E p s G' r h => ⟨s, ⟨G', r, rfl⟩, h⟩
  | raise e => exact fun Q E p s G' r h => ⟨s, ⟨G', r, rfl⟩, h⟩
  | unsupported _ => exact fun Q E p s G' r h => h
  | finish _ => exact fun Q E p s G' r h => h
  | rule _ k ih => exact fun Q E p s G' r h => ih () Q E p s G' r h
  | «at» p' k ih => exact fun Q E p s G' r h => ih () Q E p' s G' r h
  | load a _ k ih => exact fun Q E p s G' r ⟨o, ho, h⟩ => ⟨o, ho, ih o Q E p s G' r h⟩
  | update a _ f k ih => exact fun Q E p s G' r h => ⟨h.1, ih () Q E p { s with heap := s.heap.update a f } G' r h.2⟩
  | loadIfAlive a k ih => exact fun Q E p s G' r h => ih _ Q E p s G' r h
  | point _ k ih => exact fun Q E p s G' r h => ih () Q E p s G' r h
  | register _ _ => exact fun Q E p s G' r h => h
  | alloc o k ih => exact fun Q E p s G' r h => ih _ Q E p { s with heap := s.heap.push o } G' r h
  | fresh k ih => exact fun Q E p s G' r h => ih _ Q E p { s with toks := s.toks + 1 } G' r h
  | ask k ih => exact fun Q E p s G' r h => ih _ Q E p s G' r h
  | choose src m k ih => exact fun Q E p s G' r h => ⟨h.1, ih _ Q E p { s with drawn := s.drawn.bump src } G' r h.2⟩
  | os q _ k ih => exact fun Q E p s G' r h => ih _ Q E p { s with os := (Os.step s.os q).1 } G' r h
  | call c hd _ _ k ih =>
    intro Q E p s G' r h
    obtain ⟨res, s', hr, h⟩ := h
    obtain ⟨_, G1, b, c1⟩ := sim (φ := φ) hr OwnF.nil G' r
    exact ⟨res, sw s' G1, c1, ih res Q E p s' G1 b h⟩
  | handled own k ih => exact fun Q E p s G' r h => ih _ Q E p s G' r h
  | genState g k ih =>
    intro Q E p s G' r h
    obtain ⟨st, hs, h⟩ := h
    cases q : φ g with
    | none => exact ⟨st, (r.new g st q hs).1, ih _ Q E p s G' r h⟩
    | some x =>
      obtain ⟨_, h2, h3⟩ := r.old g x q
      rw [hs] at h2
      cases h2
      rw [hid_seen] at h
      exact ⟨x, h3, ih _ Q E p s G' r h⟩
  | newGen c k ih =>
    intro Q E p s G' r h
    have z := ih _ Q E p { s with gens := s.gens.push (.fresh c) } (G'.push (.fresh c)) (r.push ownFresh) h
    show wp M Γ (k G'.size) _ _ p _
    rw [r.size]
    exact z
  | resume g rr _ k ih =>
    intro Q E p s G' r h
    obtain ⟨res, s', hw, h⟩ := h
    obtain ⟨G1, b, w1⟩ := wk_sim hw r
    exact ⟨res, sw s' G1, w1, ih res Q E p s' G1 b h⟩
  | yield _ _ _ _ => exact fun Q E p s G' r h => h
  | stack k ih => exact fun Q E p s G' r h => ih _ Q E p s G' r h
  | fork _ _ => exact fun Q E p s G' r h => h
  | thread k ih => exact fun Q E p s G' r h => ih _ Q E p s G' r h
  | await _ _ _ _ _ => exact fun Q E p s G' r h => h
/-! all that sleep, hidden -/
def asleep (s : Shared) (i : Nat) : Option GenState := match s.gens[i]? with
  | some (.suspended k l c p fs cl) => some (.suspended k l c p fs cl)
  | _ => none
def veil (s : Shared) : Shared := sw s (s.gens.map hid)
theorem rl_veil (s : Shared) : Rl (asleep s) (s.gens.map hid) s.gens := by
  refine ⟨by simp, fun i x e => ?_, fun i y e h => ?_⟩
  · unfold asleep at e
    split at e
    · rename_i q
      cases e
      exact ⟨⟨_, _, _, _, _, _, rfl⟩, by rw [Array.getElem?_map, q]; rfl, q⟩
    · cases e
  · rw [Array.getElem?_map] at h
    cases q : s.gens[i]? with
    | none => rw [q] at h; cases h
    | some x =>
      rw [q] at h
      unfold asleep at e
      rw [q] at e
      cases x with
      | suspended k l c p fs cl => cases e
      | _ => cases h; exact ⟨rfl, fun _ _ _ _ _ _ z => (nomatch z)⟩
theorem bare_veil {s : Shared} (h : PyProof.Rows.AllBare s.gens) : PyProof.Rows.AllBare (veil s).gens := fun y hy => by
  obtain ⟨x, hx, rfl⟩ := Array.mem_map.mp hy
  rw [hid_bare]
  exact h x hx
/-- what was asleep is as it was -/
structure Kept (s s1 s' : Shared) : Prop where
  same : s' = sw s1 s'.gens
  bare : PyProof.Rows.AllBare s.gens → PyProof.Rows.AllBare s1.gens → PyProof.Rows.AllBare s'.gens
  slept : ∀ (i : Nat) (x : GenState), s.gens[i]? = some x → Slp x → s'.gens[i]? = some x
theorem kept_of {s s1 s' : Shared} (t : Tr (asleep s) s1 s') : Kept s s1 s' := by
  obtain ⟨G', r, rfl⟩ := t
  refine ⟨rfl, fun b0 b1 y hy => ?_, fun i x e sl => ?_⟩
  · obtain ⟨i, hi, e⟩ := Array.mem_iff_getElem.mp hy
    have e' : G'[i]? = some y := by rw [← e]; exact Array.getElem?_eq_getElem hi
    have hi1 : i < s1.gens.size := by
      have : i < G'.size := hi
      rw [r.size] at this
      exact this
    cases q : asleep s i with
    | none =>
      have e1 : s1.gens[i]? = some s1.gens[i] := Array.getElem?_eq_getElem hi1
      have h1 := (r.new i _ q e1).1
      rw [e'] at h1
      rw [Option.some.inj h1]
      exact b1 _ (Array.getElem_mem hi1)
    | some x =>
      obtain ⟨_, _, h3⟩ := r.old i x q
      rw [e'] at h3
      rw [Option.some.inj h3]
      unfold asleep at q
      split at q
      · rename_i z
        cases q
        exact b0 _ (Array.mem_of_getElem? z)
      · cases q
  · obtain ⟨k, l, c, p, fs, cl, rfl⟩ := sl
    exact (r.old i _ (by unfold asleep; rw [e])).2.2
theorem wpAny_veil {α : Type} {A : Around} {t : Sem α} {Q : α → Shared → Prop} {E : Value → Shared → Prop} {s : Shared} (h : wpAny M A t Q E (veil s)) : wpAny M A t (fun a s' => ∃ s1, Kept s s1 s' ∧ Q a s1) (fun e s' => ∃ s1, Kept s s1 s' ∧ E e s1) s :=
  wpAny_mono (fun Γ p hΓ => wp_sim Γ t _ _ p (veil s) s.gens (rl_veil s) (h Γ p hΓ) : wpAny M A t (fun a s' => ∃ s1, Tr (asleep s) s1 s' ∧ Q a s1) (fun e s' => ∃ s1, Tr (asleep s) s1 s' ∧ E e s1) s) (fun _ _ ⟨s1, a, b⟩ => ⟨s1, kept_of a, b⟩) fun _ _ ⟨s1, a, b⟩ => ⟨s1, kept_of a, b⟩
end GenZ
/-! a generator that is walked while its walker makes objects: the generator's side -/
namespace GenZ
open PySem PySem.Spec PyProof.Rows L2
open Sem (wp)
/-- one stretch of a generator's run -/
def S1 (M : Model) (A : Around) (Φ : End → Shared → Prop) (c : Code) (t : Sem PySem.Fin) (fs : List Frame) (s : Shared) : Prop :=
  ∀ Γ p, Γ.code = c → Γ.Woken A → ∃ e s', Runs M Γ p t fs s e s' ∧ Φ e s'
section
variable {M : Model} {A : Around} {Φ : End → Shared → Prop} {c : Code} {fs : List Frame} {s : Shared}
theorem s1_wrap {α : Type} {m : Sem α} {K : α → Sem PySem.Fin} {J : Value → Sem PySem.Fin} {gd : Bool → Bool} {lv : List Value → List Value}
    (h : wpAny M (A.over c fs) m (fun a s' => S1 M A Φ c (K a) fs s') (fun x s' => S1 M A Φ c (J x) fs s') s) : S1 M A Φ c (m.wrap K J gd lv) fs s := by
  rintro Γ p rfl hΓ
  exact runs_wrap_of_wp K J gd lv m (h (Γ.over fs) p (hΓ.over fs)) (fun a p' s' q => q Γ p' rfl hΓ) fun x p' s' q => q Γ p' rfl hΓ
theorem s1_at {p' : Pos} {k : Unit → Sem PySem.Fin} (h : S1 M A Φ c (k ()) fs s) : S1 M A Φ c (.at p' k) fs s :=
  s1_wrap (m := standAt p') (K := k) (J := .raise) (gd := id) (lv := id) (wpAny_standAt h)
theorem s1_point {l : List Value} {k : Unit → Sem PySem.Fin} (h : S1 M A Φ c (k ()) fs s) : S1 M A Φ c (.point l k) fs s :=
  s1_wrap (m := point) (K := k) (J := .raise) (gd := id) (lv := fun _ => l) (wpAny_point h)
theorem s1_call {c' : Code} {h : Option Value} {g : Bool} {l : List Value} {k : Result → Sem PySem.Fin} (hc : ∀ p, S1 M A Φ c' (M.den c') (.ret k h g l c p [] :: fs) s) : S1 M A Φ c (.call c' h g l k) fs s := by
  rintro Γ p rfl hΓ
  obtain ⟨e, s', hr, he⟩ := hc p (Γ.goto c') p rfl (hΓ.goto c')
  exact ⟨e, s', runs_call_seg hr, he⟩
theorem s1_leaf {k : Result → Sem PySem.Fin} {h : Option Value} {g : Bool} {l kp : List Value} {c₁ : Code} {p₁ : Pos} (r : Result) (hk : S1 M A Φ c₁ (k r) fs s) : S1 M A Φ c (leafOf r) (.ret k h g l c₁ p₁ kp :: fs) s := by
  rintro Γ p rfl hΓ
  obtain ⟨e, s', hr, he⟩ := hk (Γ.goto c₁) p₁ rfl (hΓ.goto c₁)
  exact ⟨e, s', Runs.pop r hr, he⟩
theorem s1_again {c' : Code} (hq : c'.quiet = true) (hc : S1 M A Φ c' (M.den c') fs s) : S1 M A Φ c (.pure (.again c')) fs s := by
  rintro Γ p rfl hΓ
  obtain ⟨e, s', hr, he⟩ := hc (Γ.goto c') p rfl (hΓ.goto c')
  exact ⟨e, s', Runs.head (c₁ := c') (fun _ _ x => .again hq x) hr, he⟩
theorem s1_end (r : Result) (h : Φ (.ret r) s) : S1 M A Φ c (leafOf r) [] s := by
  rintro Γ p rfl _
  exact ⟨.ret r, s, Runs.leaf r, h⟩
theorem s1_yield {v : Value} {g : Bool} {l : List Value} {k : Resume → Sem PySem.Fin} (hs : splitAtGen fs = none) (h : ∀ p, Φ (.susp v g l k c p fs) s) : S1 M A Φ c (.yield v g l k) fs s := by
  rintro Γ p rfl _
  exact ⟨_, s, Runs.yield' fs hs, h p⟩
theorem s1_cons {env : Env} {K : Flow → Sem PySem.Fin} {J : Value → Sem PySem.Fin} {gd : Bool → Bool} {lv : List Value → List Value} {st : Stmt} {rest : List Stmt}
    (h : S1 M A Φ c ((exec st env).wrap (fun f => match f with | .next => (execs rest env).wrap K J gd lv | f => K f) J gd lv) fs s) : S1 M A Φ c ((execs (st :: rest) env).wrap K J gd lv) fs s := by
  rw [execs_cons_wrap]
  exact h
end
/-- what a loop's turn does with an exception -/
def noted (env : Env) (e : Value) : Sem PySem.Fin := (do noteFrame e env; theTreesLotGoes e : Sem Unit).wrap (fun _ => .raise e) .raise id id
/-- how a turn of a loop ends -/
def turnEnd (c : Code) : Flow → Sem PySem.Fin
  | .next | .cont => .pure (.again c)
  | .brk => .pure (.done .next)
  | .ret v => .pure (.done (.ret v))
section
variable {prog : Program} {w : World} {A : Around} {Φ : End → Shared → Prop} {fs : List Frame} {s : Shared} {env : Env}
theorem s1_loop {test : Expr} {body : List Stmt}
    (h : wpAny (model prog w) (A.over (.whileLoop test body [] env) fs) (isTrue test env (eval test env)) (fun b s' =>
        if b = true then S1 (model prog w) A Φ (.whileLoop test body [] env) ((execs body env).wrap (turnEnd (.whileLoop test body [] env)) (noted env) id id) fs s'
        else S1 (model prog w) A Φ (.whileLoop test body [] env) (leafOf (.ok .next)) fs s') (fun _ _ => False) s) :
    S1 (model prog w) A Φ (.whileLoop test body [] env) ((model prog w).den (.whileLoop test body [] env)) fs s := by
  show S1 _ A Φ _ ((whileTurn test body [] env).onRaise (fun x => do noteFrame x env; theTreesLotGoes x)) fs s
  unfold whileTurn
  rw [Sem.onRaise_eq_wrap, Sem.bind_eq_wrap', Sem.wrap_wrap]
  refine s1_wrap (wpAny_mono h (fun b s' hb => ?_) fun x s' hx => hx.elim)
  cases b with
  | true =>
    rw [if_pos rfl] at hb
    show S1 _ A Φ _ (Sem.wrap _ _ _ _ (if true = true then _ else _)) fs s'
    rw [if_pos rfl, Sem.bind_eq_wrap', Sem.wrap_wrap]
    rw [Sem.wrap_congr (execs body env) _ _ (K' := turnEnd (.whileLoop test body [] env)) (H' := noted env) (fun f => by cases f <;> rfl)
      (fun e => by first | exact Sem.bind_eq_wrap _ _ | (show (do noteFrame e env; theTreesLotGoes e : Sem Unit).bind (fun _ => .raise e) = _; rw [Sem.bind_eq_wrap]; rfl))]
    exact hb
  | false =>
    rw [if_neg Bool.false_ne_true] at hb
    show S1 _ A Φ _ (Sem.wrap _ _ _ _ (if false = true then _ else _)) fs s'
    rw [if_neg Bool.false_ne_true]
    exact hb
theorem s1_func {body : List Stmt} (h : S1 (model prog w) A Φ (.func body env) ((execs body env).wrap (fun f => leafOf (.ok (.ret (match f with | .ret v => v | _ => .none)))) (fun e => (leaving env e).wrap (fun _ => .raise e) .raise id id) id id) fs s) :
    S1 (model prog w) A Φ (.func body env) ((model prog w).den (.func body env)) fs s := by
  show S1 _ A Φ _ (.point [] fun _ => ((execs body env).onRaise (leaving env)) >>= _) fs s
  refine s1_point ?_
  rw [Sem.onRaise_eq_wrap, Sem.bind_eq_wrap', Sem.wrap_wrap]
  rw [Sem.wrap_congr (execs body env) _ _ (K' := fun f => leafOf (.ok (.ret (match f with | .ret v => v | _ => .none)))) (H' := fun e => (leaving env e).wrap (fun _ => .raise e) .raise id id) (fun f => by cases f <;> rfl)
    (fun e => by rw [Sem.bind_eq_wrap, Sem.wrap_wrap]; rfl)]
  exact h
end
/-! the generator's frame, over what stood when it was woken last -/
def cut (n : Nat) (h : Heap) : Heap := { h with objs := h.objs.extract 0 n }
theorem cut_get {n : Nat} {h : Heap} {b : Addr} (l : b < n) : (cut n h).get? b = h.get? b := by
  unfold cut Heap.get?
  have e : (h.objs.extract 0 n)[b]? = h.objs[b]? := by
    have l' : b < n := l
    rw [Array.getElem?_extract]
    by_cases q : b < h.objs.size
    · have q' : b < min n h.objs.size - 0 := by
        have := Nat.lt_min.mpr ⟨l', q⟩
        exact this
      rw [if_pos q', Nat.zero_add]
    · have q' : ¬ b < min n h.objs.size - 0 := fun z => q (Nat.lt_of_lt_of_le z (by rw [Nat.sub_zero]; exact Nat.min_le_right _ _))
      rw [if_neg q', Array.getElem?_eq_none (Nat.le_of_not_lt q)]
  simp only [e]
theorem cut_some {n : Nat} {h : Heap} {b : Addr} {o : Obj} (e : (cut n h).get? b = some o) : h.get? b = some o := by
  have l : b < (h.objs.extract 0 n).size := Heap.lt_size e
  have l2 : b < n := by
    rw [Array.size_extract] at l
    exact Nat.lt_of_lt_of_le l (by rw [Nat.sub_zero]; exact Nat.min_le_left _ _)
  rw [cut_get l2] at e
  exact e
structure Gn where
  P : Program
  w : World
  K : PySem.W.Frag
  mg : Str → Option Value
  base : Heap
  N : List Str
  qual : Str
  scope : Scope
  f : Addr
  cd : Value
  A : Around
  outer : List Env
  n0 : Nat
  pn : List (Addr × Obj)
def Gn.env (G : Gn) : Env := envOfC G.qual G.scope G.n0 G.f G.cd
def Gn.cx (G : Gn) (s : Shared) (H : Hp) : Cx where
  prog := G.P
  w := G.w
  K := G.K
  mg := G.mg
  base := G.base
  A := G.A.deeper G.env
  N := G.N
  s_0 := { s with heap := cut G.n0 s.heap }
  H_0 := H
  env := G.env
  outer := G.outer
  stack := G.env :: G.outer
  ex := []
  calm := true
  fn := fun _ => true
  pn := G.pn
  xe := fun _ _ => False
/-- the generator's own: its frame, its cells, what is pinned -/
def Gn.own (G : Gn) (b : Addr) : Prop := b = G.env.locals ∨ (∃ x, G.env.cells.lookup x = some b) ∨ ∃ o, (b, o) ∈ G.pn
/-- it slept at s, and is woken at s' -/
structure Wake (G : Gn) (s : Shared) (H : Hp) (s' : Shared) (H' : Hp) : Prop where
  os : s'.os = s.os
  same : Same H H'
  e0 : Env0 G.P G.w G.K G.mg G.base G.A G.outer s' H'
  keep : ∀ b o, G.own b → s.heap.get? b = some o → s'.heap.get? b = some o ∧ H' b = none
theorem cut_size {n : Nat} {h : Heap} (l : n ≤ h.objs.size) : (cut n h).objs.size = n := by
  show (h.objs.extract 0 n).size = _
  rw [Array.size_extract]; omega
theorem funs_cut {n : Nat} {h base : Heap} : ∀ {l : List Env}, h.FunFrames base l → (∀ b ∈ frs l, b < n) → (cut n h).FunFrames base l
  | [], _, _ => trivial
  | env :: rest, ⟨hk, ⟨L, o, hf, hn, ho, hd⟩, hr⟩, hb => by
    have hm : L ∈ frs (env :: rest) := by
      unfold frs
      rw [List.mem_filterMap]
      exact ⟨env, List.mem_cons_self, hf⟩
    refine ⟨hk, ⟨L, o, hf, hn, by rw [cut_get (hb L hm)]; exact ho, hd⟩, funs_cut hr fun b q => hb b ?_⟩
    unfold frs at q ⊢
    rw [List.mem_filterMap] at q ⊢
    obtain ⟨e, he, z⟩ := q
    exact ⟨e, List.mem_cons_of_mem _ he, z⟩
/-- what holds of the generator at all times -/
structure Gn.Ok (G : Gn) : Prop where
  base : G.base.objs.size ≤ G.n0
  frs : ∀ b ∈ frs G.outer, b < G.n0
  cells : ∀ x c, G.env.cells.lookup x = some c → G.n0 ≤ c
theorem woken {G : Gn} {s₀ s s' : Shared} {Hw H H' : Hp} {σ : L2.St} (go : G.Ok) (I : Inv (G.cx s₀ Hw) [] σ H s) (wk : Wake G s H s' H') : Inv (G.cx s' H') [] σ H' s' := by
  obtain ⟨m, hn, hl⟩ := I.loc
  obtain ⟨oL, es, ep, hoL, r⟩ := hn
  have kL := wk.keep _ _ (.inl rfl) hoL
  have sz : G.n0 ≤ s'.heap.objs.size := Nat.le_of_lt (Heap.lt_size kL.1)
  have csz := cut_size sz
  have e0 := wk.e0
  have ok := I.ok
  have kc : ∀ x c, G.env.cells.lookup x = some c → ∀ o, s.heap.get? c = some o → s'.heap.get? c = some o ∧ H' c = none := fun x c e o h => wk.keep c o (.inr (.inl ⟨x, e⟩)) h
  have cu : ∀ b o, b < G.n0 → s'.heap.get? b = some o → (cut G.n0 s'.heap).get? b = some o := fun b o l h => by rw [cut_get l]; exact h
  refine ⟨⟨ok.mod, ok.kind, ok.glob, ok.blt, ?_, ok.inj, ok.has, fun x c _ h => ?_, ok.hd, ok.frames, ok.stk, fun b hb => absurd hb (by simp [Gn.cx]), fun b o h => ?_, ?_, fun b o _ hb => absurd hb (by simp [Gn.cx]), fun b hb => absurd hb (by simp [Gn.cx]), ?_, e0.frf⟩, rfl, e0.bare, ?_, ?_, fun x c h => ?_, kL.2, fun x c h => ?_, fun p hp => ?_, e0.hok, I.len⟩
  · show (cut G.n0 s'.heap).objs.size ≤ G.n0
    omega
  · show (cut G.n0 s'.heap).objs.size ≤ c
    rw [csz]
    exact go.cells x c h
  · obtain ⟨q1, q2⟩ := e0.bs b o h
    exact ⟨cu b o (Nat.lt_of_lt_of_le (Heap.lt_size h) go.base) q1, q2⟩
  · show G.base.objs.size ≤ (cut G.n0 s'.heap).objs.size
    rw [csz]
    exact go.base
  · exact funs_cut e0.funs go.frs
  · exact ⟨fun b o e _ _ _ => cut_some e, fun b o e _ _ _ => ⟨o.slots, cut_some e⟩, fun b o _ n _ => n, fun b o e _ => ⟨o, cut_some e⟩, fun b xs e => e, fun b o u e => e, fun b ps e => ⟨#[], (show H' b = some (.tbl ps) from e).trans (by simp)⟩⟩
  · refine ⟨m, ⟨oL, es, ep, kL.1, r⟩, fun i x v h1 h2 h3 => ?_⟩
    obtain ⟨u, rv, lk⟩ := hl i x v h1 h2 h3
    refine ⟨u, rv, ?_⟩
    rcases lk with lk | ⟨kk, c, e, o, ho, hd⟩
    · exact .inl lk
    · exact .inr ⟨kk, c, e, o, (kc x c e o ho).1, hd⟩
  · obtain ⟨v, o, ho, hd⟩ := I.cell x c h
    exact ⟨v, o, (kc x c h o ho).1, hd⟩
  · obtain ⟨v, o, ho, hd⟩ := I.cell x c h
    exact (kc x c h o ho).2
  · obtain ⟨h1, h2, h3, h4, h5⟩ := I.pin p hp
    obtain ⟨b, o⟩ := p
    have hp' : (b, o) ∈ G.pn := by
      rcases List.mem_append.mp hp with z | z
      · exact z
      · cases z
    obtain ⟨q1, q2⟩ := wk.keep b o (.inr (.inr ⟨o, hp'⟩)) h1
    exact ⟨q1, q2, h3, h4, h5⟩
end GenZ
/-! a generator that is walked while its walker makes objects: its body -/
namespace GenZ
open PySem PySem.Spec PyProof.Rows L2
open Sem (wp)
/-- how a stretch ends: m are to be handed out still -/
def Go (G : Gn) (Yd : Nat → V → Hp → Prop) (En : Hp → Prop) : Nat → Shared → Hp → End → Shared → Prop
  | 0, s₀, Hw => fun e s₁ => (e = .ret (.ok (.ret .none)) ∨ e = .ret (.ok .next)) ∧ ∃ σ H1, Inv (G.cx s₀ Hw) [] σ H1 s₁ ∧ Same Hw H1 ∧ En H1
  | m + 1, s₀, Hw => fun e s₁ => ∃ v g l k c p fs, e = .susp v g l k c p fs ∧ e.quiet = true ∧ ∃ x σ H1, RelV x v ∧ Inv (G.cx s₀ Hw) [] σ H1 s₁ ∧ Same Hw H1 ∧ Yd m x H1 ∧
      ∀ s' H', Wake G s₁ H1 s' H' → S1 (model G.P G.w) G.A (Go G Yd En m s' H') c (k (.send .none)) fs s'
/-- where the generator's code stands -/
structure GC2 (G : Gn) (c : Code) (fs : List Frame) (gd : Bool → Bool) : Prop where
  over : G.A.over c fs = G.A.deeper G.env
  split : splitAtGen fs = none
  guard : fs.any Frame.guarded = false
  gd : gd false = false
/-- what is wanted behind a statement: how many are left, the heap at the last waking, the slots, the heap -/
structure GE2 where
  nx : Nat → Hp → L2.St → Hp → Prop
  rt : Nat → Hp → VK
  bk : Nat → Hp → L2.St → Hp → Prop := fun _ _ _ _ => False
  ct : Nat → Hp → L2.St → Hp → Prop := fun _ _ _ _ => False
abbrev TG2 := GE2 → Nat → Hp → L2.St → Hp → Prop
def GE2.at (D : GE2) (m : Nat) (Hw : Hp) : Ends := { nx := D.nx m Hw, rt := D.rt m Hw, bk := D.bk m Hw, ct := D.ct m Hw }
def GK2 (G : Gn) (Yd : Nat → V → Hp → Prop) (En : Hp → Prop) (c : Code) (fs : List Frame) (K : Flow → Sem PySem.Fin) (D : GE2) : Prop :=
  ∀ m s₀ Hw s f, SP (G.cx s₀ Hw) [] (D.at m Hw) f s → S1 (model G.P G.w) G.A (Go G Yd En m s₀ Hw) c (K f) fs s
structure GS2 (G : Gn) (Yd : Nat → V → Hp → Prop) (En : Hp → Prop) (st : Stmt) (t : TG2) : Prop where
  run : ∀ (c : Code) (fs : List Frame) (K : Flow → Sem PySem.Fin) (J : Value → Sem PySem.Fin) (gd : Bool → Bool) (lv : List Value → List Value) (m : Nat) (s₀ : Shared) (Hw : Hp) (s : Shared) (σ : L2.St) (H : Hp) (D : GE2),
    GC2 G c fs gd → GK2 G Yd En c fs K D → Inv (G.cx s₀ Hw) [] σ H s → t D m Hw σ H → S1 (model G.P G.w) G.A (Go G Yd En m s₀ Hw) c ((exec st G.env).wrap K J gd lv) fs s
structure GSs2 (G : Gn) (Yd : Nat → V → Hp → Prop) (En : Hp → Prop) (st : List Stmt) (t : TG2) : Prop where
  run : ∀ (c : Code) (fs : List Frame) (K : Flow → Sem PySem.Fin) (J : Value → Sem PySem.Fin) (gd : Bool → Bool) (lv : List Value → List Value) (m : Nat) (s₀ : Shared) (Hw : Hp) (s : Shared) (σ : L2.St) (H : Hp) (D : GE2),
    GC2 G c fs gd → GK2 G Yd En c fs K D → Inv (G.cx s₀ Hw) [] σ H s → t D m Hw σ H → S1 (model G.P G.w) G.A (Go G Yd En m s₀ Hw) c ((execs st G.env).wrap K J gd lv) fs s
section
variable {G : Gn} {Yd : Nat → V → Hp → Prop} {En : Hp → Prop} {st : Stmt} {rest : List Stmt}
def tPl (t : TS) : TG2 := fun D m Hw σ H => t (D.at m Hw) σ H
theorem gs2_ps {t : TS} (h : ∀ s₀ Hw, PS (G.cx s₀ Hw) st t) : GS2 G Yd En st (tPl t) := by
  refine ⟨fun c fs K J gd lv m s₀ Hw s σ H D g k I ht => ?_⟩
  refine s1_wrap ?_
  rw [g.over]
  exact wpAny_mono ((h s₀ Hw).run [] s σ H (D.at m Hw) I ht) (fun f s' hs => k m s₀ Hw s' f hs) fun x s' hx => hx.elim
theorem gss2_pss {t : TS} (h : ∀ s₀ Hw, PSs (G.cx s₀ Hw) rest t) : GSs2 G Yd En rest (tPl t) := by
  refine ⟨fun c fs K J gd lv m s₀ Hw s σ H D g k I ht => ?_⟩
  refine s1_wrap ?_
  rw [g.over]
  exact wpAny_mono ((h s₀ Hw).run [] s σ H (D.at m Hw) I ht) (fun f s' hs => k m s₀ Hw s' f hs) fun x s' hx => hx.elim
def tTh (t u : TG2) : TG2 := fun D m Hw σ H => t { D with nx := fun m' Hw' σ' H' => u D m' Hw' σ' H' } m Hw σ H
theorem gss2_cons {t u : TG2} (a : GS2 G Yd En st t) (b : GSs2 G Yd En rest u) : GSs2 G Yd En (st :: rest) (tTh t u) := by
  refine ⟨fun c fs K J gd lv m s₀ Hw s σ H D g k I ht => ?_⟩
  refine s1_cons ?_
  refine a.run c fs _ J gd lv m s₀ Hw s σ H _ g (fun m' s₀' Hw' s' f hs => ?_) I ht
  cases f with
  | next =>
    obtain ⟨σ', H', I', q⟩ := hs
    exact b.run c fs K J gd lv m' s₀' Hw' s' σ' H' D g k I' q
  | brk => exact k m' s₀' Hw' s' .brk hs
  | cont => exact k m' s₀' Hw' s' .cont hs
  | ret u => exact k m' s₀' Hw' s' (.ret u) hs
def t0 : TG2 := fun D m Hw σ H => D.nx m Hw σ H
theorem gss2_nil : GSs2 G Yd En [] t0 := ⟨fun c fs K J gd lv m s₀ Hw s σ H D g k I ht => k m s₀ Hw s .next ⟨σ, H, I, ht⟩⟩
def tWh (tc : TT) (tb : TG2) : TG2 := fun D m Hw σ H => ∃ W : Nat → Nat → Hp → L2.St → Hp → Prop, (∃ j, W j m Hw σ H) ∧ ∀ j m Hw σ H, W j m Hw σ H →
  tc σ H fun b H1 => if b = true then ∃ Nx : Nat → Hp → L2.St → Hp → Prop, (∀ m' Hw' σ' H', Nx m' Hw' σ' H' → ∃ j', j' < j ∧ W j' m' Hw' σ' H') ∧ tb { D with nx := Nx, ct := Nx, bk := D.nx } m Hw σ H1 else D.nx m Hw σ H1
theorem gc2_loop {c c' : Code} {fs : List Frame} {gd : Bool → Bool} {k : Result → Sem PySem.Fin} {l kp : List Value} {p : Pos} (g : GC2 G c fs gd) (hw : c'.weight = 0) (hu : c'.cUnits = 0) : GC2 G c' (.ret k none (gd false) l c p kp :: fs) id where
  over := (GenW.over_loop hw hu).trans g.over
  split := by
    show (splitAtGen fs).map _ = none
    rw [g.split]; rfl
  guard := by
    show (gd false || fs.any Frame.guarded) = false
    rw [g.gd, g.guard]; rfl
  gd := rfl
theorem gs2_while {test : Expr} {body : List Stmt} {pos : Pos} {tc : TT} {tb : TG2} (hc : ∀ s₀ Hw, PT (G.cx s₀ Hw) test tc) (hb : GSs2 G Yd En body tb) : GS2 G Yd En (.While test body [] pos) (tWh tc tb) := by
  refine ⟨fun c fs K J gd lv m s₀ Hw s σ H D g k I ht => ?_⟩
  obtain ⟨W, ⟨j0, w0⟩, turn⟩ := ht
  refine s1_at (s1_call fun p => ?_)
  have gl := fun (kk : Result → Sem PySem.Fin) => gc2_loop (k := kk) (c' := .whileLoop test body [] G.env) (l := lv []) (kp := []) (p := p) g rfl rfl
  have loop : ∀ (j m : Nat) (s₀ : Shared) (Hw : Hp) (s : Shared) (σ : L2.St) (H : Hp), W j m Hw σ H → Inv (G.cx s₀ Hw) [] σ H s →
      S1 (model G.P G.w) G.A (Go G Yd En m s₀ Hw) (.whileLoop test body [] G.env) ((model G.P G.w).den (.whileLoop test body [] G.env))
        (.ret (fun r => ((match r with | .ok f => (.pure f : Sem Flow) | .error e => .raise e).onRaise (cameBack G.env)).wrap K J gd lv) none (gd false) (lv []) c p [] :: fs) s := by
    intro j
    induction j using Nat.strongRecOn with
    | ind j ih =>
      intro m s₀ Hw s σ H w I
      refine s1_loop ?_
      rw [(gl _).over]
      refine wpAny_mono ((hc s₀ Hw).run [] s σ H _ I (turn j m Hw σ H w)) (fun b s' hb' => ?_) fun x s' hx => hx.elim
      obtain ⟨H2, I2, q2⟩ := hb'
      cases b with
      | true =>
        obtain ⟨Nx, hN, q2⟩ := q2
        rw [if_pos rfl]
        refine hb.run _ _ _ _ id id m s₀ Hw s' σ H2 _ (gl _) (fun m' s₀' Hw' s3 f hs => ?_) I2 q2
        cases f with
        | next =>
          obtain ⟨σ3, H3, I3, n3⟩ := hs
          obtain ⟨j', hj, w3⟩ := hN m' Hw' σ3 H3 n3
          exact s1_again rfl (ih j' hj m' s₀' Hw' s3 σ3 H3 w3 I3)
        | cont =>
          obtain ⟨σ3, H3, I3, n3⟩ := hs
          obtain ⟨j', hj, w3⟩ := hN m' Hw' σ3 H3 n3
          exact s1_again rfl (ih j' hj m' s₀' Hw' s3 σ3 H3 w3 I3)
        | brk => exact s1_leaf (.ok .next) (k m' s₀' Hw' s3 .next hs)
        | ret v => exact s1_leaf (.ok (.ret v)) (k m' s₀' Hw' s3 (.ret v) hs)
      | false =>
        rw [if_neg Bool.false_ne_true]
        exact s1_leaf (.ok .next) (k m s₀ Hw s' .next ⟨σ, H2, I2, q2⟩)
  exact loop j0 m s₀ Hw s σ H w0 I
def tYl (Yd : Nat → V → Hp → Prop) (te : TE) : TG2 := fun D m Hw σ H => te σ H fun x H1 => Same Hw H1 ∧ ∃ m', m = m' + 1 ∧ Yd m' x H1 ∧ ∀ H2, Same H1 H2 → D.nx m' H2 σ H2
theorem gs2_yield {e : Expr} {yp pos : Pos} {te : TE} (go : G.Ok) (he : ∀ s₀ Hw, PE (G.cx s₀ Hw) e te) (hco : G.env.scope.isCoroutine = false) (hi : interactive G.env = false) : GS2 G Yd En (.Expr (.Yield (some e) yp) pos) (tYl Yd te) := by
  refine ⟨fun c fs K J gd lv m s₀ Hw s σ H D g k I ht => ?_⟩
  rw [exec_Expr G.env _ pos hi rfl]
  show S1 _ _ _ _ (.at pos fun _ => ((eval e G.env >>= fun v => (standAt yp >>= fun _ => yieldOut G.env v)) >>= fun x => dropValue (.Yield (some e) yp) pos x).wrap K J gd lv) _ _
  have hy : ∀ v, yieldOut G.env v = yieldValue v := fun v => by simp only [yieldOut, hco, Bool.false_eq_true, if_false]
  simp only [hy]
  refine s1_at ?_
  rw [Sem.bind_eq_wrap', Sem.bind_eq_wrap', Sem.wrap_wrap, Sem.wrap_wrap]
  refine s1_wrap ?_
  rw [g.over]
  refine wpAny_mono ((he s₀ Hw).run [] s σ H _ I ht) (fun v s' hv => ?_) fun x s' hx => hx.elim
  obtain ⟨x, H1, I1, rv, sm, m', rfl, yd, q⟩ := hv
  refine s1_at (s1_yield g.split fun p => ?_)
  refine ⟨v, _, _, _, c, p, fs, rfl, ?_, x, σ, H1, rv, I1, sm, yd, fun s'' H'' wk => ?_⟩
  · show (!(gd false || fs.any Frame.guarded)) = true
    rw [g.gd, g.guard]
    rfl
  · exact k m' s'' H'' s'' .next ⟨σ, H'', woken go I1 wk, q H'' wk.same⟩
end
end GenZ
/-! a generator that is walked while its walker makes objects: its call, next -/
namespace GenZ
open PySem PySem.Spec PyProof.Rows L2
open Sem (wp)
/-- it may be woken now -/
def Ready (M : Model) (A : Around) (Φ : End → Shared → Prop) (s : Shared) : GenState → Prop
  | .fresh c => S1 M A Φ c (M.den c) [] s
  | .suspended k _ c _ fs _ => S1 M A Φ c (k (.send .none)) fs s
  | _ => False
theorem wpAny_wake {M : Model} {A : Around} {Φ : End → Shared → Prop} {E : Value → Shared → Prop} {s : Shared} {g : Nat} {gs : GenState} {l : List Value} {α : Type} {k : GenResult → Sem α} {Q : α → Shared → Prop} (hg : s.gens[g]? = some gs)
    (hr : Ready M A Φ (s.setGen g .running) gs) (hq : ∀ e s₁, Φ e s₁ → e.quiet = true ∧ wpAny M A (k e.result) Q E (s₁.setGen g e.genState)) : wpAny M A (.resume g (.send .none) l k) Q E s := by
  intro Γ p hΓ
  rw [Sem.wp_resume]
  cases gs with
  | fresh c =>
    obtain ⟨e, s₁, h1, h2⟩ := hr (Γ.wake c p) p rfl (hΓ.wake c p)
    obtain ⟨q1, q2⟩ := hq e s₁ h2
    exact ⟨e.result, s₁.setGen g e.genState, by unfold Wakes; rw [hg]; exact ⟨e, s₁, h1, q1, rfl, rfl⟩, q2 Γ p hΓ⟩
  | suspended k₀ l₀ c₀ p₀ fs₀ cl =>
    obtain ⟨e, s₁, h1, h2⟩ := hr (Γ.wake c₀ p) p₀ rfl (hΓ.wake c₀ p)
    obtain ⟨q1, q2⟩ := hq e s₁ h2
    exact ⟨e.result, s₁.setGen g e.genState, by unfold Wakes; rw [hg]; exact ⟨e, s₁, h1, q1, rfl, rfl⟩, q2 Γ p hΓ⟩
  | running => exact hr.elim
  | finished => exact hr.elim
/-- next of a generator that raises nothing -/
theorem next1 {P : Program} {w : World} {A : Around} {E : Value → Shared → Prop} {s : Shared} {a : Addr} {g : Nat} {gs : GenState} {Φ : End → Shared → Prop} {Q : Option Value → Shared → Prop} (hh : A.handled = none) (hl : s.heap.NoLimit) (hroom : A.depth < recursionLimit)
    (hg : s.heap.IsGen a g) (hgs : s.gens[g]? = some gs) (hr : Ready (model P w) A.in1 Φ (s.setGen g .running) gs)
    (hY : ∀ v gg l k c p fs s₁, Φ (.susp v gg l k c p fs) s₁ → (End.susp v gg l k c p fs).quiet = true ∧ Q (some v) (s₁.setGen g (End.susp v gg l k c p fs).genState))
    (hR : ∀ r s₁, Φ (.ret r) s₁ → (r = .ok (.ret .none) ∨ r = .ok .next) ∧ ∀ h', (∀ b o, s₁.heap.get? b = some o → h'.get? b = some o) → Q none { s₁.setGen g .finished with heap := h' }) :
    wpAny (model P w) A (pyNext (.ref a)) Q E s := by
  unfold pyNext
  refine wpAny_bind (wpAny_attempt (wpAny_callSpecial?_slot (name := Str.ofString "__next__") hg.typeIs slot_gen_next (wpAny_call_entry slot_gen_next hg.typeIs entry_gen_next ?_ (args_gen_next _))))
  show wpAny _ A.in1 (Builtin.Generator.genWake (.ref a) (.send .none)) _ _ s; unfold Builtin.Generator.genWake
  refine wpAny_bind (wpAny_holding (wpAny_genNumber hg (wpAny_bind (wpAny_genState hgs ?_)))); have hr0 := hr
  cases gs with
  | running => exact hr.elim
  | finished => exact hr.elim
  | _ =>
    refine wpAny_bind (wpAny_roomToWake hl hroom ?_); show wpAny _ A.in1 (.resume g (.send .none) [] _) _ _ s
    refine wpAny_wake hgs hr0 fun e s₁ he => ?_
    cases e with
    | susp v gg l k c p fs =>
      obtain ⟨q1, q2⟩ := hY v gg l k c p fs s₁ he
      exact ⟨q1, wpAny_pure ⟨v, rfl, wpAny_pure q2⟩⟩
    | ret r =>
      refine ⟨rfl, ?_⟩
      obtain ⟨hx, hp⟩ := hR r s₁ he
      have hres : End.result (.ret r) = .returned .none := by rcases hx with z | z <;> rw [z] <;> rfl
      first | rw [hres] | simp only [hres]
      show wpAny _ A.in1 (newExc (.type "StopIteration") [] >>= _) _ _ _; refine wpAny_bind ?_
      simp only [newExc, newTuple]; refine wpAny_bind (wpAny_newObj_type ?_ (by size_fits))
      refine wpAny_bind (m := firstArgMember _ _) (wpAny_of_eq (a := Value.none) (by first | rfl | (simp only [firstArgMember]; rfl)) ?_); refine wpAny_newObj_type ?_ (by size_fits)
      simp only [raiseNew]; refine wpAny_bind (wpAny_bind (wpAny_handled ?_))
      first | rw [show A.in1.handled = none from hh] | rw [hh]
      refine wpAny_throw ?_
      refine wpAny_bind (wpAny_isInstance (T := "StopIteration") (b := true) ⟨_, Heap.get?_push_size _ rfl, rfl⟩ isSubtype_stop ?_); exact wpAny_pure (hp _ fun b o hb => Heap.get?_push_of_some _ (Heap.get?_push_of_some _ hb))
/-! the call -/
structure Nm where
  N : List Str
  qual : Str
  scope : Scope
  f : Addr
  cd : Value
def gnOf (P : Program) (w : World) (K : PySem.W.Frag) (mg : Str → Option Value) (base : Heap) (outer : List Env) (n0 : Nat) (q : Nm) (pn : List (Addr × Obj)) (A : Around) : Gn :=
  { P := P, w := w, K := K, mg := mg, base := base, N := q.N, qual := q.qual, scope := q.scope, f := q.f, cd := q.cd, A := A, outer := outer, n0 := n0, pn := pn }
/-- what a call gives -/
structure Made (P : Program) (w : World) (K : PySem.W.Frag) (mg : Str → Option Value) (base : Heap) (k : Nat) (outer : List Env) (H : Hp) (s : Shared) (m : Nat) (Yd : Nat → V → Hp → Prop) (En : Hp → Prop) (q : Nm) (a : Addr) (g : Nat) (c : Code) (ob : Obj) (s' : Shared) : Prop where
  young : s.heap.objs.size < a
  at_ : s'.heap.get? a = some ob
  gen : ∀ h : Heap, h.get? a = some ob → h.IsGen a g
  nocell : ∀ v, ob.data ≠ .cell v
  fresh : s'.gens[g]? = some (.fresh c)
  os : s'.os = s.os
  bare : AllBare s'.gens
  keep : ∀ b o, s.heap.get? b = some o → s'.heap.get? b = some o
  ok : ∀ A, (gnOf P w K mg base outer s.heap.objs.size q [(a, ob)] A).Ok
  nocells : ∀ x, (cellsFrom (s.heap.objs.size + 1) q.scope.names []).lookup x = none
  none_ : H a = none
  start : ∀ A s2 H2, Room k A → A.frames = some outer → Wake (gnOf P w K mg base outer s.heap.objs.size q [(a, ob)] A) s' H s2 H2 → S1 (model P w) A (Go (gnOf P w K mg base outer s.heap.objs.size q [(a, ob)] A) Yd En m s2 H2) c ((model P w).den c) [] s2
abbrev SpG2 := List V → Hp → Nat → (Nat → V → Hp → Prop) → (Hp → Prop) → Prop
structure GFn2 (P : Program) (w : World) (K : PySem.W.Frag) (mg : Str → Option Value) (base : Heap) (k : Nat) (f : Addr) (fd : FuncData) (ps : List Str) (sp : SpG2) : Prop where
  len : ∀ vs H m Yd En, sp vs H m Yd En → vs.length = ps.length
  run : ∀ (A : Around) (outer : List Env) (s : Shared) (H : Hp) (args : Args) (us : List Value) (vs : List V) (m : Nat) (Yd : Nat → V → Hp → Prop) (En : Hp → Prop), Room k A → Env0 P w K mg base A outer s H → BindsTo s fd args (ps.zip us) → Vals vs us → sp vs H m Yd En →
    codeAny (model P w) A (.call (.ref f) args) (fun r s' => ∃ q a g c ob, r = .ok (.ret (.ref a)) ∧ Made P w K mg base k outer H s m Yd En q a g c ob s') s
theorem cut_self {h : Heap} : cut h.objs.size h = h := by
  unfold cut
  rw [Array.extract_size]
theorem gfn2_of {P : Program} {w : World} {K : PySem.W.Frag} {mg : Str → Option Value} {base : Heap} {k : Nat} {f : Addr} {name qual : Str} {params : Arguments} {body : List Stmt} {scope : Scope} {dV kV doc pm cdv ct oc : Value} {an od : Option Addr}
    {osl : Array (Option Value)} {N ps : List Str} {sp : SpG2} (lk : K.lookup f = some ⟨oc, od, .func (PySem.W.fnOf name qual params body scope dV kV doc pm an cdv ct), osl⟩) (hcd : PySem.W.codeIn K cdv qual = true) (S : GScope N ps scope)
    (hcl : ∀ n x, (cellsFrom n scope.names []).lookup x = none)
    (len : ∀ vs H m Yd En, sp vs H m Yd En → vs.length = ps.length)
    (hbody : ∀ (G : Gn) (vs : List V) (H : Hp) (m : Nat) (Yd : Nat → V → Hp → Prop) (En : Hp → Prop), G.P = P → G.w = w → G.K = K → G.mg = mg → G.base = base → G.N = N → G.qual = qual → G.scope = scope → G.f = f → G.cd = cdv → G.Ok → Room k (G.A.deeper G.env) → sp vs H m Yd En →
      ∃ t, GSs2 G Yd En body t ∧ ∀ H2, Same H H2 → t { nx := fun m Hw _ H' => m = 0 ∧ Same Hw H' ∧ En H', rt := fun m Hw v H' => v = .non ∧ m = 0 ∧ Same Hw H' ∧ En H' } m H2 (start N vs) H2) :
    GFn2 P w K mg base (k + 1) f (PySem.W.fnOf name qual params body scope dV kV doc pm an cdv ct) ps sp := by
  refine ⟨len, fun A outer s H args us vs m Yd En hr e0 hb r hsp => ?_⟩
  have hl := len _ _ _ _ _ hsp
  have KX : K.In s.heap := e0.mod.kin.keeps fun b o e => (e0.bs b o e).1; have lim : s.heap.NoLimit := e0.mod.nolimit.keeps fun b o e => (e0.bs b o e).1
  have hkind : ∀ y ∈ ps.zip us, scope.names.lookup y.1 = some .local ∨ (scope.names.lookup y.1 = some .cell ∧ ((cellsFrom (s.heap.objs.size + 1) scope.names []).lookup y.1).isSome = true) := fun ⟨n, v⟩ hy => (S.par n (List.of_mem_zip hy).1).imp id fun q => ⟨q, PySem.W.cellsFrom_some _ _ _ (.inl q)⟩
  refine codeAny_call_generator hr.depth (KX _ _ lk) rfl S.co S.gen rfl (PySem.W.codeRec_of KX hcd) (hb _ _ _ _ ?_); refine wpAny_newFunctionEnv_cells S.kind hkind fun env he s1 x => ?_
  subst he
  have lim1 : s1.heap.NoLimit := lim.keeps x.toInCall.keep
  refine ⟨lim1, ?_⟩
  obtain ⟨h1, tk, es1, hk1⟩ := x.done
  have lt1 : s.heap.objs.size < s1.heap.objs.size := x.toInCall.ns.lt; have kp1 := x.toInCall.keep
  generalize hgo : ({ cls := .type "generator", data := _ } : Obj) = go
  have hgc : go.cls = .type "generator" := by rw [← hgo]
  have hgd : ∀ v, go.data ≠ .cell v := by rw [← hgo]; intro v z; cases z
  have hpu : ∀ h : Heap, (h.push go).get? h.objs.size = some go := by rw [← hgo]; exact fun h => Heap.get?_push_size _ rfl
  have hgen : ∀ h : Heap, h.get? s1.heap.objs.size = some go → h.IsGen s1.heap.objs.size s1.gens.size := by rw [← hgo]; exact fun h e => ⟨_, _, _, e, rfl, rfl, rfl⟩
  clear hgo
  have Gok : ∀ Aw, (gnOf P w K mg base outer s.heap.objs.size ⟨N, qual, scope, f, cdv⟩ [(s1.heap.objs.size, go)] Aw).Ok := fun Aw => ⟨e0.bsz, fun b hb => by
    obtain ⟨_, o, ho, _⟩ := e0.funs.mem hb
    exact Heap.lt_size ho, fun y c e => by
    have z : (cellsFrom (s.heap.objs.size + 1) scope.names []).lookup y = some c := e
    rw [hcl] at z
    cases z⟩
  refine ⟨⟨N, qual, scope, f, cdv⟩, s1.heap.objs.size, s1.gens.size, _, go, rfl, ⟨lt1, hpu _, hgen, hgd, Array.getElem?_push_size .., by rw [es1], ?_, fun b o e => Heap.get?_push_of_some _ (kp1 b o e), Gok, fun y => hcl _ y, ?_, fun Aw s2 H2 hrw hfr wk => ?_⟩⟩
  · exact AllBare.push (by rw [es1]; exact e0.bare) rfl
  · exact e0.hok.fresh (Nat.le_of_lt lt1)
  have e0w : Env0 P w K mg base Aw outer s H := ⟨hfr, e0.mod, e0.bs, e0.bsz, e0.funs, e0.frf, e0.hok, e0.bare⟩
  have I1 : Inv (gcxOf P w K mg base N qual scope f cdv Aw outer s H E0 []) [] (start N vs) H s1 := inv_startG S hrw.hd e0w hl r x
  generalize hs' : ({ s1 with gens := _, toks := _, heap := _ } : Shared) = s' at wk
  have ks' : ∀ b o, s1.heap.get? b = some o → s'.heap.get? b = some o := by rw [← hs']; exact fun b o e => Heap.get?_push_of_some _ e
  have os' : s'.os = s1.os := by rw [← hs']
  have at' : s'.heap.get? s1.heap.objs.size = some go := by rw [← hs']; exact hpu _
  have ba' : AllBare s'.gens := by rw [← hs']; exact AllBare.push (by rw [es1]; exact e0.bare) rfl
  have I2 : Inv (gcxOf P w K mg base N qual scope f cdv Aw outer s H E0 []) [] (start N vs) H s' := I1.call' (ch := []) os' (Un.kept ks') (I1.hok.kept ks') ba' fun b z => by simp at z
  clear hs'
  have I3 : Inv ((gnOf P w K mg base outer s.heap.objs.size ⟨N, qual, scope, f, cdv⟩ [(s1.heap.objs.size, go)] Aw).cx s H) [] (start N vs) H s' := by
    have ec : ({ s with heap := cut s.heap.objs.size s.heap } : Shared) = s := by rw [cut_self]
    have ex : (gnOf P w K mg base outer s.heap.objs.size ⟨N, qual, scope, f, cdv⟩ [(s1.heap.objs.size, go)] Aw).cx s H = { gcxOf P w K mg base N qual scope f cdv Aw outer s H E0 [] with pn := [(s1.heap.objs.size, go)], xe := fun _ _ => False } := by
      show ({ prog := P, w := w, K := K, mg := mg, base := base, A := _, N := N, s_0 := ({ s with heap := cut s.heap.objs.size s.heap } : Shared), H_0 := H, env := _, outer := outer, stack := _, ex := [], calm := true, fn := fun _ => true, pn := _, xe := fun _ _ => False } : Cx) = _
      rw [ec]
      rfl
    rw [ex]
    refine ⟨⟨I2.ok.mod, I2.ok.kind, I2.ok.glob, I2.ok.blt, I2.ok.above, I2.ok.inj, I2.ok.has, I2.ok.cab, I2.ok.hd, I2.ok.frames, I2.ok.stk, I2.ok.exf, I2.ok.bs, I2.ok.bsz, I2.ok.noex, I2.ok.exfs, I2.ok.funs, I2.ok.frf⟩, I2.os, I2.bare, I2.base, I2.loc, I2.cell, I2.free, I2.freeC, fun p hp => ?_, I2.hok, I2.len⟩
    have hp' : p ∈ [(s1.heap.objs.size, go)] := by simpa using hp
    rw [List.mem_singleton.mp hp']
    exact ⟨at', I1.hok.fresh (Nat.le_refl _), Nat.ne_of_gt lt1, I1.nofs (Nat.le_refl _), hgd⟩
  have I4 := woken (Gok Aw) I3 wk
  obtain ⟨t, ht, hq⟩ := hbody (gnOf P w K mg base outer s.heap.objs.size ⟨N, qual, scope, f, cdv⟩ [(s1.heap.objs.size, go)] Aw) vs H m Yd En rfl rfl rfl rfl rfl rfl rfl rfl rfl rfl (Gok Aw) (hrw.deeper _) hsp
  refine s1_func ?_
  refine ht.run _ [] _ _ id id m s2 H2 s2 (start N vs) H2 _ ⟨GenW.over_func, rfl, rfl, rfl⟩ (fun m' s₀ Hw s3 fl hs => ?_) I4 (hq H2 wk.same)
  cases fl with
  | next =>
    obtain ⟨σ', H', I', rfl, sm, en⟩ := hs
    exact s1_end (.ok (.ret .none)) ⟨.inl rfl, σ', H', I', sm, en⟩
  | brk => obtain ⟨_, _, _, z⟩ := hs; exact z.elim
  | cont => obtain ⟨_, _, _, z⟩ := hs; exact z.elim
  | ret u =>
    obtain ⟨v, σ', H', I', rv, ev, rfl, sm, en⟩ := hs
    subst ev
    have eu : u = Value.none := rv
    subst eu
    exact s1_end (.ok (.ret .none)) ⟨.inl rfl, σ', H', I', sm, en⟩
end GenZ
/-! for x in f(..), f a generator def, where the body makes objects alone -/
namespace GenZ
open PySem PySem.Spec PyProof.Rows L2
open Sem (wp)
theorem inv_sw {X : Cx} {pins : List (Addr × Obj)} {σ : L2.St} {H : Hp} {s : Shared} (I : Inv X pins σ H s) {G : Array GenState} (b : AllBare G) : Inv X pins σ H (sw s G) :=
  ⟨I.ok, I.os, b, I.base, I.loc, I.cell, I.free, I.freeC, I.pin, I.hok, I.len⟩
theorem inv_kept {X : Cx} {pins : List (Addr × Obj)} {σ : L2.St} {H : Hp} {s s1 s' : Shared} (I : Inv X pins σ H s1) (k : Kept s s1 s') (b : AllBare s.gens) : Inv X pins σ H s' := by
  rw [k.same]
  exact inv_sw I (k.bare b I.bare)
/-- behind a stretch of the generator its walker stands as before -/
theorem back {X : Cx} {pins : List (Addr × Obj)} {σ σg : L2.St} {H H1 : Hp} {s s0 s₁ : Shared} {G : Gn} (I : Inv X pins σ H s) (Ig : Inv (G.cx s0 H) [] σg H1 s₁) (hP : G.P = X.prog) (hw : G.w = X.w) (ho : G.outer = X.stack) (h0 : s0.heap = s.heap) (h0o : s0.os = s.os)
    (hL : X.env.locals < G.n0) (hc : ∀ x c, X.env.cells.lookup x = some c → c < G.n0) (hp : ∀ p ∈ X.pn ++ pins, p.1 < G.n0) (hz : X.s_0.heap.objs.size ≤ G.n0) : Inv X pins σ H1 s₁ := by
  obtain ⟨hh, gg, dd, tt, oo⟩ := s₁
  have eo : oo = s.os := (show oo = s0.os from Ig.os).trans h0o
  subst eo
  generalize hch : (List.range s.heap.objs.size).filter (fun b => decide (G.n0 ≤ b)) = ch
  have inch : ∀ b, b ∈ ch → G.n0 ≤ b := fun b hb => by
    rw [← hch] at hb
    exact of_decide_eq_true (List.mem_filter.mp hb).2
  have low : ∀ b o, b ∉ ch → s.heap.get? b = some o → (G.cx s0 H).s_0.heap.get? b = some o := fun b o hb e => by
    have l : b < G.n0 := by
      refine Nat.lt_of_not_le fun z => hb ?_
      rw [← hch]
      exact List.mem_filter.mpr ⟨List.mem_range.mpr (Heap.lt_size e), decide_eq_true z⟩
    show (cut G.n0 s0.heap).get? b = some o
    rw [cut_get l, h0]
    exact e
  have Lch : X.env.locals ∉ ch := fun z => Nat.lt_irrefl _ (Nat.lt_of_lt_of_le hL (inch _ z))
  have nx : ∀ b : Addr, b ∉ (G.cx s0 H).ex := fun b z => absurd (show b ∈ ([] : List Addr) from z) (by simp)
  have un := Ig.base
  have fs : (G.cx s0 H).fs = frs X.stack := by
    show frs G.outer = _
    rw [ho]
  refine I.step (ch := ch) (g' := gg) (t' := tt) (d' := dd) (fun b hb => ⟨.inr (Nat.le_trans hz (inch b hb)), fun z => Lch (z ▸ hb), fun x c e z => ?_, fun p hp' z => ?_⟩) (fun b o nL nf nc e n => ?_) (fun b o nL inf nc e n => ?_) (fun b o nc e n => ?_) (fun b o nc e => ?_) un.tups un.frzs un.tbls (fun m hm => ?_) ?_ Ig.bare
  · have z1 := hc x c e
    rw [z] at z1
    exact Nat.lt_irrefl _ (Nat.lt_of_lt_of_le z1 (inch b hb))
  · have z1 := hp p hp'
    rw [z] at z1
    exact Nat.lt_irrefl _ (Nat.lt_of_lt_of_le z1 (inch b hb))
  · refine un.keep b o (low b o nc e) n (fun z => ?_) (nx b)
    rw [fs] at z
    rcases List.mem_cons.mp (I.stkSub b z) with q | q
    · exact nL q
    · exact nf q
  · refine un.slot b o (low b o nc e) n ?_ (nx b)
    rw [fs]
    rcases I.ok.stk with z | ⟨z, hf⟩
    · rw [z]; exact inf
    · rw [z]
      unfold frs
      rw [List.filterMap_cons, hf]
      exact List.mem_cons_of_mem _ inf
  · exact un.free b o (low b o nc e) n (nx b)
  · exact un.there b o (low b o nc e) (nx b)
  · obtain ⟨o, es, ep, ho', r⟩ := hm
    obtain ⟨sl, e1⟩ := un.any (low _ o Lch ho') I.free (nx _)
    exact ⟨_, es, ep, e1, r⟩
  · have z : HOk G.P G.w H1 hh := Ig.hok
    rw [hP, hw] at z
    exact z
structure GCal (P : Program) (w : World) (K : PySem.W.Frag) (mg : Str → Option Value) (base : Heap) (k : Nat) (x : Str) (ps : List Str) (sp : SpG2) : Prop where
  ex : ∃ f fd, GFn2 P w K mg base k f fd ps sp ∧ mg x = some (.ref f) ∧ PySem.W.keepIn K (.ref f) = true ∧ Binds K fd ps []
def tForG (sp : SpG2) (t : TA) (g : TG) (tb : TS) : TS := fun D σ H => t σ H fun vs H1 => ∃ m Yd En, sp vs H1 m Yd En ∧ ∃ W : Nat → L2.St → Hp → Prop, W m σ H1 ∧
  (∀ j σ H2 x H3, W (j + 1) σ H2 → Same H2 H3 → Yd j x H3 → g x σ H3 fun σ' H4 => tb { nx := fun σ5 H5 => Same H3 H5 ∧ W j σ5 H5, ct := fun σ5 H5 => Same H3 H5 ∧ W j σ5 H5, bk := D.nx, rt := D.rt } σ' H4) ∧
  (∀ σ H2 H3, W 0 σ H2 → Same H2 H3 → En H3 → D.nx σ H3)
section
variable {X : Cx} {k : Nat} {x : Str} {ps : List Str} {sp : SpG2} {p pos pos' : Pos} {e tg : Expr} {es : List Expr} {body : List Stmt} {t : TA} {g : TG} {tb : TS}
theorem ps_forG (hX : X.xe = fun _ _ => False) (c : GCal X.prog X.w X.K X.mg X.base k x ps sp) (hr : Room (k + 1) X.A) (ha : PA X (e :: es) t) (hg : PG X tg g) (hb : PSs X body tb) (gl : Gl X x := by rfl) (hdb : (x == ("__debug__" : Str)) = false := by decide)
    (he : starEach (e :: es) X.env = (false, eval e X.env) :: starEach es X.env := by rfl) (hpl : (backTo pos' (starEach es X.env)).any (·.1) = false := by rfl) (hs : ∀ v, foldedSetIterable (.Call (.Name x p) (e :: es) [] pos') X.env v = pure v := by intro _; rfl) (ht : ∀ it v, letOwnedTupleGo tg it v = pure () := by intro _ _; rfl) :
    PS X (.For tg (.Call (.Name x p) (e :: es) [] pos') body [] pos) (tForG sp t g tb) := by
  obtain ⟨f, fd, F, hm, kp, hbd⟩ := c.ex
  have hp : PassesOwn (model X.prog X.w) X.A X.env X.xe := by rw [hX]; exact PassesOwn.never
  have noX : ∀ v s, ¬ X.xe v s := fun v s => by rw [hX]; exact id
  refine ⟨fun pins s σ H D I h => ?_⟩
  refine wpAny_For (wpAny_Call_Name_kw (ld_glob I gl hm ?_ hdb)) hs
  refine PySem.W.callWith_K (h₀ := X.base) I.ok.mod.kin kp (thn (ha.run pos' pins s σ H _ I h) ?_) he hpl
  rintro us s1 ⟨vs, H1, I1, r, m, Yd, En, hsp, W, w0, turn, fin⟩
  refine ⟨I1.kIn, ?_⟩
  have hl : us.length = ps.length := by rw [← r.length]; exact F.len _ _ _ _ _ hsp
  have bt : BindsTo s1 fd ⟨us, []⟩ (ps.zip us) := by simpa using hbd s1 us I1.kIn (by simpa using hl)
  refine wpAny_call (codeAny_mono (F.run X.A X.stack s1 H1 ⟨us, []⟩ us vs m Yd En (hr.mono (Nat.le_succ k)) I1.env0 bt r hsp) fun res s' z => ?_)
  obtain ⟨q, a, gi, cc, ob, rfl, md⟩ := z
  have hL : X.env.locals < s1.heap.objs.size := I1.lt
  have hcl : ∀ x c, X.env.cells.lookup x = some c → c < s1.heap.objs.size := fun x c e => by
    obtain ⟨v, o, ho, _⟩ := I1.cell x c e
    exact Heap.lt_size ho
  have hpi : ∀ p ∈ X.pn ++ pins, p.1 < s1.heap.objs.size := fun p hp => Heap.lt_size (I1.pin p hp).1
  have hz := I1.sz
  have hLn : H1 s1.heap.objs.size = none := I1.hok.fresh (Nat.le_refl _)
  have nfs : ∀ b, s1.heap.objs.size ≤ b → b ∉ X.fs := fun b hb => I1.nofs hb
  have I2 : Inv X pins σ H1 s' := I1.call' (ch := []) md.os (Un.kept md.keep) (I1.hok.kept md.keep) md.bare fun b z => by simp at z
  have frA : X.A.in1.frames = some X.stack := I1.ok.frames
  generalize hG : gnOf X.prog X.w X.K X.mg X.base X.stack s1.heap.objs.size q [(a, ob)] X.A.in1 = G
  have gP : G.P = X.prog := by rw [← hG]; rfl
  have gw : G.w = X.w := by rw [← hG]; rfl
  have gA : G.A = X.A.in1 := by rw [← hG]; rfl
  have go : G.outer = X.stack := by rw [← hG]; rfl
  have gn : G.n0 = s1.heap.objs.size := by rw [← hG]; rfl
  have gpn : G.pn = [(a, ob)] := by rw [← hG]; rfl
  have gown : ∀ b, G.own b → b = s1.heap.objs.size ∨ b = a := fun b h => by
    rw [← hG] at h
    rcases h with h | ⟨y, h⟩ | ⟨o, h⟩
    · exact .inl h
    · have z : (cellsFrom (s1.heap.objs.size + 1) q.scope.names []).lookup y = some b := h
      rw [md.nocells] at z
      cases z
    · have z : (b, o) ∈ [(a, ob)] := h
      have z2 : (b, o) = (a, ob) := List.mem_singleton.mp z
      cases z2
      exact .inr rfl
  have ge0 : ∀ {σ' : L2.St} {H' : Hp} {pins' : List (Addr × Obj)} {s2 : Shared} {x : GenState}, Inv X pins' σ' H' s2 → x.bare = true → Env0 G.P G.w G.K G.mg G.base G.A G.outer (s2.setGen gi x) H' := fun {σ' H' pins' s2 x} I hx => by
    rw [← hG]
    have z := I.env0
    exact ⟨frA, z.mod, z.bs, z.bsz, z.funs, z.frf, z.hok, allBare_setGen z.bare hx⟩
  have start : S1 (model X.prog X.w) X.A.in1 (Go G Yd En m (s'.setGen gi .running) H1) cc ((model X.prog X.w).den cc) [] (s'.setGen gi .running) := by
    rw [← hG]
    refine md.start X.A.in1 _ H1 hr.in1 frA ⟨rfl, Same.refl _, ?_, fun b o ob' e => ⟨e, ?_⟩⟩
    · rw [hG]; exact ge0 I2 rfl
    · rcases gown b (by rw [← hG]; exact ob') with z | z
      · rw [z]; exact hLn
      · rw [z]; exact md.none_
  have aL : s1.heap.objs.size < a := md.young
  show wpAny _ _ (pyIter (.ref a)) _ _ s'
  refine wpAny_pyIter_gen (md.gen _ md.at_) ?_
  refine codeAny_forLoop (fun j s3 => ∃ σ3 H3 gs, Inv X pins σ3 H3 s3 ∧ W j σ3 H3 ∧ s3.gens[gi]? = some gs ∧ Ready (model X.prog X.w) X.A.in1 (Go G Yd En j (s3.setGen gi .running) H3) (s3.setGen gi .running) gs ∧ s3.heap.get? a = some ob ∧ H3 a = none) ?_ m ⟨σ, H1, .fresh cc, I2, w0, md.fresh, start, md.at_, md.none_⟩ (ht _)
  rintro j s3 ⟨σ3, H3, gs, I3, w3, hgs, rdy, ha3, hn3⟩
  have hgl : gi + 1 ≤ s3.gens.size := (Array.getElem?_eq_some_iff.mp hgs).1
  refine wpAny_passesOwn hp (GenW.wpAny_gsz hgl (next1 (hr.hd) I3.nolimit (by have := hr.dp; omega) (md.gen _ ha3) hgs rdy (fun v gg l k c p fs s₁ hgo => ?_) (fun r s₁ hgo => ?_)))
  · cases j with
    | zero =>
      obtain ⟨z, _⟩ := hgo
      rcases z with z | z <;> cases z
    | succ j' =>
      obtain ⟨v', g', l', k', c', p', fs', ee, hq, x, σg, H4, rv, Ig, sm, yd, kap⟩ := hgo
      cases ee
      refine ⟨hq, fun hsz => ?_⟩
      have hsz1 : gi < s₁.gens.size := by
        rw [GenW.setGen_size] at hsz
        exact hsz
      have I4 : Inv X pins σ3 H4 s₁ := back I3 Ig gP gw go rfl rfl (by rw [gn]; exact hL) (by rw [gn]; exact hcl) (by rw [gn]; exact hpi) (by rw [gn]; exact hz)
      obtain ⟨mL, ⟨oL, esL, epL, hoL, hdL, _⟩, _⟩ := Ig.loc
      have eL : (G.cx (s3.setGen gi .running) H3).env.locals = s1.heap.objs.size := by
        show G.n0 = _
        exact gn
      rw [eL] at hoL
      have hnL : H4 s1.heap.objs.size = none := by
        have z := Ig.free
        rw [eL] at z
        exact z
      have pA : s₁.heap.get? a = some ob ∧ H4 a = none := by
        have z := Ig.pin (a, ob) (List.mem_append_left _ (by show (a, ob) ∈ G.pn; rw [gpn]; exact List.mem_singleton.mpr rfl))
        exact ⟨z.1, z.2.1⟩
      have slp : Slp (End.susp v gg l k c p fs).genState := ⟨_, _, _, _, _, _, rfl⟩
      have bgs : (End.susp v gg l k c p fs).genState.bare = true := End.bare_of_quiet hq
      have rdy' : ∀ (s4 : Shared) (H5 : Hp), Wake G s₁ H4 (s4.setGen gi .running) H5 → Ready (model X.prog X.w) X.A.in1 (Go G Yd En j' (s4.setGen gi .running) H5) (s4.setGen gi .running) (End.susp v gg l k c p fs).genState := fun s4 H5 wk => by
        have z := kap (s4.setGen gi .running) H5 wk
        rw [gP, gw, gA] at z
        exact z
      generalize (End.susp v gg l k c p fs).genState = gs' at *
      have hg4 : (s₁.setGen gi gs').gens[gi]? = some gs' := setGen_at hsz1
      have b4 : AllBare (s₁.setGen gi gs').gens := allBare_setGen I4.bare bgs
      have I4' : Inv X pins σ3 H4 (s₁.setGen gi gs') := inv_sw I4 b4
      have I5 : Inv X (pins ++ [(s1.heap.objs.size, oL), (a, ob)]) σ3 H4 (s₁.setGen gi gs') := I4'.pins_of fun p hp' => by
        rcases List.mem_append.mp hp' with z | z
        · exact I4'.pin p (List.mem_append_right _ z)
        · simp only [List.mem_cons, List.not_mem_nil, or_false] at z
          rcases z with rfl | rfl
          · exact ⟨hoL, hnL, Nat.ne_of_gt hL, nfs _ (Nat.le_refl _), fun v z => by rw [hdL] at z; cases z⟩
          · exact ⟨pA.1, pA.2, Nat.ne_of_gt (Nat.lt_trans hL aL), nfs _ (Nat.le_of_lt aL), md.nocell⟩
      generalize hs4 : s₁.setGen gi gs' = s4 at *
      have os4 : s4.os = s₁.os := by rw [← hs4]; rfl
      -- the name is set, then the body runs
      refine wpAny_passesOwn hp (wpAny_mono (wpAny_veil (hg.run _ (veil s4) σ3 H4 x v _ (inv_sw I5 (bare_veil b4)) rv (turn j' σ3 H3 x H4 w3 sm yd))) (fun _ s5 ⟨t5, k5, σ6, H6, I6, q6⟩ => ?_) fun v s ⟨_, _, z⟩ => absurd z (noX _ _))
      have I6 := inv_kept I6 k5 b4
      have hg5 := k5.slept gi gs' hg4 slp
      refine wpAny_passesOwn hp (wpAny_mono (wpAny_veil (hb.run _ (veil s5) σ6 H6 _ (inv_sw I6 (bare_veil I6.bare)) q6)) (fun f s7 ⟨t7, k7, q7⟩ => ?_) fun v s ⟨_, _, z⟩ => absurd z (noX _ _))
      have hg7 := k7.slept gi gs' hg5 slp
      have b5 := I6.bare
      have again : ∀ {σ7 : L2.St} {H7 : Hp}, Inv X (pins ++ [(s1.heap.objs.size, oL), (a, ob)]) σ7 H7 t7 → Same H4 H7 ∧ W j' σ7 H7 → ∃ m', m' < j' + 1 ∧ ∃ σ3 H3 gs, Inv X pins σ3 H3 s7 ∧ W m' σ3 H3 ∧ s7.gens[gi]? = some gs ∧ Ready (model X.prog X.w) X.A.in1 (Go G Yd En m' (s7.setGen gi .running) H3) (s7.setGen gi .running) gs ∧ s7.heap.get? a = some ob ∧ H3 a = none := fun {σ7 H7} I7 ⟨sm7, w7⟩ => by
        have I7 := inv_kept I7 k7 b5
        have pL7 := I7.pin (s1.heap.objs.size, oL) (List.mem_append_right _ (List.mem_append_right _ List.mem_cons_self))
        have pA7 := I7.pin (a, ob) (List.mem_append_right _ (List.mem_append_right _ (List.mem_cons_of_mem _ List.mem_cons_self)))
        refine ⟨j', Nat.lt_succ_self _, σ7, H7, gs', I7.unpinned, w7, hg7, rdy' s7 H7 ⟨?_, sm7, ge0 I7 rfl, fun b o ob' e => ?_⟩, pA7.1, pA7.2.1⟩
        · show s7.os = s₁.os
          rw [I7.os, ← os4, I5.os]
        · rcases gown b ob' with rfl | rfl
          · rw [hoL] at e
            cases e
            exact ⟨pL7.1, pL7.2.1⟩
          · rw [pA.1] at e
            cases e
            exact ⟨pA7.1, pA7.2.1⟩
      cases f with
      | next => obtain ⟨σ7, H7, I7, n7⟩ := q7; exact again I7 n7
      | cont => obtain ⟨σ7, H7, I7, n7⟩ := q7; exact again I7 n7
      | brk => obtain ⟨σ7, H7, I7, n7⟩ := q7; exact ⟨σ7, H7, (inv_kept I7 k7 b5).unpinned, n7⟩
      | ret u => obtain ⟨x7, σ7, H7, I7, r7, n7⟩ := q7; exact ⟨x7, σ7, H7, (inv_kept I7 k7 b5).unpinned, r7, n7⟩
  · cases j with
    | succ j' =>
      obtain ⟨_, _, _, _, _, _, _, ee, _⟩ := hgo
      cases ee
    | zero =>
      obtain ⟨z, σg, H4, Ig, sm, en⟩ := hgo
      refine ⟨z.imp (fun z => by cases z; rfl) (fun z => by cases z; rfl), fun h' hk _ => ?_⟩
      have I4 : Inv X pins σ3 H4 s₁ := back I3 Ig gP gw go rfl rfl (by rw [gn]; exact hL) (by rw [gn]; exact hcl) (by rw [gn]; exact hpi) (by rw [gn]; exact hz)
      have I5 : Inv X pins σ3 H4 (s₁.setGen gi .finished) := inv_sw I4 (allBare_setGen I4.bare rfl)
      exact wpAny_execs_nil ⟨σ3, H4, I5.kept (t' := s₁.toks) hk, fin σ3 H3 H4 w3 sm en⟩
end
end GenZ
/-! generator defs by their names: for over them, list of them -/
namespace Pl
open PySem PySem.Spec PyProof.Rows L2 GenZ
/-- a generator def by its name, as the kit's list(g) wants it -/
structure CalL (P : Program) (w : World) (K : PySem.W.Frag) (mg : Str → Option Value) (base : Heap) (k : Nat) (x : Str) (ps : List Str) (sp : SpG) : Prop where
  ex : ∃ f fd, GFn P w K mg base k f fd ps sp ∧ mg x = some (.ref f) ∧ PySem.W.keepIn K (.ref f) = true ∧ Binds K fd ps []
section
variable {P : Program} {w : World} {K : PySem.W.Frag} {mg : Str → Option Value} {base : Heap} {x : Str} {st : Stmt} {N ps : List Str} {k : Nat}
theorem Df.gcal {sp : SpG2} (D : Df K mg x st ps) (S : GScope N ps (defScope st)) (hcl : ∀ n y, (cellsFrom n (defScope st).names []).lookup y = none) (len : ∀ vs H m Yd En, sp vs H m Yd En → vs.length = ps.length)
    (bod : ∀ (f : Addr) (cdv : Value) (A : Around) (out : List Env) (n0 : Nat) (pn : List (Addr × Obj)) (vs : List V) (H : Hp) (m : Nat) (Yd : Nat → V → Hp → Prop) (En : Hp → Prop),
      (Gn.mk P w K mg base N x (defScope st) f cdv A out n0 pn).Ok → Room k (A.deeper (envOfC x (defScope st) n0 f cdv)) → sp vs H m Yd En →
      ∃ t, GSs2 (Gn.mk P w K mg base N x (defScope st) f cdv A out n0 pn) Yd En (defBody st) t ∧ ∀ H2, Same H H2 → t { nx := fun m Hw _ H' => m = 0 ∧ Same Hw H' ∧ En H', rt := fun m Hw v H' => v = .non ∧ m = 0 ∧ Same Hw H' ∧ En H' } m H2 (start N vs) H2) :
    GCal P w K mg base (k + 1) x ps sp := by
  obtain ⟨f, fd, F, hm, hb⟩ := D.ex
  have kp := F.kp
  obtain ⟨oc, od, kV, doc, pm, an, cdv, ct, osl, rfl, lk, hcd⟩ := F.ex
  refine ⟨f, _, gfn2_of lk hcd S hcl len fun G vs H m Yd En e1 e2 e3 e4 e5 e6 e7 e8 e9 e10 go rm h => ?_, hm, kp, hb⟩
  obtain ⟨P', w', K', mg', base', N', q', sc', f', cd', A', out', n0', pn'⟩ := G
  obtain rfl : P' = P := e1
  obtain rfl : w' = w := e2
  obtain rfl : K' = K := e3
  obtain rfl : mg' = mg := e4
  obtain rfl : base' = base := e5
  obtain rfl : N' = N := e6
  obtain rfl : q' = x := e7
  obtain rfl : sc' = _ := e8
  obtain rfl : f' = f := e9
  obtain rfl : cd' = cdv := e10
  exact bod f' cd' A' out' n0' pn' vs H m Yd En go rm h
theorem Df.gcalL {sp : SpG} (D : Df K mg x st ps) (S : GScope N ps (defScope st)) (len : ∀ vs H Q E, sp vs H Q E → vs.length = ps.length)
    (bod : ∀ (f : Addr) (cdv : Value) (A : Around) (out : List Env) (s : Shared) (H : Hp) (vs : List V) (Q : List V → Hp → Prop) (E : XK) (pn : List (Addr × Obj)), Room k (A.deeper (envOfC x (defScope st) s.heap.objs.size f cdv)) → sp vs H Q E →
      ∃ t, GSs (gcxOf P w K mg base N x (defScope st) f cdv A out s H E pn) (defBody st) t ∧ t { nx := fun ys _ H' => Q ys H', rt := fun ys v H' => v = .non ∧ Q ys H' } [] (start N vs) H) : CalL P w K mg base (k + 1) x ps sp := by
  obtain ⟨f, fd, F, hm, hb⟩ := D.ex
  have kp := F.kp
  obtain ⟨oc, od, kV, doc, pm, an, cdv, ct, osl, rfl, lk, hcd⟩ := F.ex
  exact ⟨f, _, gfn_of lk hcd S len fun A out s H vs Q E pn rm h => bod f cdv A out s H vs Q E pn rm h, hm, kp, hb⟩
end
section
variable {X : Cx} {k : Nat} {x : Str} {ps : List Str} {sp : SpG} {p q pos pos' : Pos} {e : Expr} {es : List Expr} {t : TA}
theorem passE0 : Passes (CX X.prog X.w) X E0 := fun _ _ _ _ _ _ _ h => by
  obtain ⟨_, _, _, _, _, _, _, _, _, _, _, _, z⟩ := h
  exact z.elim
/-- list(x(e, ..)), x a generator def -/
theorem pe_listL (c : CalL X.prog X.w X.K X.mg X.base k x ps sp) (hr : Room (k + 3) X.A) (hml : X.mg "list" = none) (ha : PA X (e :: es) t) (hgl : Gl X "list" := by rfl) (hg : Gl X x := by rfl) (hdb : (x == ("__debug__" : Str)) = false := by decide)
    (he : starEach (e :: es) X.env = (false, eval e X.env) :: starEach es X.env := by rfl) (hpl : (backTo pos' (starEach es X.env)).any (·.1) = false := by rfl)
    (he1 : starEach [.Call (.Name x p) (e :: es) [] pos'] X.env = (false, eval (.Call (.Name x p) (e :: es) [] pos') X.env) :: starEach [] X.env := by rfl) :
    PE X (.Call (.Name "list" q) [.Call (.Name x p) (e :: es) [] pos'] [] pos) (tListG (tCallG sp [] E0 t)) := by
  obtain ⟨f, fd, F, hm, kp, hb⟩ := c.ex
  exact pe_listG (pgen_call F (hr.mono (by omega)) hg hm kp hb .nil ha hdb he hpl) passE0 (fun _ _ _ h => h.elim) hr hgl hml rfl (by decide) (by decide) he1
end
end Pl
/-! == of tuples whose items have an own ==, whatever comes out -/
namespace Pl
section
open PySem PySem.SeqAt
open AutoSeq1 (wpAny_loadPart')
open MeetsSeq MeetsSeq2 MeetsSeq3 SeqRoads2
variable {prog : Program} {w : World} {A : Around} {R : Result → Shared → Prop}
/-- item by item: either on, or it ends with False -/
theorem tup_walk (l b : Addr) (xs ys : Array Value) (n m : Nat) (dl db : Option Addr) (sa sb : Array (Option Value)) (J : Nat → Shared → Prop)
    (each : ∀ i (h1 : i < xs.size) (h2 : i < ys.size) s, J i s → wpAny (model prog w) A.in1 (eqBool xs[i] ys[i]) (fun r s' => (r = true → J (i + 1) s') ∧ (r = false → R (.ok (.ret (.bool false))) s')) (fun e s' => R (.error e) s') s)
    (last : ∀ s, J (min xs.size ys.size) s → R (.ok (.ret (.bool (xs.size == ys.size)))) s) {s : Shared} (gl : s.heap.get? l = some { cls := .type "tuple", dict := dl, data := .seq xs n, slots := sa }) (gb : s.heap.get? b = some { cls := .type "tuple", dict := db, data := .seq ys m, slots := sb }) (h : J 0 s) :
    wpAny (model prog w) A.in1 (Builtin.«tuple.__eq__» ⟨[.ref l, .ref b], []⟩) (GQ.FinOf prog w A R) (fun e s' => R (.error e) s') s := by
  have f2 := AutoSeq1.sub_tuple_tuple
  have hZ : (xs.toList.zip ys.toList).length = min xs.size ys.size := by simp
  have h0 := h
  obtain ⟨hp, g, d, tk, os⟩ := s
  wp_walk using wpAny_loadPart' gl, wpAny_loadPart' gb, wpAny_forIn_list _ (fun rest z s' => z.1 = none ∧ ∃ i, rest = (xs.toList.zip ys.toList).drop i ∧ i ≤ min xs.size ys.size ∧ J i s') _
  case turn =>
    rintro ⟨y, x⟩ rest z s' ⟨hz', i, hz, hi, hJ⟩
    have hlt : i < (xs.toList.zip ys.toList).length := by
      rcases Nat.lt_or_ge i (xs.toList.zip ys.toList).length with h' | h'
      · exact h'
      · rw [List.drop_of_length_le h'] at hz
        cases hz
    have hm : i < min xs.size ys.size := hZ ▸ hlt
    have h1 : i < xs.size := by omega
    have h2 : i < ys.size := by omega
    rw [List.drop_eq_getElem_cons hlt] at hz
    injection hz with hyx hrest
    have hy : y = xs[i] := by
      have := congrArg Prod.fst hyx
      simpa using this
    have hx : x = ys[i] := by
      have := congrArg Prod.snd hyx
      simpa using this
    subst hy hx
    refine wpAny_bind (wpAny_mono (each i h1 h2 s' hJ) (fun r s2 q2 => ?_) fun _ _ x => x)
    obtain ⟨qt, qf⟩ := q2
    cases r with
    | true =>
      wp_walk
      exact ⟨rfl, i + 1, hrest, hm, qt rfl⟩
    | false =>
      have q := qf rfl
      wp_walk
      first | exact ⟨_, rfl, q⟩ | exact q | simpa using q
  case fin =>
    rintro ⟨b1, b2⟩ s' ⟨hz', i, hz, hi, hJ⟩
    simp only at hz'
    subst hz'
    have hge : min xs.size ys.size ≤ i := by
      rcases Nat.lt_or_ge i (xs.toList.zip ys.toList).length with h' | h'
      · rw [List.drop_eq_getElem_cons h'] at hz
        cases hz
      · exact hZ ▸ h'
    have hi' : i = min xs.size ys.size := by omega
    have hR : R (.ok (.ret (.bool (xs.size == ys.size)))) s' := last s' (hi' ▸ hJ)
    wp_walk
    first | exact ⟨_, rfl, by simpa [Builtin.Tuple.tupleCompareSizes] using hR⟩ | simpa [Builtin.Tuple.tupleCompareSizes] using hR
  case h =>
    exact ⟨rfl, 0, rfl, Nat.zero_le _, h0⟩
variable {E : Value → Shared → Prop} {s : Shared}
theorem tup_cmp {l b : Addr} {xs ys : Array Value} {Q : Value → Shared → Prop} (hu : A.units < cLine) (J : Nat → Shared → Prop) (hl : s.heap.IsTuple l xs) (hb : s.heap.IsTuple b ys)
    (each : ∀ i (h1 : i < xs.size) (h2 : i < ys.size) s, J i s → wpAny (model prog w) A.in1 (eqBool xs[i] ys[i]) (fun r s' => (r = true → J (i + 1) s') ∧ (r = false → Q (.bool false) s')) E s)
    (last : ∀ s, J (min xs.size ys.size) s → Q (.bool (xs.size == ys.size)) s) (h : J 0 s) : wpAny (model prog w) A (richCompare .Eq (.ref l) (.ref b)) Q E s := by
  obtain ⟨⟨c1, d1, t1, s1⟩, o1, e1, n1, f1⟩ := id hl
  obtain ⟨⟨c2, d2, t2, s2⟩, o2, e2, n2, f2⟩ := id hb
  simp only at e1 f1 e2 f2
  subst e1 f1 e2 f2
  refine wpAny_richCompare_same_room (op := .Eq) ⟨_, o1, rfl⟩ ⟨_, o2, rfl⟩ F.slot_tuple_eq (GQ.call_here F.slot_tuple_eq ⟨_, o1, rfl⟩ F.entry_tuple_eq (F.args_tuple_eq_2 _ _) ?_) hu
  exact tup_walk (R := wants (fun v s' => v ≠ .notImplemented ∧ Q v s') E) l b xs ys n1 n2 d1 d2 s1 s2 J (fun i h1 h2 s' j => wpAny_mono (each i h1 h2 s' j) (fun r s2 q => ⟨q.1, fun e => ⟨(fun x => nomatch x), q.2 e⟩⟩) fun _ _ x => x) (fun s' q => ⟨(fun x => nomatch x), last s' q⟩) o1 o2 h
end
open PySem PySem.Spec PyProof.Rows L2
section
variable {X : Cx} {k : Nat} {C : Addr} {ps : List Str} {sp : Sp}
/-- own ==, somewhere below -/
theorem rcO_at (c : MCal X.prog X.w X.K X.mg X.base k C "__eq__" ps sp) {A : Around} (sb : Sub X k A) {pins : List (Addr × Obj)} {σ : L2.St} {H : Hp} {s : Shared} {a dx : Addr} {fs : List (Str × V)} {y : V} {u : Value} {Qb : Bool → Hp → Prop}
    (I : Inv X pins σ H s) (ea : H a = some (.ins C dx fs)) (ey : EqY X.K C H y) (ry : RelV y u) (q : sp [.ref a, y] H (fun v H' => ∃ r, v = .bl r ∧ Qb r H') E0) :
    wpAny (model X.prog X.w) A (richCompare .Eq (.ref a) u) (fun v s' => ∃ r, v = .bool r ∧ ∃ H', Inv X pins σ H' s' ∧ Qb r H') X.xe s := by
  obtain ⟨f, fd, F, h1, h2, kp, hb⟩ := c.ex
  obtain ⟨tb, lk, nf⟩ := ey.looks I ry
  obtain ⟨mA, O, _⟩ := ins_get I.hok ea
  obtain ⟨od, J, _⟩ := O.look
  obtain ⟨m, fr⟩ := I.fr
  have e0 : Env0 X.prog X.w X.K X.mg X.base A X.stack s H := by
    have e := I.env0
    exact ⟨by rw [sb.fr]; exact e.frames, e.mod, e.bs, e.bsz, e.funs, e.frf, e.hok, e.bare⟩
  refine PySem.W.cmp_K (op := .Eq) sb.room.units0 fr I.ok.mod.kin J lk nf h1 h2 ?_
  have hl : [V.ref a, y].length = ps.length := F.len _ _ _ _ q
  have bt : BindsTo s fd ⟨[.ref a, u], []⟩ (ps.zip [Value.ref a, u]) := by simpa using hb s [.ref a, u] I.kIn (by simpa using hl)
  refine wpAny_call (codeAny_mono (F.run A X.stack s H ⟨[.ref a, u], []⟩ [.ref a, u] [.ref a, y] _ E0 sb.room e0 bt (.cons rfl (.cons ry .nil)) q) ?_)
  intro res s' z
  match res, z with
  | .ok (.ret u'), z =>
    obtain ⟨v', H', J2, rv, r, rfl, q2⟩ := I.after z
    obtain rfl : u' = Value.bool r := rv
    exact ⟨r, rfl, H', J2, q2⟩
  | .ok .next, z => exact False.elim z
  | .ok .brk, z => exact False.elim z
  | .ok .cont, z => exact False.elim z
  | .error er, z => exact False.elim z
/-- tuples of instances of C, the i-th two equal where e says so -/
def rEqT (K : PySem.W.Frag) (C : Addr) (sp : Sp) : R2 := fun x y H Q => ∃ (a b : Addr) (ss tt : List Addr) (e : Nat → Bool), x = .ref a ∧ y = .ref b ∧ SqT K H a (ss.map V.ref) ∧ SqT K H b (tt.map V.ref) ∧
  (∀ i u v, ss[i]? = some u → tt[i]? = some v → (u = v → e i = true) ∧ (∃ dx fs, H u = some (.ins C dx fs)) ∧ (∃ dx fs, H v = some (.ins C dx fs)) ∧ sp [.ref u, .ref v] H (fun z H' => z = .bl (e i) ∧ H' = H) E0) ∧
  Q (.bl ((List.range (min ss.length tt.length)).all e && decide (ss.length = tt.length))) H
theorem mapRef {ss : List Addr} {its : List Value} (r : Vals (ss.map V.ref) its) : its = ss.map Value.ref := by
  induction ss generalizing its with
  | nil =>
    cases r
    rfl
  | cons u ss ih =>
    rw [List.map_cons] at r
    cases r with
    | cons r1 r2 =>
      obtain rfl := r1
      rw [ih r2]
      rfl
theorem op_eqT (c : MCal X.prog X.w X.K X.mg X.base k C "__eq__" ps sp) (im : ∀ vs H Q Q', (∀ v H', Q v H' → Q' v H') → sp vs H Q E0 → sp vs H Q' E0) (hr : Room (k + 1) X.A) : OpR X (compareOp .Eq) (rEqT X.K C sp) := by
  intro pins s σ H x y v u Q I rx ry h
  obtain ⟨a, b, ss, tt, e, rfl, rfl, ha, hb, one, q⟩ := h
  obtain rfl : v = Value.ref a := rx
  obtain rfl : u = Value.ref b := ry
  obtain ⟨i1, r1, e1, z1⟩ := I.tuple ha
  obtain ⟨i2, r2, e2, z2⟩ := I.tuple hb
  obtain rfl := mapRef r1
  obtain rfl := mapRef r2
  show wpAny (model X.prog X.w) X.A (richCompare .Eq (.ref a) (.ref b)) (EP X pins σ Q) X.xe s
  have sz1 : (ss.map Value.ref).toArray.size = ss.length := by simp
  have sz2 : (tt.map Value.ref).toArray.size = tt.length := by simp
  refine tup_cmp hr.units0 (fun i s' => Inv X pins σ H s' ∧ ∀ j, j < i → e j = true) e1 e2 (fun i l1 l2 s' j => ?_) (fun s' j => ?_) ⟨I, fun j hj => absurd hj (Nat.not_lt_zero _)⟩
  · rw [sz1] at l1
    rw [sz2] at l2
    obtain ⟨I1, tr⟩ := j
    have g1 : ss[i]? = some ss[i] := List.getElem?_eq_getElem l1
    have g2 : tt[i]? = some tt[i] := List.getElem?_eq_getElem l2
    have w1 : ((ss.map Value.ref).toArray)[i]'(by rw [sz1]; exact l1) = Value.ref ss[i] := by simp
    have w2 : ((tt.map Value.ref).toArray)[i]'(by rw [sz2]; exact l2) = Value.ref tt[i] := by simp
    rw [w1, w2]
    obtain ⟨same, ⟨dx, fs, eu⟩, ⟨dy, gs, ev⟩, spq⟩ := one i _ _ g1 g2
    have done : ∀ s2, Inv X pins σ H s2 → (e i = true → Inv X pins σ H s2 ∧ ∀ j, j < i + 1 → e j = true) ∧ (e i = false → EP X pins σ Q (.bool false) s2) := fun s2 I2 => by
      refine ⟨fun ei => ⟨I2, fun j hj => ?_⟩, fun ei => ⟨.bl false, H, I2, rfl, ?_⟩⟩
      · rcases Nat.lt_or_ge j i with l | l
        · exact tr j l
        · have : j = i := by omega
          rw [this]
          exact ei
      · have f : ((List.range (min ss.length tt.length)).all e && decide (ss.length = tt.length)) = false := by
          have z : (List.range (min ss.length tt.length)).all e = false := by
            rw [List.all_eq_false]
            exact ⟨i, List.mem_range.mpr (by omega), by rw [ei]; decide⟩
          rw [z, Bool.false_and]
        rw [← f]
        exact q
    by_cases hab : ss[i] = tt[i]
    · rw [← hab]
      have t := same hab
      have d := done s' I1
      rw [t] at d
      exact SeqAt.EqAt.same (A := X.A.in1) (s := s') (.ref ss[i]) X.prog X.w X.xe _ ⟨fun _ => d.1 rfl, fun z => nomatch z⟩
    · have sb : Sub X k X.A.in1 := ⟨hr.in1, rfl⟩
      refine GQ.eqBool_refG hab (wpAny_mono (rcO_at (Qb := fun r H' => r = e i ∧ H' = H) c sb I1 eu (.inl ⟨_, dy, gs, rfl, ev⟩) rfl (im _ _ _ _ (fun z H' ⟨z1, z2⟩ => ⟨e i, z1, rfl, z2⟩) spq)) (fun v2 s2 z => ?_) fun _ _ x => x)
      obtain ⟨r, rfl, H', I2, rfl, rfl⟩ := z
      exact ⟨e i, rfl, done s2 I2⟩
  · rw [sz1, sz2] at j ⊢
    obtain ⟨I1, tr⟩ := j
    refine ⟨.bl (ss.length == tt.length), H, I1, rfl, ?_⟩
    have z : (List.range (min ss.length tt.length)).all e = true := by
      rw [List.all_eq_true]
      exact fun j hj => tr j (List.mem_range.mp hj)
    rw [z, Bool.true_and] at q
    have d : (ss.length == tt.length) = decide (ss.length = tt.length) := by
      by_cases h : ss.length = tt.length
      · rw [decide_eq_true h, h]
        simp
      · rw [decide_eq_false h]
        simpa using h
    rw [d]
    exact q
end
end Pl
namespace Pl
namespace ZL
open PySem PySem.Spec PyProof.Rows L2
/-! zip(a, b, ..) of lists -/
def tiO (l : Addr) : Obj := { cls := .type "list_iterator", data := .fields #[.ref l, .int 0 0] }
/-- the iterators laid one after another -/
def itH (h : Heap) : List Addr → Heap
  | [] => h
  | l :: r => itH (h.push (tiO l)) r
def itV (n : Nat) : List Addr → List Value
  | [] => []
  | l :: r => .ref n :: itV (n + 1) r
theorem itH_keep : ∀ {ls : List Addr} {h : Heap} {b : Addr} {o : Obj}, h.get? b = some o → (itH h ls).get? b = some o
  | [], _, _, _, e => e
  | l :: r, h, b, o, e => itH_keep (ls := r) (Heap.get?_push_of_some _ e)
theorem itH_size : ∀ {ls : List Addr} {h : Heap}, (itH h ls).objs.size = h.objs.size + ls.length
  | [], _ => rfl
  | l :: r, h => by
    show (itH (h.push (tiO l)) r).objs.size = _
    rw [itH_size, Heap.size_push, List.length_cons]
    omega
theorem itH_at : ∀ {ls : List Addr} {h : Heap} {j : Nat} {l : Addr}, ls[j]? = some l → (itH h ls).get? (h.objs.size + j) = some (tiO l)
  | l :: r, h, 0, _, e => by
    cases e
    exact itH_keep (ls := r) (h := h.push (tiO l)) (Heap.get?_push_size _ rfl)
  | l :: r, h, j + 1, x, e => by
    have z := itH_at (ls := r) (h := h.push (tiO l)) (j := j) e
    rw [Heap.size_push] at z
    rw [show h.objs.size + (j + 1) = h.objs.size + 1 + j by omega]
    exact z
theorem itV_at : ∀ {ls : List Addr} {n j : Nat}, j < ls.length → (itV n ls)[j]? = some (.ref (n + j))
  | l :: r, n, 0, _ => rfl
  | l :: r, n, j + 1, h => by
    have z := itV_at (ls := r) (n := n + 1) (j := j) (by simpa using h)
    rw [show n + (j + 1) = n + 1 + j by omega]
    exact z
theorem itV_len : ∀ {ls : List Addr} {n : Nat}, (itV n ls).length = ls.length
  | [], _ => rfl
  | l :: r, n => by
    show (itV (n + 1) r).length + 1 = _
    rw [itV_len]
    rfl
section
variable {prog : Program} {w : World} {A : Around} {E : Value → Shared → Prop}
theorem iterAll_go {f : Value → Array Value → Sem (ForInStep (Array Value))} (hf : ∀ x a, f x a = (do let v ← holding a.toList (pyIter x); pure (.yield (a.push v)))) : ∀ (ls : List Addr) (acc : Array Value) (s : Shared) (Q : Array Value → Shared → Prop),
    (∀ l ∈ ls, ∃ xs, s.heap.IsList l xs) → Q (acc ++ (itV s.heap.objs.size ls).toArray) { s with heap := itH s.heap ls } → wpAny (model prog w) A (forIn (ls.map Value.ref) acc f) Q E s
  | [], acc, s, Q, _, h => by
    rw [List.map_nil, List.forIn_nil]
    refine wpAny_pure ?_
    have e : acc ++ (itV s.heap.objs.size []).toArray = acc := by simp [itV]
    rw [e] at h
    exact h
  | l :: r, acc, s, Q, ht, h => by
    rw [List.map_cons, List.forIn_cons, hf]
    obtain ⟨xs, hl⟩ := ht l List.mem_cons_self
    refine wpAny_bind (wpAny_bind (wpAny_holding (wpAny_pyIter_list hl (wpAny_pure ?_))))
    refine iterAll_go hf r _ _ Q (fun b hb => ?_) ?_
    · obtain ⟨ys, z⟩ := ht b (List.mem_cons_of_mem _ hb)
      exact ⟨ys, z.push _⟩
    · have e : (acc.push (Value.ref s.heap.objs.size)) ++ (itV (s.heap.push (tiO l)).objs.size r).toArray = acc ++ (itV s.heap.objs.size (l :: r)).toArray := by
        rw [Heap.size_push]
        apply Array.toList_inj.mp
        simp [itV]
      show Q ((acc.push (Value.ref s.heap.objs.size)) ++ (itV (s.heap.push (tiO l)).objs.size r).toArray) { s with heap := itH (s.heap.push (tiO l)) r }
      rw [e]
      exact h
theorem iterAll_wp {ls : List Addr} {s : Shared} {Q : List Value → Shared → Prop} (ht : ∀ l ∈ ls, ∃ xs, s.heap.IsList l xs) (h : Q (itV s.heap.objs.size ls) { s with heap := itH s.heap ls }) :
    wpAny (model prog w) A (Builtin.SmallTypes.iterAll (ls.map Value.ref)) Q E s := by
  unfold Builtin.SmallTypes.iterAll
  refine wpAny_bind (iterAll_go (fun x a => rfl) ls #[] s _ ht (wpAny_pure ?_))
  have e : (#[] ++ (itV s.heap.objs.size ls).toArray : Array Value).toList = itV s.heap.objs.size ls := by simp
  show Q (#[] ++ (itV s.heap.objs.size ls).toArray : Array Value).toList _
  rw [e]
  exact h
end
abbrev zN3 (h : Heap) (ls : List Addr) : Heap := (itH h ls).push { cls := .type "tuple", data := .seq (itV h.objs.size ls).toArray }
abbrev zN4 (h : Heap) (ls : List Addr) : Heap := (zN3 h ls).push { cls := .type "tuple", data := .seq ((itV h.objs.size ls).map fun _ => Value.none).toArray }
abbrev zN5 (h : Heap) (ls : List Addr) : Heap := (zN4 h ls).push { cls := .type "zip", data := .fields #[.none, .bool false, .bool false, .ref (itH h ls).objs.size, .ref (zN3 h ls).objs.size] }
theorem meets_zipN (ls : List Addr) (hn : ls.length ≤ 100) :
    Meets (Builtin.«zip.__new__» ⟨.type "zip" :: ls.map Value.ref, []⟩) (fun _ R s => (∀ l ∈ ls, ∃ xs, s.heap.IsList l xs) ∧ R (.ok (.ret (.ref (zN4 s.heap ls).objs.size))) { s with heap := zN5 s.heap ls }) :=
  .of_wp fun prog w A R s h => by
    obtain ⟨hp, g, d, tk, os⟩ := s
    obtain ⟨ht, h⟩ := h
    have ht : ∀ l ∈ ls, ∃ xs, Heap.IsList (Shared.heap ⟨hp, g, d, tk, os⟩) l xs := ht
    have hsub := sub_zip
    unfold Builtin.«zip.__new__»
    refine wpAny_bind (wpAny_of_eq (a := ((.type "zip" : Value), ls.map Value.ref)) ?_ ?_)
    · unfold Builtin.SmallTypes.newClass
      show (isType (.type "zip") >>= _) = _
      rw [show isType (.type "zip") = pure true from rfl]
      show (isSubtype (.type "zip") (.type "zip") >>= _) = _
      rw [hsub]
      rfl
    dsimp only
    rw [if_neg (by simp)]
    have z1 : (itV hp.objs.size ls).length ≤ sizeLine := by rw [itV_len]; exact Nat.le_trans hn (by decide)
    have z2 : ((itV hp.objs.size ls).map fun _ => Value.none).length ≤ sizeLine := by rw [List.length_map]; exact z1
    refine wpAny_bind (iterAll_wp ht (wpAny_bind (wpAny_newTuple (wpAny_bind (wpAny_newTuple (wpAny_bind ?_) z2)) z1)))
    show wpAny _ _ (newObj (.type "zip") (.fields #[.none, .bool false, .bool false, .ref (itH hp ls).objs.size, .ref (zN3 hp ls).objs.size])) _ _ _
    exact wpAny_newObj_type (wpAny_pure ⟨_, rfl, h⟩) (by size_fits)
/-- the checks of the call's form -/
theorem zip_checks : ∀ us : List Value, 2 ≤ us.length → us.length ≤ 4 → checkTypeCall "zip" ⟨us, []⟩ = pure () ∧ checkBuiltinCall "zip.__new__" ⟨.type "zip" :: us, []⟩ = pure () ∧ ∀ obj, argsOk "object.__init__" ⟨obj :: us, []⟩
  | [a, b], _, _ => ⟨F.typeCall_zip_2 _ _, F.newCall_zip_2 _ _, fun obj => F.args_object_init_3 obj _ _⟩
  | [a, b, c], _, _ => ⟨by kernel_rfl, by kernel_rfl, fun obj => by unfold argsOk; kernel_rfl⟩
  | [a, b, c, d], _, _ => ⟨by kernel_rfl, by kernel_rfl, fun obj => by unfold argsOk; kernel_rfl⟩
  | [], h, _ => absurd h (by simp)
  | [_], h, _ => absurd h (by simp)
  | _ :: _ :: _ :: _ :: _ :: _, _, h => absurd h (by simp)
section
variable {prog : Program} {w : World} {A : Around} {E : Value → Shared → Prop} {s : Shared}
theorem call_zipN {ls : List Addr} {Q : Value → Shared → Prop} (h2 : 2 ≤ ls.length) (h4 : ls.length ≤ 4) (ht : ∀ l ∈ ls, ∃ xs, s.heap.IsList l xs)
    (h : Q (.ref (zN4 s.heap ls).objs.size) { s with heap := zN5 s.heap ls }) : wpAny (model prog w) A (call (.type "zip") (ls.map Value.ref)) Q E s := by
  obtain ⟨c1, c2, c3⟩ := zip_checks (ls.map Value.ref) (by simpa using h2) (by simpa using h4)
  exact callType_new F.called_zip (by decide) c1 c2 c3 F.entry_zip_new (meets_zipN ls (by omega)) ⟨ht, ⟨_, Heap.get?_push_size _ rfl, rfl⟩, h⟩
end
abbrev ZR (h : Heap) (z TI TO : Addr) (f0 : Value) (f1 : Bool) : Prop := h.get? z = some { cls := .type "zip", dict := none, data := .fields #[f0, .bool f1, .bool false, .ref TI, .ref TO], slots := #[] }
abbrev TupO (h : Heap) (T : Addr) (us : List Value) : Prop := h.get? T = some { cls := .type "tuple", data := .seq us.toArray }
/-- the iterators stand at i, the first j of them one further -/
def ItsJ (h : Heap) (its ls : List Addr) (i j : Nat) : Prop := ∀ (m : Nat) (it l : Addr), its[m]? = some it → ls[m]? = some l → h.IsListIter it l (if m < j then i + 1 else i)
def Fld0 (f0 : Value) : Prop := f0 = .none ∨ ∃ T : Nat, f0 = rawInt T
theorem take_set {α : Type} {xs olds : List α} {j : Nat} {x : α} (h : xs[j]? = some x) (l : olds.length = xs.length) : (xs.take j ++ olds.drop j).set j x = xs.take (j + 1) ++ olds.drop (j + 1) := by
  have lt : j < xs.length := (List.getElem?_eq_some_iff.mp h).1
  have e1 : (xs.take j).length = j := by rw [List.length_take]; omega
  rw [List.set_append_right _ _ (by omega), e1, Nat.sub_self, List.drop_eq_getElem_cons (show j < olds.length by omega), List.set_cons_zero, List.take_add_one, h]
  simp
theorem ItsJ.start {h : Heap} {its ls : List Addr} {i n : Nat} (q : ItsJ h its ls i n) (l : its.length ≤ n) : ItsJ h its ls (i + 1) 0 := fun m it l' e1 e2 => by
  have z := q m it l' e1 e2
  rw [if_pos (Nat.lt_of_lt_of_le (List.getElem?_eq_some_iff.mp e1).1 l)] at z
  rw [if_neg (by omega)]
  exact z
/-- one of them moves -/
theorem ItsJ.next {h h' : Heap} {its ls : List Addr} {i j : Nat} {it l : Addr} (q : ItsJ h its ls i j) (nd : its.Nodup) (e1 : its[j]? = some it) (e2 : ls[j]? = some l) (k : ∀ b ∈ its, b ≠ it → ∀ o, h.get? b = some o → h'.get? b = some o) (a : h'.IsListIter it l (i + 1)) : ItsJ h' its ls i (j + 1) := fun m b l' f1 f2 => by
  by_cases c : m = j
  · subst c
    rw [e1] at f1
    rw [e2] at f2
    cases f1
    cases f2
    rw [if_pos (Nat.lt_succ_self _)]
    exact a
  · have z := q m b l' f1 f2
    have n : b ≠ it := fun z => by
      rw [z] at f1
      exact c ((List.getElem?_inj (List.getElem?_eq_some_iff.mp f1).1 nd).mp (f1.trans e1.symm))
    have e : (if m < j + 1 then i + 1 else i) = (if m < j then i + 1 else i) := by
      by_cases d : m < j
      · rw [if_pos d, if_pos (by omega)]
      · rw [if_neg d, if_neg (by omega)]
    rw [e]
    exact z.at fun o q => k b (List.mem_of_getElem? f1) n o q
section
variable {prog : Program} {w : World} {A : Around} {E : Value → Shared → Prop} {s : Shared} {z TI TO : Addr} {its ls : List Addr}
theorem free_or_held {f0 : Value} {f1 : Bool} {Q : Bool → Shared → Prop} (hz : ZR s.heap z TI TO f0 f1) (hf : Fld0 f0) (yes : Q true s) (no : ∀ h1, ZR h1 z TI TO f0 true → Heap.SameBut z s.heap h1 → Q false { s with heap := h1 }) :
    wpAny (model prog w) A (Builtin.SmallTypes.ownedTupleIsFree (.ref z)) Q E s := by
  rcases hf with rfl | ⟨T, rfl⟩
  · unfold Builtin.SmallTypes.ownedTupleIsFree
    exact wpAny_bind (wpAny_field hz rfl (x := .none) rfl (wpAny_pure yes))
  · cases e : s.heap.get? T with
    | some o => exact wpAny_tupleHeld_zip hz e no
    | none =>
      unfold Builtin.SmallTypes.ownedTupleIsFree
      refine wpAny_bind (wpAny_field hz rfl (x := rawInt T) rfl ?_)
      show wpAny _ _ (loadIfAlive ((T : Int).toNat) >>= _) _ _ _
      rw [Int.toNat_natCast]
      refine wpAny_bind ?_
      have k : (fun (a : Option Obj) (s' : Shared) => wpAny (model prog w) A (if a.isNone = true then pure true else do
          if (← field (.ref z) 1) != .bool true then setField (.ref z) 1 (.bool true)
          return false) Q E s') (s.heap.get? T) s := by
        rw [e]
        exact wpAny_pure yes
      exact fun _ _ _ => k
theorem zipN_item {f0 : Value} {f1 : Bool} {i : Nat} {olds xs : List Value} {Q : Value → Shared → Prop} (ap : (z :: TI :: TO :: its).Nodup) (al : ∀ l ∈ ls, l ∉ z :: TI :: TO :: its) (ne : its ≠ []) (few : its.length ≤ 100) (ll : its.length = ls.length)
    (hz : ZR s.heap z TI TO f0 f1) (hf : Fld0 f0) (hTI : TupO s.heap TI (its.map Value.ref)) (hTO : TupO s.heap TO olds) (lo : olds.length = its.length) (hi : ItsJ s.heap its ls i 0) (lx : xs.length = its.length)
    (hx : ∀ (j : Nat) (l : Addr) (x : Value), ls[j]? = some l → xs[j]? = some x → ∃ items, s.heap.IsList l items ∧ items[i]? = some x)
    (hQ : ∀ h' g0 g1 olds', ZR h' z TI TO g0 g1 → Fld0 g0 → TupO h' TI (its.map Value.ref) → TupO h' TO olds' → olds'.length = its.length → ItsJ h' its ls (i + 1) 0 → TupO h' s.heap.objs.size xs → h'.objs.size = s.heap.objs.size + 1 →
      (∀ c o, c ∉ z :: TI :: TO :: its → s.heap.get? c = some o → h'.get? c = some o) → Q (.ref s.heap.objs.size) { s with heap := h' }) :
    wpAny (model prog w) A (Builtin.«zip.__next__» ⟨[.ref z], []⟩) (fun fin s' => ∃ v, fin = .done (.ret v) ∧ Q v s') E s := by
  show wpAny _ _ (field (.ref z) 2 >>= _) _ _ _
  refine wpAny_bind (wpAny_field hz rfl (x := .bool false) rfl ?_)
  show wpAny _ _ (field (.ref z) 3 >>= _) _ _ _
  refine wpAny_bind (wpAny_field hz rfl (x := .ref TI) rfl ?_)
  refine wpAny_bind (wpAny_seqItems hTI rfl ?_)
  have emp : ((its.map Value.ref).toArray).isEmpty = false := by
    cases its with
    | nil => exact absurd rfl ne
    | cons a r => simp
  simp only [emp, Bool.false_eq_true, if_false]
  have nd : (z ≠ TI ∧ z ≠ TO ∧ z ∉ its) ∧ (TI ≠ TO ∧ TI ∉ its) ∧ TO ∉ its ∧ its.Nodup := by simpa [not_or] using ap
  refine wpAny_bind (free_or_held hz hf ?_ fun h1 hz1 sb1 => ?_)
  · simp only [if_true]
    refine wpAny_bind (wpAny_rule ?_)
    refine wpAny_bind (wpAny_field hz rfl (x := .ref TO) rfl ?_)
    refine wpAny_bind (wpAny_setField_rec hz (by simp) fun h1 hz1 sb1 => ?_)
    replace hz1 : ZR h1 z TI TO .ellipsis f1 := hz1
    refine wpAny_bind (wpAny_mono (forIn_wp (its.map Value.ref).zipIdx (fun _ => (none, ())) (fun j s' => ∃ h, s' = { s with heap := h } ∧ h.objs.size = s.heap.objs.size ∧ ZR h z TI TO .ellipsis f1 ∧ TupO h TI (its.map Value.ref) ∧
      TupO h TO (xs.take j ++ olds.drop j) ∧ ItsJ h its ls i j ∧ ∀ c o, c ∉ z :: TI :: TO :: its → s.heap.get? c = some o → h.get? c = some o) _ ?_ ?_) ?_ fun _ _ e => e)
    · rintro j ⟨v, k⟩ s2 hj ⟨h, rfl, sz, hz2, hTI2, hTO2, hi2, kp⟩
      obtain ⟨it, e1, rfl, rfl⟩ : ∃ it, its[j]? = some it ∧ v = .ref it ∧ k = j := by
        rw [List.getElem?_zipIdx, List.getElem?_map] at hj
        cases q : its[j]? with
        | none => rw [q] at hj; cases hj
        | some it =>
          rw [q] at hj
          simp at hj
          exact ⟨it, rfl, hj.1.symm, hj.2.symm⟩
      have lt : k < its.length := (List.getElem?_eq_some_iff.mp e1).1
      have e2 : ls[k]? = some ls[k] := List.getElem?_eq_getElem (by omega)
      have e3 : xs[k]? = some xs[k] := List.getElem?_eq_getElem (by omega)
      obtain ⟨items, hl, hx2⟩ := hx k _ _ e2 e3
      have ml := al _ (List.mem_of_getElem? e2)
      have mi := List.mem_of_getElem? e1
      have it0 := hi2 k it _ e1 e2
      rw [if_neg (Nat.lt_irrefl _)] at it0
      have nTO : TO ≠ it := fun q => nd.2.2.1 (by rw [q]; exact mi)
      have nTI : TI ≠ it := fun q => nd.2.1.2 (by rw [q]; exact mi)
      have nz : z ≠ it := fun q => nd.1.2.2 (by rw [q]; exact mi)
      refine wpAny_bind (wpAny_onRaise ?_)
      show wpAny _ _ (Builtin.SmallTypes.nextOf (.ref it) >>= _) _ _ _
      refine wpAny_bind (wpAny_nextOf_list_item (s := { s with heap := h }) it0 (hl.at fun o q => kp _ o ml q) hx2 fun h3 it3 sb3 => wpAny_pure ?_)
      have hTO3 : TupO h3 TO (xs.take k ++ olds.drop k) := (sb3.2 _ nTO).trans hTO2
      refine wpAny_bind (wpAny_seqItems hTO3 rfl ?_)
      have lz : (xs.take k ++ olds.drop k).length ≤ 100 := by rw [List.length_append, List.length_take, List.length_drop]; omega
      refine wpAny_bind (wpAny_updateSeq hTO3 rfl ?_ (by rw [List.size_toArray]; exact Nat.le_trans lz (by decide)) (by rw [Array.size_setIfInBounds, List.size_toArray]; exact Nat.le_trans lz (by decide)))
      refine wpAny_bind (wpAny_letGo (wpAny_pure ⟨rfl, _, rfl, ?_, ?_, ?_, ?_, ?_, ?_⟩))
      · rw [(Heap.SameBut.update ..).1, sb3.1, sz]
      · exact ((Heap.SameBut.update ..).2 _ nd.1.2.1).trans ((sb3.2 _ nz).trans hz2)
      · exact ((Heap.SameBut.update ..).2 _ nd.2.1.1).trans ((sb3.2 _ nTI).trans hTI2)
      · show (Heap.update _ TO _).get? TO = _
        rw [Heap.get?_update_self _ hTO3 rfl]
        simp only [Obj.mapSeq]
        rw [← take_set e3 (by omega), ← List.setIfInBounds_toArray]
        rw [if_pos (by simp)]
      · refine hi2.next nd.2.2.2 e1 e2 (fun b hb nb o q => ?_) (it3.at fun o q => ((Heap.SameBut.update ..).2 _ (Ne.symm nTO)).trans q)
        exact ((Heap.SameBut.update ..).2 _ (fun q => nd.2.2.1 (by rw [← q]; exact hb))).trans ((sb3.2 _ nb).trans q)
      · intro c o hc q
        simp only [List.mem_cons, not_or] at hc
        exact ((Heap.SameBut.update ..).2 _ hc.2.2.1).trans ((sb3.2 _ (fun y => hc.2.2.2 (by rw [y]; exact mi))).trans (kp c o (by simp only [List.mem_cons, not_or]; exact hc) q))
    · refine ⟨h1, rfl, sb1.1, hz1, (sb1.2 _ (Ne.symm nd.1.1)).trans hTI, (sb1.2 _ (Ne.symm nd.1.2.1)).trans hTO, fun m it l f1 f2 => ?_, fun c o hc q => ?_⟩
      · exact (hi m it l f1 f2).at fun o q => (sb1.2 _ (fun y => nd.1.2.2 (by rw [← y]; exact List.mem_of_getElem? f1))).trans q
      · simp only [List.mem_cons, not_or] at hc
        exact (sb1.2 _ hc.1).trans q
    · rintro t s2 ⟨rfl, h, rfl, sz, hz2, hTI2, hTO2, hi2, kp⟩
      have ez : (its.map Value.ref).zipIdx.length = its.length := by simp
      rw [ez] at hTO2 hi2
      rw [← lx, List.take_length, lx, ← lo, List.drop_length, List.append_nil] at hTO2
      dsimp only
      refine wpAny_bind (wpAny_seqItems hTO2 rfl ?_)
      have lxz : xs.length ≤ sizeLine := Nat.le_trans (show xs.length ≤ 100 by omega) (by decide)
      show wpAny _ _ (newTuple xs.toArray.toList >>= _) _ _ _
      rw [show xs.toArray.toList = xs by simp]
      refine wpAny_bind (wpAny_newTuple ?_ lxz)
      have zlt : z < h.objs.size := Heap.lt_size hz2
      have hz3 : ZR (h.push { cls := .type "tuple", data := .seq xs.toArray }) z TI TO .ellipsis f1 := Heap.get?_push_of_some _ hz2
      refine wpAny_bind ?_
      show wpAny _ _ (Builtin.SmallTypes.ownedTupleHandOut (.ref z) (.ref h.objs.size)) _ _ _
      unfold Builtin.SmallTypes.ownedTupleHandOut
      refine wpAny_bind (wpAny_setField_rec hz3 (by simp) fun h4 hz4 sb4 => ?_)
      replace hz4 : ZR h4 z TI TO (rawInt h.objs.size) f1 := hz4
      refine wpAny_setField_rec hz4 (by simp) fun h5 hz5 sb5 => ?_
      replace hz5 : ZR h5 z TI TO (rawInt h.objs.size) false := hz5
      have up : ∀ c o, c ≠ z → h.get? c = some o → h5.get? c = some o := fun c o n e => (sb5.2 _ n).trans ((sb4.2 _ n).trans (Heap.get?_push_of_some _ e))
      have hT5 : TupO h5 h.objs.size xs := (sb5.2 _ (Nat.ne_of_gt zlt)).trans ((sb4.2 _ (Nat.ne_of_gt zlt)).trans (Heap.get?_push_size _ rfl))
      have s5 : h5.objs.size = h.objs.size + 1 := by rw [sb5.1, sb4.1, Heap.size_push]
      refine wpAny_pure ⟨_, rfl, ?_⟩
      rw [sz] at hT5 s5 ⊢
      refine hQ h5 _ _ xs hz5 (.inr ⟨_, rfl⟩) (up _ _ (Ne.symm nd.1.1) hTI2) (up _ _ (Ne.symm nd.1.2.1) hTO2) lx ?_ hT5 s5 fun c o hc q => up c o (fun y => hc (by rw [y]; exact List.mem_cons_self)) (kp c o hc q)
      intro m it l g1 g2
      exact (hi2.start (Nat.le_refl _) m it l g1 g2).at fun o q => up it o (fun y => nd.1.2.2 (by rw [← y]; exact List.mem_of_getElem? g1)) q
  · simp only [Bool.false_eq_true, if_false]
    refine wpAny_bind ?_
    rw [← Array.forIn_toList]
    show wpAny _ _ (forIn (its.map Value.ref) _ _) _ _ _
    refine wpAny_mono (forIn_wp (its.map Value.ref) (fun j => (none, (xs.take j).toArray)) (fun j s' => ∃ h, s' = { s with heap := h } ∧ h.objs.size = s.heap.objs.size ∧ ZR h z TI TO f0 true ∧ TupO h TI (its.map Value.ref) ∧
      TupO h TO olds ∧ ItsJ h its ls i j ∧ ∀ c o, c ∉ z :: TI :: TO :: its → s.heap.get? c = some o → h.get? c = some o) _ ?_ ?_) ?_ fun _ _ e => e
    · rintro k v s2 hj ⟨h, rfl, sz, hz2, hTI2, hTO2, hi2, kp⟩
      obtain ⟨it, e1, rfl⟩ : ∃ it, its[k]? = some it ∧ v = .ref it := by
        rw [List.getElem?_map] at hj
        cases q : its[k]? with
        | none => rw [q] at hj; cases hj
        | some it =>
          rw [q] at hj
          exact ⟨it, rfl, (Option.some.inj hj).symm⟩
      have lt : k < its.length := (List.getElem?_eq_some_iff.mp e1).1
      have e2 : ls[k]? = some ls[k] := List.getElem?_eq_getElem (by omega)
      have e3 : xs[k]? = some xs[k] := List.getElem?_eq_getElem (by omega)
      obtain ⟨items, hl, hx2⟩ := hx k _ _ e2 e3
      have ml := al _ (List.mem_of_getElem? e2)
      have mi := List.mem_of_getElem? e1
      have it0 := hi2 k it _ e1 e2
      rw [if_neg (Nat.lt_irrefl _)] at it0
      refine wpAny_bind (wpAny_holding ?_)
      show wpAny _ _ (Builtin.SmallTypes.nextOf (.ref it) >>= _) _ _ _
      refine wpAny_bind (wpAny_nextOf_list_item (s := { s with heap := h }) it0 (hl.at fun o q => kp _ o ml q) hx2 fun h3 it3 sb3 => wpAny_pure ?_)
      refine wpAny_pure ⟨?_, h3, rfl, sb3.1.trans sz, (sb3.2 _ (fun q => nd.1.2.2 (by rw [q]; exact mi))).trans hz2, (sb3.2 _ (fun q => nd.2.1.2 (by rw [q]; exact mi))).trans hTI2,
        (sb3.2 _ (fun q => nd.2.2.1 (by rw [q]; exact mi))).trans hTO2, hi2.next nd.2.2.2 e1 e2 (fun b hb nb o q => (sb3.2 _ nb).trans q) it3, fun c o hc q => ?_⟩
      · show ForInStep.yield (none, ((xs.take k).toArray).push xs[k]) = _
        rw [List.take_add_one, e3]
        simp
      · exact (sb3.2 _ (fun y => hc (by rw [y]; simp [mi]))).trans (kp c o hc q)
    · refine ⟨h1, rfl, sb1.1, hz1, (sb1.2 _ (Ne.symm nd.1.1)).trans hTI, (sb1.2 _ (Ne.symm nd.1.2.1)).trans hTO, fun m it l f1 f2 => ?_, fun c o hc q => ?_⟩
      · exact (hi m it l f1 f2).at fun o q => (sb1.2 _ (fun y => nd.1.2.2 (by rw [← y]; exact List.mem_of_getElem? f1))).trans q
      · simp only [List.mem_cons, not_or] at hc
        exact (sb1.2 _ hc.1).trans q
    · rintro t s2 ⟨rfl, h, rfl, sz, hz2, hTI2, hTO2, hi2, kp⟩
      rw [List.length_map] at hi2
      have lxz : xs.length ≤ sizeLine := Nat.le_trans (show xs.length ≤ 100 by omega) (by decide)
      dsimp only
      have ex : xs.take (its.map Value.ref).length = xs := by rw [List.length_map, ← lx, List.take_length]
      rw [ex]
      refine wpAny_bind (wpAny_newTuple ?_ lxz)
      refine wpAny_pure ⟨_, rfl, ?_⟩
      show Q (.ref h.objs.size) _
      have s5 : (h.push { cls := .type "tuple", data := .seq xs.toArray }).objs.size = h.objs.size + 1 := Heap.size_push _ _
      have hT5 : TupO (h.push { cls := .type "tuple", data := .seq xs.toArray }) h.objs.size xs := Heap.get?_push_size _ rfl
      rw [sz] at s5 hT5 ⊢
      refine hQ _ _ _ olds (Heap.get?_push_of_some _ hz2) hf (Heap.get?_push_of_some _ hTI2) (Heap.get?_push_of_some _ hTO2) lo ?_ hT5 s5 fun c o hc q => Heap.get?_push_of_some _ (kp c o hc q)
      intro m it l g1 g2
      exact (hi2.start (Nat.le_refl _) m it l g1 g2).at fun o q => Heap.get?_push_of_some _ q
theorem zipN_end {f0 : Value} {f1 : Bool} {i : Nat} {it0 l0 : Addr} {itr : List Addr} {items : Array Value} {Q : Fin → Shared → Prop} (hh : A.handled = none) (ap : (z :: TI :: TO :: (it0 :: itr)).Nodup) (al : l0 ∉ z :: TI :: TO :: (it0 :: itr))
    (hz : ZR s.heap z TI TO f0 f1) (hf : Fld0 f0) (hTI : TupO s.heap TI ((it0 :: itr).map Value.ref)) (hi : s.heap.IsListIter it0 l0 i) (hl : s.heap.IsList l0 items) (he : items[i]? = none)
    (hE : ∀ h' e, (∀ c o, c ∉ z :: TI :: TO :: (it0 :: itr) → s.heap.get? c = some o → h'.get? c = some o) → (∃ o, h'.get? e = some o ∧ o.cls = .type "StopIteration") → E (.ref e) { s with heap := h' }) :
    wpAny (model prog w) A (Builtin.«zip.__next__» ⟨[.ref z], []⟩) Q E s := by
  have nd : z ≠ it0 := fun q => by
    rw [q] at ap
    simp at ap
  have ml : l0 ≠ z := fun q => al (by rw [q]; exact List.mem_cons_self)
  show wpAny _ _ (field (.ref z) 2 >>= _) _ _ _
  refine wpAny_bind (wpAny_field hz rfl (x := .bool false) rfl ?_)
  show wpAny _ _ (field (.ref z) 3 >>= _) _ _ _
  refine wpAny_bind (wpAny_field hz rfl (x := .ref TI) rfl ?_)
  refine wpAny_bind (wpAny_seqItems hTI rfl ?_)
  have emp : (((it0 :: itr).map Value.ref).toArray).isEmpty = false := by simp
  simp only [emp, Bool.false_eq_true, if_false]
  refine wpAny_bind (free_or_held hz hf ?_ fun h1 hz1 sb1 => ?_)
  · simp only [if_true]
    refine wpAny_bind (wpAny_rule ?_)
    refine wpAny_bind (wpAny_field hz rfl (x := .ref TO) rfl ?_)
    refine wpAny_bind (wpAny_setField_rec hz (by simp) fun h1 hz1 sb1 => ?_)
    replace hz1 : ZR h1 z TI TO .ellipsis f1 := hz1
    refine wpAny_bind ?_
    simp only [List.map_cons, List.zipIdx_cons, List.forIn_cons]
    refine wpAny_bind (wpAny_bind (wpAny_onRaise ?_))
    show wpAny _ _ (Builtin.SmallTypes.nextOf (.ref it0) >>= _) _ _ _
    refine wpAny_bind (wpAny_nextOf_list_end (s := { s with heap := h1 }) hh (hi.at fun o q => (sb1.2 _ (Ne.symm nd)).trans q) (hl.at fun o q => (sb1.2 _ ml).trans q) he fun h2 e k2 ⟨oe, ho, hc⟩ => ?_)
    have hz2 : ZR h2 z TI TO .ellipsis f1 := k2 _ _ nd hz1
    have ez : e ≠ z := fun x => by
      subst x
      rw [hz2] at ho
      cases ho
      simp at hc
    refine wpAny_setField_rec hz2 (by simp) fun h3 _ sb3 => hE h3 e (fun c o hc q => ?_) ⟨oe, (sb3.2 _ ez).trans ho, hc⟩
    simp only [List.mem_cons, not_or] at hc
    exact (sb3.2 _ hc.1).trans (k2 _ _ hc.2.2.2.1 ((sb1.2 _ hc.1).trans q))
  · simp only [Bool.false_eq_true, if_false]
    refine wpAny_bind ?_
    rw [← Array.forIn_toList]
    simp only [List.map_cons, List.forIn_cons]
    refine wpAny_bind (wpAny_bind (wpAny_holding ?_))
    show wpAny _ _ (Builtin.SmallTypes.nextOf (.ref it0) >>= _) _ _ _
    refine wpAny_bind (wpAny_nextOf_list_end (s := { s with heap := h1 }) hh (hi.at fun o q => (sb1.2 _ (Ne.symm nd)).trans q) (hl.at fun o q => (sb1.2 _ ml).trans q) he fun h2 e k2 ho => hE h2 e (fun c o hc q => ?_) ho)
    simp only [List.mem_cons, not_or] at hc
    exact k2 _ _ hc.2.2.2.1 ((sb1.2 _ hc.1).trans q)
end
/-- the tuples at ls side by side, the items in new tuples -/
def ItzN (K : PySem.W.Frag) (ls : List Addr) : It :=
  ⟨fun i H => ∀ a ∈ ls, ∃ xs x, SqL K H a xs ∧ xs[i]? = some x,
    fun i H v H' => ∃ (T : Addr) (vs : List V), v = .ref T ∧ H T = none ∧ H' = upd H T (.tup vs) ∧ vs.length = ls.length ∧ ∀ (j : Nat) (a : Addr) (xs : List V), ls[j]? = some a → SqL K H a xs → xs[i]? = vs[j]?,
    fun i H => ∃ a r xs, ls = a :: r ∧ SqL K H a xs ∧ xs.length ≤ i⟩
/-- what stands in each of them at i -/
theorem cols {X : Cx} {pins : List (Addr × Obj)} {σ : L2.St} {H : Hp} {s : Shared} {i : Nat} (I : Inv X pins σ H s) : ∀ {ls : List Addr}, (∀ a ∈ ls, ∃ xs x, SqL X.K H a xs ∧ xs[i]? = some x) →
    ∃ (vs : List V) (us : List Value), Vals vs us ∧ vs.length = ls.length ∧ us.length = ls.length ∧ (∀ (j : Nat) (a : Addr) (xs : List V), ls[j]? = some a → SqL X.K H a xs → xs[i]? = vs[j]?) ∧
      ∀ (j : Nat) (l : Addr) (x : Value), ls[j]? = some l → us[j]? = some x → ∃ items, s.heap.IsList l items ∧ items[i]? = some x
  | [], _ => ⟨[], [], .nil, rfl, rfl, fun j a xs e => by simp at e, fun j l x e => by simp at e⟩
  | a :: r, h => by
    obtain ⟨vs, us, rv, l1, l2, k1, k2⟩ := cols I (ls := r) fun b hb => h b (List.mem_cons_of_mem _ hb)
    obtain ⟨xs, x, sq, hx⟩ := h a List.mem_cons_self
    obtain ⟨its, rv2, tp0, _⟩ := I.list sq
    have tp := tp0.isList
    obtain ⟨u, hu, ru⟩ := rv2.get hx
    refine ⟨x :: vs, u :: us, .cons ru rv, by simp [l1], by simp [l2], fun j b ys e q => ?_, fun j b y e q => ?_⟩
    · cases j with
      | zero =>
        obtain rfl : a = b := Option.some.inj e
        rw [I.list_inj q sq]
        exact hx
      | succ j => exact k1 j b ys e q
    · cases j with
      | zero =>
        obtain rfl : a = b := Option.some.inj e
        obtain rfl : u = y := Option.some.inj q
        exact ⟨_, tp, by simpa using hu⟩
      | succ j => exact k2 j b y e q
theorem turn_zipN {P : Program} {w : World} {K : PySem.W.Frag} {x : Str} {tpos : Pos} {z TI TO : Addr} {its ls : List Addr} (ap : (z :: TI :: TO :: its).Nodup) (al : ∀ l ∈ ls, l ∉ z :: TI :: TO :: its) (ne : its ≠ []) (few : its.length ≤ 100) (ll : its.length = ls.length) :
    Turn P w K (.Name x tpos) (ItzN K ls) (z :: TI :: TO :: its) z (fun i h => ∃ f0 f1 olds, ZR h z TI TO f0 f1 ∧ Fld0 f0 ∧ TupO h TI (its.map Value.ref) ∧ TupO h TO olds ∧ olds.length = its.length ∧ ItsJ h its ls i 0) where
  mem := List.mem_cons_self
  obj := fun i h ⟨f0, f1, olds, hz, hf, hTI, hTO, lo, hi⟩ c hc => by
    rcases List.mem_cons.mp hc with rfl | hc
    · exact ⟨_, hz, fun v q => nomatch q⟩
    rcases List.mem_cons.mp hc with rfl | hc
    · exact ⟨_, hTI, fun v q => nomatch q⟩
    rcases List.mem_cons.mp hc with rfl | hc
    · exact ⟨_, hTO, fun v q => nomatch q⟩
    · obtain ⟨m, lt, e⟩ := List.getElem_of_mem hc
      obtain ⟨o, e1, _, d1⟩ := hi m c ls[m] (by rw [← e]; exact List.getElem?_eq_getElem lt) (List.getElem?_eq_getElem (by omega))
      exact ⟨o, e1, fun v q => by rw [d1] at q; cases q⟩
  keep := fun i h h' ⟨f0, f1, olds, hz, hf, hTI, hTO, lo, hi⟩ k => by
    refine ⟨f0, f1, olds, k z (by simp) _ hz, hf, k TI (by simp) _ hTI, k TO (by simp) _ hTO, lo, fun m it l e1 e2 => ?_⟩
    exact (hi m it l e1 e2).at fun o q => k it (by simp [List.mem_of_getElem? e1]) o q
  item := by
    rintro X hP hw hK hc i pins s σ H E I hfp ⟨f0, f1, olds, hz, hf, hTI, hTO, lo, hi⟩ hg
    subst hP hw hK
    obtain ⟨vs, us, rv, l1, l2, k1, k2⟩ := cols I hg
    have hT : s.TypeIs (.ref z) "zip" := ⟨_, hz, rfl⟩
    unfold pyNext
    refine wpAny_bind (wpAny_attempt (wpAny_callSpecial?_slot (name := Str.ofString "__next__") hT F.slot_zip_next (wpAny_call_entry F.slot_zip_next hT F.entry_zip_next
      (zipN_item (xs := us) ap al ne few ll hz hf hTI hTO lo hi (by omega) k2 fun h' g0 g1 olds' a1 a2 a3 a4 a5 a6 a7 a8 a9 => wpAny_pure ?_) (F.args_zip_next_1 _))))
    refine ⟨_, rfl, ?_⟩
    show wpAny _ _ (pure ()) _ _ _
    refine wpAny_pure ?_
    have new : ObjOk X.prog X.w (upd H s.heap.objs.size (.tup vs)) h' s.heap.objs.size (.tup vs) := ⟨by exact Nat.le_trans (show vs.length ≤ 100 by omega) (by decide), us, rv, ⟨_, a7, rfl, _, rfl⟩⟩
    have I1 : Inv X pins σ (upd H s.heap.objs.size (.tup vs)) { s with heap := h' } := I.turnedNew (t' := s.toks) (ch := z :: TI :: TO :: its) (fun c o hb q => a9 c o hb q) hfp (Nat.le_refl _) new
    refine ⟨.ref s.heap.objs.size, _, I1, rfl, ⟨_, vs, rfl, I.hok.fresh (Nat.le_refl _), rfl, l1, k1⟩, ⟨g0, g1, olds', a1, a2, a3, a4, a5, a6⟩, fun c hcm => ?_⟩
    have hlt : c < s.heap.objs.size := by
      rcases List.mem_cons.mp hcm with rfl | hc
      · exact Heap.lt_size hz
      rcases List.mem_cons.mp hc with rfl | hc
      · exact Heap.lt_size hTI
      rcases List.mem_cons.mp hc with rfl | hc
      · exact Heap.lt_size hTO
      · obtain ⟨m, lt, e⟩ := List.getElem_of_mem hc
        obtain ⟨o, e1, _, d1⟩ := hi m c ls[m] (by rw [← e]; exact List.getElem?_eq_getElem lt) (List.getElem?_eq_getElem (by omega))
        exact Heap.lt_size e1
    rw [upd_ne (Nat.ne_of_lt hlt)]
    exact (hfp c hcm).1
  done := by
    rintro X hP hw hK hc i pins s σ H E I hfp ⟨f0, f1, olds, hz, hf, hTI, hTO, lo, hi⟩ ⟨a, r, xs, rfl, sq, le⟩
    subst hP hw hK
    obtain ⟨itl, rv, tp0, _⟩ := I.list sq
    have tp := tp0.isList
    have l1 := rv.length
    cases its with
    | nil => exact absurd rfl ne
    | cons it0 itr =>
      have hT : s.TypeIs (.ref z) "zip" := ⟨_, hz, rfl⟩
      have i0 : s.heap.IsListIter it0 a i := hi 0 it0 a rfl rfl
      unfold pyNext
      refine wpAny_bind (wpAny_attempt (wpAny_callSpecial?_slot (name := Str.ofString "__next__") hT F.slot_zip_next (wpAny_call_entry F.slot_zip_next hT F.entry_zip_next
        (zipN_end (I.ok.hd hc) ap (al a List.mem_cons_self) hz hf hTI i0 tp (by simp; omega) fun h' e hk he => ?_) (F.args_zip_next_1 _))))
      obtain ⟨o, ho, hc2⟩ := he
      refine wpAny_bind (wpAny_isInstance (T := "StopIteration") (b := true) ⟨o, ho, hc2⟩ isSubtype_stop ?_)
      exact wpAny_pure ⟨rfl, I.turnedL (t' := s.toks) (ch := z :: TI :: TO :: (it0 :: itr)) (fun c o hb q => hk c o hb q) hfp⟩
  self := fun A i s Q E ⟨f0, f1, olds, hz, _⟩ h => by
    have hT : s.TypeIs (.ref z) "zip" := ⟨_, hz, rfl⟩
    refine wpAny_pyIter_slot hT F.slot_zip_iter (wpAny_call_entry F.slot_zip_iter hT F.entry_zip_iter ?_ (F.args_zip_iter_1 _))
    show wpAny _ _ (ret (.ref z)) _ _ s
    exact wpAny_pure ⟨_, rfl, "zip", _, hT, F.slot_zip_next.lookup, h⟩
def itA (n : Nat) : List Addr → List Addr
  | [] => []
  | _ :: r => n :: itA (n + 1) r
theorem itA_map : ∀ {ls : List Addr} {n : Nat}, (itA n ls).map Value.ref = itV n ls
  | [], _ => rfl
  | l :: r, n => by
    show Value.ref n :: (itA (n + 1) r).map Value.ref = Value.ref n :: itV (n + 1) r
    rw [itA_map]
theorem itA_len {ls : List Addr} {n : Nat} : (itA n ls).length = ls.length := by rw [← List.length_map (f := Value.ref), itA_map, itV_len]
theorem itA_mem : ∀ {ls : List Addr} {n b : Nat}, b ∈ itA n ls → n ≤ b ∧ b < n + ls.length
  | l :: r, n, b, h => by
    rcases List.mem_cons.mp h with rfl | h
    · simp
    · have z := itA_mem (ls := r) h
      simp only [List.length_cons]
      omega
theorem itA_nodup : ∀ {ls : List Addr} {n : Nat}, (itA n ls).Nodup
  | [], _ => List.nodup_nil
  | l :: r, n => by
    refine List.nodup_cons.mpr ⟨fun h => ?_, itA_nodup⟩
    have z := itA_mem (ls := r) h
    omega
theorem itA_at {ls : List Addr} {n j it : Nat} (h : (itA n ls)[j]? = some it) : it = n + j ∧ j < ls.length := by
  have lt := (List.getElem?_eq_some_iff.mp h).1
  rw [itA_len] at lt
  have e := itV_at (ls := ls) (n := n) lt
  rw [← itA_map, List.getElem?_map, h] at e
  exact ⟨Value.ref.inj (Option.some.inj e), lt⟩
theorem vals_refs : ∀ {ls : List Addr} {us : List Value}, Vals (ls.map V.ref) us → us = ls.map Value.ref
  | [], _, .nil => rfl
  | l :: r, _, .cons h t => by
    rw [vals_refs t]
    exact congrArg (· :: r.map Value.ref) (show _ = Value.ref l from h)
/-- zip(a, b, ..) of lists, a plain name for its tuples -/
def iZipL (K : PySem.W.Frag) (ta : TA) : TI := fun σ H R => ta σ H fun vs H1 => ∃ ls : List Addr, vs = ls.map V.ref ∧ 2 ≤ ls.length ∧ ls.length ≤ 4 ∧ (∀ a ∈ ls, ∃ xs, SqL K H1 a xs) ∧ R (ItzN K ls) H1
theorem pi_zipL {X : Cx} {e : Expr} {es : List Expr} {ta : TA} {x : Str} {p pos tpos : Pos} (hg : Gl X "zip") (hm : X.mg "zip" = none) (ha : PA X (e :: es) ta) (hs : starEach (e :: es) X.env = (false, eval e X.env) :: starEach es X.env := by rfl) (hpl : (backTo pos (starEach es X.env)).any (·.1) = false := by rfl) :
    PI X (.Name x tpos) (.Call (.Name "zip" p) (e :: es) [] pos) (iZipL X.K ta) := by
  refine ⟨fun pins s σ H R I h => ?_⟩
  refine Call_ (ld_blt I hg hm PyProof.Rows.boot_zip (PyProof.Rows.callWith_type1 (thn (ha.run pos pins s σ H _ I h) fun us s2 ⟨vs, H1, I2, rv, q1⟩ => ?_) hs hpl))
  obtain ⟨ls, rfl, l2, l4, ht, q⟩ := q1
  obtain rfl := vals_refs rv
  have tt : ∀ l ∈ ls, ∃ xs, s2.heap.IsList l xs := fun l hl => by
    obtain ⟨xs, sq⟩ := ht l hl
    obtain ⟨its, _, tp0, _⟩ := I2.list sq
    have tp := tp0.isList
    exact ⟨_, tp⟩
  refine call_zipN l2 l4 tt ?_
  have z0 : (itH s2.heap ls).objs.size = s2.heap.objs.size + ls.length := itH_size
  have z3 : (zN3 s2.heap ls).objs.size = s2.heap.objs.size + ls.length + 1 := by rw [Heap.size_push, z0]
  have z4 : (zN4 s2.heap ls).objs.size = s2.heap.objs.size + ls.length + 2 := by rw [Heap.size_push, z3]
  have g5 : (zN5 s2.heap ls).get? (zN4 s2.heap ls).objs.size = some _ := Heap.get?_push_size _ rfl
  have g4 : (zN5 s2.heap ls).get? (zN3 s2.heap ls).objs.size = some _ := Heap.get?_push_of_some _ (Heap.get?_push_size _ rfl)
  have g3 : (zN5 s2.heap ls).get? (itH s2.heap ls).objs.size = some _ := Heap.get?_push_of_some _ (Heap.get?_push_of_some _ (Heap.get?_push_size _ rfl))
  have kp : ∀ b o, s2.heap.get? b = some o → (zN5 s2.heap ls).get? b = some o := fun b o e => Heap.get?_push_of_some _ (Heap.get?_push_of_some _ (Heap.get?_push_of_some _ (itH_keep e)))
  have I3 : Inv X pins σ H1 { s2 with heap := zN5 s2.heap ls } := I2.kept (t' := s2.toks) kp
  have ap : ((zN4 s2.heap ls).objs.size :: (itH s2.heap ls).objs.size :: (zN3 s2.heap ls).objs.size :: itA s2.heap.objs.size ls).Nodup := by
    rw [z4, z0, z3]
    refine List.nodup_cons.mpr ⟨fun h => ?_, List.nodup_cons.mpr ⟨fun h => ?_, List.nodup_cons.mpr ⟨fun h => ?_, itA_nodup⟩⟩⟩
    · rcases List.mem_cons.mp h with h | h
      · omega
      rcases List.mem_cons.mp h with h | h
      · omega
      · have := itA_mem h
        omega
    · rcases List.mem_cons.mp h with h | h
      · omega
      · have := itA_mem h
        omega
    · have := itA_mem h
      omega
  have ge : ∀ b ∈ (zN4 s2.heap ls).objs.size :: (itH s2.heap ls).objs.size :: (zN3 s2.heap ls).objs.size :: itA s2.heap.objs.size ls, s2.heap.objs.size ≤ b := by
    rw [z4, z0, z3]
    intro b hb
    rcases List.mem_cons.mp hb with h | h
    · omega
    rcases List.mem_cons.mp h with h | h
    · omega
    rcases List.mem_cons.mp h with h | h
    · omega
    · exact (itA_mem h).1
  have st : ∃ f0 f1 olds, ZR (zN5 s2.heap ls) (zN4 s2.heap ls).objs.size (itH s2.heap ls).objs.size (zN3 s2.heap ls).objs.size f0 f1 ∧ Fld0 f0 ∧ TupO (zN5 s2.heap ls) (itH s2.heap ls).objs.size ((itA s2.heap.objs.size ls).map Value.ref) ∧
      TupO (zN5 s2.heap ls) (zN3 s2.heap ls).objs.size olds ∧ olds.length = (itA s2.heap.objs.size ls).length ∧ ItsJ (zN5 s2.heap ls) (itA s2.heap.objs.size ls) ls 0 0 := by
    refine ⟨.none, false, _, g5, .inl rfl, by rw [itA_map]; exact g3, g4, by rw [List.length_map, itV_len, itA_len], fun m it l e1 e2 => ?_⟩
    obtain ⟨rfl, _⟩ := itA_at e1
    exact ⟨_, Heap.get?_push_of_some _ (Heap.get?_push_of_some _ (Heap.get?_push_of_some _ (itH_at e2))), rfl, rfl⟩
  have T : Turn X.prog X.w X.K (.Name x tpos) (ItzN X.K ls) _ _ _ := turn_zipN (its := itA s2.heap.objs.size ls) (ls := ls) ap (fun l hl hm => by
    obtain ⟨xs, o, e, _⟩ := tt l hl
    exact absurd (Nat.lt_of_lt_of_le (Heap.lt_size e) (ge l hm)) (Nat.lt_irrefl _)) (fun z => by
    have := itA_len (ls := ls) (n := s2.heap.objs.size)
    rw [z] at this
    simp at this
    omega) (by rw [itA_len]; omega) itA_len
  exact T.self X.A 0 _ _ _ st ⟨_, _, _, _, H1, rfl, I3, T, st, fun b hb => I2.fpOk (ge b hb) (I2.hok.fresh (ge b hb)), q⟩
end ZL
end Pl
namespace Pl
open PySem PySem.Spec PyProof.Rows L2
/-! The end of a law some of whose defs make lambdas: each such def's code object has a table, empty at first. -/
theorem noTab {K : PySem.W.Frag} {h : Heap} {P : Addr} (X : K.In h) (n : PySem.W.noTabs K = true) (e : h.get? P = some (PySem.W.tabObj #[])) : K.lookup P = none := by
  cases q : K.lookup P with
  | none => rfl
  | some o =>
    have z := X _ _ q
    rw [e] at z
    cases z
    have mem : ∀ {L : PySem.W.Frag} {o : Obj}, L.lookup P = some o → (P, o) ∈ L := fun {L o} q => by
      induction L with
      | nil => cases q
      | cons p L ih =>
        rw [List.lookup_cons] at q
        split at q
        · rename_i hh
          have e1 : P = p.1 := beq_iff_eq.mp hh
          have e2 : p.2 = o := Option.some.inj q
          rw [e1, ← e2]
          exact List.mem_cons_self
        · exact List.mem_cons_of_mem _ (ih q)
    have := List.all_eq_true.mp n _ (mem q)
    simp [PySem.W.tabObj] at this
/-- the end -/
theorem walkT {l : PySem.W.OpenLaw} {n k : Nat} {q : Program} {loose : List Str} {XP : (Str → Option Value) → Heap → Prop} {YP : World → Heap → Prop} {d : DefRec} {K : Params → PySem.W.Frag} {sp : PySem.W.Frag → Sp} {x : Str} {st : Stmt} (names : List Str)
    (hn : l.most = some n) (small : n ≤ sizeLine) (hdf : d.params.defaults = []) (hr : Room k callerA) (hY : ∀ (w : World) (h : Heap), YP w h → (K w.params).In h)
    (hrec : ∀ y ∈ names, ((recsOf q).find? fun e => e.name == y).isSome = true) (htab : ∀ w : World, ∀ y ∈ names, (PySem.W.tabIn (K w.params) y).isSome = true) (hno : ∀ w : World, PySem.W.noTabs (K w.params) = true)
    (hname : d.name = "law") (D : ∀ w : World, DfK (K w.params) "law" st) (bo : BindOk "law" "law" st [x])
    (F : ∀ (w : World) (mg : Str → Option Value) (h : Heap), (K w.params).In h → h.Ns mainGlobals mg →
      ∀ base : Heap, (K w.params).In base → base.Ns mainGlobals mg → (∀ y ∈ names, ∀ c T : Addr, PySem.W.tabIn (K w.params) y = some (c, T) → LamX.TabB base mg c T) →
        ∀ (f : Addr) (fd : FuncData), L2.Fun (K w.params) "law" "law" st f fd → FnOk l.prog w (K w.params) mg base CX0 k f fd [x] (sp (K w.params)))
    (prom : ∀ (K : PySem.W.Frag) (H : Hp) (a : Addr) (ns : List Int), ns.length ≤ n → (∀ y ∈ names, ∀ c T : Addr, PySem.W.tabIn K y = some (c, T) → H T = some (.tbl #[])) → SqL K H a (ns.map V.int) → sp K [.ref a] H (fun v _ => v = .bl true) fun _ _ _ => False) :
    PySem.W.WalkO q loose XP YP l.row.toRowW d [] (fun f vs => PySem.call f vs) := by
  refine Att.attach_call hn hdf ?_
  intro w s0 s1 mg mb fa o pm cd doc a vs ns G Y ho hd hcd hmg hobj hints hlen hg
  have KX := hY w _ Y
  obtain ⟨f, ea, od, an, sl, oc, kV, dc, pm', cd', ct, lk, cc, kp⟩ := (D w).ex
  have Fl := fun_mk (st := st) lk cc kp
  have ef : fa = f := by
    have z := PySem.W.mg_of KX G.T.g ea
    rw [hname] at hmg
    rw [hmg] at z
    cases z
    rfl
  subst ef
  have bb : Binds (K w.params) _ [x] [] := Fl.binds bo
  have key : ∀ y ∈ names, ∃ p : Addr × Addr, PySem.W.tabIn (K w.params) y = some p ∧ PySem.W.CodeHd s1.heap p.1 p.2 ∧ s1.heap.get? p.2 = some (PySem.W.tabObj #[]) := fun y hy => by
    obtain ⟨p, hp⟩ := Option.isSome_iff_exists.mp (htab w y hy)
    obtain ⟨r, hr'⟩ := Option.isSome_iff_exists.mp (hrec y hy)
    have z := PySem.W.tab_of (c := p.1) (P := p.2) G.T KX hr' hp
    exact ⟨p, hp, z.1, z.2⟩
  have mem : ∀ p ∈ names.filterMap (PySem.W.tabIn (K w.params)), ∃ y ∈ names, PySem.W.tabIn (K w.params) y = some p := fun p hp => by
    obtain ⟨y, hy, e⟩ := List.mem_filterMap.mp hp
    exact ⟨y, hy, e⟩
  have got : ∀ p ∈ names.filterMap (PySem.W.tabIn (K w.params)), PySem.W.CodeHd s1.heap p.1 p.2 ∧ s1.heap.get? p.2 = some (PySem.W.tabObj #[]) := fun p hp => by
    obtain ⟨y, hy, e⟩ := mem p hp
    obtain ⟨p', e', a, b⟩ := key y hy
    rw [e] at e'
    cases e'
    exact ⟨a, b⟩
  exact LamX.law_callTs (cs := names.filterMap (PySem.W.tabIn (K w.params))) (CX := CX0) KX G.T.g G.T.b G.T.builtins G.T.nolimit hg (fun p hp => (got p hp).2) (fun p hp => noTab KX (hno w) (got p hp).2) (fun p hp => (got p hp).1) G.T.bmain hobj hints (Nat.le_trans hlen small) hr
    (fun base kb nb tb => F w mg s1.heap KX G.T.g base kb nb (fun y hy c T e => tb (c, T) (List.mem_filterMap.mpr ⟨y, hy, e⟩)) fa _ Fl) (fun s u => BindsTo.of_eq (bo kV dc pm' an cd' ct [u] rfl))
    (fun H hH hS => prom _ H a ns hlen (fun y hy c T e => hH (c, T) (List.mem_filterMap.mpr ⟨y, hy, e⟩)) hS) fun H e s' z => z
end Pl
namespace Pl
open PySem PySem.Spec PyProof.Rows L2
/-! methods with arguments -/
section
variable {X : Cx} {k : Nat} {C : Addr} {ps : List Str} {sp : Sp} {E : XK} {pos apos : Pos} {m : Str} {o e : Expr} {es : List Expr} {ta : TE} {t : TA} {pl : Sem Bool}
theorem pe_mtN (c : MCal X.prog X.w X.K X.mg X.base k C m ps sp) (cl : Cls X.K C) (hr : Room k X.A) (he : PE X o ta) (ha : PA X (e :: es) t)
    (ht : eval (.Call (.Attribute o m apos) (e :: es) [] pos) X.env = (do
      let ov ← eval o X.env
      standAt apos.atName
      let (f, first) ← holding [ov] (getMethod ov m pl)
      callWith pos f first (backTo pos (starEach (e :: es) X.env)) (backToKw pos (keywordEach [] X.env))) := by rfl)
    (hst : starEach (e :: es) X.env = (false, eval e X.env) :: starEach es X.env := by rfl) (hpl : (backTo pos (starEach es X.env)).any (·.1) = false := by rfl) :
    PE X (.Call (.Attribute o m apos) (e :: es) [] pos) (tMeth C m sp [] E0 ta t) := by
  obtain ⟨f, fd, F, h1, h2, kp, hb⟩ := c.ex
  exact pe_meth (dvs := []) he cl ⟨h1, h2, kp⟩ F hr hb .nil pass0 ha hst hpl ht
theorem pe_mtNX (c : MCalX X.prog X.w X.K X.mg X.base k C m ps sp) (hx : Passes (L2.CX X.prog X.w) X E) (cl : Cls X.K C) (hr : Room k X.A) (he : PE X o ta) (ha : PA X (e :: es) t)
    (ht : eval (.Call (.Attribute o m apos) (e :: es) [] pos) X.env = (do
      let ov ← eval o X.env
      standAt apos.atName
      let (f, first) ← holding [ov] (getMethod ov m pl)
      callWith pos f first (backTo pos (starEach (e :: es) X.env)) (backToKw pos (keywordEach [] X.env))) := by rfl)
    (hst : starEach (e :: es) X.env = (false, eval e X.env) :: starEach es X.env := by rfl) (hpl : (backTo pos (starEach es X.env)).any (·.1) = false := by rfl) :
    PE X (.Call (.Attribute o m apos) (e :: es) [] pos) (tMeth C m sp [] E ta t) := by
  obtain ⟨f, fd, F, h1, h2, kp, hb⟩ := c.ex
  exact pe_meth (dvs := []) he cl ⟨h1, h2, kp⟩ F hr hb .nil hx ha hst hpl ht
end
/-! a def whose code object is known -/
structure DfT (K : PySem.W.Frag) (mg : Str → Option Value) (x : Str) (st : Stmt) (ps : List Str) (c : Addr) : Prop where
  ex : ∃ (f : Addr) (oc : Value) (od : Option Addr) (kV doc pm : Value) (an : Option Addr) (ct : Value) (osl : Array (Option Value)),
    K.lookup f = some ⟨oc, od, .func (PySem.W.fnOf x x (defArgs st) (defBody st) (defScope st) .none kV doc pm an (.ref c) ct), osl⟩ ∧ PySem.W.codeIn K (.ref c) x = true ∧ PySem.W.keepIn K (.ref f) = true ∧ mg x = some (.ref f) ∧
      Binds K (PySem.W.fnOf x x (defArgs st) (defBody st) (defScope st) .none kV doc pm an (.ref c) ct) ps []
theorem DfK.dfT {K : PySem.W.Frag} {h : Heap} {mg : Str → Option Value} {x : Str} {st : Stmt} {ps : List Str} {c T : Addr} (d : DfK K x st) (X : K.In h) (G : h.Ns mainGlobals mg) (b : BindOk x x st ps) (ht : PySem.W.tabIn K x = some (c, T)) : DfT K mg x st ps c := by
  obtain ⟨f, a, od, an, sl, oc, kV, dc, pm, cd, ct, l, cc, kp⟩ := d.ex
  have F := fun_mk (st := st) l cc kp
  have e : cd = .ref c := by
    unfold PySem.W.tabIn at ht
    rw [a] at ht
    dsimp only at ht
    rw [l] at ht
    dsimp only [PySem.W.fnOf] at ht
    cases cd <;> first | (simp at ht; done) | skip
    rename_i c1
    dsimp only at ht
    split at ht
    · split at ht
      · cases ht
        rfl
      · cases ht
    · cases ht
  subst e
  exact ⟨f, oc, od, kV, dc, pm, an, ct, sl, l, cc, kp, PySem.W.mg_of X G a, F.binds b⟩
section
variable {P : Program} {w : World} {K : PySem.W.Frag} {mg : Str → Option Value} {base : Heap} {x : Str} {st : Stmt} {N ps : List Str} {k : Nat} {sp : Sp} {c : Addr}
theorem DfT.cal (D : DfT K mg x st ps c) (S : FnScope N ps (defScope st)) (lng : ∀ vs H Q E, sp vs H Q E → vs.length = ps.length)
    (bod : ∀ (f : Addr) (A : Around) (out : List Env) (s : Shared) (H : Hp) (vs : List V) (Q : VK) (E : XK),
      Room k (A.deeper (envOfC x (defScope st) s.heap.objs.size f (.ref c))) → sp vs H Q E →
      ∃ t, PSs (cxOf CX0 P w K mg base N x (defScope st) f (.ref c) A out s H E).nox (defBody st) t ∧
        t { nx := fun _ H' => Q .non H', rt := Q } (start N vs) H) : Cal P w K mg base (k + 1) x ps sp := by
  obtain ⟨f, oc, od, kV, doc, pm, an, ct, osl, lk, hcd, kp, hm, hb⟩ := D.ex
  refine ⟨f, _, fn_of lk hcd S lng fun A out s H vs Q E hr h => ?_, hm, kp, hb⟩
  obtain ⟨t, h1, h2⟩ := bod f A out s H vs Q E hr h
  exact ⟨t, h1.nox, h2⟩
end
/-! a lambda handed to a def that calls it in a try with several clauses: what it returns stands in a list behind "told", else the clause's own name -/
def qLam (x : Str) : Str := x ++ ".<locals>." ++ "<lambda>"
/-- what the clauses make of an exception -/
def clW (K : PySem.W.Frag) (R : Str → Hp → Prop) : List (Addr × Str) → XK
  | [] => fun _ _ _ => False
  | (C, nm) :: r => fun cls d H => ∃ b, PySem.W.exmOne K cls (.ref C) = some b ∧ (b = true → R nm H) ∧ (b = false → clW K R r cls d H)
def TTs (K : PySem.W.Frag) (cs : List (Addr × Str)) : (XK → Hp → VK → Prop) → Hp → VK → Prop := fun tl H Q =>
  tl (clW K (fun nm H' => ∀ p, H' p = none → Q (.ref p) (upd H' p (.lst [.str nm]))) cs) H fun v H' => 2 ≤ sizeLine ∧ ∀ p, H' p = none → Q (.ref p) (upd H' p (.lst [.str "told", v]))
end Pl
namespace Pl
open PySem PySem.Spec PyProof.Rows L2
/-- walkT, with the tables' facts laid out -/
theorem walkT2 {l : PySem.W.OpenLaw} {n k : Nat} {q : Program} {loose : List Str} {XP : (Str → Option Value) → Heap → Prop} {YP : World → Heap → Prop} {d : DefRec} {K : Params → PySem.W.Frag} {sp : PySem.W.Frag → Sp} {x : Str} {st : Stmt} (names : List Str)
    (hn : l.most = some n) (small : n ≤ sizeLine) (hdf : d.params.defaults = []) (hr : Room k callerA) (hY : ∀ (w : World) (h : Heap), YP w h → (K w.params).In h)
    (hrec : ∀ y ∈ names, ((recsOf q).find? fun e => e.name == y).isSome = true) (htab : ∀ w : World, ∀ y ∈ names, (PySem.W.tabIn (K w.params) y).isSome = true) (hno : ∀ w : World, PySem.W.noTabs (K w.params) = true)
    (hdis : ∀ w : World, (names.all fun y => names.all fun z => y == z || !((PySem.W.tabIn (K w.params) y).map (·.2) == (PySem.W.tabIn (K w.params) z).map (·.2))) = true)
    (hname : d.name = "law") (D : ∀ w : World, DfK (K w.params) "law" st) (bo : BindOk "law" "law" st [x])
    (F : ∀ (w : World) (mg : Str → Option Value) (h : Heap), (K w.params).In h → h.Ns mainGlobals mg →
      ∀ base : Heap, (K w.params).In base → base.Ns mainGlobals mg → (∀ y ∈ names, ∃ c T : Addr, PySem.W.tabIn (K w.params) y = some (c, T) ∧ LamX.TabB base mg c T) →
        (∀ y ∈ names, ∀ z ∈ names, y ≠ z → ∀ c T c' T' : Addr, PySem.W.tabIn (K w.params) y = some (c, T) → PySem.W.tabIn (K w.params) z = some (c', T') → T ≠ T') →
        ∀ (f : Addr) (fd : FuncData), L2.Fun (K w.params) "law" "law" st f fd → FnOk l.prog w (K w.params) mg base CX0 k f fd [x] (sp (K w.params)))
    (prom : ∀ (K : PySem.W.Frag) (H : Hp) (a : Addr) (ns : List Int), ns.length ≤ n → (∀ y ∈ names, ∀ c T : Addr, PySem.W.tabIn K y = some (c, T) → H T = some (.tbl #[])) → SqL K H a (ns.map V.int) → sp K [.ref a] H (fun v _ => v = .bl true) fun _ _ _ => False) :
    PySem.W.WalkO q loose XP YP l.row.toRowW d [] (fun f vs => PySem.call f vs) := by
  refine walkT names hn small hdf hr hY hrec htab hno hname D bo (fun w mg h KX G base kb nb tb f fd Df => F w mg h KX G base kb nb (fun y hy => ?_) (fun y hy z hz ne c T c' T' e1 e2 eT => ?_) f fd Df) prom
  · obtain ⟨p, hp⟩ := Option.isSome_iff_exists.mp (htab w y hy)
    exact ⟨p.1, p.2, hp, tb y hy p.1 p.2 hp⟩
  · have a := List.all_eq_true.mp (List.all_eq_true.mp (hdis w) y hy) z hz
    rw [e1, e2, eT] at a
    simp at a
    exact ne a
end Pl
namespace Pl
open PySem PySem.Spec PyProof.Rows L2
/-! super() in a method: evaluation at the method's own activation -/
structure PEt (X : Cx) (body : List Stmt) (e : Expr) (t : TE) : Prop where
  run : ∀ (pins : List (Addr × Obj)) (s : Shared) (σ : L2.St) (H : Hp) (Q : VK), Inv X pins σ H s → t σ H Q → _root_.PySem.wpAt (model X.prog X.w) X.A (.func body X.env) (eval e X.env) (EP X pins σ Q) X.xe s
structure PSt (X : Cx) (body : List Stmt) (st : Stmt) (t : TS) : Prop where
  run : ∀ (pins : List (Addr × Obj)) (s : Shared) (σ : L2.St) (H : Hp) (D : Ends), Inv X pins σ H s → t D σ H → _root_.PySem.wpAt (model X.prog X.w) X.A (.func body X.env) (exec st X.env) (SP X pins D) X.xe s
structure PSst (X : Cx) (body : List Stmt) (st : List Stmt) (t : TS) : Prop where
  run : ∀ (pins : List (Addr × Obj)) (s : Shared) (σ : L2.St) (H : Hp) (D : Ends), Inv X pins σ H s → t D σ H → _root_.PySem.wpAt (model X.prog X.w) X.A (.func body X.env) (execs st X.env) (SP X pins D) X.xe s
section
variable {X : Cx} {body rest sts : List Stmt} {st : Stmt} {t u : TS} {te : TE} {e : Expr} {pos : Pos}
theorem psst_of (h : PSs X sts t) : PSst X body sts t := ⟨fun pins s σ H D I q => PySem.wpAt_of_wpAny (h.run pins s σ H D I q)⟩
theorem pst_of (h : PS X st t) : PSt X body st t := ⟨fun pins s σ H D I q => PySem.wpAt_of_wpAny (h.run pins s σ H D I q)⟩
theorem psst_cons (h1 : PSt X body st t) (h2 : PSst X body rest u) : PSst X body (st :: rest) (tSeq t u) := by
  refine ⟨fun pins s σ H D I h => ?_⟩
  refine PySem.ks_wpAt_execs_cons (PySem.ks_wpAt_mono (h1.run pins s σ H { D with nx := u D } I h) (fun f s1 q => ?_) fun _ _ x => x)
  cases f with
  | next =>
    obtain ⟨σ', H', I', q⟩ := q
    exact h2.run pins s1 σ' H' D I' q
  | ret v => exact q
  | brk => exact q
  | cont => exact q
theorem psst_one (h1 : PSt X body st t) : PSst X body [st] t := by
  refine ⟨fun pins s σ H D I h => ?_⟩
  refine PySem.ks_wpAt_execs_cons (PySem.ks_wpAt_mono (h1.run pins s σ H D I h) (fun f s1 q => ?_) fun _ _ x => x)
  cases f with
  | next => exact PySem.wpAt_of_wpAny (wpAny_execs_nil q)
  | ret v => exact q
  | brk => exact q
  | cont => exact q
theorem pst_ret (he : PEt X body e te) : PSt X body (.Return (some e) pos) (tRet te) := by
  refine ⟨fun pins s σ H D I h => ?_⟩
  exact PySem.ks_wpAt_Return_some (PySem.ks_wpAt_mono (he.run pins s σ H _ I h) (fun v s1 ⟨x, H1, I1, r1, q1⟩ => ⟨x, σ, H1, I1, r1, q1⟩) fun _ _ x => x)
theorem pst_expr (he : PEt X body e te) (hs : swapsWith e none pos.line X.env = pure false := by rfl) : PSt X body (.Expr e pos) (tDrop te) := by
  refine ⟨fun pins s σ H D I h => ?_⟩
  exact PySem.ks_wpAt_Expr_any (PySem.ks_wpAt_mono (he.run pins s σ H _ I h) (fun v s1 ⟨x, H1, I1, r1, q1⟩ => ⟨σ, H1, I1, q1⟩) fun _ _ x => x) I.quiet hs
end
/-- what the rule of super() asks of the method's activation; C: the instance's class, D: the class of the text -/
structure SupX (X : Cx) (C D : Addr) (sf : Str) : Prop where
  ks : X.env.kindOf "super" = some .globalImplicit
  kc : X.env.kindOf "__class__" = some .free
  kself : X.env.kindOf sf = some .local
  n0 : X.N[0]? = some sf
  fn : ∃ f of fd ar, X.env.func = some f ∧ X.K.lookup f = some of ∧ of.data = .func fd ∧ (fd.params.posonlyargs ++ fd.params.args).head? = some ar ∧ ar.arg = sf
  code : ∃ cda oc vs file tf, X.env.code = .ref cda ∧ X.K.lookup cda = some oc ∧ oc.data = .fields vs ∧ vs[2]? = some (.str file tf) ∧ ((X.prog.main.file : Str) == file) = true
  top : (X.prog.main.scope.names.lookup ("super" : Str)).isSome = false
  cell : ∃ cc ocl, X.env.cells.lookup ("__class__" : Str) = some cc ∧ X.K.lookup cc = some ocl ∧ ocl.data = .cell (some (.ref D))
  mgs : X.mg "super" = none
  sub : PySem.W.mroIn X.K C (.ref D) = some true
  clD : ∃ cd, PySem.W.clsIn X.K D = some cd
  clC : ∃ cd, PySem.W.clsIn X.K C = some cd
  op : PySem.W.nsIn X.K cStatics "thirdparty.any" = some none
/-- super().m(..): the instance in the first slot, its method above D -/
def tSup (C : Addr) (sp : Sp) (E : XK) (t : TA) : TE := fun σ H Q => ∃ a dx fs, σ[0]? = some (some (V.ref a)) ∧ H a = some (.ins C dx fs) ∧ t σ H fun vs H1 => sp (V.ref a :: vs) H1 Q E
theorem ks_objs {K : PySem.W.Frag} {h : Heap} {D : Addr} {cdD : ClassData} (X : K.In h) (hD : PySem.W.clsIn K D = some cdD) : ∃ oD, h.get? D = some oD ∧ oD.data = .cls cdD := by
  unfold PySem.W.clsIn at hD
  split at hD
  · rename_i c d cd' sl ho
    cases hD
    exact ⟨_, X _ _ ho, rfl⟩
  · cases hD
section
variable {X : Cx} {body : List Stmt} {C D : Addr} {sf m : Str} {p0 p1 p2 p3 : Pos} {args : List Expr} {t : TA} {sp : Sp} {E : XK} {k : Nat} {f2 : Addr} {CX : CXT}
theorem sup_base {pins : List (Addr × Obj)} {s : Shared} {σ : L2.St} {H : Hp} {a dx : Addr} {fs : List (Str × V)} {whole : Sem Value} {Q : Value → Shared → Prop} (S : SupX X C D sf) (I : Inv X pins σ H s) (h0 : σ[0]? = some (some (V.ref a))) (ha : H a = some (.ins C dx fs)) (hat : (m == ("__class__" : Str)) = false)
    (h : ∀ so s', Inv X pins σ H s' → s'.heap.get? so = some (PySem.W.ks_superObj D a C) → Q (.ref so) s') :
    _root_.PySem.wpAt (model X.prog X.w) X.A (.func body X.env) (attributeBase (.Call (.Name "super" p0) [] [] p1) m X.env whole) Q X.xe s := by
  obtain ⟨f, of, fd, ar, e1, e2, e3, e4, e5⟩ := S.fn
  obtain ⟨cda, oc, vs, file, tf, c1, c2, c3, c4, c5⟩ := S.code
  obtain ⟨cc, ocl, d1, d2, d3⟩ := S.cell
  obtain ⟨cdD, hD⟩ := S.clD
  have KX := I.kIn
  obtain ⟨oD, hD1, hD2⟩ := ks_objs KX hD
  obtain ⟨mb, hb, hbb⟩ := I.mod.blt
  obtain ⟨mA, O, _⟩ := ins_get I.hok ha
  obtain ⟨ml, hn, hl⟩ := I.loc
  have hN := S.n0
  obtain ⟨u, ru, lu⟩ := hl 0 sf (.ref a) hN h0 (.inl S.kself)
  obtain rfl : u = Value.ref a := ru
  have hm0 : ml sf = some (Value.ref a) := by
    rcases lu with ⟨_, q⟩ | ⟨q | q, _⟩
    · exact q
    · rw [S.kself] at q
      cases q
    · rw [S.kself] at q
      cases q
  refine PySem.ks_wpAt_super_base (env := X.env) S.ks S.kc hat e1 (KX _ _ e2) e3 e4 c1 (KX _ _ c2) c3 c4 c5 S.top ?_
  rw [e5]
  refine PySem.W.ks_loadName_global I.ok.kind S.ks (Calls.loadGlobal_builtin (env := X.env) (by rw [I.ok.glob]; exact I.mod.glob.keeps I.bk) S.mgs (by rw [I.ok.blt]; exact hb.keeps I.bk) ((hbb _ (by decide +kernel)).trans (by first | rfl | kernel_rfl)) ⟨rfl, ?_⟩)
  refine wpAny_loadName_free I.ok.kind S.kc d1 ⟨_, KX _ _ d2, d3⟩ ?_
  refine wpAny_loadName_local I.ok.kind S.kself hn hm0 ?_
  obtain ⟨hh, g, d, tk, os⟩ := s
  refine PySem.ks_wpAny_isType_cls hD1 hD2 ⟨rfl, ?_⟩
  refine PySem.ks_wpAny_call_super hD1 hD2 O.obj rfl (fun c z => nomatch z) (PySem.W.looks_mroIn KX S.sub) (fun h' e k => ?_)
  exact h _ _ (I.kept (t' := tk) k) e
theorem pt_super {pl : Sem Bool} (S : SupX X C D sf) (hat : (m == ("__class__" : Str)) = false) (hm : PySem.W.ks_superIn X.K C D m = some (some (.ref f2))) (hty : PySem.W.typeIn X.K (.ref f2) = some (.type "function")) (hf : PySem.W.fnIn X.K f2 = true)
    (F : FnR X.prog X.w X.K X.mg X.base CX k f2 sp) (hr : Room k X.A) (hx : Passes CX X E) (ha : PA X args t)
    (hst : args = [] ∧ t = tNil ∨ ∃ e es, args = e :: es ∧ starEach (e :: es) X.env = (false, eval e X.env) :: starEach es X.env ∧ (backTo p3 (starEach es X.env)).any (·.1) = false)
    (ht : eval (.Call (.Attribute (.Call (.Name "super" p0) [] [] p1) m p2) args [] p3) X.env = (do
      let ov ← attributeBase (.Call (.Name "super" p0) [] [] p1) m X.env (eval (.Call (.Name "super" p0) [] [] p1) X.env)
      standAt p2.atName
      let (f, first) ← holding [ov] (getMethod ov m pl)
      callWith p3 f first (backTo p3 (starEach args X.env)) []) := by rfl) :
    PEt X body (.Call (.Attribute (.Call (.Name "super" p0) [] [] p1) m p2) args [] p3) (tSup C sp E t) := by
  refine ⟨fun pins s σ H Q I h => ?_⟩
  obtain ⟨a, dx, fs, h0, hH, h⟩ := h
  refine PySem.ks_wpAt_MethodCall (pl := pl) (sup_base S I h0 hH hat fun so s1 I1 hso => ?_) ht
  obtain ⟨cd, hC⟩ := S.clC
  have KX := I1.kIn
  obtain ⟨mA, O, _⟩ := ins_get I1.hok hH
  have hxC : a ≠ C := by
    intro z
    obtain ⟨oC, q1, q2⟩ := ks_objs KX hC
    rw [← z, O.obj] at q1
    cases q1
    cases q2
  obtain ⟨of, hof, hofc⟩ : ∃ of, s1.heap.get? f2 = some of ∧ of.cls = .type "function" := by
    have ht' : (X.K.lookup f2).map (·.cls) = some (.type "function") := hty
    cases z : X.K.lookup f2 with
    | none => rw [z] at ht'; cases ht'
    | some of => rw [z] at ht'; exact ⟨of, KX _ _ z, Option.some.inj ht'⟩
  unfold PySem.W.ks_superIn at hm
  rw [hC] at hm
  have I2 : Inv X ((s1.heap.objs.size, PySem.W.methodObj (.ref f2) (.ref a)) :: pins) σ H { s1 with heap := s1.heap.push (PySem.W.methodObj (.ref f2) (.ref a)), toks := s1.toks + 1 } := ClX.met_new I1
  have hb := ClX.base_none I1 (Nat.le_refl _)
  obtain ⟨hh, g, d, tk, os⟩ := s1
  refine PySem.ks_wpAny_getMethod_super hso (PySem.W.looks_opaque KX S.op) (l₀ := cd.mro) ?_ rfl KX hm hof hofc hxC hat ?_
  · exact fun A Q E s k q => wpAny_bind ((PySem.W.looks_clsIn KX hC) A _ E s k (wpAny_pure q))
  · rcases hst with ⟨rfl, rfl⟩ | ⟨e, es, rfl, he, hpl⟩
    · refine PySem.W.callWith_M0 (first := []) ⟨ClX.pin_at I2, I2.kIn⟩ hf ?_
      exact ClX.run_cm F hr hx I2 .nil h
    · refine ClX.callwith_cm I2 hb hf (thn (ha.run p3 _ _ σ H _ I2 h) fun us s3 ⟨vs, H2, I3, rv, q2⟩ => ⟨⟨ClX.pin_at I3, I3.kIn⟩, ?_⟩) he hpl
      exact ClX.run_cm F hr hx I3 rv q2
end
/-! a method that says super(): its function, its cell, its code object -/
structure FsK (K : PySem.W.Frag) (D : Addr) (file : Str) (x qual : Str) (st : Stmt) (f : Addr) : Prop where
  ex : ∃ (cda cc : Addr) (oc kV dc pm ct : Value) (od an : Option Addr) (sl : Array (Option Value)) (o1 o2 : Obj) (vs : Array Value) (tf : Tok),
    K.lookup f = some ⟨oc, od, .func (PySem.W.ksFn x qual (defArgs st) (defBody st) (defScope st) .none kV dc pm an (.ref cda) ct cc), sl⟩ ∧ PySem.W.codeIn K (.ref cda) qual = true ∧
    K.lookup cc = some o1 ∧ o1.data = .cell (some (.ref D)) ∧ K.lookup cda = some o2 ∧ o2.data = .fields vs ∧ vs[2]? = some (.str file tf)
  kp : PySem.W.keepIn K (.ref f) = true
/-- the classes: C the instance's, D the text's -/
structure SubK (K : PySem.W.Frag) (C D : Addr) : Prop where
  sub : PySem.W.mroIn K C (.ref D) = some true
  clD : PySem.W.isClsIn K D = true
  clC : PySem.W.isClsIn K C = true
  op : PySem.W.nsIn K cStatics "thirdparty.any" = some none
  su : PySem.W.nsIn K mainGlobals "super" = some none
/-- the program's own part -/
structure SupP (P : Program) (file : Str) : Prop where
  file : ((P.main.file : Str) == file) = true
  top : (P.main.scope.names.lookup ("super" : Str)).isSome = false
abbrev nfS (x qual : Str) (st : Stmt) (cda cc : Addr) : NdefX.NF := ⟨x, qual, defArgs st, defBody st, defScope st, [("__class__", cc)], cda⟩
section
variable {CX : CXT} {P : Program} {w : World} {K : PySem.W.Frag} {mg : Str → Option Value} {base : Heap} {N ps : List Str} {x qual : Str} {st : Stmt} {f C D cda cc : Addr} {A : Around} {outer : List Env} {s : Shared} {H : Hp} {E : XK} {file sf : Str}
theorem cells_s {o1 : Obj} (e0 : Env0 P w K mg base A outer s H) (h1 : K.lookup cc = some o1) (h2 : o1.data = .cell (some (.ref D))) : NdefX.CellsAt [("__class__", cc)] ["__class__"] [none] s.heap H := by
  have b := e0.mod.kin _ _ h1
  have key : ∀ (y : Str) (c : Addr), List.lookup y [(("__class__" : Str), cc)] = some c → y = "__class__" ∧ c = cc := by
    intro y c e
    rw [List.lookup_cons] at e
    split at e
    · rename_i q
      cases e
      exact ⟨eq_of_beq q, rfl⟩
    · cases e
  refine ⟨rfl, fun y c e => ?_, fun y z c e1 e2 => ?_, fun i y e => ?_⟩
  · obtain ⟨rfl, rfl⟩ := key y c e
    exact ⟨(e0.bs _ _ b).2, _, _, (e0.bs _ _ b).1, h2⟩
  · rw [(key y c e1).1, (key z c e2).1]
  · cases i with
    | zero =>
      cases e
      exact ⟨cc, rfl, fun v q => by cases q⟩
    | succ i => simp at e
theorem supX_of {fd : FuncData} {of : Obj} {o1 o2 : Obj} {vs : Array Value} {tf : Tok} {ar : Arg} (G : mg "super" = none) (SP : SupP P file) (U : SubK K C D) (hf : K.lookup f = some of) (hfd : of.data = .func fd) (hp : (fd.params.posonlyargs ++ fd.params.args).head? = some ar) (ha : ar.arg = sf)
    (h1 : K.lookup cc = some o1) (h2 : o1.data = .cell (some (.ref D))) (h3 : K.lookup cda = some o2) (h4 : o2.data = .fields vs) (h5 : vs[2]? = some (.str file tf)) (n0 : N[0]? = some sf)
    (k1 : (defScope st).names.lookup ("super" : Str) = some .globalImplicit) (k2 : (defScope st).names.lookup ("__class__" : Str) = some .free) (k3 : (defScope st).names.lookup sf = some .local) :
    SupX (NdefX.ncx CX P w K mg base N (nfS x qual st cda cc) f A outer s H E) C D sf :=
  ⟨k1, k2, k3, n0, ⟨f, of, fd, ar, rfl, hf, hfd, hp, ha⟩, ⟨cda, o2, vs, file, tf, rfl, h3, h4, h5, SP.file⟩, SP.top, ⟨cc, o1, rfl, h1, h2⟩, G, U.sub, Option.isSome_iff_exists.mp U.clD, Option.isSome_iff_exists.mp U.clC, U.op⟩
end
section
variable {CX : CXT} {P : Program} {w : World} {K : PySem.W.Frag} {mg : Str → Option Value} {base : Heap} {N ps : List Str} {x qual : Str} {st : Stmt} {f C D : Addr} {file sf : Str} {k : Nat} {sp : Sp}
/-- THE RULE for a method that says super() -/
theorem FsK.ok {ar : Arg} (F : FsK K D file x qual st f) (SP : SupP P file) (U : SubK K C D) (G : mg "super" = none) (S : NdefX.NScope N ps ["__class__"] (defScope st)) (hp : ((defArgs st).posonlyargs ++ (defArgs st).args).head? = some ar) (ha : ar.arg = sf) (n0 : N[0]? = some sf)
    (k1 : (defScope st).names.lookup ("super" : Str) = some .globalImplicit) (k3 : (defScope st).names.lookup sf = some .local) (hbind : ∀ (kV doc pm : Value) (an : Option Addr) (cdv ct : Value) (cc : Addr) (us : List Value), us.length = ps.length → bindArgs (PySem.W.ksFn x qual (defArgs st) (defBody st) (defScope st) .none kV doc pm an cdv ct cc) ⟨us, []⟩ = pure (ps.zip us))
    (len : ∀ vs H Q E, sp vs H Q E → vs.length = ps.length)
    (hbody : ∀ (cda cc : Addr) (A : Around) (outer : List Env) (s : Shared) (H : Hp) (vs : List V) (Q : VK) (E : XK), Room k (A.deeper (NdefX.envF (nfS x qual st cda cc) f s.heap.objs.size)) → SupX (NdefX.ncx CX P w K mg base N (nfS x qual st cda cc) f A outer s H E) C D sf → sp vs H Q E →
      ∃ t, PSst (NdefX.ncx CX P w K mg base N (nfS x qual st cda cc) f A outer s H E) (defBody st) (defBody st) t ∧ t { nx := fun _ H' => Q .non H', rt := Q } (NdefX.startF N vs [none]) H) :
    ∃ fd, FnOk P w K mg base CX (k + 1) f fd ps sp ∧ Binds K fd ps [] := by
  obtain ⟨cda, cc, oc, kV, dc, pm, ct, od, an, sl, o1, o2, vs, tf, l, hcd, h1, h2, h3, h4, h5⟩ := F.ex
  refine ⟨_, ⟨len, fun A outer s H args us vs Q E hr e0 hb r hsp => ?_⟩, .all (fun us hl => hbind kV dc pm an (.ref cda) ct cc us hl)⟩
  have hl := len _ _ _ _ hsp
  have KX : K.In s.heap := e0.mod.kin.keeps fun b o e => (e0.bs b o e).1
  have lim : s.heap.NoLimit := e0.mod.nolimit.keeps fun b o e => (e0.bs b o e).1
  refine PySem.ks_codeAny_call_defAt (body := defBody st) (binds := ps.zip us) hr.depth (KX _ _ l) rfl lim (PySem.W.codeRec_of KX hcd) rfl hb S.nocell (fun y hy => S.par y.1 (List.of_mem_zip hy).1) (fun h₁ hns hk => ?_) S.co S.gen S.kind
  have SX : SupX (NdefX.ncx CX P w K mg base N (nfS x qual st cda cc) f A outer s H E) C D sf := supX_of G SP U l rfl hp ha h1 h2 h3 h4 h5 n0 k1 (S.frk _ (by simp)) k3
  obtain ⟨t, ht, hq⟩ := hbody cda cc A outer s H vs Q E (hr.deeper _) SX hsp
  have I : Inv (NdefX.ncx CX P w K mg base N (nfS x qual st cda cc) f A outer s H E) [] (NdefX.startF N vs [none]) H { s with heap := h₁, toks := s.toks + (ps.zip us).length } := NdefX.inv_startN S hr.hd e0 hl r (cells_s e0 h1 h2) hns hk
  have fin : ∀ {σ' : L2.St} {H' : Hp} {v : V} {u : Value} {s' : Shared}, Inv (NdefX.ncx CX P w K mg base N (nfS x qual st cda cc) f A outer s H E) [] σ' H' s' → L2.RelV v u → Q v H' → CE outer P w H s Q u s' :=
    fun {σ' H' v u s'} J rv q => ⟨v, H', J.os, J.bare, J.base, J.hok, rv, q⟩
  refine PySem.ks_wpAt_mono (ht.run [] _ _ H _ I hq) (fun fl s' hs => ?_) (fun e s' hs => hs)
  cases fl with
  | ret u =>
    obtain ⟨v, σ', H', J, rv, q⟩ := hs
    exact fin J rv q
  | next =>
    obtain ⟨σ', H', J, q⟩ := hs
    exact fin (v := V.non) (u := Value.none) J rfl q
  | brk =>
    obtain ⟨_, _, _, q⟩ := hs
    exact False.elim q
  | cont =>
    obtain ⟨_, _, _, q⟩ := hs
    exact False.elim q
end
/-! methods found by super() -/
structure Sh (K : PySem.W.Frag) (C D : Addr) (m qual : Str) (st : Stmt) (ps : List Str) : Prop where
  ex : ∃ f fd, Fun K m qual st f fd ∧ PySem.W.ks_superIn K C D m = some (some (.ref f)) ∧ PySem.W.typeIn K (.ref f) = some (.type "function") ∧ PySem.W.fnIn K f = true ∧ Binds K fd ps []
structure SCal (CX : CXT) (P : Program) (w : World) (K : PySem.W.Frag) (mg : Str → Option Value) (base : Heap) (k : Nat) (C D : Addr) (m : Str) (ps : List Str) (sp : Sp) : Prop where
  ex : ∃ f fd, FnOk P w K mg base CX k f fd ps sp ∧ PySem.W.ks_superIn K C D m = some (some (.ref f)) ∧ PySem.W.typeIn K (.ref f) = some (.type "function") ∧ PySem.W.fnIn K f = true ∧ Binds K fd ps []
section
variable {P : Program} {w : World} {K : PySem.W.Frag} {mg : Str → Option Value} {base : Heap} {C Dd : Addr} {x qual : Str} {st : Stmt} {N ps : List Str} {k : Nat} {sp : Sp}
theorem Sh.cal (D : Sh K C Dd x qual st ps) (S : FnScope N ps (defScope st)) (lng : ∀ vs H Q E, sp vs H Q E → vs.length = ps.length)
    (bod : ∀ (f : Addr) (cdv : Value) (A : Around) (out : List Env) (s : Shared) (H : Hp) (vs : List V) (Q : VK) (E : XK),
      Room k (A.deeper (envOfC qual (defScope st) s.heap.objs.size f cdv)) → sp vs H Q E →
      ∃ t, PSs (cxOf CX0 P w K mg base N qual (defScope st) f cdv A out s H E).nox (defBody st) t ∧
        t { nx := fun _ H' => Q .non H', rt := Q } (start N vs) H) : SCal CX0 P w K mg base (k + 1) C Dd x ps sp := by
  obtain ⟨f, fd, F, h1, h2, h3, hb⟩ := D.ex
  exact ⟨f, fd, F.ok S lng (bod f), h1, h2, h3, hb⟩
theorem Sh.calX (D : Sh K C Dd x qual st ps) (S : FnScope N ps (defScope st)) (lng : ∀ vs H Q E, sp vs H Q E → vs.length = ps.length)
    (bod : ∀ (f : Addr) (cdv : Value) (A : Around) (out : List Env) (s : Shared) (H : Hp) (vs : List V) (Q : VK) (E : XK),
      Room k (A.deeper (envOfC qual (defScope st) s.heap.objs.size f cdv)) → sp vs H Q E →
      ∃ t, PSs (cxOf (L2.CX P w) P w K mg base N qual (defScope st) f cdv A out s H E) (defBody st) t ∧
        t { nx := fun _ H' => Q .non H', rt := Q } (start N vs) H) : SCal (L2.CX P w) P w K mg base (k + 1) C Dd x ps sp := by
  obtain ⟨f, fd, F, h1, h2, h3, hb⟩ := D.ex
  exact ⟨f, fd, F.okX S lng (bod f), h1, h2, h3, hb⟩
end
section
variable {X : Cx} {body : List Stmt} {C D : Addr} {sf m : Str} {p0 p1 p2 p3 : Pos} {e : Expr} {es : List Expr} {t : TA} {sp : Sp} {E : XK} {k : Nat} {CX : CXT} {ps : List Str} {pl : Sem Bool}
/-- super().m() -/
theorem pt_sup0 (S : SupX X C D sf) (c : SCal CX X.prog X.w X.K X.mg X.base k C D m ps sp) (hr : Room k X.A) (hx : Passes CX X E) (hat : (m == ("__class__" : Str)) = false := by decide)
    (ht : eval (.Call (.Attribute (.Call (.Name "super" p0) [] [] p1) m p2) [] [] p3) X.env = (do
      let ov ← attributeBase (.Call (.Name "super" p0) [] [] p1) m X.env (eval (.Call (.Name "super" p0) [] [] p1) X.env)
      standAt p2.atName
      let (f, first) ← holding [ov] (getMethod ov m pl)
      callWith p3 f first (backTo p3 (starEach [] X.env)) []) := by rfl) :
    PEt X body (.Call (.Attribute (.Call (.Name "super" p0) [] [] p1) m p2) [] [] p3) (tSup C sp E tNil) := by
  obtain ⟨f, fd, F, h1, h2, h3, hb⟩ := c.ex
  refine pt_super S hat h1 h2 h3 ((F.raw hb .nil).imp fun vs H Q E h => by simpa using h) hr hx pa_nil (.inl ⟨rfl, rfl⟩) ht
/-- super().m(e, ..) -/
theorem pt_supN (S : SupX X C D sf) (c : SCal CX X.prog X.w X.K X.mg X.base k C D m ps sp) (hr : Room k X.A) (hx : Passes CX X E) (ha : PA X (e :: es) t) (hat : (m == ("__class__" : Str)) = false := by decide)
    (hst : starEach (e :: es) X.env = (false, eval e X.env) :: starEach es X.env := by rfl) (hpl : (backTo p3 (starEach es X.env)).any (·.1) = false := by rfl)
    (ht : eval (.Call (.Attribute (.Call (.Name "super" p0) [] [] p1) m p2) (e :: es) [] p3) X.env = (do
      let ov ← attributeBase (.Call (.Name "super" p0) [] [] p1) m X.env (eval (.Call (.Name "super" p0) [] [] p1) X.env)
      standAt p2.atName
      let (f, first) ← holding [ov] (getMethod ov m pl)
      callWith p3 f first (backTo p3 (starEach (e :: es) X.env)) []) := by rfl) :
    PEt X body (.Call (.Attribute (.Call (.Name "super" p0) [] [] p1) m p2) (e :: es) [] p3) (tSup C sp E t) := by
  obtain ⟨f, fd, F, h1, h2, h3, hb⟩ := c.ex
  refine pt_super S hat h1 h2 h3 ((F.raw hb .nil).imp fun vs H Q E h => by simpa using h) hr hx ha (.inr ⟨e, es, rfl, hst, hpl⟩) ht
end
/-! what the head shows -/
theorem FsK.of {K : PySem.W.Frag} {D f cda cc : Addr} {file x qual : Str} {st : Stmt} {oc kV dc pm ct cl1 cl2 : Value} {od an od1 od2 : Option Addr} {sl sl1 sl2 : Array (Option Value)} {vs : Array Value} {tf : Tok}
    (l : K.lookup f = some ⟨oc, od, .func (PySem.W.ksFn x qual (defArgs st) (defBody st) (defScope st) .none kV dc pm an (.ref cda) ct cc), sl⟩) (c : PySem.W.codeIn K (.ref cda) qual = true)
    (h1 : K.lookup cc = some ⟨cl1, od1, .cell (some (.ref D)), sl1⟩) (h3 : K.lookup cda = some ⟨cl2, od2, .fields vs, sl2⟩) (h5 : vs[2]? = some (.str file tf)) (k : PySem.W.keepIn K (.ref f) = true) : FsK K D file x qual st f :=
  ⟨⟨cda, cc, oc, kV, dc, pm, ct, od, an, sl, _, _, vs, tf, l, c, h1, rfl, h3, rfl, h5⟩, k⟩
/-- a method of C that says super(), its text in D -/
structure MsK (K : PySem.W.Frag) (C D : Addr) (file x qual : Str) (st : Stmt) : Prop where
  ex : ∃ f, PySem.W.findIn K (.ref C) x = some (some (.ref f)) ∧ PySem.W.isFn K (.ref f) = true ∧ FsK K D file x qual st f
structure ShK2 (K : PySem.W.Frag) (C D : Addr) (x qual : Str) (st : Stmt) : Prop where
  ex : ∃ f, PySem.W.ks_superIn K C D x = some (some (.ref f)) ∧ PySem.W.typeIn K (.ref f) = some (.type "function") ∧ PySem.W.fnIn K f = true ∧ FnAt K f x qual st
theorem ShK2.sh {K : PySem.W.Frag} {C D : Addr} {x qual : Str} {st : Stmt} {ps : List Str} (d : ShK2 K C D x qual st) (b : BindOk x qual st ps) : Sh K C D x qual st ps := by
  obtain ⟨f, a, i, j, od, an, sl, oc, kV, dc, pm, cd, ct, l, c, k⟩ := d.ex
  have F := fun_mk (st := st) l c k
  exact ⟨f, _, F, a, i, j, F.binds b⟩
theorem ShK2.of {K : PySem.W.Frag} {C D : Addr} {x qual : Str} {st : Stmt} {f : Addr} {od an : Option Addr} {sl : Array (Option Value)} {oc kV dc pm cd ct : Value}
    (a : PySem.W.ks_superIn K C D x = some (some (.ref f))) (i : PySem.W.typeIn K (.ref f) = some (.type "function")) (j : PySem.W.fnIn K f = true) (l : K.lookup f = some ⟨oc, od, .func (PySem.W.fnOf x qual (defArgs st) (defBody st) (defScope st) .none kV dc pm an cd ct), sl⟩) (c : PySem.W.codeIn K cd qual = true) (k : PySem.W.keepIn K (.ref f) = true) : ShK2 K C D x qual st := ⟨⟨f, a, i, j, od, an, sl, oc, kV, dc, pm, cd, ct, l, c, k⟩⟩
end Pl
namespace Pl
open PySem PySem.Spec PyProof.Rows L2
/-! methods that say super(), with defaults -/
structure FsD (K : PySem.W.Frag) (D : Addr) (file : Str) (x qual : Str) (st : Stmt) (dvs : List V) (f : Addr) : Prop where
  ex : ∃ (cda cc T : Addr) (oc kV dc pm ct : Value) (od an : Option Addr) (sl : Array (Option Value)) (o1 o2 oT : Obj) (vs : Array Value) (tf : Tok) (its : List Value) (m : Nat),
    K.lookup f = some ⟨oc, od, .func (PySem.W.ksFn x qual (defArgs st) (defBody st) (defScope st) (.ref T) kV dc pm an (.ref cda) ct cc), sl⟩ ∧ PySem.W.codeIn K (.ref cda) qual = true ∧
    K.lookup cc = some o1 ∧ o1.data = .cell (some (.ref D)) ∧ K.lookup cda = some o2 ∧ o2.data = .fields vs ∧ vs[2]? = some (.str file tf) ∧ K.lookup T = some oT ∧ oT.data = .seq its.toArray m ∧ Vals dvs its
  kp : PySem.W.keepIn K (.ref f) = true
/-- how its calls bind -/
structure BdD (K : PySem.W.Frag) (fd : FuncData) (x qual : Str) (st : Stmt) (dvs : List V) : Prop where
  ex : ∃ (T : Addr) (oT : Obj) (its : List Value) (m : Nat) (kV dc pm cdv ct : Value) (an : Option Addr) (cc : Addr), fd = PySem.W.ksFn x qual (defArgs st) (defBody st) (defScope st) (.ref T) kV dc pm an cdv ct cc ∧ K.lookup T = some oT ∧ oT.data = .seq its.toArray m ∧ Vals dvs its
section
variable {P : Program} {w : World} {K : PySem.W.Frag} {mg : Str → Option Value} {base : Heap} {C D f : Addr} {file x qual sf : Str} {st : Stmt} {N ps : List Str} {k : Nat} {sp : Sp} {CX : CXT} {dvs : List V} {fd : FuncData}
theorem FsD.ok {ar : Arg} (F : FsD K D file x qual st dvs f) (SP : SupP P file) (U : SubK K C D) (G : mg "super" = none) (S : NdefX.NScope N ps ["__class__"] (defScope st)) (hp : ((defArgs st).posonlyargs ++ (defArgs st).args).head? = some ar) (ha : ar.arg = sf) (n0 : N[0]? = some sf)
    (k1 : (defScope st).names.lookup ("super" : Str) = some .globalImplicit) (k3 : (defScope st).names.lookup sf = some .local)
    (len : ∀ vs H Q E, sp vs H Q E → vs.length = ps.length)
    (hbody : ∀ (cda cc : Addr) (A : Around) (outer : List Env) (s : Shared) (H : Hp) (vs : List V) (Q : VK) (E : XK), Room k (A.deeper (NdefX.envF (nfS x qual st cda cc) f s.heap.objs.size)) → SupX (NdefX.ncx CX P w K mg base N (nfS x qual st cda cc) f A outer s H E) C D sf → sp vs H Q E →
      ∃ t, PSst (NdefX.ncx CX P w K mg base N (nfS x qual st cda cc) f A outer s H E) (defBody st) (defBody st) t ∧ t { nx := fun _ H' => Q .non H', rt := Q } (NdefX.startF N vs [none]) H) :
    ∃ fd, FnOk P w K mg base CX (k + 1) f fd ps sp ∧ BdD K fd x qual st dvs := by
  obtain ⟨cda, cc, T, oc, kV, dc, pm, ct, od, an, sl, o1, o2, oT, vs, tf, its, m, l, hcd, h1, h2, h3, h4, h5, lT, eT, rT⟩ := F.ex
  refine ⟨_, ⟨len, fun A outer s H args us vs Q E hr e0 hb r hsp => ?_⟩, ⟨T, oT, its, m, kV, dc, pm, .ref cda, ct, an, cc, rfl, lT, eT, rT⟩⟩
  have hl := len _ _ _ _ hsp
  have KX : K.In s.heap := e0.mod.kin.keeps fun b o e => (e0.bs b o e).1
  have lim : s.heap.NoLimit := e0.mod.nolimit.keeps fun b o e => (e0.bs b o e).1
  refine PySem.ks_codeAny_call_defAt (body := defBody st) (binds := ps.zip us) hr.depth (KX _ _ l) rfl lim (PySem.W.codeRec_of KX hcd) rfl hb S.nocell (fun y hy => S.par y.1 (List.of_mem_zip hy).1) (fun h₁ hns hk => ?_) S.co S.gen S.kind
  have SX : SupX (NdefX.ncx CX P w K mg base N (nfS x qual st cda cc) f A outer s H E) C D sf := supX_of G SP U l rfl hp ha h1 h2 h3 h4 h5 n0 k1 (S.frk _ (by simp)) k3
  obtain ⟨t, ht, hq⟩ := hbody cda cc A outer s H vs Q E (hr.deeper _) SX hsp
  have I : Inv (NdefX.ncx CX P w K mg base N (nfS x qual st cda cc) f A outer s H E) [] (NdefX.startF N vs [none]) H { s with heap := h₁, toks := s.toks + (ps.zip us).length } := NdefX.inv_startN S hr.hd e0 hl r (cells_s e0 h1 h2) hns hk
  have fin : ∀ {σ' : L2.St} {H' : Hp} {v : V} {u : Value} {s' : Shared}, Inv (NdefX.ncx CX P w K mg base N (nfS x qual st cda cc) f A outer s H E) [] σ' H' s' → L2.RelV v u → Q v H' → CE outer P w H s Q u s' :=
    fun {σ' H' v u s'} J rv q => ⟨v, H', J.os, J.bare, J.base, J.hok, rv, q⟩
  refine PySem.ks_wpAt_mono (ht.run [] _ _ H _ I hq) (fun fl s' hs => ?_) (fun e s' hs => hs)
  cases fl with
  | ret u =>
    obtain ⟨v, σ', H', J, rv, q⟩ := hs
    exact fin J rv q
  | next =>
    obtain ⟨σ', H', J, q⟩ := hs
    exact fin (v := V.non) (u := Value.none) J rfl q
  | brk =>
    obtain ⟨_, _, _, q⟩ := hs
    exact False.elim q
  | cont =>
    obtain ⟨_, _, _, q⟩ := hs
    exact False.elim q
/-- all parameters but the last j defaults are written -/
theorem BdD.binds (b : BdD K fd x qual st dvs) (n j : Nat) (hn : n + (dvs.length - j) = ps.length)
    (h : ∀ (T : Addr) (kV doc pm : Value) (an : Option Addr) (cdv ct : Value) (cc : Addr) (us its : List Value), us.length = n → its.length = dvs.length →
      ∃ k, bindArgs (PySem.W.ksFn x qual (defArgs st) (defBody st) (defScope st) (.ref T) kV doc pm an cdv ct cc) ⟨us, []⟩ = seqItems? (.ref T) >>= k ∧ k (some its.toArray) = pure (ps.zip (us ++ its.drop j))) : ∃ ds, Vals (dvs.drop j) ds ∧ Binds K fd ps ds := by
  obtain ⟨T, o, its, m, kV, doc, pm, cdv, ct, an, cc, rfl, lT, oT, rT⟩ := b.ex
  refine ⟨its.drop j, rT.drop j, fun s us X hlen => ?_⟩
  have l1 : its.length = dvs.length := rT.length.symm
  have l2 : us.length = n := by
    rw [List.length_append, List.length_drop, l1] at hlen
    omega
  obtain ⟨k, e1, e2⟩ := h T kV doc pm an cdv ct cc us its l2 l1
  refine BindsTo.of_looks fun M => ?_
  rw [e1]
  exact looks_items X lT oT (.of_pure e2)
theorem BdD.kbinds (b : BdD K fd x qual st dvs) (n : Nat) (ks : List Str)
    (h : ∀ (T : Addr) (kV doc pm : Value) (an : Option Addr) (cdv ct : Value) (cc : Addr) (us its ws : List Value), us.length = n → its.length = dvs.length → ws.length = ks.length →
      ∃ k, bindArgs (PySem.W.ksFn x qual (defArgs st) (defBody st) (defScope st) (.ref T) kV doc pm an cdv ct cc) ⟨us, ks.zip ws⟩ = seqItems? (.ref T) >>= k ∧ k (some its.toArray) = pure (ps.zip (us ++ ws))) :
    KBn K fd ps n ks (fun us ws => us ++ ws) (fun vs zs => vs ++ zs) := by
  obtain ⟨T, o, its, m, kV, doc, pm, cdv, ct, an, cc, rfl, lT, oT, rT⟩ := b.ex
  refine ⟨fun s us ws X l1 l2 => ?_, fun r1 r2 => r1.append r2⟩
  obtain ⟨k, e1, e2⟩ := h T kV doc pm an cdv ct cc us its ws l1 rT.length.symm l2
  refine BindsTo.of_looks fun M => ?_
  rw [e1]
  exact looks_items X lT oT (.of_pure e2)
/-- __init__(self, a, b = v) -/
theorem BdD.b3 {p q r : Str} (b : BdD K fd x qual st [d]) (h : ∀ (T : Addr) (kV doc pm : Value) (an : Option Addr) (cdv ct : Value) (cc : Addr) (a1 a2 a3 e : Value),
      ∃ k, bindArgs (PySem.W.ksFn x qual (defArgs st) (defBody st) (defScope st) (.ref T) kV doc pm an cdv ct cc) ⟨[a1, a2, a3], []⟩ = seqItems? (.ref T) >>= k ∧ k (some #[e]) = pure ([p, q, r].zip [a1, a2, a3])) : Binds K fd [p, q, r] [] := by
  obtain ⟨ds, hv, hb⟩ := b.binds (ps := [p, q, r]) 3 1 rfl fun T kV doc pm an cdv ct cc us its l1 l2 => by
    match us, its, l1, l2 with
    | [a1, a2, a3], [e], _, _ => exact h T kV doc pm an cdv ct cc a1 a2 a3 e
  cases ds with
  | nil => exact hb
  | cons _ _ => exact absurd hv.length (by simp)
end
/-- what the head shows -/
theorem FsD.of {K : PySem.W.Frag} {D f cda cc T : Addr} {file x qual : Str} {st : Stmt} {oc kV dc pm ct cl1 cl2 cl3 e : Value} {od an od1 od2 od3 : Option Addr} {sl sl1 sl2 sl3 : Array (Option Value)} {vs : Array Value} {tf : Tok} {m : Nat} {dv : V}
    (l : K.lookup f = some ⟨oc, od, .func (PySem.W.ksFn x qual (defArgs st) (defBody st) (defScope st) (.ref T) kV dc pm an (.ref cda) ct cc), sl⟩) (c : PySem.W.codeIn K (.ref cda) qual = true)
    (h1 : K.lookup cc = some ⟨cl1, od1, .cell (some (.ref D)), sl1⟩) (h3 : K.lookup cda = some ⟨cl2, od2, .fields vs, sl2⟩) (h5 : vs[2]? = some (.str file tf)) (h6 : K.lookup T = some ⟨cl3, od3, .seq #[e] m, sl3⟩) (h7 : RelV dv e) (k : PySem.W.keepIn K (.ref f) = true) : FsD K D file x qual st [dv] f :=
  ⟨⟨cda, cc, T, oc, kV, dc, pm, ct, od, an, sl, _, _, _, vs, tf, [e], m, l, c, h1, rfl, h3, rfl, h5, h6, rfl, .cons h7 .nil⟩, k⟩
end Pl
namespace Pl
open PySem PySem.Spec PyProof.Rows L2
/-! The end of a law that asks repr and some of whose defs make lambdas. -/
/-- what is tracked at first: the tables, and the script where K does not hold it -/
def fstH (K : PySem.W.Frag) (a : Addr) (ns : List Int) (ob : Obj) (ts : List Addr) : Hp := fun b => if b ∈ ts then some (.tbl #[]) else if b = a ∧ K.lookup a = none then some (.frz ob (.lst (ns.map V.int))) else none
theorem fstH_tab {K : PySem.W.Frag} {a : Addr} {ns : List Int} {ob : Obj} {ts : List Addr} {b : Addr} (h : b ∈ ts) : fstH K a ns ob ts b = some (.tbl #[]) := if_pos h
theorem fstH_cases {K : PySem.W.Frag} {a : Addr} {ns : List Int} {ob : Obj} {ts : List Addr} (b : Addr) {u : HO} (h : fstH K a ns ob ts b = some u) : (b ∈ ts ∧ u = .tbl #[]) ∨ (b ∉ ts ∧ b = a ∧ K.lookup a = none ∧ u = .frz ob (.lst (ns.map V.int))) := by
  unfold fstH at h
  by_cases c : b ∈ ts
  · rw [if_pos c] at h
    exact .inl ⟨c, (Option.some.inj h).symm⟩
  · rw [if_neg c] at h
    by_cases d : b = a ∧ K.lookup a = none
    · rw [if_pos d] at h
      exact .inr ⟨c, d.1, d.2, (Option.some.inj h).symm⟩
    · rw [if_neg d] at h
      cases h
theorem lawGT {P : Program} {w : World} {K : PySem.W.Frag} {mg mb : Str → Option Value} {k : Nat} {fa a : Addr} {x : Str} {sp : Sp} {fd : FuncData} {cs : List (Addr × Addr)} {s1 : Shared} {vs : List Value} {ns : List Int}
    (inK : K.In s1.heap) (gl : s1.heap.Ns mainGlobals mg) (bu : s1.heap.Ns builtinsNs mb) (bo : ∀ y : Str, y ≠ "__name__" → mb y = bootBuiltins y) (nolim : s1.heap.NoLimit) (gens : s1.gens = #[])
    (tabs : ∀ p ∈ cs, s1.heap.get? p.2 = some (PySem.W.tabObj #[])) (free : ∀ p ∈ cs, K.lookup p.2 = none) (code : ∀ p ∈ cs, PySem.W.CodeHd s1.heap p.1 p.2)
    (mod : ∃ (bm : Addr) (ob : Obj), mg "__builtins__" = some (.ref bm) ∧ bm ≠ builtinsNs ∧ s1.heap.get? bm = some ob ∧ ob.cls = .type "module" ∧ ob.dict = some builtinsNs ∧ ob.data = .plain)
    (scr : s1.heap.get? a = some { cls := .type "list", data := .seq vs.toArray }) (nums : IntsAre vs ns) (small : ns.length ≤ sizeLine) (room : Room k callerA)
    (F : ∀ base : Heap, K.In base → base.Ns mainGlobals mg → (∀ p ∈ cs, LamX.TabB base mg p.1 p.2) → FnG P w K mg base k fa fd [x] sp) (bind : ∀ (s : Shared) (u : Value), BindsTo s fd ⟨[u], []⟩ [(x, u)])
    (prom : ∀ H : Hp, (∀ p ∈ cs, H p.2 = some (.tbl #[])) → SqL K H a (ns.map V.int) → sp [.ref a] H (fun v _ => v = .bl true) fun _ _ _ => False) :
    codeAny (model P w) callerA (.call (.ref fa) ⟨[.ref a], []⟩) (fun r s' => r = .ok (.ret (.bool true)) ∧ OldK s1.heap s'.heap ∧ s'.os = s1.os ∧ AllBare s'.gens) s1 := by
  have vals := vals_ints nums
  have lenN := nums.length
  let lob : Obj := { cls := .type "list", data := .seq vs.toArray }
  let ts := cs.map (·.2)
  have tabO : ∀ b, b ∈ ts → s1.heap.get? b = some (PySem.W.tabObj #[]) := fun b m => by
    obtain ⟨p, hp, rfl⟩ := List.mem_map.mp m
    exact tabs p hp
  have tabIn : ∀ p ∈ cs, p.2 ∈ ts := fun p hp => List.mem_map_of_mem hp
  obtain ⟨H, hH⟩ : ∃ H, H = fstH K a ns lob ts := ⟨_, rfl⟩
  have tbl : ∀ p ∈ cs, H p.2 = some (.tbl #[]) := fun p hp => by rw [hH]; exact fstH_tab (tabIn p hp)
  have what : ∀ (b : Addr) (u : HO), H b = some u → (b ∈ ts ∧ u = .tbl #[]) ∨ (b ∉ ts ∧ b = a ∧ K.lookup a = none ∧ u = .frz lob (.lst (ns.map V.int))) := fun b u e => by
    rw [hH] at e
    exact fstH_cases b e
  have aNo : a ∉ ts := fun m => by
    have z := tabO a m
    rw [scr] at z
    cases z
  have seqL : SqL K H a (ns.map V.int) := by
    cases q : K.lookup a with
    | none => exact .inl (.inr ⟨lob, by rw [hH, fstH, if_neg aNo, if_pos ⟨rfl, q⟩]⟩)
    | some o =>
      have z := (inK a o q).symm.trans scr
      cases z
      exact .inr ⟨_, vs.toArray, _, q, rfl, rfl, rfl, by rw [List.size_toArray, lenN]; exact small, by simpa using vals⟩
  have okH : HOk P w H s1.heap := fun b u e => by
    rcases what b u e with ⟨m, rfl⟩ | ⟨_, rfl, _, rfl⟩
    · exact tabO b m
    · exact ⟨scr, by rw [List.length_map]; exact small, vs, _, vals, scr⟩
  -- what is neither a table nor a list is not tracked
  have clear : ∀ {b : Addr} {o : Obj}, s1.heap.get? b = some o → (∀ xs n, o.data ≠ .seq xs n) → o.data ≠ .fields #[] → H b = none := fun {b o} e n1 n2 => by
    cases q : H b with
    | none => rfl
    | some u =>
      exfalso
      rcases what b u q with ⟨m, _⟩ | ⟨_, rfl, _, _⟩
      · have z := tabO b m
        rw [e] at z
        cases z
        exact n2 rfl
      · rw [e] at scr
        cases scr
        exact n1 _ _ rfl
  have dicts : ∀ {b : Addr} {m : Str → Option Value}, s1.heap.Ns b m → (hidT s1.heap H).Ns b m := fun ⟨o, es, ep, e, d, r⟩ =>
    ⟨o, es, ep, hidT_get e (clear e (fun _ _ z => by rw [d] at z; cases z) (fun z => by rw [d] at z; cases z)), d, r⟩
  have inB : K.In (hidT s1.heap H) := fun b o e => by
    refine hidT_get (inK b o e) ?_
    cases q : H b with
    | none => rfl
    | some u =>
      exfalso
      rcases what b u q with ⟨m, _⟩ | ⟨_, rfl, n, _⟩
      · obtain ⟨p, hp, rfl⟩ := List.mem_map.mp m
        rw [free p hp] at e
        cases e
      · rw [n] at e
        cases e
  have md : Mod K mg (hidT s1.heap H) := ⟨inB, dicts gl, ⟨mb, dicts bu, bo⟩, let ⟨mc, p, q⟩ := nolim; ⟨mc, dicts p, q⟩⟩
  have notG : ∀ p ∈ cs, mainGlobals ≠ p.2 := fun p hp z => by
    obtain ⟨o, es, ep, e, d, _⟩ := gl
    rw [z, tabs p hp] at e
    cases e
    cases d
  have tb : ∀ p ∈ cs, LamX.TabB (hidT s1.heap H) mg p.1 p.2 := fun p hp => by
    refine ⟨?_, ?_, notG p hp⟩
    · obtain ⟨o, us, file, tf, fl, tg, inF, tx, tt, e, c1, c2, c3, r⟩ := code p hp
      refine ⟨o, us, file, tf, fl, tg, inF, tx, tt, hidT_get e (clear e (fun _ _ z => by rw [c2] at z; cases z) (fun z => ?_)), c1, c2, c3, r⟩
      rw [c2] at z
      cases z
      cases c3
    · obtain ⟨bm, ob, m1, m2, m3, m4, m5, m6⟩ := mod
      have n1 : bm ≠ mainGlobals := fun z => by
        obtain ⟨o, es, ep, e, d, _⟩ := gl
        rw [← z, m3] at e
        cases e
        rw [m6] at d
        cases d
      have n2 : bm ≠ p.2 := fun z => by
        rw [z, tabs p hp] at m3
        cases m3
        cases m6
      exact ⟨bm, ob, m1, m2, n1, n2, hidT_get m3 (clear m3 (fun _ _ z => by rw [m6] at z; cases z) (fun z => by rw [m6] at z; cases z)), m4, m5, m6⟩
  have env : Env0 P w K mg (hidT s1.heap H) callerA [] s1 H :=
    ⟨rfl, md, fun b o e => of_hidT e, Nat.le_of_eq (hidT_size _ _), trivial, fun b z => absurd (show b ∈ ([] : List Addr) from z) (by simp), okH, .of_eq gens⟩
  have run := (F _ inB (dicts gl) tb).go callerA [] s1 H ⟨[.ref a], []⟩ [.ref a] [.ref a] _ _ rfl room env (bind s1 (.ref a)) (.cons rfl .nil) (prom H tbl seqL)
  refine codeAny_mono run ?_
  intro r s' z
  match r, z with
  | .ok (.ret u), z =>
    obtain ⟨v, H', os, bare, un, ok', rv, q⟩ := z
    obtain rfl : v = .bl true := q
    obtain rfl : u = Value.bool true := rv
    have stay : ∀ b o, b ∉ ts → s1.heap.get? b = some o → s'.heap.get? b = some o := fun b o n e => by
      cases q : H b with
      | none => exact un.keep b o e q (fun z => absurd (show b ∈ ([] : List Addr) from z) (by simp)) (by simp)
      | some u =>
        rcases what b u q with ⟨m, _⟩ | ⟨_, _, _, rfl⟩
        · exact absurd m n
        · obtain ⟨p1, _⟩ := okH b _ q
          obtain ⟨p2, _⟩ := ok' b _ (un.frzs b _ _ q)
          rw [e] at p1
          cases p1
          exact p2
    have more : ∀ b, b ∈ ts → ∃ p ∈ cs, p.2 = b ∧ ∃ qs : Array Value, s'.heap.get? b = some (PySem.W.tabObj qs) := fun b m => by
      obtain ⟨p, hp, rfl⟩ := List.mem_map.mp m
      obtain ⟨qs, e⟩ := un.tbls p.2 #[] (tbl p hp)
      exact ⟨p, hp, rfl, _, ok' _ _ e⟩
    refine ⟨rfl, ⟨fun b o e => ?_, fun b o e => ?_⟩, os, bare⟩
    · by_cases m : b ∈ ts
      · obtain ⟨p, hp, rfl, qs, e2⟩ := more b m
        have e3 := tabs p hp
        rw [e] at e3
        cases e3
        exact .inr (.inl ⟨((code p hp).tab (tabs p hp)).isCodeTable, rfl, #[], qs, rfl, by rw [Array.empty_append]; exact e2⟩)
      · exact .inl (stay b o m e)
    · by_cases m : b ∈ ts
      · obtain ⟨_, _, _, qs, e2⟩ := more b m
        exact ⟨_, e2⟩
      · exact ⟨o, stay b o m e⟩
  | .ok .next, z => exact False.elim z
  | .ok .brk, z => exact False.elim z
  | .ok .cont, z => exact False.elim z
  | .error e, z => exact False.elim z
/-- the end, with the tables' facts laid out -/
theorem walkTG {l : PySem.W.OpenLaw} {n k : Nat} {q : Program} {loose : List Str} {XP : (Str → Option Value) → Heap → Prop} {YP : World → Heap → Prop} {d : DefRec} {K : Params → PySem.W.Frag} {sp : PySem.W.Frag → Sp} {x : Str} {st : Stmt} (names : List Str)
    (hn : l.most = some n) (small : n ≤ sizeLine) (hdf : d.params.defaults = []) (hr : Room k callerA) (hY : ∀ (w : World) (h : Heap), YP w h → (K w.params).In h)
    (hrec : ∀ y ∈ names, ((recsOf q).find? fun e => e.name == y).isSome = true) (htab : ∀ w : World, ∀ y ∈ names, (PySem.W.tabIn (K w.params) y).isSome = true) (hno : ∀ w : World, PySem.W.noTabs (K w.params) = true)
    (hdis : ∀ w : World, (names.all fun y => names.all fun z => y == z || !((PySem.W.tabIn (K w.params) y).map (·.2) == (PySem.W.tabIn (K w.params) z).map (·.2))) = true)
    (hname : d.name = "law") (D : ∀ w : World, DfK (K w.params) "law" st) (bo : BindOk "law" "law" st [x])
    (F : ∀ (w : World) (mg : Str → Option Value) (h : Heap), (K w.params).In h → h.Ns mainGlobals mg →
      ∀ base : Heap, (K w.params).In base → base.Ns mainGlobals mg → (∀ y ∈ names, ∃ c T : Addr, PySem.W.tabIn (K w.params) y = some (c, T) ∧ LamX.TabB base mg c T) →
        (∀ y ∈ names, ∀ z ∈ names, y ≠ z → ∀ c T c' T' : Addr, PySem.W.tabIn (K w.params) y = some (c, T) → PySem.W.tabIn (K w.params) z = some (c', T') → T ≠ T') →
        ∀ (f : Addr) (fd : FuncData), L2.Fun (K w.params) "law" "law" st f fd → FnG l.prog w (K w.params) mg base k f fd [x] (sp (K w.params)))
    (prom : ∀ (K : PySem.W.Frag) (H : Hp) (a : Addr) (ns : List Int), ns.length ≤ n → (∀ y ∈ names, ∀ c T : Addr, PySem.W.tabIn K y = some (c, T) → H T = some (.tbl #[])) → SqL K H a (ns.map V.int) → sp K [.ref a] H (fun v _ => v = .bl true) fun _ _ _ => False) :
    PySem.W.WalkO q loose XP YP l.row.toRowW d [] (fun f vs => PySem.call f vs) := by
  refine Att.attach_call hn hdf ?_
  intro w s0 s1 mg mb fa o pm cd doc a vs ns G Y ho hd hcd hmg hobj hints hlen hg
  have KX := hY w _ Y
  obtain ⟨f, ea, od, an, sl, oc, kV, dc, pm', cd', ct, lk, cc, kp⟩ := (D w).ex
  have Fl := fun_mk (st := st) lk cc kp
  have ef : fa = f := by
    have z := PySem.W.mg_of KX G.T.g ea
    rw [hname] at hmg
    rw [hmg] at z
    cases z
    rfl
  subst ef
  have key : ∀ y ∈ names, ∃ p : Addr × Addr, PySem.W.tabIn (K w.params) y = some p ∧ PySem.W.CodeHd s1.heap p.1 p.2 ∧ s1.heap.get? p.2 = some (PySem.W.tabObj #[]) := fun y hy => by
    obtain ⟨p, hp⟩ := Option.isSome_iff_exists.mp (htab w y hy)
    obtain ⟨r, hr'⟩ := Option.isSome_iff_exists.mp (hrec y hy)
    have z := PySem.W.tab_of (c := p.1) (P := p.2) G.T KX hr' hp
    exact ⟨p, hp, z.1, z.2⟩
  have got : ∀ p ∈ names.filterMap (PySem.W.tabIn (K w.params)), PySem.W.CodeHd s1.heap p.1 p.2 ∧ s1.heap.get? p.2 = some (PySem.W.tabObj #[]) := fun p hp => by
    obtain ⟨y, hy, e⟩ := List.mem_filterMap.mp hp
    obtain ⟨p', e', a, b⟩ := key y hy
    rw [e] at e'
    cases e'
    exact ⟨a, b⟩
  refine lawGT (cs := names.filterMap (PySem.W.tabIn (K w.params))) KX G.T.g G.T.b G.T.builtins G.T.nolimit hg (fun p hp => (got p hp).2) (fun p hp => noTab KX (hno w) (got p hp).2) (fun p hp => (got p hp).1) G.T.bmain hobj hints (Nat.le_trans hlen small) hr
    (fun base kb nb tb => F w mg s1.heap KX G.T.g base kb nb (fun y hy => ?_) (fun y hy z hz ne c T c' T' e1 e2 eT => ?_) fa _ Fl) (fun s u => BindsTo.of_eq (bo kV dc pm' an cd' ct [u] rfl))
    (fun H hH hS => prom _ H a ns hlen (fun y hy c T e => hH (c, T) (List.mem_filterMap.mpr ⟨y, hy, e⟩)) hS)
  · obtain ⟨p, hp⟩ := Option.isSome_iff_exists.mp (htab w y hy)
    exact ⟨p.1, p.2, hp, tb p (List.mem_filterMap.mpr ⟨y, hy, hp⟩)⟩
  · have a := List.all_eq_true.mp (List.all_eq_true.mp (hdis w) y hy) z hz
    rw [e1, e2, eT] at a
    simp at a
    exact ne a
section
variable {P : Program} {w : World} {K : PySem.W.Frag} {mg : Str → Option Value} {base : Heap} {x : Str} {st : Stmt} {N ps : List Str} {k : Nat} {sp : Sp} {c : Addr}
theorem okGat {qual : Str} {f : Addr} {oc kV doc pm cdv ct : Value} {od an : Option Addr} {osl : Array (Option Value)} (lk : K.lookup f = some ⟨oc, od, .func (PySem.W.fnOf x qual (defArgs st) (defBody st) (defScope st) .none kV doc pm an cdv ct), osl⟩) (hcd : PySem.W.codeIn K cdv qual = true) (S : FnScope N ps (defScope st)) (lng : ∀ vs H Q E, sp vs H Q E → vs.length = ps.length)
    (bod : ∀ (A : Around) (out : List Env) (s : Shared) (H : Hp) (vs : List V) (Q : VK) (E : XK),
      A.guards = some [] → Room k (A.deeper (envOfC qual (defScope st) s.heap.objs.size f cdv)) → sp vs H Q E →
      ∃ t, PSs (cxOf CX0 P w K mg base N qual (defScope st) f cdv A out s H E).nox (defBody st) t ∧
        t { nx := fun _ H' => Q .non H', rt := Q } (start N vs) H) :
    FnG P w K mg base (k + 1) f (PySem.W.fnOf x qual (defArgs st) (defBody st) (defScope st) .none kV doc pm an cdv ct) ps sp := by
  refine ⟨lng, fun A out s H ar us vs Q E gd rm e0 bt rv hs => ?_⟩
  have inK : K.In s.heap := e0.mod.kin.keeps fun b o q => (e0.bs b o q).1
  have nl : s.heap.NoLimit := e0.mod.nolimit.keeps fun b o q => (e0.bs b o q).1
  have kinds : ∀ y ∈ ps.zip us, (defScope st).names.lookup y.1 = some .local ∨
      ((defScope st).names.lookup y.1 = some .cell ∧
        ((cellsFrom (s.heap.objs.size + 1) (defScope st).names []).lookup y.1).isSome = true) := by
    rintro ⟨n, v⟩ hy
    rcases S.par n (List.of_mem_zip hy).1 with c | c
    · exact .inl c
    · exact .inr ⟨c, PySem.W.cellsFrom_some _ _ _ (.inl c)⟩
  refine codeAny_call_function rm.depth (inK _ _ lk) rfl S.co S.gen rfl (PySem.W.codeRec_of inK hcd) (bt _ _ _ _ ?_)
  refine wpAny_newFunctionEnv_cells S.kind kinds fun env he s1 ic => ?_
  subst he
  refine ⟨nl.keeps ic.toInCall.keep, codeAny_func ?_⟩
  obtain ⟨t, ht0, hq⟩ := bod A out s H vs Q E gd (rm.deeper _) hs
  have ht := ht0.nox
  have I : Inv (cxOf CX0 P w K mg base N qual (defScope st) f cdv A out s H E) [] (start N vs) H s1 :=
    inv_start S rm.hd e0 (lng _ _ _ _ hs) rv ic
  refine wpAny_mono (ht.run [] s1 (start N vs) H _ I hq) (fun fl s' z => ?_) fun e s' z => z
  cases fl with
  | ret u =>
    obtain ⟨v, σ', H', J, r, q⟩ := z
    exact ⟨v, H', J.os, J.bare, J.base, J.hok, r, q⟩
  | next =>
    obtain ⟨σ', H', J, q⟩ := z
    exact ⟨V.non, H', J.os, J.bare, J.base, J.hok, rfl, q⟩
  | brk =>
    obtain ⟨σ', H', J, q⟩ := z
    exact False.elim q
  | cont =>
    obtain ⟨σ', H', J, q⟩ := z
    exact False.elim q
/-- a def that makes lambdas and asks repr -/
theorem DfT.calG (D : DfT K mg x st ps c) (S : FnScope N ps (defScope st)) (lng : ∀ vs H Q E, sp vs H Q E → vs.length = ps.length)
    (bod : ∀ (f : Addr) (A : Around) (out : List Env) (s : Shared) (H : Hp) (vs : List V) (Q : VK) (E : XK),
      A.guards = some [] → Room k (A.deeper (envOfC x (defScope st) s.heap.objs.size f (.ref c))) → sp vs H Q E →
      ∃ t, PSs (cxOf CX0 P w K mg base N x (defScope st) f (.ref c) A out s H E).nox (defBody st) t ∧
        t { nx := fun _ H' => Q .non H', rt := Q } (start N vs) H) : CalG P w K mg base (k + 1) x ps sp := by
  obtain ⟨f, oc, od, kV, doc, pm, an, ct, osl, lk, hcd, kp, hm, hb⟩ := D.ex
  exact ⟨f, _, okGat lk hcd S lng (bod f), hm, kp, hb⟩
end
end Pl
namespace Pl
open PySem PySem.Spec PyProof.Rows L2
/-! The end of a law that makes lambdas itself. -/
/-- the law's own function, its code object known -/
structure LawT (K : PySem.W.Frag) (st : Stmt) (f : Addr) (fd : FuncData) (c : Addr) : Prop where
  ex : ∃ (oc : Value) (od : Option Addr) (kV doc pm : Value) (an : Option Addr) (ct : Value) (osl : Array (Option Value)), fd = PySem.W.fnOf "law" "law" (defArgs st) (defBody st) (defScope st) .none kV doc pm an (.ref c) ct ∧
    K.lookup f = some ⟨oc, od, .func (PySem.W.fnOf "law" "law" (defArgs st) (defBody st) (defScope st) .none kV doc pm an (.ref c) ct), osl⟩ ∧ PySem.W.codeIn K (.ref c) "law" = true
theorem walkTL {l : PySem.W.OpenLaw} {n k : Nat} {q : Program} {loose : List Str} {XP : (Str → Option Value) → Heap → Prop} {YP : World → Heap → Prop} {d : DefRec} {K : Params → PySem.W.Frag} {sp : PySem.W.Frag → Sp} {x : Str} {st : Stmt} (names : List Str) (hlaw : ("law" : Str) ∈ names)
    (hn : l.most = some n) (small : n ≤ sizeLine) (hdf : d.params.defaults = []) (hr : Room k callerA) (hY : ∀ (w : World) (h : Heap), YP w h → (K w.params).In h)
    (hrec : ∀ y ∈ names, ((recsOf q).find? fun e => e.name == y).isSome = true) (htab : ∀ w : World, ∀ y ∈ names, (PySem.W.tabIn (K w.params) y).isSome = true) (hno : ∀ w : World, PySem.W.noTabs (K w.params) = true)
    (hdis : ∀ w : World, (names.all fun y => names.all fun z => y == z || !((PySem.W.tabIn (K w.params) y).map (·.2) == (PySem.W.tabIn (K w.params) z).map (·.2))) = true)
    (hname : d.name = "law") (D : ∀ w : World, DfK (K w.params) "law" st) (bo : BindOk "law" "law" st [x])
    (F : ∀ (w : World) (mg : Str → Option Value) (h : Heap), (K w.params).In h → h.Ns mainGlobals mg →
      ∀ base : Heap, (K w.params).In base → base.Ns mainGlobals mg → (∀ y ∈ names, ∃ c T : Addr, PySem.W.tabIn (K w.params) y = some (c, T) ∧ LamX.TabB base mg c T) →
        (∀ y ∈ names, ∀ z ∈ names, y ≠ z → ∀ c T c' T' : Addr, PySem.W.tabIn (K w.params) y = some (c, T) → PySem.W.tabIn (K w.params) z = some (c', T') → T ≠ T') →
        ∀ (f : Addr) (fd : FuncData) (c T : Addr), PySem.W.tabIn (K w.params) "law" = some (c, T) → LawT (K w.params) st f fd c → FnG l.prog w (K w.params) mg base k f fd [x] (sp (K w.params)))
    (prom : ∀ (K : PySem.W.Frag) (H : Hp) (a : Addr) (ns : List Int), ns.length ≤ n → (∀ y ∈ names, ∀ c T : Addr, PySem.W.tabIn K y = some (c, T) → H T = some (.tbl #[])) → SqL K H a (ns.map V.int) → sp K [.ref a] H (fun v _ => v = .bl true) fun _ _ _ => False) :
    PySem.W.WalkO q loose XP YP l.row.toRowW d [] (fun f vs => PySem.call f vs) := by
  refine Att.attach_call hn hdf ?_
  intro w s0 s1 mg mb fa o pm cd doc a vs ns G Y ho hd hcd hmg hobj hints hlen hg
  have KX := hY w _ Y
  obtain ⟨f, ea, od, an, sl, oc, kV, dc, pm', cd', ct, lk, cc, kp⟩ := (D w).ex
  obtain ⟨⟨cL, TL⟩, hpL⟩ := Option.isSome_iff_exists.mp (htab w "law" hlaw)
  have ecd : cd' = .ref cL := by
    have ht := hpL
    unfold PySem.W.tabIn at ht
    rw [ea] at ht
    dsimp only at ht
    rw [lk] at ht
    dsimp only [PySem.W.fnOf] at ht
    cases cd' <;> first | (simp at ht; done) | skip
    rename_i c1
    dsimp only at ht
    split at ht
    · split at ht
      · cases ht
        rfl
      · cases ht
    · cases ht
  subst ecd
  have Fl : LawT (K w.params) st f _ cL := ⟨⟨oc, od, kV, dc, pm', an, ct, sl, rfl, lk, cc⟩⟩
  have ef : fa = f := by
    have z := PySem.W.mg_of KX G.T.g ea
    rw [hname] at hmg
    rw [hmg] at z
    cases z
    rfl
  subst ef
  have key : ∀ y ∈ names, ∃ p : Addr × Addr, PySem.W.tabIn (K w.params) y = some p ∧ PySem.W.CodeHd s1.heap p.1 p.2 ∧ s1.heap.get? p.2 = some (PySem.W.tabObj #[]) := fun y hy => by
    obtain ⟨p, hp⟩ := Option.isSome_iff_exists.mp (htab w y hy)
    obtain ⟨r, hr'⟩ := Option.isSome_iff_exists.mp (hrec y hy)
    have z := PySem.W.tab_of (c := p.1) (P := p.2) G.T KX hr' hp
    exact ⟨p, hp, z.1, z.2⟩
  have got : ∀ p ∈ names.filterMap (PySem.W.tabIn (K w.params)), PySem.W.CodeHd s1.heap p.1 p.2 ∧ s1.heap.get? p.2 = some (PySem.W.tabObj #[]) := fun p hp => by
    obtain ⟨y, hy, e⟩ := List.mem_filterMap.mp hp
    obtain ⟨p', e', a, b⟩ := key y hy
    rw [e] at e'
    cases e'
    exact ⟨a, b⟩
  refine lawGT (cs := names.filterMap (PySem.W.tabIn (K w.params))) KX G.T.g G.T.b G.T.builtins G.T.nolimit hg (fun p hp => (got p hp).2) (fun p hp => noTab KX (hno w) (got p hp).2) (fun p hp => (got p hp).1) G.T.bmain hobj hints (Nat.le_trans hlen small) hr
    (fun base kb nb tb => F w mg s1.heap KX G.T.g base kb nb (fun y hy => ?_) (fun y hy z hz ne c T c' T' e1 e2 eT => ?_) fa _ cL TL hpL Fl) (fun s u => BindsTo.of_eq (bo kV dc pm' an (.ref cL) ct [u] rfl))
    (fun H hH hS => prom _ H a ns hlen (fun y hy c T e => hH (c, T) (List.mem_filterMap.mpr ⟨y, hy, e⟩)) hS)
  · obtain ⟨p, hp⟩ := Option.isSome_iff_exists.mp (htab w y hy)
    exact ⟨p.1, p.2, hp, tb p (List.mem_filterMap.mpr ⟨y, hy, hp⟩)⟩
  · have a := List.all_eq_true.mp (List.all_eq_true.mp (hdis w) y hy) z hz
    rw [e1, e2, eT] at a
    simp at a
    exact ne a
section
variable {P : Program} {w : World} {K : PySem.W.Frag} {mg : Str → Option Value} {base : Heap} {st : Stmt} {N ps : List Str} {k : Nat} {sp : Sp} {c f : Addr} {fd : FuncData}
theorem LawT.okG (D : LawT K st f fd c) (S : FnScope N ps (defScope st)) (lng : ∀ vs H Q E, sp vs H Q E → vs.length = ps.length)
    (bod : ∀ (A : Around) (out : List Env) (s : Shared) (H : Hp) (vs : List V) (Q : VK) (E : XK),
      A.guards = some [] → Room k (A.deeper (envOfC "law" (defScope st) s.heap.objs.size f (.ref c))) → sp vs H Q E →
      ∃ t, PSs (cxOf CX0 P w K mg base N "law" (defScope st) f (.ref c) A out s H E).nox (defBody st) t ∧
        t { nx := fun _ H' => Q .non H', rt := Q } (start N vs) H) : FnG P w K mg base (k + 1) f fd ps sp := by
  obtain ⟨oc, od, kV, doc, pm, an, ct, osl, rfl, lk, hcd⟩ := D.ex
  exact okGat lk hcd S lng bod
end
end Pl
/-! The head by one kernel run, what stands behind it seen as k_head's hooks see it: nothing of the top is written out. -/
namespace Pl
open PySem PySem.W PySem.Calls PyProof.Rows HandSHeadRun
def obKm (as ts : List Addr) (s : SharedT) : List (Option Obj) × List (Option Obj) := (as.map (getT s), ts.map (getT s))
def obK (as : List Addr) (s : SharedT) : List (Option Obj) := as.map (getT s)
theorem getT_fun (s : SharedT) : getT s = s.abs.heap.get? := funext fun a => getT_eq s a
section
variable {r : OpenRow} {q : Program} {M : Nat} {loose : List PySem.Str} {d : DefRec} {kwd : List (PySem.Str × PySem.Expr)} {K : Params → Frag} {as ts : List Addr} {e : ∀ P, as = (K P).map (·.1)}
theorem head_km (H : Hook) (hH : H = kmHook K as e ts) (op : opening r.prog = plainProg r.prog.main.scope.names) (f : ∀ s, fenceModules? r.prog s = some s) (run : ∀ w, RunEq r q (kmHook K as e ts) (obKm as ts) M loose w)
    (hdef : defOf q r.name = some (d, kwd)) (hp : r.prog.theDef r.name = some (d.params, d.body, d.scope)) (hk : kwWritten? d.params.kwonlyargs d.params.kw_defaults = some kwd)
    (hwr : (!r.writes || r.records.isEmpty) = true) (k1 : r.wellSaid = true) (ok : (chainsOk q && opensWell r.prog && (frees r.toRowW && r.within.isEmpty)) = true) (hb : r.prog.bare) (hw : r.toRowW.promised)
    (call : WalkO q loose (XL q []) (kmHook K as e ts).says r.toRowW d kwd fun f vs => PySem.call f vs) : r.Holds :=
  head_any (H := kmHook K as e ts) (ob := obKm as ts) (fun s => by show (_, _) = (_, _); rw [getT_fun]) op f run hdef hp hk hwr k1 ok hb hw call
theorem head_k (H : Hook) (hH : H = kHook K as e) (op : opening r.prog = plainProg r.prog.main.scope.names) (f : ∀ s, fenceModules? r.prog s = some s) (run : ∀ w, RunEq r q (kHook K as e) (obK as) M loose w)
    (hdef : defOf q r.name = some (d, kwd)) (hp : r.prog.theDef r.name = some (d.params, d.body, d.scope)) (hk : kwWritten? d.params.kwonlyargs d.params.kw_defaults = some kwd)
    (hwr : (!r.writes || r.records.isEmpty) = true) (k1 : r.wellSaid = true) (ok : (chainsOk q && opensWell r.prog && (frees r.toRowW && r.within.isEmpty)) = true) (hb : r.prog.bare) (hw : r.toRowW.promised)
    (call : WalkO q loose (XL q []) (kHook K as e).says r.toRowW d kwd fun f vs => PySem.call f vs) : r.Holds :=
  head_any (H := kHook K as e) (ob := obK as) (fun s => by show List.map _ _ = List.map _ _; rw [getT_fun]) op f run hdef hp hk hwr k1 ok hb hw call
end
end Pl
namespace Pl
open PySem PySem.Spec PyProof.Rows L2
def top (i : Nat) : Stmt := PySem.Challenge.pw_poolshares_k20_rings_are_exchanged.main.body.getD i (.Pass ⟨0, 0, 0, 0⟩)
/-- a source of numbers stands at a -/
def Src (H : Hp) (a : Addr) : Prop := ∃ x y z : Int, H a = some (.lst [.int x, .int y, .int z]) ∧ 0 ≤ x ∧ 0 ≤ y ∧ y < 2147483648 ∧ 0 ≤ z
theorem Src.upd {H : Hp} {a p : Addr} {o : HO} (s : Src H a) (n : H p = none) : Src (L2.upd H p o) a := by
  obtain ⟨x, y, z, h, r⟩ := s
  exact ⟨x, y, z, by rw [upd_ne (ne_of_none h n)]; exact h, r⟩
theorem Src.put {H : Hp} {a p : Addr} {o : HO} (s : Src H a) (n : p ≠ a) : Src (L2.upd H p o) a := by
  obtain ⟨x, y, z, h, r⟩ := s
  exact ⟨x, y, z, by rw [upd_ne n.symm]; exact h, r⟩
theorem Src.ne {H : Hp} {a p : Addr} (s : Src H a) (n : H p = none) : p ≠ a := by
  obtain ⟨x, y, z, h, r⟩ := s
  intro e
  rw [e, h] at n
  cases n
theorem Src.neT {H : Hp} {a p : Addr} {xs : List V} (s : Src H a) (n : H p = some (.tup xs)) : p ≠ a := by
  obtain ⟨x, y, z, h, r⟩ := s
  intro e
  rw [e, h] at n
  cases n
theorem Src.neI {H : Hp} {a p C d : Addr} {xs : List (Str × V)} (s : Src H a) (n : H p = some (.ins C d xs)) : p ≠ a := by
  obtain ⟨x, y, z, h, r⟩ := s
  intro e
  rw [e, h] at n
  cases n
theorem Src.same {H H' : Hp} {a : Addr} (s : Src H a) (k : Same H H') : Src H' a := by
  obtain ⟨x, y, z, h, r⟩ := s
  exact ⟨x, y, z, k _ _ h, r⟩
/-- all that was tracked stands as before, but for what is at a -/
def Kp (a : Addr) (H H' : Hp) : Prop := ∀ b o, b ≠ a → H b = some o → H' b = some o
theorem Kp.refl (a : Addr) (H : Hp) : Kp a H H := fun _ _ _ h => h
theorem Kp.trans {a : Addr} {H H1 H2 : Hp} (p : Kp a H H1) (q : Kp a H1 H2) : Kp a H H2 := fun b o n h => q b o n (p b o n h)
theorem Kp.of {a : Addr} {H H' : Hp} (p : Same H H') : Kp a H H' := fun b o _ h => p b o h
theorem Kp.upd {a : Addr} {H : Hp} {o : HO} : Kp a H (upd H a o) := fun b u n h => by rw [upd_ne n]; exact h
theorem Kp.new {a p : Addr} {H H' : Hp} {o : HO} (q : Kp a H H') (h : H' p = none) : Kp a H (L2.upd H' p o) := fun b u n e => by
  rw [upd_ne (ne_of_none (q b u n e) h)]; exact q b u n e
/-- what was not there before may be written -/
theorem Kp.put {a p : Addr} {H H' : Hp} {o : HO} (q : Kp a H H') (h : H p = none) : Kp a H (L2.upd H' p o) := fun b u n e => by
  rw [upd_ne (ne_of_none e h)]; exact q b u n e
theorem same_new {p : Addr} {H H' : Hp} {o : HO} (q : Same H H') (h : H' p = none) : Same H (L2.upd H' p o) := fun b u e => by
  rw [upd_ne (ne_of_none (q b u e) h)]; exact q b u e
theorem same_put {p : Addr} {H H' : Hp} {o : HO} (q : Same H H') (h : H p = none) : Same H (L2.upd H' p o) := fun b u e => by
  rw [upd_ne (ne_of_none e h)]; exact q b u e
theorem Kp.free {a p : Addr} {H H' : Hp} (q : Kp a H H') (n : p ≠ a) (h : H' p = none) : H p = none := by
  cases e : H p with
  | none => rfl
  | some o =>
    rw [q p o n e] at h
    cases h
theorem tyes {σ : L2.St} {H : Hp} {A B : Hp → Prop} (h : A H) : tYes σ H (fun b H3 => if b = true then A H3 else B H3) := by
  show if true = true then A H else B H
  rw [if_pos rfl]; exact h
theorem size_of {n : Nat} (h : n ≤ 1000) : n ≤ sizeLine := Nat.le_trans h (by decide)
theorem size_lt {n : Nat} (h : n ≤ 1000) : n < sizeLine := Nat.lt_of_le_of_lt h (by decide)
theorem at_of_lt {α : Type} {xs : List α} {r : Int} (h0 : 0 ≤ r) (h1 : r < xs.length) : ∃ v, v ∈ xs ∧ xs[r.toNat]? = some v ∧ atI xs r = some v := by
  have lt : r.toNat < xs.length := by omega
  have e : xs[r.toNat]? = some xs[r.toNat] := List.getElem?_eq_getElem lt
  refine ⟨xs[r.toNat], List.getElem_mem lt, e, ?_⟩
  have q := atI_nat e
  rw [Int.toNat_of_nonneg h0] at q
  exact q
/-- the built-in names are the built-in ones -/
structure Bn (mg : Str → Option Value) : Prop where
  n_len : mg "len" = none
  n_range : mg "range" = none
  n_max : mg "max" = none
  n_min : mg "min" = none
  n_sum : mg "sum" = none
  n_sorted : mg "sorted" = none
  n_all : mg "all" = none
  n_isinstance : mg "isinstance" = none
  n_repr : mg "repr" = none
  n_tuple : mg "tuple" = none
  n_list : mg "list" = none
  n_int : mg "int" = none
  n_bool : mg "bool" = none
  n_zip : mg "zip" = none
  n_str : mg "str" = none
def spDraw : Sp := fun vs H Q _ => ∃ (a : Addr) (m : Int), vs = [.ref a, .int m] ∧ Src H a ∧ 0 < m ∧ m ≤ 1000000 ∧
  ∀ (r : Int) (H' : Hp), 0 ≤ r → r < m → Src H' a → Kp a H H' → Q (.int r) H'
def spCell (K : PySem.W.Frag) : Sp := fun vs H Q _ => ∃ (a : Addr) (ns : List Int) (i : Int), vs = [.ref a, .int i] ∧ SqL K H a (ns.map V.int) ∧ 0 ≤ i ∧ ∀ n : Int, Q (.int n) H
def spSource : Sp := fun vs H Q _ => ∃ c : Int, vs = [.int c] ∧ ∀ (p : Addr) (H' : Hp), H p = none → Src H' p → Same H H' → Q (.ref p) H'
def spChoose : Sp := fun vs H Q _ => ∃ (a l : Addr) (xs : List V), vs = [.ref a, .ref l] ∧ Src H a ∧ H l = some (.lst xs) ∧ l ≠ a ∧ 0 < xs.length ∧ xs.length ≤ 1000 ∧
  ∀ (v : V) (H' : Hp), v ∈ xs → Src H' a → Kp a H H' → Q v H'
/-- the ints are amounts -/
def Am (ns : List Int) : Prop := ∀ r ∈ ns, 0 ≤ r ∧ r ≤ 30
def spAmounts : Sp := fun vs H Q _ => ∃ (a : Addr) (n : Nat), vs = [.ref a, .int n] ∧ Src H a ∧ 2 ≤ n ∧ n ≤ 6 ∧
  ∀ (p : Addr) (ns : List Int) (H' : Hp), ns.length = n → Am ns → Src H' a → Kp a H H' → H' p = some (.tup (ns.map V.int)) → Q (.ref p) H'
/-- a list of amounts grows at D -/
def AInv (a D : Addr) (H1 : Hp) (i : Nat) (H : Hp) : Prop := ∃ ns : List Int, ns.length = i ∧ Am ns ∧ Src H a ∧ Kp a H1 H ∧ H D = some (.lst (ns.map V.int))
theorem AInv.start {a D : Addr} {H1 : Hp} (s : Src H1 a) (n : H1 D = none) : AInv a D H1 0 (L2.upd H1 D (.lst [])) :=
  ⟨[], rfl, fun _ h => (nomatch h), s.upd n, (Kp.refl a H1).new n, upd_same⟩
theorem AInv.src {a D : Addr} {H1 H : Hp} {i : Nat} (p : AInv a D H1 i H) : Src H a := p.elim fun _ q => q.2.2.1
theorem AInv.next {a D : Addr} {H1 H H' : Hp} {i : Nat} {r : Int} (p : AInv a D H1 i H) (hi : i ≤ 100) (n : H1 D = none) (da : D ≠ a) (s : Src H' a) (k : Kp a H H') (r0 : 0 ≤ r) (r1 : r ≤ 30) :
    ∃ acc, H' D = some (.lst acc) ∧ acc.length < sizeLine ∧ AInv a D H1 (i + 1) (L2.upd H' D (.lst (acc ++ [.int r]))) := by
  obtain ⟨ns, e, am, _, kp, hd⟩ := p
  refine ⟨ns.map V.int, k _ _ da hd, size_lt (by rw [List.length_map]; omega), ns ++ [r], ?_, ?_, s.put da, (kp.trans k).put n, ?_⟩
  · rw [List.length_append, e]; rfl
  · intro x hx
    rcases List.mem_append.mp hx with h | h
    · exact am x h
    · rw [List.mem_singleton.mp h]; exact ⟨r0, r1⟩
  · rw [upd_same, List.map_append]; rfl
section
variable {P : Program} {w : World} {K : PySem.W.Frag} {mg : Str → Option Value} {base : Heap}
abbrev st_l_cell : Stmt := top 49
theorem sc_l_cell : FnScope ["_law_script", "_law_index"] ["_law_script", "_law_index"] (defScope st_l_cell) := ⟨rfl, rfl, rfl, by decide +kernel, rfl, by decide +kernel, by decide +kernel⟩
theorem ok_cell (B : Bn mg) (D : Df K mg "_law_cell" st_l_cell ["_law_script", "_law_index"]) : Cal P w K mg base 2 "_law_cell" ["_law_script", "_law_index"] (spCell K) := by
  refine D.cal sc_l_cell (fun vs H Q E h => ?_) (fun f cdv A out s H vs Q E hr h => ?_)
  · obtain ⟨a, ns, i, rfl, _⟩ := h
    rfl
  obtain ⟨a, ns, i, rfl, sq, i0, k⟩ := h
  refine ⟨_, (pss_cons (ps_if (pt_cmpR op_lt (pv 1) (pe_callB call_len_seq (by rfl) B.n_len (by decide +kernel) (pa_cons (pv 0) pa_nil)) (nomark _)) (pss_one (ps_ret (pe_ix ix_list (pv 0) (pv 1) (fun _ _ => rfl)))) pss_nil)
   (pss_one (ps_ret pe_int))), ?_⟩
  refine ⟨_, rfl, _, rfl, a, _, rfl, .inl sq, _, _, rfl, rfl, _, rfl, ?_⟩
  refine ite2 (fun c => ?_) (fun c => k 0)
  have c2 : i < ((ns.map V.int).length : Int) := of_decide_eq_true c
  obtain ⟨v, hv, _, e⟩ := at_of_lt i0 c2
  obtain ⟨m, _, rfl⟩ := List.mem_map.mp hv
  exact ⟨_, rfl, _, rfl, a, _, _, _, rfl, rfl, sq, e, k m⟩
abbrev st_l_source : Stmt := top 50
theorem sc_l_source : FnScope ["_law_cell_here"] ["_law_cell_here"] (defScope st_l_source) := ⟨rfl, rfl, rfl, by decide +kernel, rfl, by decide +kernel, by decide +kernel⟩
theorem ok_source (B : Bn mg) (D : Df K mg "_law_source" st_l_source ["_law_cell_here"]) : Cal P w K mg base 2 "_law_source" ["_law_cell_here"] spSource := by
  refine D.cal sc_l_source (fun vs H Q E h => ?_) (fun f cdv A out s H vs Q E hr h => ?_)
  · obtain ⟨c, rfl, _⟩ := h
    rfl
  obtain ⟨c, rfl, k⟩ := h
  refine ⟨_, (pss_one (ps_ret (pe_lst (pa_cons (pe_callB (call_max2 rfl) (by rfl) B.n_max (by decide +kernel) (pa_cons pe_int (pa_cons (pe_op op_sub (pv 0) (pe_op op_pow pe_int pe_int)) pa_nil))) (pa_cons (pe_op op_add (pe_op op_mod (pv 0) pe_int) pe_int) (pa_cons pe_int pa_nil)))))), ?_⟩
  refine ⟨_, rfl, _, _, rfl, rfl, ⟨by decide, by decide, by decide⟩, _, _, rfl, rfl, _, _, rfl, _, rfl, _, _, rfl, rfl, (by show (0 : Int) < 2147483629; decide), _, _, rfl, rfl, (by show 3 ≤ sizeLine; decide), fun p hp => ?_⟩
  refine k p _ hp ⟨_, _, _, upd_same, ?_, ?_, ?_, by decide⟩ (same_new (Same.refl H) hp)
  · split <;> omega
  · have := Int.emod_nonneg c (show (2147483629 : Int) ≠ 0 by decide)
    show 0 ≤ c % 2147483629 + 1
    omega
  · have := Int.emod_lt_of_pos c (show (0 : Int) < 2147483629 by decide)
    show c % 2147483629 + 1 < 2147483648
    omega
abbrev st_l_draw : Stmt := top 51
theorem sc_l_draw : FnScope ["_law_source_here", "_law_many", "_law_found", "_law_mixed"] ["_law_source_here", "_law_many"] (defScope st_l_draw) := ⟨rfl, rfl, rfl, by decide +kernel, rfl, by decide +kernel, by decide +kernel⟩
theorem ok_draw (D : Df K mg "_law_draw" st_l_draw ["_law_source_here", "_law_many"]) : Cal P w K mg base 2 "_law_draw" ["_law_source_here", "_law_many"] spDraw := by
  refine D.cal sc_l_draw (fun vs H Q E h => ?_) (fun f cdv A out s H vs Q E hr h => ?_)
  · obtain ⟨a, m, rfl, _⟩ := h
    rfl
  obtain ⟨a, m, rfl, ⟨x, y, z, ha, x0, y0, y1, z0⟩, m0, m1, k⟩ := h
  refine ⟨_, (pss_cons (ps_if (pt_cmpR op_gt (pe_ix ix_list (pv 0) pe_int (fun _ _ => rfl)) pe_int (nomark _)) (pss_cons (ps_set (i := 2) sc_l_draw.nd rfl (.inl rfl) (pe_op op_mod (pe_ix ix_list (pv 0) pe_int (fun _ _ => rfl)) (pv 1)))
   (pss_cons (ps_asg (pe_op op_fdiv (pe_ix ix_list (pv 0) pe_int (fun _ _ => rfl)) (pv 1)) (pg_sub (pv 0) pe_int set_list))
   (pss_one (ps_ret (pv 2))))) pss_nil)
   (pss_cons (ps_asg (pe_op op_add (pe_ix ix_list (pv 0) pe_int (fun _ _ => rfl)) pe_int) (pg_sub (pv 0) pe_int set_list))
   (pss_cons (ps_asg (pe_op op_mod (pe_op op_add (pe_op op_add (pe_op op_mul (pe_ix ix_list (pv 0) pe_int (fun _ _ => rfl)) pe_int) (pe_op op_mul pe_int (pe_ix ix_list (pv 0) pe_int (fun _ _ => rfl)))) pe_int) pe_int) (pg_sub (pv 0) pe_int set_list))
   (pss_cons (ps_set (i := 3) sc_l_draw.nd rfl (.inl rfl) (pe_op op_mod (pe_op op_add (pe_op op_add (pe_op op_mul (pe_ix ix_list (pv 0) pe_int (fun _ _ => rfl)) (pe_ix ix_list (pv 0) pe_int (fun _ _ => rfl))) (pe_op op_mul pe_int (pe_ix ix_list (pv 0) pe_int (fun _ _ => rfl)))) pe_int) pe_int))
   (pss_cons (ps_set (i := 3) sc_l_draw.nd rfl (.inl rfl) (pe_op op_mod (pe_op op_add (pe_op op_mul (pv 3) (pv 3)) (pe_op op_mul pe_int (pv 3))) pe_int))
   (pss_one (ps_ret (pe_op op_mod (pe_op op_fdiv (pv 3) pe_int) (pv 1))))))))), ?_⟩
  refine ⟨_, rfl, a, _, _, _, rfl, rfl, SqL.of ha, rfl, _, _, rfl, rfl, _, rfl, ?_⟩
  refine ite2 (fun c => ?_) (fun c => ?_)
  · refine ⟨_, rfl, a, _, _, _, rfl, rfl, SqL.of ha, rfl, _, rfl, _, _, rfl, rfl, m0, ?_⟩
    refine ⟨_, rfl, a, _, _, _, rfl, rfl, SqL.of ha, rfl, _, rfl, _, _, rfl, rfl, ⟨m0, by omega⟩, ?_⟩
    refine ⟨_, rfl, a, _, _, _, rfl, rfl, ha, rfl, ?_⟩
    refine ⟨_, rfl, k _ _ (Int.emod_nonneg _ (by omega)) (Int.emod_lt_of_pos _ m0) ⟨_, _, _, upd_same, Int.ediv_nonneg x0 (by omega), y0, y1, z0⟩ Kp.upd⟩
  · refine ⟨_, rfl, a, _, _, _, rfl, rfl, SqL.of ha, rfl, _, _, rfl, rfl, ?_⟩
    refine ⟨_, rfl, a, _, _, _, rfl, rfl, ha, rfl, ?_⟩
    generalize hH1 : upd H a _ = H1
    have h1 : H1 a = some (.lst [.int x, .int y, .int (z + 1)]) := by rw [← hH1]; exact upd_same
    have q1 : Kp a H H1 := by rw [← hH1]; exact Kp.upd
    refine ⟨_, rfl, a, _, _, _, rfl, rfl, SqL.of h1, rfl, _, _, rfl, rfl, .inl ⟨by omega, by omega⟩, _, rfl, a, _, _, _, rfl, rfl, SqL.of h1, rfl, _, _, rfl, rfl, .inl ⟨by decide, by decide⟩, _, _, rfl, rfl, _, _, rfl, rfl, _, _, rfl, rfl, (by show (0 : Int) < 2147483647; decide), ?_⟩
    refine ⟨_, rfl, a, _, _, _, rfl, rfl, h1, rfl, ?_⟩
    generalize hy : (y * 48271 + 1009 * (z + 1) + 7) % 2147483647 = y'
    have b0 : 0 ≤ y' := by rw [← hy]; exact Int.emod_nonneg _ (by decide)
    have b1 : y' < 2147483647 := by rw [← hy]; exact Int.emod_lt_of_pos _ (by decide)
    generalize hH2 : upd H1 a _ = H2
    have h2 : H2 a = some (.lst [.int x, .int y', .int (z + 1)]) := by rw [← hH2, ← hy]; exact upd_same
    have q2 : Kp a H H2 := by rw [← hH2]; exact q1.trans Kp.upd
    refine ⟨_, rfl, a, _, _, _, rfl, rfl, SqL.of h2, rfl, _, rfl, a, _, _, _, rfl, rfl, SqL.of h2, rfl, _, _, rfl, rfl, .inl ⟨by omega, by omega⟩, _, rfl, a, _, _, _, rfl, rfl, SqL.of h2, rfl, _, _, rfl, rfl, .inl ⟨by decide, by decide⟩, _, _, rfl, rfl, _, _, rfl, rfl, _, _, rfl, rfl, (by show (0 : Int) < 2147483629; decide), ?_⟩
    generalize hu : (y' * y' + 69621 * y' + 11) % 2147483629 = u
    have u0 : 0 ≤ u := by rw [← hu]; exact Int.emod_nonneg _ (by decide)
    have u1 : u < 2147483629 := by rw [← hu]; exact Int.emod_lt_of_pos _ (by decide)
    refine ⟨_, rfl, _, rfl, _, _, rfl, rfl, .inl ⟨by omega, by omega⟩, _, rfl, _, _, rfl, rfl, .inl ⟨by decide, by decide⟩, _, _, rfl, rfl, _, _, rfl, rfl, (by show (0 : Int) < 2147483587; decide), ?_⟩
    refine ⟨_, rfl, _, _, rfl, rfl, ⟨by decide, by decide⟩, _, rfl, _, _, rfl, rfl, m0, ?_⟩
    exact k _ _ (Int.emod_nonneg _ (by omega)) (Int.emod_lt_of_pos _ m0) ⟨_, _, _, h2, x0, b0, by omega, by omega⟩ q2
end
end Pl
namespace Pl
open PySem PySem.Spec PyProof.Rows L2
/-! the mathematics -/
/-- the ints in ascending order -/
def srt (ns : List Int) : List Int := ns.mergeSort
theorem srt_perm (ns : List Int) : (srt ns).Perm ns := List.mergeSort_perm _ _
theorem srt_sorted (ns : List Int) : (srt ns).Pairwise (· ≤ ·) := by
  have h := List.pairwise_mergeSort (le := fun (a b : Int) => decide (a ≤ b)) (fun a b c h1 h2 => by simp at *; omega) (fun a b => by simp; omega) ns
  exact h.imp fun h => by simpa using h
theorem srt_of {l ns : List Int} (p : l.Perm ns) (s : l.Pairwise (· ≤ ·)) : l = srt ns := PySem.W.ksm_same (p.trans (srt_perm ns).symm) s (srt_sorted ns)
theorem srt_length (ns : List Int) : (srt ns).length = ns.length := (srt_perm ns).length_eq
/-- the sum of the k smallest -/
def low (ns : List Int) (k : Nat) : Int := ((srt ns).take k).sum
theorem cut_take {xs : List V} {n : Nat} (h : n ≤ xs.length) : cutV xs none (some (n : Int)) = xs.take n := by
  unfold cutV
  rw [HT.sIx_none, HT.sIx_nat, List.drop_zero, Nat.sub_zero, Nat.min_eq_left h]
/-- the second is at least as calm as the first -/
def calm (ns ms : List Int) : Bool := decide (ns.sum = ms.sum) && (List.range (ns.length + 1)).all fun k => decide (low ns k ≤ low ms k)
/-- an integer from 0 to m -/
def isTo (m : Int) : V → Bool
  | .int i => decide (0 ≤ i) && decide (i ≤ m)
  | _ => false
def isInt : V → Bool
  | .int _ => true
  | _ => false
/-- what isinstance says of the value: whether it is an int that is no bool -/
def Kd (K : PySem.W.Frag) (H : Hp) (x : V) : Prop := ∃ (t : Value) (bi bb : Bool), TyX K H x t ∧ PySem.W.kitOne K t (.type "int") = some bi ∧ PySem.W.kitOne K t (.type "bool") = some bb ∧ (bi && !bb) = isInt x
theorem Kd.int {K : PySem.W.Frag} {H : Hp} (i : Int) : Kd K H (.int i) := ⟨_, true, false, .base (.int i), kit_ty (by decide +kernel), kit_ty (by decide +kernel), rfl⟩
theorem TyX.same {K : PySem.W.Frag} {H H' : Hp} {x : V} {t : Value} (s : Same H H') (h : TyX K H x t) : TyX K H' x t := by
  cases h with
  | base b =>
    refine .base ?_
    cases b with
    | non => exact .non
    | bl y => exact .bl y
    | int i => exact .int i
    | str y => exact .str y
    | flt y => exact .flt y
    | lst e => exact .lst (s _ _ e)
    | frz e => exact .frz (s _ _ e)
    | tup e => exact .tup (s _ _ e)
    | dK e => exact .dK (s _ _ e)
    | dT e => exact .dT (s _ _ e)
    | ins e cl a b c d => exact .ins (s _ _ e) cl a b c d
  | byt b => exact .byt b
  | set e => exact .set (s _ _ e)
  | kList e c => exact .kList e c
  | kTuple e c => exact .kTuple e c
  | kDict e c => exact .kDict e c
  | fTuple e => exact .fTuple (s _ _ e)
  | fDict e => exact .fDict (s _ _ e)
theorem Kd.same {K : PySem.W.Frag} {H H' : Hp} {x : V} (s : Same H H') (h : Kd K H x) : Kd K H' x := by
  obtain ⟨t, bi, bb, ty, r⟩ := h
  exact ⟨t, bi, bb, TyX.same s ty, r⟩
/-! what the top has written of Share -/
structure Cn (mg : Str → Option Value) : Prop where
  c_FEWEST_STATES : ∃ t, mg "FEWEST_STATES" = some (.int 2 t)
  c_MOST_STATES : ∃ t, mg "MOST_STATES" = some (.int 6 t)
  c_MOST_IN_A_STATE : ∃ t, mg "MOST_IN_A_STATE" = some (.int 30 t)
structure ShK (K : PySem.W.Frag) (mg : Str → Option Value) (C : Addr) : Prop where
  cl : Cls K C
  nB : NoAttr K C "by_state"
  mgC : mg "Share" = some (.ref C)
  mks : PySem.W.makesIn K C = true
  kc : PySem.W.keepIn K (.ref C) = true
  ca : PySem.W.findIn K (.ref C) "__class__" = some (some (.builtin "object.__class__"))
  cg : PySem.W.specialIn K (.builtin "object.__class__") "__get__" = some (some (.builtin "getset_descriptor.__get__"))
  ct : PySem.W.takesIn K (.builtin "object.__class__") = some true
  mro : PySem.W.mroIn K C (.type "object") = some true
  kit : PySem.W.kitOne K (.ref C) (.ref C) = some true
  fi : ∀ f, PySem.W.findIn K (.ref C) "__call__" = some (some (.ref f)) → PySem.W.fnIn K f = true
/-- the same, of the written part alone -/
structure ShF (K : PySem.W.Frag) (C : Addr) : Prop where
  pg : PySem.W.plainGet K C Str.empty = true
  hd : PySem.W.hasDictIn K C = true
  po : PySem.W.plainOver K C = true
  sa : PySem.W.findIn K (.ref C) "__setattr__" = some (some (.builtin "object.__setattr__"))
  nB : PySem.W.findIn K (.ref C) "by_state" = some none
  mks : PySem.W.makesIn K C = true
  kc : PySem.W.keepIn K (.ref C) = true
  ca : PySem.W.findIn K (.ref C) "__class__" = some (some (.builtin "object.__class__"))
  cg : PySem.W.specialIn K (.builtin "object.__class__") "__get__" = some (some (.builtin "getset_descriptor.__get__"))
  ct : PySem.W.takesIn K (.builtin "object.__class__") = some true
  mro : PySem.W.mroIn K C (.type "object") = some true
  kit : PySem.W.kitOne K (.ref C) (.ref C) = some true
theorem ShF.k {K : PySem.W.Frag} {mg : Str → Option Value} {C : Addr} (s : ShF K C) (c : CallF K C) (g : mg "Share" = some (.ref C)) : ShK K mg C :=
  ⟨⟨s.pg, s.hd, s.po, s.sa⟩, s.nB, g, s.mks, s.kc, s.ca, s.cg, s.ct, s.mro, s.kit, fun f h => by
    obtain ⟨f', a, b⟩ := c.ex
    rw [a] at h
    cases h
    exact b⟩
def shF (t : Addr) : List (Str × V) := [("by_state", .ref t)]
theorem shF_get (t : Addr) : (shF t).lookup ("by_state" : Str) = some (.ref t) := by simp [shF, List.lookup]
/-- a share with the amounts ns stands at s, its tuple at t -/
def ShAt (C : Addr) (H : Hp) (s t : Addr) (ns : List Int) : Prop := (∃ dx, H s = some (.ins C dx (shF t))) ∧ H t = some (.tup (ns.map V.int)) ∧ 2 ≤ ns.length ∧ ns.length ≤ 6 ∧ Am ns
theorem ShAt.same {C : Addr} {H H' : Hp} {s t : Addr} {ns : List Int} (h : ShAt C H s t ns) (k : Same H H') : ShAt C H' s t ns := by
  obtain ⟨⟨dx, h1⟩, h2, r⟩ := h
  exact ⟨⟨dx, k _ _ h1⟩, k _ _ h2, r⟩
theorem ShAt.kp {C : Addr} {H H' : Hp} {s t a : Addr} {ns : List Int} (h : ShAt C H s t ns) (sr : Src H a) (k : Kp a H H') : ShAt C H' s t ns := by
  obtain ⟨⟨dx, h1⟩, h2, r⟩ := h
  exact ⟨⟨dx, k _ _ (sr.neI h1) h1⟩, k _ _ (sr.neT h2) h2, r⟩
def spIsI (K : PySem.W.Frag) : Sp := fun vs H Q _ => ∃ x : V, vs = [x] ∧ Kd K H x ∧ Q (.bl (isInt x)) H
def spIsInt (K : PySem.W.Frag) : Sp := fun vs H Q _ => ∃ (x : V) (m : Int), vs = [x, .int m] ∧ Kd K H x ∧ Q (.bl (isTo m x)) H
/-- a tuple of 2 to 6 integers from 0 to 30 -/
def isAm (xs : List V) : Bool := decide (2 ≤ xs.length) && decide (xs.length ≤ 6) && xs.all (isTo 30)
def spIsAm (K : PySem.W.Frag) : Sp := fun vs H Q _ => ∃ x : V, vs = [x] ∧
  ((∃ (p : Addr) (xs : List V), x = .ref p ∧ H p = some (.tup xs) ∧ xs.length ≤ 1000 ∧ (∀ y ∈ xs, Kd K H y) ∧ ∀ H', Same H H' → Q (.bl (isAm xs)) H') ∨
   (∃ t, TyX K H x t ∧ PySem.W.kitOne K t (.type "tuple") = some false ∧ Q (.bl false) H))
theorem isAm_ints {ns : List Int} (h2 : 2 ≤ ns.length) (h6 : ns.length ≤ 6) (am : Am ns) : isAm (ns.map V.int) = true := by
  simp only [isAm, List.length_map, Bool.and_eq_true, decide_eq_true_eq, List.all_eq_true]
  refine ⟨⟨h2, h6⟩, fun x hx => ?_⟩
  obtain ⟨i, hi, rfl⟩ := List.mem_map.mp hx
  obtain ⟨a, b⟩ := am i hi
  simp [isTo, a, b]
/-- a tuple of two parts, or no tuple -/
def spIsPr (K : PySem.W.Frag) : Sp := fun vs H Q _ => ∃ x : V, vs = [x] ∧
  ((∃ (p : Addr) (xs : List V), x = .ref p ∧ H p = some (.tup xs) ∧ Q (.bl (decide ((xs.length : Int) = 2))) H) ∨
   (∃ t, TyX K H x t ∧ PySem.W.kitOne K t (.type "tuple") = some false ∧ Q (.bl false) H))
def spInit (C : Addr) : Sp := fun vs H Q _ => ∃ (p t dx : Addr) (ns : List Int), vs = [.ref p, .ref t] ∧ H p = some (.ins C dx []) ∧ H t = some (.tup (ns.map V.int)) ∧ 2 ≤ ns.length ∧ ns.length ≤ 6 ∧ Am ns ∧
  ∀ H', Kp p H H' → ShAt C H' p t ns → Q .non H'
theorem mk_at {C t x dx : Addr} {ns : List Int} {H : Hp} {R : Hp → Prop} {E : XK} (nx : H x = none) (nd : H dx = none) (ht : H t = some (.tup (ns.map V.int))) (h2 : 2 ≤ ns.length) (h6 : ns.length ≤ 6) (am : Am ns)
    (k : ∀ H' : Hp, Same H H' → ShAt C H' x t ns → R H') : spInit C (.ref x :: ([.ref t] ++ [])) (upd (upd H dx (.own x)) x (.ins C dx [])) (fun v H2 => v = .non ∧ R H2) E := by
  have s1 : Same H (upd (upd H dx (.own x)) x (.ins C dx [])) := same_put (same_put (Same.refl H) nd) nx
  refine ⟨x, t, dx, ns, rfl, upd_same, s1 _ _ ht, h2, h6, am, fun H' kp sh => ⟨rfl, k H' (fun b o e => kp b o (ne_of_none e nx) (s1 b o e)) sh⟩⟩
def spTotal (C : Addr) : Sp := fun vs H Q _ => ∃ (s t : Addr) (ns : List Int), vs = [.ref s] ∧ ShAt C H s t ns ∧ Q (.int ns.sum) H
def spLen (C : Addr) : Sp := fun vs H Q _ => ∃ (s t : Addr) (ns : List Int), vs = [.ref s] ∧ ShAt C H s t ns ∧ Q (.int ns.length) H
def spCall (C : Addr) : Sp := fun vs H Q _ => ∃ (s t : Addr) (ns : List Int) (k : Nat), vs = [.ref s, .int k] ∧ ShAt C H s t ns ∧ k ≤ ns.length ∧ ∀ H', Same H H' → Q (.int (low ns k)) H'
def spPair (C : Addr) : Sp := fun vs H Q _ => ∃ (s1 t1 s2 t2 : Addr) (ns ms : List Int), vs = [.ref s1, .ref s2] ∧ ShAt C H s1 t1 ns ∧ ShAt C H s2 t2 ms ∧ ns.length = ms.length ∧ Q .non H
def spCalm (C : Addr) : Sp := fun vs H Q _ => ∃ (s1 t1 s2 t2 : Addr) (ns ms : List Int), vs = [.ref s1, .ref s2] ∧ ShAt C H s1 t1 ns ∧ ShAt C H s2 t2 ms ∧ ns.length = ms.length ∧
  ∀ H', Same H H' → Q (.bl (calm ns ms)) H'
def spCalmer (C : Addr) : Sp := fun vs H Q _ => ∃ (s1 t1 s2 t2 : Addr) (ns ms : List Int), vs = [.ref s1, .ref s2] ∧ ShAt C H s1 t1 ns ∧ ShAt C H s2 t2 ms ∧ ns.length = ms.length ∧
  ∀ H', Same H H' → Q (.bl (calm ns ms && !calm ms ns)) H'
end Pl
namespace Pl
open PySem PySem.Spec PyProof.Rows L2
section
variable {P : Program} {w : World} {K : PySem.W.Frag} {mg : Str → Option Value} {base : Heap} {CShare : Addr}
abbrev st_is_integer : Stmt := top 2
theorem sc_is_integer : FnScope ["thing"] ["thing"] (defScope st_is_integer) := ⟨rfl, rfl, rfl, by decide +kernel, rfl, by decide +kernel, by decide +kernel⟩
theorem ok_isi (B : Bn mg) (D : Df K mg "is_integer" st_is_integer ["thing"]) : Cal P w K mg base 1 "is_integer" ["thing"] (spIsI K) := by
  refine D.cal sc_is_integer (fun vs H Q E h => ?_) (fun f cdv A out s H vs Q E hr h => ?_)
  · obtain ⟨x, rfl, _⟩ := h
    rfl
  obtain ⟨x, rfl, ⟨t, bi, bb, ty, k1, k2, kd⟩, k⟩ := h
  refine ⟨_, (pss_one (ps_ret (pe_and (pe_callB call_isi (by rfl) B.n_isinstance (by decide +kernel) (pa_cons (pv 0) (pa_cons (pe_bltn (v := .ty "int") (by rfl) B.n_int (by decide +kernel) rfl) pa_nil))) (pe_one (pe_not (pe_callB call_isi (by rfl) B.n_isinstance (by decide +kernel) (pa_cons (pv 0) (pa_cons (pe_bltn (v := .ty "bool") (by rfl) B.n_bool (by decide +kernel) rfl) pa_nil)))))))), ?_⟩
  refine ⟨_, rfl, x, _, t, _, bi, rfl, .ty _, ty, k1, bi, rfl, ?_⟩
  rw [← kd] at k
  cases bi with
  | false => exact iteF k
  | true =>
    refine iteT ⟨_, rfl, x, _, t, _, bb, rfl, .ty _, ty, k2, bb, rfl, ?_⟩
    exact k
abbrev st_is_integer_to : Stmt := top 3
theorem sc_is_integer_to : FnScope ["thing", "most"] ["thing", "most"] (defScope st_is_integer_to) := ⟨rfl, rfl, rfl, by decide +kernel, rfl, by decide +kernel, by decide +kernel⟩
theorem ok_isint (c_is_integer : Cal P w K mg base 1 "is_integer" ["thing"] (spIsI K)) (D : Df K mg "is_integer_to" st_is_integer_to ["thing", "most"]) : Cal P w K mg base 2 "is_integer_to" ["thing", "most"] (spIsInt K) := by
  refine D.cal sc_is_integer_to (fun vs H Q E h => ?_) (fun f cdv A out s H vs Q E hr h => ?_)
  · obtain ⟨x, m, rfl, _⟩ := h
    rfl
  obtain ⟨x, m, rfl, kd, k⟩ := h
  refine ⟨_, (pss_one (ps_ret (pe_and (pe_fn c_is_integer (hr.mono (by decide)) (pa_cons (pv 0) pa_nil)) (pe_one (pe_chain op_le op_le pe_int (pv 0) (pv 1)))))), ?_⟩
  refine ⟨_, rfl, x, rfl, kd, _, rfl, ?_⟩
  cases x with
  | int i =>
    refine iteT ?_
    refine ⟨_, rfl, _, _, rfl, rfl, _, rfl, ?_⟩
    have e : isTo m (.int i) = (decide (0 ≤ i) && decide (i ≤ m)) := rfl
    rw [e] at k
    refine ite2 (fun c => ?_) (fun c => ?_)
    · have c2 : decide (0 ≤ i) = true := c
      rw [c2] at k
      exact ⟨_, rfl, _, _, rfl, rfl, k⟩
    · have c2 : decide (0 ≤ i) = false := by simpa using c
      rw [c2] at k
      exact k
  | _ => exact iteF k
abbrev st_is_amounts : Stmt := top 23
theorem sc_is_amounts : FnScope ["thing", "amount"] ["thing"] (defScope st_is_amounts) := ⟨rfl, rfl, rfl, by decide +kernel, rfl, by decide +kernel, by decide +kernel⟩
theorem ok_isam (B : Bn mg) (Cc : Cn mg) (c_is_integer_to : Cal P w K mg base 2 "is_integer_to" ["thing", "most"] (spIsInt K)) (D : Df K mg "is_amounts" st_is_amounts ["thing"]) : Cal P w K mg base 3 "is_amounts" ["thing"] (spIsAm K) := by
  refine D.cal sc_is_amounts (fun vs H Q E h => ?_) (fun f cdv A out s H vs Q E hr h => ?_)
  · obtain ⟨x, rfl, _⟩ := h
    rfl
  obtain ⟨x, rfl, h⟩ := h
  refine ⟨_, (pss_cons (ps_if (PW.pt (pw_or (pt_not (pt_val (pe_callB call_isi (by rfl) B.n_isinstance (by decide +kernel) (pa_cons (pv 0) (pa_cons (pe_bltn (v := .ty "tuple") (by rfl) B.n_tuple (by decide +kernel) rfl) pa_nil))))) (pw_or1 (pt_not (pt_chain op_le op_le (pe_glob (v := .int 2) rfl Cc.c_FEWEST_STATES.choose_spec ⟨_, rfl⟩) (pe_callB call_len_seq (by rfl) B.n_len (by decide +kernel) (pa_cons (pv 0) pa_nil)) (pe_glob (v := .int 6) rfl Cc.c_MOST_STATES.choose_spec ⟨_, rfl⟩)))))) (pss_one (ps_ret pe_bl)) pss_nil)
   (pss_one (ps_ret (pe_callB (cr_all rfl) (by rfl) B.n_all (by decide +kernel) (pa_cons (pe_lc (own := [("amount", 1)]) (g := gName 1) rfl sc_is_amounts.nd (pi_tup (pv 0)) (blkOk_by (N := ["thing", "amount"]) (sc := defScope st_is_amounts) (by decide +kernel)) (fun _ _ _ _ _ => (pg_name (i := 1) sc_is_amounts.nd rfl (.inl rfl))) (fun _ _ _ _ _ => pts_nil) (fun _ _ _ _ _ => (pe_fn c_is_integer_to (hr.mono (by decide)) (pa_cons (pv 1) (pa_cons (pe_glob (v := .int 30) rfl Cc.c_MOST_IN_A_STATE.choose_spec ⟨_, rfl⟩) pa_nil))))) pa_nil))))), ?_⟩
  rcases h with ⟨p, xs, rfl, hp, xl, kd, k⟩ | ⟨t, ty, kt, k⟩
  · refine ⟨_, rfl, _, _, _, _, true, rfl, .ty _, .base (.tup hp), kit_ty (by decide +kernel), _, rfl, iteF ?_⟩
    refine ⟨_, rfl, p, _, rfl, .inr (SqT.of hp), _, _, rfl, rfl, _, rfl, ?_⟩
    have no : isAm xs = false → Q (.bl false) H := fun e => by
      have z := k H (Same.refl H)
      rw [e] at z
      exact z
    refine ite2 (fun c => ?_) (fun c => ?_)
    · refine ⟨_, _, rfl, rfl, _, rfl, ?_⟩
      have c2 : (2 : Int) ≤ xs.length := of_decide_eq_true c
      refine ite2 (fun c3 => ?_) (fun c3 => ?_)
      · refine no ?_
        have c4 : ¬ ((xs.length : Int) ≤ 6) := by simpa using c3
        have c5 : decide (xs.length ≤ 6) = false := by simp; omega
        simp [isAm, c5]
      · have c4 : (xs.length : Int) ≤ 6 := by simpa using c3
        have e0 : isAm xs = xs.all (isTo 30) := by
          have a1 : decide (2 ≤ xs.length) = true := by simp; omega
          have a2 : decide (xs.length ≤ 6) = true := by simp; omega
          simp [isAm, a1, a2]
        refine ⟨_, rfl, p, rfl, ⟨_, SqT.of hp⟩, fun D hD => lc_tup (K := K) (a := p) (xs := xs) (fun i H' => Same H H' ∧ H' D = some (.lst ((xs.take i).map fun x => .bl (isTo 30 x))))
          ⟨same_new (Same.refl H) hD, upd_same⟩ (fun i H' _ q => SqT.of (q.1 _ _ hp)) (fun i x H' hx q => ⟨rfl, tyes ?_⟩) (fun H' q => ?_)⟩
        · refine ⟨_, rfl, x, 30, rfl, (kd x (List.mem_of_getElem? hx)).same q.1, ?_⟩
          refine ⟨_, q.2, size_lt (by simp; omega), same_put q.1 hD, ?_⟩
          rw [upd_same, List.take_add_one, hx, List.map_append]
          rfl
        · refine ⟨D, xs.map (isTo 30), rfl, ?_, ?_⟩
          · have e := q.2
            rw [List.take_length] at e
            rw [List.map_map]
            exact SqL.of e
          · have z := k H' q.1
            rw [e0] at z
            have e1 : (xs.map (isTo 30)).all id = xs.all (isTo 30) := by rw [List.all_map]; rfl
            rw [e1]
            exact z
    · refine ⟨_, rfl, iteT (no ?_)⟩
      have c4 : ¬ ((2 : Int) ≤ xs.length) := by simpa using c
      have c5 : decide (2 ≤ xs.length) = false := by simp; omega
      simp [isAm, c5]
  · exact ⟨_, rfl, x, _, t, _, false, rfl, .ty _, ty, kt, _, rfl, iteT (iteT k)⟩
abbrev st_ShInit : Stmt := inClass (top 22) 0
theorem sc_ShInit : FnScope ["self", "amounts"] ["self", "amounts"] (defScope st_ShInit) := ⟨rfl, rfl, rfl, by decide +kernel, rfl, by decide +kernel, by decide +kernel⟩
theorem ok_init (SShare : ShK K mg CShare) (c_is_amounts : Cal P w K mg base 3 "is_amounts" ["thing"] (spIsAm K)) (D : Mh K CShare "__init__" "Share.__init__" st_ShInit ["self", "amounts"]) : MCal P w K mg base 4 CShare "__init__" ["self", "amounts"] (spInit CShare) := by
  refine D.cal sc_ShInit (fun vs H Q E h => ?_) (fun f cdv A out s H vs Q E hr h => ?_)
  · obtain ⟨p, t, dx, ns, rfl, _⟩ := h
    rfl
  obtain ⟨p, t, dx, ns, rfl, hp, ht, h2, h6, am, k⟩ := h
  refine ⟨_, (pss_cons (ps_if (pt_not (pt_val (pe_fn c_is_amounts (hr.mono (by decide)) (pa_cons (pv 1) pa_nil)))) (pss_one ps_never) pss_nil)
   (pss_one (ps_fld (pv 0) (pv 1) rfl))), ?_⟩
  refine ⟨_, rfl, .ref t, rfl, .inl ⟨t, _, rfl, ht, by rw [List.length_map]; omega, fun y hy => ?_, fun H1 s1 => ?_⟩⟩
  · obtain ⟨i, _, rfl⟩ := List.mem_map.mp hy
    exact Kd.int i
  rw [isAm_ints h2 h6 am]
  refine ⟨_, rfl, iteF ?_⟩
  refine ⟨_, rfl, _, rfl, p, CShare, dx, _, rfl, s1 _ _ hp, SShare.cl, SShare.nB, (by show 0 < 1000; decide), ?_⟩
  have tp : t ≠ p := ne_of ht hp (by intro z; cases z)
  exact k _ (fun b o n e => by rw [upd_ne n]; exact s1 _ _ e) ⟨⟨dx, upd_same⟩, by rw [upd_ne tp]; exact s1 _ _ ht, h2, h6, am⟩
end
end Pl
namespace Pl
open PySem PySem.Spec PyProof.Rows L2
section
variable {P : Program} {w : World} {K : PySem.W.Frag} {mg : Str → Option Value} {base : Heap} {CShare : Addr}
abbrev st_Sh_len : Stmt := inClass (top 22) 4
theorem sc_Sh_len : FnScope ["self"] ["self"] (defScope st_Sh_len) := ⟨rfl, rfl, rfl, by decide +kernel, rfl, by decide +kernel, by decide +kernel⟩
theorem ok_len (B : Bn mg) (SShare : ShK K mg CShare) (D : Mh K CShare "__len__" "Share.__len__" st_Sh_len ["self"]) : MCal P w K mg base 2 CShare "__len__" ["self"] (spLen CShare) := by
  refine D.cal sc_Sh_len (fun vs H Q E h => ?_) (fun f cdv A out s H vs Q E hr h => ?_)
  · obtain ⟨s, t, ns, rfl, _⟩ := h
    rfl
  obtain ⟨s, t, ns, rfl, ⟨⟨dx, h1⟩, h2, _⟩, k⟩ := h
  refine ⟨_, (pss_one (ps_ret (pe_callB call_len_seq (by rfl) B.n_len (by decide +kernel) (pa_cons (pe_fld (pv 0) rfl) pa_nil)))), ?_⟩
  refine ⟨_, rfl, s, CShare, dx, _, _, rfl, h1, SShare.cl, SShare.nB, shF_get t, t, _, rfl, .inr (SqT.of h2), ?_⟩
  rw [List.length_map]
  exact k
end
end Pl
namespace Pl
open PySem PySem.Spec PyProof.Rows L2
section
variable {P : Program} {w : World} {K : PySem.W.Frag} {mg : Str → Option Value} {base : Heap} {CShare : Addr}
abbrev st_Sh_amounts : Stmt := inClass (top 22) 1
theorem sc_Sh_amounts : FnScope ["self"] ["self"] (defScope st_Sh_amounts) := ⟨rfl, rfl, rfl, by decide +kernel, rfl, by decide +kernel, by decide +kernel⟩
theorem ok_pamounts (SShare : ShK K mg CShare) (D : Ph K CShare "amounts" "Share.amounts" st_Sh_amounts ["self"]) : PCal P w K mg base 2 CShare "amounts" ["self"] (getSp CShare "by_state") := by
  refine D.cal sc_Sh_amounts (fun vs H Q E h => ?_) (fun f cdv A out s H vs Q E hr h => ?_)
  · obtain ⟨a, dx, fs, v, rfl, _⟩ := h
    rfl
  obtain ⟨a, dx, fs, v, rfl, h1, l, k⟩ := h
  refine ⟨_, (pss_one (ps_ret (pe_fld (pv 0) rfl))), ?_⟩
  exact ⟨_, rfl, a, CShare, dx, _, _, rfl, h1, SShare.cl, SShare.nB, l, k⟩
end
end Pl
namespace Pl
open PySem PySem.Spec PyProof.Rows L2
theorem low_succ {ns : List Int} {i : Nat} {x : Int} (h : (srt ns)[i]? = some x) : low ns (i + 1) = low ns i + x := by
  unfold low
  rw [List.take_add_one, h, List.sum_append]
  simp
theorem perm_sum {l m : List Int} (h : l.Perm m) : l.sum = m.sum := by
  induction h with
  | nil => rfl
  | cons x _ ih => simp [ih]
  | swap x y l => simp; omega
  | trans _ _ a b => exact a.trans b
theorem low_zero (ns : List Int) : low ns 0 = 0 := rfl
theorem low_all (ns : List Int) : low ns ns.length = ns.sum := by
  unfold low
  rw [← srt_length ns, List.take_length]
  exact perm_sum (srt_perm ns)
theorem dpInts (K : PySem.W.Frag) (H : Hp) : ∀ ns : List Int, DpAll K H (ns.map V.int) (ns.map PyData.int)
  | [] => .nil
  | n :: ns => .cons (.int n) (dpInts K H ns)
theorem depthInts : ∀ ns : List Int, PyData.depthAll (ns.map PyData.int) = 0
  | [] => rfl
  | n :: ns => by
    show max 0 (PyData.depthAll (ns.map PyData.int)) = 0
    rw [depthInts ns]; rfl
theorem layInts : ∀ ns : List Int, PyData.canLayAll0 (ns.map PyData.int) = true
  | [] => by simp [PyData.canLayAll0]
  | n :: ns => by
    simp only [List.map_cons, PyData.canLayAll0, PyData.canLay0, layInts ns, Bool.and_self]
theorem shapedInts (ns : List Int) : SeqAt.shaped (.list (ns.map PyData.int)) = true := by
  show (PyData.canLay0 (.list (ns.map PyData.int)) && decide (PyData.depth (.list (ns.map PyData.int)) ≤ 64)) = true
  simp only [PyData.canLay0, PyData.depth, layInts, depthInts]
  decide
theorem cons_erase {x : Int} : ∀ {ns : List Int} {j : Nat}, ns[j]? = some x → ([x] ++ ns.eraseIdx j).Perm ns
  | [], _, h => by simp at h
  | n :: ns, 0, h => by
    obtain rfl : n = x := by simpa using h
    exact List.Perm.refl _
  | n :: ns, j + 1, h => by
    have q := cons_erase (ns := ns) (j := j) (by simpa using h)
    show (x :: n :: ns.eraseIdx j).Perm (n :: ns)
    exact (List.Perm.swap n x _).trans (List.Perm.cons n q)
theorem map_erase {α β : Type} (f : α → β) : ∀ (l : List α) (j : Nat), (l.map f).eraseIdx j = (l.eraseIdx j).map f
  | [], j => rfl
  | x :: l, 0 => rfl
  | x :: l, j + 1 => by
    show f x :: (l.map f).eraseIdx j = f x :: (l.eraseIdx j).map f
    rw [map_erase f l j]
theorem perm_erase {ns ms zs : List Int} {j : Nat} {x : Int} (p : (ms ++ ns).Perm zs) (h : ns[j]? = some x) : ((ms ++ [x]) ++ ns.eraseIdx j).Perm zs := by
  refine List.Perm.trans ?_ p
  rw [List.append_assoc]
  refine List.Perm.append_left _ ?_
  exact cons_erase h
theorem at_int {ms : List Int} {r : Int} (h0 : 0 ≤ r) (h1 : r < ms.length) : ∃ x, ms[r.toNat]? = some x ∧ x ∈ ms ∧ atI (ms.map V.int) r = some (.int x) := by
  obtain ⟨x, hx, e, _⟩ := at_of_lt h0 h1
  refine ⟨x, e, hx, ?_⟩
  have z := atI_nat (xs := ms.map V.int) (j := r.toNat) (v := .int x) (by rw [List.getElem?_map, e]; rfl)
  rw [Int.toNat_of_nonneg h0] at z
  exact z
theorem ix_of {n : Nat} {r : Int} (h0 : 0 ≤ r) (h1 : r < n) : ixN n r = some r.toNat := by
  unfold ixN
  rw [if_pos h0, if_pos h1]
theorem am_set {ms : List Int} {j : Nat} {x : Int} (am : Am ms) (h0 : 0 ≤ x) (h1 : x ≤ 30) : Am (ms.set j x) := fun r hr => by
  rcases List.mem_or_eq_of_mem_set hr with h | h
  · exact am r h
  · rw [h]; exact ⟨h0, h1⟩
end Pl
namespace Pl
open PySem PySem.Spec PyProof.Rows L2
/-- what repr can show -/
def Shw (d : PyData) : Prop := d.showable = true ∧ d.hasDict = false ∧ d.depth ≤ 60 ∧ d.shown.length ≤ sizeLine
/-- data that is not too large to be shown: depth at most k, weight at most m -/
structure Fit (k m : Nat) (d : PyData) : Prop where
  lay : d.canLay0 = true
  short : d.intsShort 13 = true
  dep : d.depth ≤ k
  wt : d.weight ≤ m
  sh : d.showable = true
  nd : d.hasDict = false
structure FitAll (k m : Nat) (ds : List PyData) : Prop where
  lay : PyData.canLayAll0 ds = true
  short : PyData.intsShortAll 13 ds = true
  dep : PyData.depthAll ds ≤ k
  wt : PyData.weightAll ds ≤ m
  sh : PyData.showableAll ds = true
  nd : PyData.hasDictAll ds = false
theorem Fit.shw {k m : Nat} {d : PyData} (f : Fit k m d) (hk : k ≤ 60 := by decide) (hm : m ≤ 2 ^ 20 := by decide) : Shw d := by
  refine ⟨f.sh, f.nd, Nat.le_trans f.dep hk, PyData.shown_fits_of_layable0 (B := 13) (by decide) (by decide) ?_ f.short⟩
  have a1 := f.lay
  have a2 : d.depth ≤ 64 := Nat.le_trans f.dep (by omega)
  have a3 : d.weight ≤ 2 ^ 20 := Nat.le_trans f.wt hm
  simp only [PyData.layable0, a1, a2, a3, decide_true, Bool.and_self]
theorem Fit.mono {k k' m m' : Nat} {d : PyData} (f : Fit k m d) (hk : k ≤ k') (hm : m ≤ m') : Fit k' m' d := ⟨f.lay, f.short, Nat.le_trans f.dep hk, Nat.le_trans f.wt hm, f.sh, f.nd⟩
theorem FitAll.mono {k k' m m' : Nat} {d : List PyData} (f : FitAll k m d) (hk : k ≤ k') (hm : m ≤ m') : FitAll k' m' d := ⟨f.lay, f.short, Nat.le_trans f.dep hk, Nat.le_trans f.wt hm, f.sh, f.nd⟩
theorem FitAll.nil {k : Nat} : FitAll k 0 [] := ⟨by simp [PyData.canLayAll0], by simp [PyData.intsShortAll], by simp [PyData.depthAll], by simp [PyData.weightAll], by simp [PyData.showableAll], by simp [PyData.hasDictAll]⟩
theorem FitAll.cons {k m n : Nat} {d : PyData} {ds : List PyData} (f : Fit k m d) (g : FitAll k n ds) : FitAll k (m + 1 + n) (d :: ds) := by
  refine ⟨?_, ?_, ?_, ?_, ?_, ?_⟩
  · simp [PyData.canLayAll0, f.lay, g.lay]
  · simp [PyData.intsShortAll, f.short, g.short]
  · have a := f.dep
    have b := g.dep
    simp only [PyData.depthAll]; omega
  · have a := f.wt
    have b := g.wt
    simp only [PyData.weightAll]; omega
  · simp [PyData.showableAll, f.sh, g.sh]
  · simp [PyData.hasDictAll, f.nd, g.nd]
theorem Fit.list {k m : Nat} {ds : List PyData} (f : FitAll k m ds) : Fit (k + 1) m (.list ds) :=
  ⟨by simpa [PyData.canLay0] using f.lay, by simpa [PyData.intsShort] using f.short, by simpa [PyData.depth] using f.dep, by simpa [PyData.weight] using f.wt, by simpa [PyData.showable] using f.sh, by simpa [PyData.hasDict] using f.nd⟩
theorem Fit.tuple {k m : Nat} {ds : List PyData} (f : FitAll k m ds) : Fit (k + 1) m (.tuple ds) :=
  ⟨by simpa [PyData.canLay0] using f.lay, by simpa [PyData.intsShort] using f.short, by simpa [PyData.depth] using f.dep, by simpa [PyData.weight] using f.wt, by simpa [PyData.showable] using f.sh, by simpa [PyData.hasDict] using f.nd⟩
theorem Fit.int {k : Nat} {i : Int} (h : i.natAbs < 2 ^ 30) : Fit k 31 (.int i) := by
  have lg : i.natAbs.log2 < 30 := by
    rcases Nat.eq_zero_or_pos i.natAbs with z | z
    · rw [z]; decide
    · exact (Nat.log2_lt (by omega)).mpr h
  refine ⟨by simp [PyData.canLay0], ?_, by simp [PyData.depth], ?_, ?_, by simp [PyData.hasDict]⟩
  · simp only [PyData.intsShort, decide_eq_true_eq]
    exact PyData.shown_int_le (by omega)
  · simp only [PyData.weight]
    split <;> omega
  · simp only [PyData.showable, decide_eq_true_eq]
    omega
theorem Fit.bool {k : Nat} (b : Bool) : Fit k 0 (.bool b) := ⟨by simp [PyData.canLay0], by simp [PyData.intsShort], by simp [PyData.depth], by simp [PyData.weight], by simp [PyData.showable], by simp [PyData.hasDict]⟩
theorem Fit.none {k : Nat} : Fit k 0 .none := ⟨by simp [PyData.canLay0], by simp [PyData.intsShort], by simp [PyData.depth], by simp [PyData.weight], by simp [PyData.showable], by simp [PyData.hasDict]⟩
theorem Fit.str {k : Nat} {x : Str} (h : PyData.strOk x = true) : Fit k x.cps.size (.str x) := ⟨by simpa [PyData.canLay0] using h, by simp [PyData.intsShort], by simp [PyData.depth], by simp [PyData.weight], by simp [PyData.showable], by simp [PyData.hasDict]⟩
theorem FitAll.ints {k : Nat} : ∀ {ns : List Int}, (∀ x ∈ ns, x.natAbs < 2 ^ 30) → FitAll k (32 * ns.length) (ns.map PyData.int)
  | [], _ => FitAll.nil
  | n :: ns, h => (FitAll.cons (Fit.int (h n List.mem_cons_self)) (FitAll.ints (ns := ns) fun x hx => h x (List.mem_cons_of_mem _ hx))).mono (Nat.le_refl _) (by simp; omega)
def spEqual (K : PySem.W.Frag) : Sp := fun vs H Q _ => ∃ (p q : Addr) (d e : PyData), vs = [.ref p, .ref q] ∧ Dp K H (.ref p) d ∧ Dp K H (.ref q) e ∧ Shw d ∧ Shw e ∧ Q (.bl (decide (V.str d.shown = V.str e.shown))) H
section
variable {P : Program} {w : World} {K : PySem.W.Frag} {mg : Str → Option Value} {base : Heap} {CShare : Addr}
abbrev st_l_is_equal : Stmt := top 53
theorem sc_l_is_equal : FnScope ["_law_actual", "_law_expected"] ["_law_actual", "_law_expected"] (defScope st_l_is_equal) := ⟨rfl, rfl, rfl, by decide +kernel, rfl, by decide +kernel, by decide +kernel⟩
theorem ok_equal (B : Bn mg) (D : Df K mg "_law_is_equal" st_l_is_equal ["_law_actual", "_law_expected"]) : CalG P w K mg base 2 "_law_is_equal" ["_law_actual", "_law_expected"] (spEqual K) := by
  refine D.calG sc_l_is_equal (fun vs H Q E h => ?_) (fun f cdv A out s H vs Q E gd hr h => ?_)
  · obtain ⟨p, q, d, e, rfl, _⟩ := h
    rfl
  obtain ⟨p, q, d, e, rfl, dp, dq, ⟨a1, a2, a3, a4⟩, ⟨b1, b2, b3, b4⟩, k⟩ := h
  refine ⟨_, (pss_one (ps_ret (pe_cmpR op_eq (pe_callB (call_reprD gd (un66 hr)) (by rfl) B.n_repr (by decide +kernel) (pa_cons (pv 0) pa_nil)) (pe_callB (call_reprD gd (un66 hr)) (by rfl) B.n_repr (by decide +kernel) (pa_cons (pv 1) pa_nil)) (nomark _)))), ?_⟩
  exact ⟨_, rfl, p, d, rfl, dp, a1, a2, a3, a4, _, rfl, q, e, rfl, dq, b1, b2, b3, b4, rfl, k⟩
end
end Pl
namespace Pl
open PySem PySem.Spec PyProof.Rows L2
theorem sqT_same {K : PySem.W.Frag} {H H' : Hp} {a : Addr} {xs : List V} (e : Same H H') (h : SqT K H a xs) : SqT K H' a xs := by
  rcases h with (h | ⟨o, h⟩) | h
  · exact .inl (.inl (e _ _ h))
  · exact .inl (.inr ⟨o, e _ _ h⟩)
  · exact .inr h
mutual
theorem dpSame {K : PySem.W.Frag} {H H' : Hp} (k : Same H H') : ∀ (d : PyData) (v : V), Dp K H v d → Dp K H' v d
  | .none, _, h => by cases h; exact .non
  | .bool b, _, h => by cases h; exact .bl b
  | .int i, _, h => by cases h; exact .int i
  | .str z, _, h => by cases h; exact .str z
  | .list ds, _, h => by
    cases h with
    | lst a b => exact .lst (k.seq a) (dpSameAll k ds _ b)
  | .tuple ds, _, h => by
    cases h with
    | tup a b => exact .tup (sqT_same k a) (dpSameAll k ds _ b)
  | .dict _, _, h => by cases h
theorem dpSameAll {K : PySem.W.Frag} {H H' : Hp} (k : Same H H') : ∀ (ds : List PyData) (vs : List V), DpAll K H vs ds → DpAll K H' vs ds
  | [], _, h => by cases h; exact .nil
  | d :: ds, _, h => by
    cases h with
    | cons a b => exact .cons (dpSame k d _ a) (dpSameAll k ds _ b)
end
end Pl
namespace Pl
open PySem PySem.Spec PyProof.Rows L2
section
variable {P : Program} {w : World} {K : PySem.W.Frag} {mg : Str → Option Value} {base : Heap} {CShare : Addr}
abbrev st_check_pair : Stmt := top 25
theorem sc_check_pair : FnScope ["one", "other"] ["one", "other"] (defScope st_check_pair) := ⟨rfl, rfl, rfl, by decide +kernel, rfl, by decide +kernel, by decide +kernel⟩
theorem ok_pair (B : Bn mg) (SShare : ShK K mg CShare) (m_len : MCal P w K mg base 2 CShare "__len__" ["self"] (spLen CShare)) (D : Df K mg "check_pair" st_check_pair ["one", "other"]) : Cal P w K mg base 4 "check_pair" ["one", "other"] (spPair CShare) := by
  refine D.cal sc_check_pair (fun vs H Q E h => ?_) (fun f cdv A out s H vs Q E hr h => ?_)
  · obtain ⟨s1, t1, s2, t2, ns, ms, rfl, _⟩ := h
    rfl
  obtain ⟨s1, t1, s2, t2, ns, ms, rfl, sh1, sh2, ln, k⟩ := h
  refine ⟨_, (pss_cons (ps_if (PW.pt (pw_or (pt_not (pt_val (pe_callB call_isi (by rfl) B.n_isinstance (by decide +kernel) (pa_cons (pv 0) (pa_cons (pe_glob (v := .ref CShare) rfl SShare.mgC rfl) pa_nil))))) (pw_or1 (pt_not (pt_val (pe_callB call_isi (by rfl) B.n_isinstance (by decide +kernel) (pa_cons (pv 1) (pa_cons (pe_glob (v := .ref CShare) rfl SShare.mgC rfl) pa_nil)))))))) (pss_one ps_never) pss_nil)
   (pss_one (ps_if (pt_cmpR op_ne (pe_callB (call_lenM m_len (hr.mono (by decide))) (by rfl) B.n_len (by decide +kernel) (pa_cons (pv 0) pa_nil)) (pe_callB (call_lenM m_len (hr.mono (by decide))) (by rfl) B.n_len (by decide +kernel) (pa_cons (pv 1) pa_nil)) (nomark _)) (pss_one ps_never) pss_nil))), ?_⟩
  obtain ⟨⟨d1, a1⟩, _, _, l1, _⟩ := id sh1
  obtain ⟨⟨d2, a2⟩, _, _, l2, _⟩ := id sh2
  have ty : ∀ {s d t : Addr}, H s = some (.ins CShare d (shF t)) → TyX K H (.ref s) (.ref CShare) := fun e => .base (.ins e SShare.cl SShare.ca SShare.cg SShare.ct SShare.mro)
  refine ⟨_, rfl, _, _, _, _, true, rfl, .own _, ty a1, SShare.kit, _, rfl, iteF ?_⟩
  refine ⟨_, rfl, _, _, _, _, true, rfl, .own _, ty a2, SShare.kit, _, rfl, iteF ?_⟩
  refine ⟨_, rfl, s1, d1, _, rfl, a1, s1, t1, ns, rfl, sh1, ns.length, rfl, by omega, ?_⟩
  refine ⟨_, rfl, s2, d2, _, rfl, a2, s2, t2, ms, rfl, sh2, ms.length, rfl, by omega, rfl, _, rfl, ?_⟩
  rw [ln]
  exact iteNS rfl k
end
end Pl
namespace Pl
open PySem PySem.Spec PyProof.Rows L2
/-! what the top has written of Division -/
structure Cd (mg : Str → Option Value) : Prop where
  c_FEWEST_PEOPLE : ∃ t, mg "FEWEST_PEOPLE" = some (.int 2 t)
  c_MOST_PEOPLE : ∃ t, mg "MOST_PEOPLE" = some (.int 4 t)
structure DvK (K : PySem.W.Frag) (mg : Str → Option Value) (C : Addr) : Prop where
  cl : Cls K C
  nP : NoAttr K C "by_person"
  mgC : mg "Division" = some (.ref C)
  mks : PySem.W.makesIn K C = true
  kc : PySem.W.keepIn K (.ref C) = true
  ca : PySem.W.findIn K (.ref C) "__class__" = some (some (.builtin "object.__class__"))
  cg : PySem.W.specialIn K (.builtin "object.__class__") "__get__" = some (some (.builtin "getset_descriptor.__get__"))
  ct : PySem.W.takesIn K (.builtin "object.__class__") = some true
  mro : PySem.W.mroIn K C (.type "object") = some true
  kit : PySem.W.kitOne K (.ref C) (.ref C) = some true
structure DvF (K : PySem.W.Frag) (C : Addr) : Prop where
  pg : PySem.W.plainGet K C Str.empty = true
  hd : PySem.W.hasDictIn K C = true
  po : PySem.W.plainOver K C = true
  sa : PySem.W.findIn K (.ref C) "__setattr__" = some (some (.builtin "object.__setattr__"))
  nP : PySem.W.findIn K (.ref C) "by_person" = some none
  mks : PySem.W.makesIn K C = true
  kc : PySem.W.keepIn K (.ref C) = true
  ca : PySem.W.findIn K (.ref C) "__class__" = some (some (.builtin "object.__class__"))
  cg : PySem.W.specialIn K (.builtin "object.__class__") "__get__" = some (some (.builtin "getset_descriptor.__get__"))
  ct : PySem.W.takesIn K (.builtin "object.__class__") = some true
  mro : PySem.W.mroIn K C (.type "object") = some true
  kit : PySem.W.kitOne K (.ref C) (.ref C) = some true
theorem DvF.k {K : PySem.W.Frag} {mg : Str → Option Value} {C : Addr} (s : DvF K C) (g : mg "Division" = some (.ref C)) : DvK K mg C :=
  ⟨⟨s.pg, s.hd, s.po, s.sa⟩, s.nP, g, s.mks, s.kc, s.ca, s.cg, s.ct, s.mro, s.kit⟩
/-- shares with these amounts stand at these places -/
inductive ShAll (C : Addr) (H : Hp) : List Addr → List (List Int) → Prop where
  | nil : ShAll C H [] []
  | cons {s t : Addr} {ns : List Int} {ss : List Addr} {rows : List (List Int)} (h : ShAt C H s t ns) (r : ShAll C H ss rows) : ShAll C H (s :: ss) (ns :: rows)
theorem ShAll.same {C : Addr} {H H' : Hp} (k : Same H H') : ∀ {ss : List Addr} {rows : List (List Int)}, ShAll C H ss rows → ShAll C H' ss rows
  | _, _, .nil => .nil
  | _, _, .cons h r => .cons (h.same k) (r.same k)
theorem ShAll.len {C : Addr} {H : Hp} : ∀ {ss : List Addr} {rows : List (List Int)}, ShAll C H ss rows → ss.length = rows.length
  | _, _, .nil => rfl
  | _, _, .cons h r => by rw [List.length_cons, List.length_cons, r.len]
theorem ShAll.get {C : Addr} {H : Hp} : ∀ {ss : List Addr} {rows : List (List Int)} {i : Nat} {s : Addr}, ShAll C H ss rows → ss[i]? = some s → ∃ t ns, rows[i]? = some ns ∧ ShAt C H s t ns
  | _, _, 0, _, .cons h r, e => by cases e; exact ⟨_, _, rfl, h⟩
  | _, _, i + 1, _, .cons h r, e => by
    obtain ⟨t, ns, a, b⟩ := r.get (i := i) e
    exact ⟨t, ns, a, b⟩
  | _, _, _, _, .nil, e => by cases e
theorem ShAll.snoc {C : Addr} {H : Hp} {s t : Addr} {ns : List Int} (x : ShAt C H s t ns) : ∀ {ss : List Addr} {rows : List (List Int)}, ShAll C H ss rows → ShAll C H (ss ++ [s]) (rows ++ [ns])
  | _, _, .nil => .cons x .nil
  | _, _, .cons h r => .cons h (r.snoc x)
/-- the amounts of a division -/
def Rows (rows : List (List Int)) : Prop := 2 ≤ rows.length ∧ rows.length ≤ 4 ∧ ∃ n, 2 ≤ n ∧ n ≤ 6 ∧ ∀ ns ∈ rows, ns.length = n ∧ Am ns
theorem Rows.ne {rows : List (List Int)} (h : Rows rows) : rows ≠ [] := fun e => by
  have := h.1
  rw [e] at this
  simp at this
theorem Rows.am {rows : List (List Int)} (h : Rows rows) : ∀ ns ∈ rows, Am ns := fun ns hn => by
  obtain ⟨_, _, n, _, _, q⟩ := h
  exact (q ns hn).2
theorem Rows.l2 {rows : List (List Int)} (h : Rows rows) {ns : List Int} (hn : ns ∈ rows) : 2 ≤ ns.length := by
  obtain ⟨_, _, n, a, _, q⟩ := h
  have := (q ns hn).1
  omega
theorem Rows.l6 {rows : List (List Int)} (h : Rows rows) {ns : List Int} (hn : ns ∈ rows) : ns.length ≤ 6 := by
  obtain ⟨_, _, n, _, a, q⟩ := h
  have := (q ns hn).1
  omega
theorem Rows.eq {rows : List (List Int)} (h : Rows rows) {ns ms : List Int} (hn : ns ∈ rows) (hm : ms ∈ rows) : ns.length = ms.length := by
  obtain ⟨_, _, n, _, a, q⟩ := h
  rw [(q ns hn).1, (q ms hm).1]
def dvF (t : Addr) : List (Str × V) := [("by_person", .ref t)]
theorem dvF_get (t : Addr) : (dvF t).lookup ("by_person" : Str) = some (.ref t) := by simp [dvF, List.lookup]
/-- a division with the amounts rows stands at d, its tuple of shares at t -/
def DvAt (CD C : Addr) (H : Hp) (d t : Addr) (ss : List Addr) (rows : List (List Int)) : Prop := (∃ dx, H d = some (.ins CD dx (dvF t))) ∧ H t = some (.tup (ss.map V.ref)) ∧ ShAll C H ss rows ∧ Rows rows
theorem DvAt.same {CD C : Addr} {H H' : Hp} {d t : Addr} {ss : List Addr} {rows : List (List Int)} (h : DvAt CD C H d t ss rows) (k : Same H H') : DvAt CD C H' d t ss rows := by
  obtain ⟨⟨dx, h1⟩, h2, h3, r⟩ := h
  exact ⟨⟨dx, k _ _ h1⟩, k _ _ h2, h3.same k, r⟩
def spDvInit (CD C : Addr) : Sp := fun vs H Q _ => ∃ (d p dx : Addr) (ss : List Addr) (rows : List (List Int)), vs = [.ref d, .ref p] ∧ H d = some (.ins CD dx []) ∧ H p = some (.tup (ss.map V.ref)) ∧ ShAll C H ss rows ∧ Rows rows ∧
  ∀ H', Kp d H H' → DvAt CD C H' d p ss rows → Q .non H'
theorem ShAll.kp {C d : Addr} {H H' : Hp} (k : Kp d H H') (hd : ∃ CD dx fs, H d = some (.ins CD dx fs) ∧ ∀ t, fs ≠ shF t) : ∀ {ss : List Addr} {rows : List (List Int)}, ShAll C H ss rows → ShAll C H' ss rows
  | _, _, .nil => .nil
  | _, _, .cons (s := s) (t := t) h r => by
    refine .cons (t := t) ?_ (r.kp k hd)
    obtain ⟨CD, dx, fs, e, nf⟩ := hd
    obtain ⟨⟨dx2, h1⟩, h2, q⟩ := h
    refine ⟨⟨dx2, k _ _ (fun z => ?_) h1⟩, k _ _ (fun z => ?_) h2, q⟩
    · rw [z, e] at h1
      injection h1 with h1
      injection h1 with _ _ h1
      exact nf _ h1
    · rw [z, e] at h2
      cases h2
end Pl
namespace Pl
open PySem PySem.Spec PyProof.Rows L2
def spSpaced : Sp := fun vs H Q _ => ∃ (t : Addr) (ns : List Int), vs = [.ref t] ∧ H t = some (.tup (ns.map V.int)) ∧ ns.length ≤ 6 ∧ Am ns ∧ ∀ H', Same H H' → Q (.str (line ns)) H'
def spReadAmount : Sp := fun vs H Q _ => ∃ n : Int, vs = [.str (wd n)] ∧ 0 ≤ n ∧ n ≤ 30 ∧ Q (.int n) H
def spReadShare (C : Addr) : Sp := fun vs H Q _ => ∃ ns : List Int, vs = [.str (line ns)] ∧ 2 ≤ ns.length ∧ ns.length ≤ 6 ∧ Am ns ∧ ∀ (s t : Addr) (H' : Hp), Same H H' → ShAt C H' s t ns → Q (.ref s) H'
theorem log_am {n : Int} (h0 : 0 ≤ n) (h1 : n ≤ 30) : n.natAbs.log2 < 1920 := by
  have h : n.natAbs < 2 ^ 1920 := Nat.lt_of_le_of_lt (show n.natAbs ≤ 30 by omega) (by decide +kernel)
  by_cases z : n.natAbs = 0
  · rw [z]; decide
  · exact (Nat.log2_lt z).mpr h
theorem words_len {ns : List Int} (am : Am ns) : ((ns.map wd).map (·.length)).sum ≤ 2 * ns.length := by
  induction ns with
  | nil => simp
  | cons n r ih =>
    have h1 := (wd_ok (am n List.mem_cons_self).1 (am n List.mem_cons_self).2).2.2
    rw [← TL.len_tl] at h1
    have h2 := ih fun x hx => am x (List.mem_cons_of_mem _ hx)
    simp only [List.map_cons, List.sum_cons, List.length_cons]
    omega
section
variable {P : Program} {w : World} {K : PySem.W.Frag} {mg : Str → Option Value} {base : Heap} {CShare CDivision : Addr}
abbrev st_spaced : Stmt := top 24
theorem sc_spaced : FnScope ["amounts", "amount"] ["amounts"] (defScope st_spaced) := ⟨rfl, rfl, rfl, by decide +kernel, rfl, by decide +kernel, by decide +kernel⟩
theorem ok_spaced (B : Bn mg) (D : Df K mg "spaced" st_spaced ["amounts"]) : Cal P w K mg base 2 "spaced" ["amounts"] spSpaced := by
  refine D.cal sc_spaced (fun vs H Q E h => ?_) (fun f cdv A out s H vs Q E hr h => ?_)
  · obtain ⟨t, ns, rfl, _⟩ := h
    rfl
  obtain ⟨t, ns, rfl, ht, l6, am, k⟩ := h
  refine ⟨_, (pss_one (ps_ret (pe_join pe_str (pe_lc (own := [("amount", 1)]) (g := gName 1) rfl sc_spaced.nd (pi_tup (pv 0)) (blkOk_by (N := ["amounts", "amount"]) (sc := defScope st_spaced) (by decide +kernel)) (fun _ _ _ _ _ => (pg_name (i := 1) sc_spaced.nd rfl (.inl rfl))) (fun _ _ _ _ _ => pts_nil) (fun _ _ _ _ _ => (pe_callTy call_str_int (by rfl) B.n_str (by decide +kernel) (pa_cons (pv 1) pa_nil))))))), ?_⟩
  refine ⟨⟨_, rfl⟩, _, rfl, t, rfl, ⟨_, SqT.of ht⟩, fun D hD => lc_tup (K := K) (a := t) (xs := ns.map V.int) (fun i H' => Same H H' ∧ H' D = some (.lst (((ns.map wd).take i).map V.str)))
    ⟨same_new (Same.refl H) hD, upd_same⟩ (fun i H' _ q => SqT.of (q.1 _ _ ht)) (fun i x H' hx q => ⟨rfl, tyes ?_⟩) (fun H' q => ?_)⟩
  · rw [List.getElem?_map] at hx
    cases e : ns[i]? with
    | none => rw [e] at hx; cases hx
    | some n =>
      rw [e] at hx
      obtain rfl : V.int n = x := Option.some.inj hx
      have a := am n (List.mem_of_getElem? e)
      refine ⟨_, rfl, n, rfl, log_am a.1 a.2, _, q.2, size_lt (by rw [List.length_map, List.length_take, List.length_map]; omega), same_put q.1 hD, ?_⟩
      have e2 : (ns.map wd)[i]? = some (wd n) := by rw [List.getElem?_map, e]; rfl
      rw [upd_same, List.take_add_one, e2, List.map_append]
      rfl
  · have e := q.2
    rw [List.length_map, ← List.length_map (f := wd), List.take_length] at e
    refine ⟨_, D, ns.map wd, rfl, rfl, .inl (SqL.of e), ?_, ?_⟩
    · have := words_len am
      have l1 : (" " : Str).length = 1 := rfl
      rw [l1, List.length_map]
      omega
    · rw [TL.join_eq]
      exact k H' q.1
abbrev st_read_amount : Stmt := top 32
theorem sc_read_amount : FnScope ["word", "amount"] ["word"] (defScope st_read_amount) := ⟨rfl, rfl, rfl, by decide +kernel, rfl, by decide +kernel, by decide +kernel⟩
theorem ok_readAmount (B : Bn mg) (SDivision : DvK K mg CDivision) (cv_MOST : CvK K CDivision "MOST" 30) (D : Df K mg "read_amount" st_read_amount ["word"]) : Cal P w K mg base 2 "read_amount" ["word"] spReadAmount := by
  refine D.cal sc_read_amount (fun vs H Q E h => ?_) (fun f cdv A out s H vs Q E hr h => ?_)
  · obtain ⟨n, rfl, _⟩ := h
    rfl
  obtain ⟨n, rfl, n0, n1, k⟩ := h
  refine ⟨_, (pss_cons (ps_for PassesOwn.never rfl (pi_range1 (by rfl) B.n_range (pa_cons (pe_op op_add (pe_cv cv_MOST (pe_glob (v := .ref CDivision) rfl SDivision.mgC rfl)) pe_int) pa_nil)) (pg_name (i := 1) sc_read_amount.nd rfl (.inl rfl))
   (pss_one (ps_if (pt_cmpR op_eq (pv 0) (pe_callTy call_str_int (by rfl) B.n_str (by decide +kernel) (pa_cons (pv 1) pa_nil)) (nomark _)) (pss_one (ps_ret (pv 1))) pss_nil)))
   (pss_one ps_never)), ?_⟩
  refine ⟨rfl, _, _, rfl, rfl, 31, rfl, by decide, by decide, ?_⟩
  refine for_range (lo := 0) (n := 31) (fun i σ H' => ∃ v : Option V, σ = [some (.str (wd n)), v] ∧ H' = H ∧ (i : Int) ≤ n) ⟨none, rfl, rfl, by omega⟩ ?_ (fun σ H' ⟨v, _, _, z⟩ => by omega)
  rintro i σ H1 hi ⟨v, rfl, rfl, le⟩
  refine ⟨_, rfl, _, rfl, (0 + i : Int), rfl, log_am (by omega) (by omega), rfl, _, rfl, ite2 (fun c => ?_) (fun c => ?_)⟩
  · have c1 : V.str (wd n) = V.str (wd (0 + i)) := of_decide_eq_true c
    have c2 : wd n = wd (0 + i) := V.str.inj c1
    have c3 := wd_inj n0 n1 (by omega) (by omega) c2
    refine ⟨_, rfl, ?_⟩
    rw [← c3]
    exact k
  · refine ⟨_, rfl, rfl, ?_⟩
    have : ¬ n = 0 + i := fun e => c (by rw [← e]; exact decide_eq_true rfl)
    omega
abbrev st_read_share : Stmt := top 31
theorem sc_read_share : FnScope ["line", "word"] ["line"] (defScope st_read_share) := ⟨rfl, rfl, rfl, by decide +kernel, rfl, by decide +kernel, by decide +kernel⟩
theorem ok_readShare (B : Bn mg) (SShare : ShK K mg CShare) (m_initShare : MCal P w K mg base 4 CShare "__init__" ["self", "amounts"] (spInit CShare)) (c_read_amount : Cal P w K mg base 2 "read_amount" ["word"] spReadAmount) (D : Df K mg "read_share" st_read_share ["line"]) : Cal P w K mg base 6 "read_share" ["line"] (spReadShare CShare) := by
  refine D.cal sc_read_share (fun vs H Q E h => ?_) (fun f cdv A out s H vs Q E hr h => ?_)
  · obtain ⟨ns, rfl, _⟩ := h
    rfl
  obtain ⟨ns, rfl, l2, l6, am, k⟩ := h
  refine ⟨_, (pss_one (ps_ret (pe_mk m_initShare SShare.mks SShare.kc SShare.mgC (hr.mono (by decide)) (pa_cons (pe_callTy call_tuple_of (by rfl) B.n_tuple (by decide +kernel) (pa_cons (pe_lc (own := [("word", 1)]) (g := gName 1) rfl sc_read_share.nd (pi_list (pe_m1 F.slot_str_split F.type_str_split mt_split (pv 0) pe_str)) (blkOk_by (N := ["line", "word"]) (sc := defScope st_read_share) (by decide +kernel)) (fun _ _ _ _ _ => (pg_name (i := 1) sc_read_share.nd rfl (.inl rfl))) (fun _ _ _ _ _ => pts_nil) (fun _ _ _ _ _ => (pe_fn c_read_amount (hr.mono (by decide)) (pa_cons (pv 1) pa_nil)))) pa_nil)) pa_nil)))), ?_⟩
  have ll := line_len am
  refine ⟨_, rfl, ⟨_, rfl⟩, _, _, rfl, rfl, rfl, Nat.le_trans (show (line ns).length + 2 ≤ 1000 by omega) (by decide), ?_⟩
  rw [split_line (by intro z; rw [z] at l2; simp at l2) am]
  intro p np
  refine ⟨p, rfl, ⟨_, SqL.of upd_same⟩, fun D hD => lc_list (K := K) (a := p) (xs := (ns.map wd).map V.str) (fun i H' => Same (upd H p (.lst ((ns.map wd).map V.str))) H' ∧ H' D = some (.lst ((ns.take i).map V.int)))
    ⟨same_new (Same.refl _) hD, upd_same⟩ (fun i H' _ q => SqL.of (q.1 _ _ upd_same)) (fun i x H' hx q => ⟨rfl, tyes ?_⟩) (fun H' q => ?_)⟩
  · rw [List.getElem?_map, List.getElem?_map] at hx
    cases e : ns[i]? with
    | none => rw [e] at hx; cases hx
    | some n =>
      rw [e] at hx
      obtain rfl : V.str (wd n) = x := Option.some.inj hx
      have a := am n (List.mem_of_getElem? e)
      refine ⟨_, rfl, n, rfl, a.1, a.2, _, q.2, size_lt (by rw [List.length_map, List.length_take]; omega), same_put q.1 hD, ?_⟩
      rw [upd_same, List.take_add_one, e, List.map_append]
      rfl
  · have e := q.2
    rw [List.length_map, List.length_map, List.take_length] at e
    have s1 : Same H H' := fun b o z => q.1 _ _ (by rw [upd_ne (ne_of_none z np)]; exact z)
    refine ⟨D, _, rfl, .inl ⟨SqL.of e, fun l hl x dx nx nd nex => ?_⟩⟩
    have s2 : Same H (upd H' l (.tup (ns.map V.int))) := same_new s1 hl
    exact mk_at nx nd upd_same l2 l6 am fun H3 k3 sh => k x l H3 (s2.trans k3) sh
abbrev st_DvInit : Stmt := inClass (top 29) 1
theorem sc_DvInit : FnScope ["self", "shares", "share"] ["self", "shares"] (defScope st_DvInit) := ⟨rfl, rfl, rfl, by decide +kernel, rfl, by decide +kernel, by decide +kernel⟩
theorem ok_dvInit (B : Bn mg) (Cc : Cd mg) (SDivision : DvK K mg CDivision) (c_check_pair : Cal P w K mg base 4 "check_pair" ["one", "other"] (spPair CShare)) (D : MhK K CDivision "__init__" "Division.__init__" st_DvInit) :
    MCalR P w K mg base CX0 5 CDivision "__init__" (spStar (spDvInit CDivision CShare)) := by
  refine D.star sc_DvInit (fun kV doc pm an cdv ct => StX.bind_star1 (B := fun us => bindArgs (PySem.W.fnOf "__init__" "Division.__init__" (defArgs st_DvInit) (defBody st_DvInit) (defScope st_DvInit) .none kV doc pm an cdv ct) ⟨us, []⟩) (fun a => rfl) (fun a r rs => rfl)) (fun f cdv A out s H vs Q E hr h => ?_)
  obtain ⟨d, p, dx, ss, rows, rfl, hd, hp, sh, rw_, k⟩ := h
  refine ⟨_, (pss_cons (ps_for PassesOwn.never rfl (pi_tup (pv 1)) (pg_name (i := 2) sc_DvInit.nd rfl (.inl rfl))
   (pss_one (ps_expr (pe_fn c_check_pair (hr.mono (by decide)) (pa_cons (pe_ix ix_tup (pv 1) pe_int (fun _ _ => rfl)) (pa_cons (pv 2) pa_nil))))))
   (pss_cons (ps_if (pt_not (pt_chain op_le op_le (pe_glob (v := .int 2) rfl Cc.c_FEWEST_PEOPLE.choose_spec ⟨_, rfl⟩) (pe_callB call_len_seq (by rfl) B.n_len (by decide +kernel) (pa_cons (pv 1) pa_nil)) (pe_glob (v := .int 4) rfl Cc.c_MOST_PEOPLE.choose_spec ⟨_, rfl⟩))) (pss_one ps_never) pss_nil)
   (pss_one (ps_fld (pv 0) (pv 1) rfl)))), ?_⟩
  have ln := sh.len
  refine ⟨_, rfl, p, rfl, ⟨_, SqT.of hp⟩, ?_⟩
  refine for_tup (K := K) (a := p) (xs := ss.map V.ref) (fun i σ H' => ∃ v : Option V, σ = [some (.ref d), some (.ref p), v] ∧ H' = H) ⟨none, rfl, rfl⟩ (fun i σ H' _ ⟨v, _, e⟩ => by rw [e]; exact SqT.of hp) ?_ ?_
  · rintro i x σ H1 hx ⟨v, rfl, rfl⟩
    rw [List.getElem?_map] at hx
    cases e : ss[i]? with
    | none => rw [e] at hx; cases hx
    | some s2 =>
      rw [e] at hx
      obtain rfl : V.ref s2 = x := Option.some.inj hx
      obtain ⟨t2, ms, em, sh2⟩ := sh.get e
      have l0 : 0 < ss.length := by have := rw_.1; omega
      have e0 : ss[0]? = some ss[0] := List.getElem?_eq_getElem l0
      obtain ⟨t1, ns, en, sh1⟩ := sh.get e0
      refine ⟨_, rfl, p, _, _, _, rfl, rfl, SqT.of hp, atI_nat (j := 0) (by rw [List.getElem?_map, e0]; rfl), ?_⟩
      exact ⟨_, rfl, ss[0], t1, s2, t2, ns, ms, rfl, sh1, sh2, rw_.eq (List.mem_of_getElem? en) (List.mem_of_getElem? em), _, rfl, rfl⟩
  · rintro σ H1 ⟨v, rfl, rfl⟩
    refine ⟨_, rfl, p, _, rfl, .inr (SqT.of hp), _, _, rfl, rfl, _, rfl, ?_⟩
    have a1 : decide ((2 : Int) ≤ ((ss.map V.ref).length : Int)) = true := by
      have := rw_.1
      simp
      omega
    have a2 : decide (((ss.map V.ref).length : Int) ≤ 4) = true := by
      have := rw_.2.1
      simp
      omega
    rw [a1]
    refine iteT ⟨_, _, rfl, rfl, _, rfl, ?_⟩
    rw [a2]
    refine iteF ?_
    refine ⟨_, rfl, _, rfl, d, CDivision, dx, _, rfl, hd, SDivision.cl, SDivision.nP, (by show 0 < 1000; decide), ?_⟩
    have tp : p ≠ d := ne_of hp hd (by intro z; cases z)
    have kp : Kp d H1 (upd H1 d (.ins CDivision dx (putF "by_person" (.ref p) []))) := Kp.upd
    exact k _ kp ⟨⟨dx, upd_same⟩, by rw [upd_ne tp]; exact hp, sh.kp kp ⟨_, _, _, hd, fun t z => by cases z⟩, rw_⟩
end
end Pl
namespace Pl
open PySem PySem.Spec PyProof.Rows L2
def spRead (CD C : Addr) : Sp := fun vs H Q _ => ∃ rows : List (List Int), vs = [.ref CD, .str (text rows)] ∧ Rows rows ∧ ∀ (d t : Addr) (ss : List Addr) (H' : Hp), Same H H' → DvAt CD C H' d t ss rows → Q (.ref d) H'
def spPeople (CD C : Addr) : Sp := fun vs H Q _ => ∃ (d t : Addr) (ss : List Addr) (rows : List (List Int)), vs = [.ref d] ∧ DvAt CD C H d t ss rows ∧ Q (.int rows.length) H
def spStates (CD C : Addr) : Sp := fun vs H Q _ => ∃ (d t : Addr) (ss : List Addr) (rows : List (List Int)), vs = [.ref d] ∧ DvAt CD C H d t ss rows ∧ ∀ ns ∈ rows, Q (.int ns.length) H
def spText (CD C : Addr) : Sp := fun vs H Q _ => ∃ (d t : Addr) (ss : List Addr) (rows : List (List Int)), vs = [.ref d] ∧ DvAt CD C H d t ss rows ∧ ∀ H', Same H H' → Q (.str (text rows)) H'
theorem Rows.tlen {rows : List (List Int)} (h : Rows rows) : (text rows).length ≤ 76 := text_len (m := 6) (k := 4) h.2.1 (fun ns hn => h.l6 hn) h.am
theorem ShAll.get2 {C : Addr} {H : Hp} : ∀ {ss : List Addr} {rows : List (List Int)} {i : Nat} {ns : List Int}, ShAll C H ss rows → rows[i]? = some ns → ∃ s t, ss[i]? = some s ∧ ShAt C H s t ns
  | _, _, 0, _, .cons h r, e => by cases e; exact ⟨_, _, rfl, h⟩
  | _, _, i + 1, _, .cons h r, e => by
    obtain ⟨t, ns, a, b⟩ := r.get2 (i := i) e
    exact ⟨t, ns, a, b⟩
  | _, _, _, _, .nil, e => by cases e
/-- shares are read one by one -/
def RInv (C D : Addr) (H0 : Hp) (rows : List (List Int)) (i : Nat) (H : Hp) : Prop := Same H0 H ∧ ∃ ss : List Addr, H D = some (.lst (ss.map V.ref)) ∧ ShAll C H ss (rows.take i)
theorem RInv.start {C D : Addr} {H0 : Hp} {rows : List (List Int)} (h : H0 D = none) : RInv C D H0 rows 0 (L2.upd H0 D (.lst [])) := ⟨same_new (Same.refl H0) h, [], upd_same, .nil⟩
theorem ShAt.put {C D : Addr} {H : Hp} {s t : Addr} {ns : List Int} {xs : List V} {o : HO} (h : ShAt C H s t ns) (e : H D = some (.lst xs)) : ShAt C (L2.upd H D o) s t ns := by
  obtain ⟨⟨dx, h1⟩, h2, r⟩ := h
  exact ⟨⟨dx, by rw [upd_ne (ne_of h1 e (by intro z; cases z))]; exact h1⟩, by rw [upd_ne (ne_of h2 e (by intro z; cases z))]; exact h2, r⟩
theorem ShAll.put {C D : Addr} {H : Hp} {xs : List V} {o : HO} (e : H D = some (.lst xs)) : ∀ {ss : List Addr} {rows : List (List Int)}, ShAll C H ss rows → ShAll C (L2.upd H D o) ss rows
  | _, _, .nil => .nil
  | _, _, .cons h r => .cons (h.put e) (r.put e)
theorem RInv.next {C D s t : Addr} {H0 H H' : Hp} {rows : List (List Int)} {i : Nat} {ns : List Int} (p : RInv C D H0 rows i H) (n : H0 D = none) (l : rows.length ≤ 900) (e : rows[i]? = some ns) (k : Same H H') (sh : ShAt C H' s t ns) :
    ∃ acc, H' D = some (.lst acc) ∧ acc.length < sizeLine ∧ RInv C D H0 rows (i + 1) (L2.upd H' D (.lst (acc ++ [.ref s]))) := by
  obtain ⟨s0, ss, hd, al⟩ := p
  have hd2 := k _ _ hd
  have hl := al.len
  refine ⟨_, hd2, size_lt ?_, same_put (s0.trans k) n, ss ++ [s], ?_, ?_⟩
  · rw [List.length_map, hl, List.length_take]; omega
  · rw [upd_same, List.map_append]; rfl
  · rw [List.take_add_one, e]
    exact ((al.same k).put hd2).snoc (sh.put hd2)
theorem sum_le {α : Type} {f : α → Str} {c : Nat} : ∀ {l : List α}, (∀ x ∈ l, (f x).length ≤ c) → ((l.map f).map (·.length)).sum ≤ c * l.length
  | [], _ => Nat.zero_le _
  | x :: r, h => by
    have h1 := h x List.mem_cons_self
    have h2 := sum_le fun y hy => h y (List.mem_cons_of_mem _ hy)
    simp only [List.map_cons, List.sum_cons, List.length_cons, Nat.mul_add, Nat.mul_one]
    omega
section
variable {P : Program} {w : World} {K : PySem.W.Frag} {mg : Str → Option Value} {base : Heap} {CShare CDivision : Addr}
abbrev st_Di_read : Stmt := inClass (top 29) 2
theorem sc_Di_read : FnScope ["cls", "text", "shares", "line"] ["cls", "text"] (defScope st_Di_read) := ⟨rfl, rfl, rfl, by decide +kernel, rfl, by decide +kernel, by decide +kernel⟩
theorem ok_read (B : Bn mg) (SDivision : DvK K mg CDivision) (c_read_share : Cal P w K mg base 6 "read_share" ["line"] (spReadShare CShare)) (m_initDivision : MCalR P w K mg base CX0 5 CDivision "__init__" (spStar (spDvInit CDivision CShare)))
    (D : CmK K CDivision "read" "Division.read" st_Di_read) : CmCal P w K mg base CX0 7 CDivision "read" (spRead CDivision CShare) := by
  refine D.cal (fun _ _ _ _ _ _ us hl => match us, hl with | [_, _], _ => rfl) sc_Di_read (fun vs H Q E h => ?_) (fun f cdv A out s H vs Q E hr h => ?_)
  · obtain ⟨rows, rfl, _⟩ := h
    rfl
  obtain ⟨rows, rfl, rw_, k⟩ := h
  refine ⟨_, (pss_cons (ps_if (PW.pt (pw_or (pt_not (pt_val (pe_callB call_isi (by rfl) B.n_isinstance (by decide +kernel) (pa_cons (pv 1) (pa_cons (pe_bltn (v := .ty "str") (by rfl) B.n_str (by decide +kernel) rfl) pa_nil))))) (pw_or1 (pt_not (pt_val (pe_m1 F.slot_str_endswith F.type_str_endswith mt_endswith (pv 1) pe_str)))))) (pss_one ps_never) pss_nil)
   (pss_one (ps_try_thru0 (pss_cons (ps_setLc (i := 2) (own := [("line", 3)]) (g := gName 3) rfl sc_Di_read.nd rfl rfl (sw_true rfl rfl rfl (by decide +kernel)) (pi_list (pe_m1 F.slot_str_split F.type_str_split mt_split (pe_slice sl_str (pv 1) po_none (po_some (pe_un un_neg pe_int))) pe_str)) (blkOk_by (N := ["cls", "text", "shares", "line"]) (sc := defScope st_Di_read) (by decide +kernel)) (fun _ _ _ _ _ => (pg_name (i := 3) sc_Di_read.nd rfl (.inl rfl))) (fun _ _ _ _ _ => pts_nil) (fun _ _ _ _ _ => (pe_fn c_read_share (hr.mono (by decide)) (pa_cons (pv 3) pa_nil))))
   (pss_one (ps_ret (pe_mkV m_initDivision pass0 SDivision.mks SDivision.kc (hr.mono (by decide)) (pv 0) (pv 2)))))))), ?_⟩
  refine ⟨_, rfl, _, _, _, _, true, rfl, .ty _, .base (.str _), kit_ty (by decide +kernel), _, rfl, iteF ?_⟩
  refine ⟨_, rfl, ⟨_, rfl⟩, _, _, rfl, rfl, ?_⟩
  rw [text_ends rw_.ne]
  refine ⟨_, rfl, iteF ?_⟩
  have tl := rw_.tlen
  refine ⟨_, rfl, 1, rfl, (-1), rfl, _, rfl, Nat.le_trans (show (text rows).length ≤ 1000 by omega) (by decide), ?_⟩
  rw [text_cut rw_.ne]
  have bl := body_len rw_.ne
  refine ⟨⟨_, rfl⟩, _, _, rfl, rfl, rfl, Nat.le_trans (show (body rows).length + 2 ≤ 1000 by omega) (by decide), ?_⟩
  rw [body_split rw_.ne rw_.am]
  intro p np
  refine ⟨p, rfl, ⟨_, SqL.of upd_same⟩, fun D hD => lc_list (K := K) (a := p) (xs := (rows.map line).map V.str) (RInv CShare D (upd H p (.lst ((rows.map line).map V.str))) rows)
    (RInv.start hD) (fun i H' _ q => SqL.of (q.1 _ _ upd_same)) (fun i x H' hx q => ⟨rfl, tyes ?_⟩) (fun H' q => ?_)⟩
  · rw [List.getElem?_map, List.getElem?_map] at hx
    cases e : rows[i]? with
    | none => rw [e] at hx; cases hx
    | some ns =>
      rw [e] at hx
      obtain rfl : V.str (line ns) = x := Option.some.inj hx
      have m := List.mem_of_getElem? e
      exact ⟨_, rfl, ns, rfl, rw_.l2 m, rw_.l6 m, rw_.am ns m, fun s t H2 k2 sh => q.next hD (by have := rw_.2.1; omega) e k2 sh⟩
  · obtain ⟨s0, ss, hd, al⟩ := q
    rw [List.length_map, List.length_map, List.take_length] at al
    have s1 : Same H H' := fun b o z => s0 _ _ (by rw [upd_ne (ne_of_none z np)]; exact z)
    refine ⟨_, rfl, rfl, _, rfl, D, _, rfl, .inr (SqL.of hd), fun x dx nx nd nex => ⟨_, _, rfl, ?_, fun q hq => ?_⟩⟩
    · have := al.len
      have := rw_.2.1
      exact size_of (by rw [List.length_map]; omega)
    have s2 : Same H' (upd (upd (upd H' dx (.own x)) x (.ins CDivision dx [])) q (.tup (ss.map V.ref))) := same_new (same_new (same_new (Same.refl _) nd) (by rw [upd_ne (Ne.symm nex)]; exact nx)) hq
    have xq : x ≠ q := fun z => by rw [← z, upd_same] at hq; cases hq
    refine ⟨x, q, dx, ss, rows, rfl, by rw [upd_ne xq, upd_same], upd_same, al.same s2, rw_, fun H3 kp dv => ⟨rfl, k x q ss H3 ?_ dv⟩⟩
    exact fun b o z => kp b o (ne_of_none (s1 b o z) nx) (s2 b o (s1 b o z))
abbrev st_Di_shares : Stmt := inClass (top 29) 3
theorem sc_Di_shares : FnScope ["self"] ["self"] (defScope st_Di_shares) := ⟨rfl, rfl, rfl, by decide +kernel, rfl, by decide +kernel, by decide +kernel⟩
theorem ok_pshares (SDivision : DvK K mg CDivision) (D : Ph K CDivision "shares" "Division.shares" st_Di_shares ["self"]) : PCal P w K mg base 2 CDivision "shares" ["self"] (getSp CDivision "by_person") := by
  refine D.cal sc_Di_shares (fun vs H Q E h => ?_) (fun f cdv A out s H vs Q E hr h => ?_)
  · obtain ⟨a, dx, fs, v, rfl, _⟩ := h
    rfl
  obtain ⟨a, dx, fs, v, rfl, h1, l, k⟩ := h
  refine ⟨_, (pss_one (ps_ret (pe_fld (pv 0) rfl))), ?_⟩
  exact ⟨_, rfl, a, CDivision, dx, _, _, rfl, h1, SDivision.cl, SDivision.nP, l, k⟩
abbrev st_Di_people : Stmt := inClass (top 29) 4
theorem sc_Di_people : FnScope ["self"] ["self"] (defScope st_Di_people) := ⟨rfl, rfl, rfl, by decide +kernel, rfl, by decide +kernel, by decide +kernel⟩
theorem ok_people (B : Bn mg) (SDivision : DvK K mg CDivision) (D : Ph K CDivision "people" "Division.people" st_Di_people ["self"]) : PCal P w K mg base 2 CDivision "people" ["self"] (spPeople CDivision CShare) := by
  refine D.cal sc_Di_people (fun vs H Q E h => ?_) (fun f cdv A out s H vs Q E hr h => ?_)
  · obtain ⟨d, t, ss, rows, rfl, _⟩ := h
    rfl
  obtain ⟨d, t, ss, rows, rfl, ⟨⟨dx, hd⟩, ht, al, rw_⟩, k⟩ := h
  refine ⟨_, (pss_one (ps_ret (pe_callB call_len_seq (by rfl) B.n_len (by decide +kernel) (pa_cons (pe_fld (pv 0) rfl) pa_nil)))), ?_⟩
  refine ⟨_, rfl, d, CDivision, dx, _, _, rfl, hd, SDivision.cl, SDivision.nP, dvF_get t, t, _, rfl, .inr (SqT.of ht), ?_⟩
  rw [List.length_map, al.len]
  exact k
abbrev st_Di_states : Stmt := inClass (top 29) 5
theorem sc_Di_states : FnScope ["self"] ["self"] (defScope st_Di_states) := ⟨rfl, rfl, rfl, by decide +kernel, rfl, by decide +kernel, by decide +kernel⟩
theorem ok_states (B : Bn mg) (SDivision : DvK K mg CDivision) (m_len : MCal P w K mg base 2 CShare "__len__" ["self"] (spLen CShare)) (D : Ph K CDivision "states" "Division.states" st_Di_states ["self"]) : PCal P w K mg base 4 CDivision "states" ["self"] (spStates CDivision CShare) := by
  refine D.cal sc_Di_states (fun vs H Q E h => ?_) (fun f cdv A out s H vs Q E hr h => ?_)
  · obtain ⟨d, t, ss, rows, rfl, _⟩ := h
    rfl
  obtain ⟨d, t, ss, rows, rfl, ⟨⟨dx, hd⟩, ht, al, rw_⟩, k⟩ := h
  refine ⟨_, (pss_one (ps_ret (pe_callB (call_lenM m_len (hr.mono (by decide))) (by rfl) B.n_len (by decide +kernel) (pa_cons (pe_ix ix_tup (pe_fld (pv 0) rfl) pe_int (fun _ _ => rfl)) pa_nil)))), ?_⟩
  have l0 : 0 < rows.length := by have := rw_.1; omega
  have e0 : rows[0]? = some rows[0] := List.getElem?_eq_getElem l0
  obtain ⟨s1, t1, es, sh⟩ := al.get2 e0
  have m := List.mem_of_getElem? e0
  have l6 := rw_.l6 m
  refine ⟨_, rfl, d, CDivision, dx, _, _, rfl, hd, SDivision.cl, SDivision.nP, dvF_get t, t, _, _, _, rfl, rfl, SqT.of ht, atI_nat (j := 0) (by rw [List.getElem?_map, es]; rfl), ?_⟩
  obtain ⟨d1, a1⟩ := sh.1
  exact ⟨s1, d1, _, rfl, a1, s1, t1, rows[0], rfl, sh, rows[0].length, rfl, by omega, k _ m⟩
abbrev st_Di_text : Stmt := inClass (top 29) 10
theorem sc_Di_text : FnScope ["self", "share"] ["self"] (defScope st_Di_text) := ⟨rfl, rfl, rfl, by decide +kernel, rfl, by decide +kernel, by decide +kernel⟩
theorem ok_text (B : Bn mg) (SShare : ShK K mg CShare) (SDivision : DvK K mg CDivision) (p_amounts : PCal P w K mg base 2 CShare "amounts" ["self"] (getSp CShare "by_state")) (c_spaced : Cal P w K mg base 2 "spaced" ["amounts"] spSpaced)
    (D : Mh K CDivision "text" "Division.text" st_Di_text ["self"]) : MCal P w K mg base 4 CDivision "text" ["self"] (spText CDivision CShare) := by
  refine D.cal sc_Di_text (fun vs H Q E h => ?_) (fun f cdv A out s H vs Q E hr h => ?_)
  · obtain ⟨d, t, ss, rows, rfl, _⟩ := h
    rfl
  obtain ⟨d, t, ss, rows, rfl, ⟨⟨dx, hd⟩, ht, al, rw_⟩, k⟩ := h
  refine ⟨_, (pss_one (ps_ret (pe_join pe_str (pe_lc (own := [("share", 1)]) (g := gName 1) rfl sc_Di_text.nd (pi_tup (pe_fld (pv 0) rfl)) (blkOk_by (N := ["self", "share"]) (sc := defScope st_Di_text) (by decide +kernel)) (fun _ _ _ _ _ => (pg_name (i := 1) sc_Di_text.nd rfl (.inl rfl))) (fun _ _ _ _ _ => pts_nil) (fun _ _ _ _ _ => (pe_js (.cons (pe_fmt (pe_fn c_spaced (hr.mono (by decide)) (pa_cons (pe_pr p_amounts SShare.cl (hr.mono (by decide)) (pv 1)) pa_nil))) (.cons pe_str .nil)))))))), ?_⟩
  have ln := al.len
  refine ⟨⟨_, rfl⟩, ?_⟩
  refine ⟨_, rfl, d, CDivision, dx, _, _, rfl, hd, SDivision.cl, SDivision.nP, dvF_get t, t, rfl, ⟨_, SqT.of ht⟩, fun D hD => lc_tup (K := K) (a := t) (xs := ss.map V.ref)
    (fun i H' => Same H H' ∧ H' D = some (.lst (((rows.map fun ns => line ns ++ "\n").take i).map V.str))) ⟨same_new (Same.refl H) hD, upd_same⟩ (fun i H' _ q => SqT.of (q.1 _ _ ht)) (fun i x H' hx q => ⟨rfl, tyes ?_⟩) (fun H' q => ?_)⟩
  · rw [List.getElem?_map] at hx
    cases e : ss[i]? with
    | none => rw [e] at hx; cases hx
    | some s1 =>
      rw [e] at hx
      obtain rfl : V.ref s1 = x := Option.some.inj hx
      obtain ⟨t1, ns, en, sh⟩ := al.get e
      obtain ⟨⟨d1, a1⟩, a2, _⟩ := id sh
      have m := List.mem_of_getElem? en
      have lb := line_len (rw_.am ns m)
      have l6 := rw_.l6 m
      refine ⟨_, rfl, s1, d1, _, rfl, q.1 _ _ a1, s1, d1, _, _, rfl, q.1 _ _ a1, shF_get t1, t1, ns, rfl, q.1 _ _ a2, l6, rw_.am ns m, fun H2 k2 => .inl ?_⟩
      have e0 : Str.empty ++ line ns = line ns := TL.ext_tl (by rw [TL.tl_append]; rfl)
      have lz : (line ns).length ≤ sizeLine := size_of (by omega)
      have lz2 : (line ns ++ "\n").length ≤ sizeLine := by
        rw [TL.len_tl, TL.tl_append, List.length_append, ← TL.len_tl]
        exact size_of (by show (line ns).length + 1 ≤ 1000; omega)
      refine ⟨_, rfl, lz, _, rfl, by rw [e0]; exact lz, _, rfl, by rw [e0]; exact lz2, ?_⟩
      rw [e0]
      refine ⟨_, k2 _ _ q.2, size_lt (by rw [List.length_map, List.length_take, List.length_map]; have := rw_.2.1; omega), same_put (q.1.trans k2) hD, ?_⟩
      have e2 : (rows.map fun ns => line ns ++ "\n")[i]? = some (line ns ++ "\n") := by rw [List.getElem?_map, en]; rfl
      rw [upd_same, List.take_add_one, e2, List.map_append]
      rfl
  · have e := q.2
    rw [List.length_map, ln, ← List.length_map (f := fun ns => line ns ++ "\n"), List.take_length] at e
    refine ⟨_, D, _, rfl, rfl, .inl (SqL.of e), ?_, ?_⟩
    · have z : ("" : Str).length = 0 := rfl
      rw [z, Nat.mul_zero, Nat.add_zero]
      refine Nat.le_trans (m := 19 * rows.length) ?_ (by have := rw_.2.1; omega)
      have all : ∀ ns ∈ rows, (line ns ++ "\n").length ≤ 19 := fun ns hn => by
        rw [TL.len_tl, TL.tl_append, List.length_append, ← TL.len_tl]
        have := line_len (rw_.am ns hn)
        have := rw_.l6 hn
        show (line ns).length + 1 ≤ 19
        omega
      exact sum_le all
    · rw [TL.join_eq]
      exact k H' q.1
end
end Pl
namespace Pl
open PySem PySem.Spec PyProof.Rows L2
def spDvItem (K : PySem.W.Frag) (CD C CP : Addr) : Sp := fun vs H Q E => ∃ (d t : Addr) (ss : List Addr) (rows : List (List Int)) (y : V), vs = [.ref d, y] ∧ DvAt CD C H d t ss rows ∧ Kd K H y ∧
  (∀ (i : Nat) (s : Addr), y = .int i → ss[i]? = some s → Q (.ref s) H) ∧ (isTo (rows.length - 1) y = false → E (.ref CP) none H)
section
variable {P : Program} {w : World} {K : PySem.W.Frag} {mg : Str → Option Value} {base : Heap} {CShare CDivision CNoPerson : Addr}
abbrev st_Di_getitem : Stmt := inClass (top 29) 7
theorem sc_Di_getitem : FnScope ["self", "at"] ["self", "at"] (defScope st_Di_getitem) := ⟨rfl, rfl, rfl, by decide +kernel, rfl, by decide +kernel, by decide +kernel⟩
theorem ok_dvItem (B : Bn mg) (SDivision : DvK K mg CDivision) (e_NoPerson : ExK K mg "NoPerson" CNoPerson) (c_is_integer_to : Cal P w K mg base 2 "is_integer_to" ["thing", "most"] (spIsInt K)) (D : Mh K CDivision "__getitem__" "Division.__getitem__" st_Di_getitem ["self", "at"]) :
    MCalX P w K mg base 3 CDivision "__getitem__" ["self", "at"] (spDvItem K CDivision CShare CNoPerson) := by
  refine D.calX sc_Di_getitem (fun vs H Q E h => ?_) (fun f cdv A out s H vs Q E hr h => ?_)
  · obtain ⟨d, t, ss, rows, y, rfl, _⟩ := h
    rfl
  obtain ⟨d, t, ss, rows, y, rfl, ⟨⟨dx, hd⟩, ht, al, rw_⟩, kd, k1, k2⟩ := h
  refine ⟨_, (pss_cons (ps_if (pt_not (pt_val (pe_fn c_is_integer_to (hr.mono (by decide)) (pa_cons (pv 1) (pa_cons (pe_op op_sub (pe_callB call_len_seq (by rfl) B.n_len (by decide +kernel) (pa_cons (pe_fld (pv 0) rfl) pa_nil)) pe_int) pa_nil))))) (pss_one (ps_err e_NoPerson (takes_of rfl rfl rfl rfl))) pss_nil)
   (pss_one (ps_ret (pe_ix ix_tup (pe_fld (pv 0) rfl) (pv 1) (fun _ _ => rfl))))), ?_⟩
  have ln := al.len
  refine ⟨_, rfl, _, rfl, d, CDivision, dx, _, _, rfl, hd, SDivision.cl, SDivision.nP, dvF_get t, t, _, rfl, .inr (SqT.of ht), _, _, rfl, rfl, y, _, rfl, kd, ?_⟩
  have em : (((ss.map V.ref).length : Nat) : Int) - 1 = (rows.length : Int) - 1 := by rw [List.length_map, ln]
  rw [em]
  cases e : isTo ((rows.length : Int) - 1) y with
  | false => exact ⟨_, rfl, iteT (k2 e)⟩
  | true =>
    refine ⟨_, rfl, iteF ?_⟩
    cases y <;> first | (simp [isTo] at e; done) | skip
    rename_i i
    simp only [isTo, Bool.and_eq_true, decide_eq_true_eq] at e
    have ei : ((i.toNat : Nat) : Int) = i := by omega
    have lt : i.toNat < ss.length := by omega
    have es : ss[i.toNat]? = some ss[i.toNat] := List.getElem?_eq_getElem lt
    refine ⟨_, rfl, d, CDivision, dx, _, _, rfl, hd, SDivision.cl, SDivision.nP, dvF_get t, _, rfl, t, _, _, _, rfl, rfl, SqT.of ht, ?_, k1 i.toNat _ (by rw [ei]) es⟩
    have z := atI_nat (xs := ss.map V.ref) (j := i.toNat) (v := V.ref ss[i.toNat]) (by rw [List.getElem?_map, es]; rfl)
    rw [ei] at z
    exact z
end
end Pl
namespace Pl
open PySem PySem.Spec PyProof.Rows L2
/-- the rows of a grid, as lists -/
def LsAll (H : Hp) (ts : List Addr) (rows : List (List Int)) : Prop := ts.length = rows.length ∧ ∀ (j : Nat) (t : Addr) (ns : List Int), ts[j]? = some t → rows[j]? = some ns → H t = some (.lst (ns.map V.int))
theorem LsAll.same {H H' : Hp} {ts : List Addr} {rows : List (List Int)} (h : LsAll H ts rows) (k : Same H H') : LsAll H' ts rows := ⟨h.1, fun j t ns a b => k _ _ (h.2 j t ns a b)⟩
def spTextG : Sp := fun vs H Q _ => ∃ (p : Addr) (ts : List Addr) (rows : List (List Int)), vs = [.ref p] ∧ H p = some (.lst (ts.map V.ref)) ∧ LsAll H ts rows ∧ Rows rows ∧ ∀ H' : Hp, Same H H' → Q (.str (text rows)) H'
section
variable {P : Program} {w : World} {K : PySem.W.Frag} {mg : Str → Option Value} {base : Heap}
abbrev st_l_text : Stmt := top 54
theorem sc_l_text : FnScope ["_law_rows_here", "_law_row_here", "_law_amount"] ["_law_rows_here"] (defScope st_l_text) := ⟨rfl, rfl, rfl, by decide +kernel, rfl, by decide +kernel, by decide +kernel⟩
theorem ok_textG (B : Bn mg) (D : Df K mg "_law_text" st_l_text ["_law_rows_here"]) : Cal P w K mg base 2 "_law_text" ["_law_rows_here"] spTextG := by
  refine D.cal sc_l_text (fun vs H Q E h => ?_) (fun f cdv A out s H vs Q E hr h => ?_)
  · obtain ⟨p, ts, rows, rfl, _⟩ := h
    rfl
  obtain ⟨p, ts, rows, rfl, hp, tp, rw_, k⟩ := h
  refine ⟨_, (pss_one (ps_ret (pe_join pe_str (pe_lc (own := [("_law_row_here", 1)]) (g := gName 1) rfl sc_l_text.nd (pi_list (pv 0)) (blkOk_by (N := ["_law_rows_here", "_law_row_here", "_law_amount"]) (sc := defScope st_l_text) (by decide +kernel)) (fun _ _ _ _ _ => (pg_name (i := 1) sc_l_text.nd rfl (.inl rfl))) (fun _ _ _ _ _ => pts_nil) (fun _ _ _ _ _ => (pe_op op_add_str (pe_joinK (K := K) pe_str (pe_lc (own := [("_law_amount", 2)]) (g := gName 2) rfl sc_l_text.nd (pi_listK (K := K) (pv 1)) (blkOk_in (N := ["_law_rows_here", "_law_row_here", "_law_amount"]) (defScope st_l_text) rfl (by decide +kernel)) (fun _ _ _ _ _ => (pg_name (i := 2) sc_l_text.nd rfl (.inl rfl))) (fun _ _ _ _ _ => pts_nil) (fun _ _ _ _ _ => (pe_callTy call_str_int (by rfl) B.n_str (by decide +kernel) (pa_cons (pv 2) pa_nil))))) pe_str)))))), ?_⟩
  have ln := tp.1
  have l4 := rw_.2.1
  refine ⟨⟨_, rfl⟩, ?_⟩
  refine ⟨_, rfl, p, rfl, ⟨_, SqL.of hp⟩, fun D hD => lc_list (K := K) (a := p) (xs := ts.map V.ref)
    (fun i H' => Same H H' ∧ H' D = some (.lst (((rows.map fun ns => line ns ++ "\n").take i).map V.str))) ⟨same_new (Same.refl H) hD, upd_same⟩ (fun i H' _ q => SqL.of (q.1 _ _ hp)) (fun i x H' hx q => ⟨rfl, tyes ?_⟩) (fun H' q => ?_)⟩
  · rw [List.getElem?_map] at hx
    cases e : ts[i]? with
    | none => rw [e] at hx; cases hx
    | some t1 =>
      rw [e] at hx
      obtain rfl : V.ref t1 = x := Option.some.inj hx
      have il := (List.getElem?_eq_some_iff.mp e).1
      have en : rows[i]? = some rows[i] := List.getElem?_eq_getElem (by omega)
      generalize rows[i] = ns at en
      have ht := q.1 _ _ (tp.2 i t1 ns e en)
      have m := List.mem_of_getElem? en
      have am := rw_.am ns m
      have lb := line_len am
      have l6 := rw_.l6 m
      refine ⟨⟨_, rfl⟩, ?_⟩
      refine ⟨_, rfl, t1, rfl, ⟨_, SqL.of ht⟩, fun D2 hD2 => lc_list (K := K) (a := t1) (xs := ns.map V.int) (fun j H2 => Same H' H2 ∧ H2 D2 = some (.lst (((ns.map wd).take j).map V.str)))
        ⟨same_new (Same.refl H') hD2, upd_same⟩ (fun j H2 _ q2 => SqL.of (q2.1 _ _ ht)) (fun j x2 H2 hx2 q2 => ⟨rfl, tyes ?_⟩) (fun H2 q2 => ?_)⟩
      · rw [List.getElem?_map] at hx2
        cases e2 : ns[j]? with
        | none => rw [e2] at hx2; cases hx2
        | some n =>
          rw [e2] at hx2
          obtain rfl : V.int n = x2 := Option.some.inj hx2
          have a := am n (List.mem_of_getElem? e2)
          refine ⟨_, rfl, n, rfl, log_am a.1 a.2, _, q2.2, size_lt (by rw [List.length_map, List.length_take, List.length_map]; omega), same_put q2.1 hD2, ?_⟩
          have e3 : (ns.map wd)[j]? = some (wd n) := by rw [List.getElem?_map, e2]; rfl
          rw [upd_same, List.take_add_one, e3, List.map_append]
          rfl
      · have e2 := q2.2
        rw [List.length_map, ← List.length_map (f := wd), List.take_length] at e2
        refine ⟨_, D2, ns.map wd, rfl, rfl, .inl (SqL.of e2), ?_, ?_⟩
        · have := words_len am
          have l1 : (" " : Str).length = 1 := rfl
          rw [l1, List.length_map]
          omega
        · rw [TL.join_eq]
          have lz2 : (line ns).length + ("\n" : Str).length ≤ sizeLine := size_of (by show (line ns).length + 1 ≤ 1000; omega)
          refine ⟨_, _, rfl, rfl, lz2, _, q2.1 _ _ q.2, size_lt (by rw [List.length_map, List.length_take, List.length_map]; omega), same_put (q.1.trans q2.1) hD, ?_⟩
          have e3 : (rows.map fun ns => line ns ++ "\n")[i]? = some (line ns ++ "\n") := by rw [List.getElem?_map, en]; rfl
          rw [upd_same, List.take_add_one, e3, List.map_append]
          rfl
  · have e := q.2
    rw [List.length_map, ln, ← List.length_map (f := fun ns => line ns ++ "\n"), List.take_length] at e
    refine ⟨_, D, _, rfl, rfl, .inl (SqL.of e), ?_, ?_⟩
    · have z : ("" : Str).length = 0 := rfl
      rw [z, Nat.mul_zero, Nat.add_zero]
      refine Nat.le_trans (m := 19 * rows.length) ?_ (by omega)
      have all : ∀ ns ∈ rows, (line ns ++ "\n").length ≤ 19 := fun ns hn => by
        rw [TL.len_tl, TL.tl_append, List.length_append, ← TL.len_tl]
        have := line_len (rw_.am ns hn)
        have := rw_.l6 hn
        show (line ns).length + 1 ≤ 19
        omega
      exact sum_le all
    · rw [TL.join_eq]
      exact k _ q.1
end
end Pl
namespace Pl
open PySem PySem.Spec PyProof.Rows L2
/-- how much more a person has in the second state -/
def rs (rows : List (List Int)) (p s t : Nat) : Int := (((rows[p]?).getD [])[t]?).getD 0 - (((rows[p]?).getD [])[s]?).getD 0
def spCheckD (CD C : Addr) : Sp := fun vs H Q _ => ∃ (d t : Addr) (ss : List Addr) (rows : List (List Int)), vs = [.ref d] ∧ DvAt CD C H d t ss rows ∧ Q .non H
def spRise (CD C : Addr) : Sp := fun vs H Q _ => ∃ (d t : Addr) (ss : List Addr) (rows : List (List Int)) (p a b : Nat), vs = [.ref d, .int p, .int a, .int b] ∧ DvAt CD C H d t ss rows ∧ p < rows.length ∧ (∀ ns ∈ rows, a < ns.length ∧ b < ns.length) ∧ Q (.int (rs rows p a b)) H
section
variable {P : Program} {w : World} {K : PySem.W.Frag} {mg : Str → Option Value} {base : Heap} {CShare CDivision CNoPerson : Addr}
abbrev st_check_division : Stmt := top 30
theorem sc_check_division : FnScope ["thing"] ["thing"] (defScope st_check_division) := ⟨rfl, rfl, rfl, by decide +kernel, rfl, by decide +kernel, by decide +kernel⟩
theorem ok_checkD (B : Bn mg) (SDivision : DvK K mg CDivision) (D : Df K mg "check_division" st_check_division ["thing"]) : Cal P w K mg base 1 "check_division" ["thing"] (spCheckD CDivision CShare) := by
  refine D.cal sc_check_division (fun vs H Q E h => ?_) (fun f cdv A out s H vs Q E hr h => ?_)
  · obtain ⟨d, t, ss, rows, rfl, _⟩ := h
    rfl
  obtain ⟨d, t, ss, rows, rfl, ⟨⟨dx, hd⟩, _⟩, k⟩ := h
  refine ⟨_, (pss_one (ps_if (pt_not (pt_val (pe_callB call_isi (by rfl) B.n_isinstance (by decide +kernel) (pa_cons (pv 0) (pa_cons (pe_glob (v := .ref CDivision) rfl SDivision.mgC rfl) pa_nil))))) (pss_one ps_never) pss_nil)), ?_⟩
  exact ⟨_, rfl, _, _, _, _, true, rfl, .own _, .base (.ins hd SDivision.cl SDivision.ca SDivision.cg SDivision.ct SDivision.mro), SDivision.kit, _, rfl, iteF k⟩
abbrev st_rise : Stmt := top 37
theorem sc_rise : FnScope ["division", "person", "state", "second", "amounts"] ["division", "person", "state", "second"] (defScope st_rise) := ⟨rfl, rfl, rfl, by decide +kernel, rfl, by decide +kernel, by decide +kernel⟩
theorem ok_rise (SShare : ShK K mg CShare) (SDivision : DvK K mg CDivision) (fiGD : ∀ f, PySem.W.findIn K (.ref CDivision) "__getitem__" = some (some (.ref f)) → PySem.W.fnIn K f = true) (p_amounts : PCal P w K mg base 2 CShare "amounts" ["self"] (getSp CShare "by_state"))
    (m_getitemD : MCalX P w K mg base 3 CDivision "__getitem__" ["self", "at"] (spDvItem K CDivision CShare CNoPerson)) (D : Df K mg "rise" st_rise ["division", "person", "state", "second"]) : Cal P w K mg base 5 "rise" ["division", "person", "state", "second"] (spRise CDivision CShare) := by
  refine D.cal sc_rise (fun vs H Q E h => ?_) (fun f cdv A out s H vs Q E hr h => ?_)
  · obtain ⟨d, t, ss, rows, p, a, b, rfl, _⟩ := h
    rfl
  obtain ⟨d, t, ss, rows, p, a, b, rfl, dv, lp, lab, k⟩ := h
  refine ⟨_, (pss_cons (ps_set (i := 4) sc_rise.nd rfl (.inl rfl) (pe_pr p_amounts SShare.cl (hr.mono (by decide)) (pe_subX m_getitemD passF fiGD (hr.mono (by decide)) (pv 0) (pv 1))))
   (pss_one (ps_ret (pe_op op_sub (pe_ix ix_tup (pv 4) (pv 3) (fun _ _ => rfl)) (pe_ix ix_tup (pv 4) (pv 2) (fun _ _ => rfl)))))), ?_⟩
  obtain ⟨⟨dx, hd⟩, ht, al, rw_⟩ := id dv
  have ep : rows[p]? = some rows[p] := List.getElem?_eq_getElem lp
  obtain ⟨s1, t1, es, sh⟩ := al.get2 ep
  obtain ⟨la, lb⟩ := lab _ (List.mem_of_getElem? ep)
  have ea : rows[p][a]? = some rows[p][a] := List.getElem?_eq_getElem la
  have eb : rows[p][b]? = some rows[p][b] := List.getElem?_eq_getElem lb
  refine ⟨_, rfl, _, rfl, d, dx, _, rfl, hd, d, t, ss, rows, .int p, rfl, dv, Kd.int _, fun i s2 ei es2 => ?_, fun no => ?_⟩
  · have ei : i = p := by
      have z := V.int.inj ei
      omega
    subst ei
    rw [es] at es2
    cases es2
    obtain ⟨⟨d1, a1⟩, a2, _⟩ := id sh
    refine ⟨s1, d1, _, rfl, a1, s1, d1, _, .ref t1, rfl, a1, shF_get t1, ?_⟩
    refine ⟨_, rfl, _, rfl, t1, _, _, _, rfl, rfl, SqT.of a2, atI_nat (j := b) (by rw [List.getElem?_map, eb]; rfl), _, rfl, _, rfl, t1, _, _, _, rfl, rfl, SqT.of a2, atI_nat (j := a) (by rw [List.getElem?_map, ea]; rfl), _, _, rfl, rfl, ?_⟩
    have e : rs rows i a b = rows[i][b] - rows[i][a] := by simp [rs, ep, ea, eb]
    rw [e] at k
    exact k
  · exact absurd no (by simp only [isTo]; simp; omega)
end
end Pl
namespace Pl
open PySem PySem.Spec PyProof.Rows L2
theorem size_lt' {n : Nat} (h : n ≤ 10000) : n < sizeLine := Nat.lt_of_le_of_lt h (by decide)
/-- triples of numbers in the heap -/
inductive TrL (H : Hp) : List V → List (Nat × Nat × Int) → Prop
  | nil : TrL H [] []
  | cons {q : Addr} {s t : Nat} {m : Int} {vs : List V} {ns : List (Nat × Nat × Int)} : H q = some (.tup [.int s, .int t, .int m]) → TrL H vs ns → TrL H (.ref q :: vs) ((s, t, m) :: ns)
theorem TrL.same {H H' : Hp} (k : Same H H') : ∀ {vs : List V} {ns : List (Nat × Nat × Int)}, TrL H vs ns → TrL H' vs ns
  | _, _, .nil => .nil
  | _, _, .cons h r => .cons (k _ _ h) (r.same k)
theorem TrL.put {H : Hp} {l : Addr} {ys : List V} {o : HO} (hl : H l = some (.lst ys)) : ∀ {vs : List V} {ns : List (Nat × Nat × Int)}, TrL H vs ns → TrL (L2.upd H l o) vs ns
  | _, _, .nil => .nil
  | _, _, .cons h r => .cons (by rw [upd_ne (ne_of h hl (by intro z; cases z))]; exact h) (r.put hl)
theorem TrL.len {H : Hp} : ∀ {vs : List V} {ns : List (Nat × Nat × Int)}, TrL H vs ns → vs.length = ns.length
  | _, _, .nil => rfl
  | _, _, .cons _ r => by rw [List.length_cons, List.length_cons, r.len]
theorem TrL.snoc {H : Hp} {q : Addr} {s t : Nat} {m : Int} (h : H q = some (.tup [.int s, .int t, .int m])) : ∀ {vs : List V} {ns : List (Nat × Nat × Int)}, TrL H vs ns → TrL H (vs ++ [.ref q]) (ns ++ [(s, t, m)])
  | _, _, .nil => .cons h .nil
  | _, _, .cons h' r => .cons h' (TrL.snoc h r)
theorem TrL.at {H : Hp} : ∀ {vs : List V} {ns : List (Nat × Nat × Int)} {i : Nat} {x : V}, TrL H vs ns → vs[i]? = some x → ∃ (q : Addr) (s t : Nat) (m : Int), x = .ref q ∧ H q = some (.tup [.int s, .int t, .int m]) ∧ ns[i]? = some (s, t, m)
  | _, _, _, _, .nil, e => by cases e
  | _, _, 0, _, .cons h r, e => by
    cases e
    exact ⟨_, _, _, _, rfl, h, rfl⟩
  | _, _, i + 1, _, .cons h r, e => r.at (i := i) (by simpa using e)
/-- a block over numbers that it takes in turn -/
theorem lrW {lo : Int} {n : Nat} {H0 : Hp} {R : Hp → Prop} {F : V → Hp → (Hp → Prop) → Prop} (Pv : Nat → Hp → Prop) (h0 : Pv 0 H0) (hs : ∀ i H, i < n → Pv i H → F (.int (lo + i)) H (Pv (i + 1))) (hd : ∀ H, Pv n H → R H) :
    ∃ W : Nat → Nat → Hp → Prop, (∃ m, W 0 m H0) ∧ ∀ i m H, W i m H → ((Itr lo n).stop i H ∧ R H) ∨ ((Itr lo n).go i H ∧ ∃ Nx : Hp → Prop, (∀ H', Nx H' → ∃ m', m' < m ∧ W (i + 1) m' H') ∧ ∀ x H', (Itr lo n).yld i H x H' → F x H' Nx) := by
  refine ⟨fun i m H => m = n - i ∧ i ≤ n ∧ Pv i H, ⟨n, by simp, Nat.zero_le _, h0⟩, ?_⟩
  rintro i m H ⟨rfl, hi, p⟩
  by_cases hlt : i < n
  · refine .inr ⟨hlt, Pv (i + 1), fun H' p' => ⟨n - (i + 1), by omega, rfl, hlt, p'⟩, fun x H' y => ?_⟩
    obtain ⟨e1, e2⟩ := y
    subst e1 e2
    exact hs i _ hlt p
  · have e : i = n := by omega
    subst e
    exact .inl ⟨Nat.le_refl _, hd H p⟩
theorem lcW {K : PySem.W.Frag} {a : Addr} {xs : List V} {H0 : Hp} {R : Hp → Prop} {F : V → Hp → (Hp → Prop) → Prop} (Pv : Nat → Hp → Prop) (h0 : Pv 0 H0) (hl : ∀ i H, i ≤ xs.length → Pv i H → SqL K H a xs)
    (hs : ∀ i x H, xs[i]? = some x → Pv i H → F x H (Pv (i + 1))) (hd : ∀ H, Pv xs.length H → R H) :
    ∃ W : Nat → Nat → Hp → Prop, (∃ m, W 0 m H0) ∧ ∀ i m H, W i m H →
      ((Itl K a).stop i H ∧ R H) ∨ ((Itl K a).go i H ∧ ∃ Nx : Hp → Prop, (∀ H', Nx H' → ∃ m', m' < m ∧ W (i + 1) m' H') ∧ ∀ x H', (Itl K a).yld i H x H' → F x H' Nx) := by
  refine ⟨fun i m H => m = xs.length - i ∧ i ≤ xs.length ∧ Pv i H, ⟨xs.length, by simp, Nat.zero_le _, h0⟩, ?_⟩
  rintro i m H ⟨rfl, hi, p⟩
  have q := hl i H hi p
  by_cases hlt : i < xs.length
  · refine .inr ⟨⟨xs, xs[i], q, by simp [hlt]⟩, Pv (i + 1), fun H' p' => ⟨xs.length - (i + 1), by omega, rfl, hlt, p'⟩, fun x H' y => ?_⟩
    obtain ⟨e, y⟩ := y
    subst e
    exact hs i x _ (y xs q) p
  · have e : i = xs.length := by omega
    subst e
    exact .inl ⟨⟨xs, q, Nat.le_refl _⟩, hd H p⟩
/-- the number of states -/
def wdt (rows : List (List Int)) : Nat := ((rows[0]?).getD []).length
theorem Rows.wdt {rows : List (List Int)} (h : Rows rows) {ns : List Int} (hn : ns ∈ rows) : ns.length = wdt rows := by
  have l0 : 0 < rows.length := by have := h.1; omega
  have e0 : rows[0]? = some rows[0] := List.getElem?_eq_getElem l0
  unfold Pl.wdt
  rw [e0]
  exact h.eq hn (List.mem_of_getElem? e0)
theorem Rows.w26 {rows : List (List Int)} (h : Rows rows) : 2 ≤ Pl.wdt rows ∧ Pl.wdt rows ≤ 6 := by
  have l0 : 0 < rows.length := by have := h.1; omega
  have m := List.getElem_mem l0
  rw [← h.wdt m]
  exact ⟨h.l2 m, h.l6 m⟩
theorem mem_take_succ {α : Type} {l : List α} {i : Nat} {a x : α} (h : l[i]? = some a) : x ∈ l.take (i + 1) ↔ x ∈ l.take i ∨ x = a := by
  rw [List.take_add_one, h]
  simp
theorem rep_flat (x : V) : ∀ n : Nat, (List.replicate n [x]).flatten = List.replicate n x
  | 0 => rfl
  | n + 1 => by rw [List.replicate_succ, List.flatten_cons, rep_flat x n]; rfl
end Pl
namespace Pl
open PySem PySem.Spec PyProof.Rows L2
def BlI (D : Addr) (H1 : Hp) (T : Nat → Prop) (i : Nat) (H : Hp) : Prop := Same H1 H ∧ ∃ bs : List Bool, H D = some (.lst (bs.map V.bl)) ∧ bs.length = i ∧ ∀ j b, bs[j]? = some b → (b = true ↔ T j)
theorem BlI.start {D : Addr} {H1 : Hp} {T : Nat → Prop} (h : H1 D = none) : BlI D H1 T 0 (upd H1 D (.lst [])) := ⟨same_new (Same.refl H1) h, [], upd_same, rfl, fun j b e => by simp at e⟩
theorem BlI.next {D : Addr} {H1 H H' : Hp} {T : Nat → Prop} {i : Nat} (q : BlI D H1 T i H) (k : Same H H') (h : H1 D = none) (li : i ≤ 1000000) {b : Bool} (hb : b = true ↔ T i) : ∃ acc, H' D = some (.lst acc) ∧ acc.length < sizeLine ∧ BlI D H1 T (i + 1) (upd H' D (.lst (acc ++ [.bl b]))) := by
  obtain ⟨s, bs, e, l, t⟩ := q
  refine ⟨_, k _ _ e, Nat.lt_of_le_of_lt (show _ ≤ 1000000 by rw [List.length_map]; omega) (by decide), same_put (s.trans k) h, bs ++ [b], ?_, by simp [l], fun j c ej => ?_⟩
  · rw [upd_same, List.map_append]
    rfl
  · by_cases z : j < bs.length
    · rw [List.getElem?_append_left z] at ej
      exact t j c ej
    · rw [List.getElem?_append_right (by omega)] at ej
      have z2 : j - bs.length = 0 := by
        have := (List.getElem?_eq_some_iff.mp ej).1
        simp at this
        omega
      rw [z2] at ej
      have e3 : b = c := by simpa using ej
      subst e3
      have : j = i := by omega
      rw [this]
      exact hb
theorem BlI.all {D : Addr} {H1 H : Hp} {T : Nat → Prop} {n : Nat} (q : BlI D H1 T n H) : ∃ bs : List Bool, H D = some (.lst (bs.map V.bl)) ∧ (bs.all id = true ↔ ∀ j, j < n → T j) := by
  obtain ⟨s, bs, e, l, t⟩ := q
  refine ⟨bs, e, ?_⟩
  rw [List.all_eq_true]
  constructor
  · intro h j hj
    have ej : bs[j]? = some bs[j] := List.getElem?_eq_getElem (by omega)
    exact (t j _ ej).mp (h _ (List.mem_of_getElem? ej))
  · intro h b hb
    obtain ⟨j, hj, e⟩ := List.getElem_of_mem hb
    exact (t j b (by rw [List.getElem?_eq_getElem hj, e])).mpr (h j (by omega))
end Pl
namespace Pl
open PySem PySem.Spec PyProof.Rows L2
theorem Kd.of {K : PySem.W.Frag} {H : Hp} {x : V} {T : String} (t : TyX K H x (.type T)) (h1 : PySem.W.kitOne K (.type T) (.type "int") = some false) (h2 : PySem.W.kitOne K (.type T) (.type "bool") = some false) (e : isInt x = false) : Kd K H x := ⟨_, false, false, t, h1, h2, by rw [e]; rfl⟩
theorem Kd.non {K : PySem.W.Frag} {H : Hp} : Kd K H .non := Kd.of (.base .non) (kit_ty (by decide +kernel)) (kit_ty (by decide +kernel)) rfl
theorem Kd.bl {K : PySem.W.Frag} {H : Hp} (b : Bool) : Kd K H (.bl b) := ⟨_, true, true, .base (.bl b), kit_ty (by decide +kernel), kit_ty (by decide +kernel), rfl⟩
theorem Kd.str {K : PySem.W.Frag} {H : Hp} (z : Str) : Kd K H (.str z) := Kd.of (.base (.str z)) (kit_ty (by decide +kernel)) (kit_ty (by decide +kernel)) rfl
theorem Kd.tup {K : PySem.W.Frag} {H : Hp} {a : Addr} {xs : List V} (e : H a = some (.tup xs)) : Kd K H (.ref a) := Kd.of (.base (.tup e)) (kit_ty (by decide +kernel)) (kit_ty (by decide +kernel)) rfl
theorem Kd.lst {K : PySem.W.Frag} {H : Hp} {a : Addr} {xs : List V} (e : H a = some (.lst xs)) : Kd K H (.ref a) := Kd.of (.base (.lst e)) (kit_ty (by decide +kernel)) (kit_ty (by decide +kernel)) rfl
theorem Kd.dK {K : PySem.W.Frag} {H : Hp} {a : Addr} {xs : List (Key × V)} (e : H a = some (.dK xs)) : Kd K H (.ref a) := Kd.of (.base (.dK e)) (kit_ty (by decide +kernel)) (kit_ty (by decide +kernel)) rfl
end Pl
namespace Pl
open PySem PySem.Spec PyProof.Rows L2
theorem un1 {k : Nat} {A : Around} (hr : Room k A) : A.units + 1 < cLine := Nat.lt_of_le_of_lt (Nat.add_le_add_left (show 1 ≤ 64 by decide) _) hr.units
def nI (l : List Nat) : List Int := l.map (fun x : Nat => ((x : Nat) : Int))
def iV (l : List Nat) : List V := l.map (fun x : Nat => V.int ((x : Nat) : Int))
theorem iV_eq (l : List Nat) : iV l = (nI l).map V.int := by
  unfold iV nI
  rw [List.map_map]
  rfl
theorem nI_inj {a b : List Nat} (h : nI a = nI b) : a = b := (List.map_inj_right (f := fun x : Nat => ((x : Nat) : Int)) (fun _ _ e => Int.ofNat.inj e)).mp h
theorem iV_len (l : List Nat) : (iV l).length = l.length := List.length_map _
theorem iV_at {l : List Nat} {i : Nat} {x : V} (h : (iV l)[i]? = some x) : ∃ s, x = .int (s : Nat) ∧ l[i]? = some s := by
  unfold iV at h
  rw [List.getElem?_map] at h
  cases e : l[i]? with
  | none => rw [e] at h; cases h
  | some y => rw [e] at h; cases h; exact ⟨y, rfl, rfl⟩
/-- the steps of a chain, the last to the first -/
def stp (ss : List Nat) : List (Nat × Nat) := ss.zip (ss.drop 1 ++ ss.take 1)
theorem stp_len {ss : List Nat} (h : 1 ≤ ss.length) : (stp ss).length = ss.length := by
  unfold stp
  rw [List.length_zip, List.length_append, List.length_drop, List.length_take]
  omega
theorem stp_mem {ss : List Nat} {i s t : Nat} (h : (stp ss)[i]? = some (s, t)) : s ∈ ss ∧ t ∈ ss := by
  have m := List.mem_of_getElem? h
  unfold stp at m
  have z := List.of_mem_zip m
  refine ⟨z.1, ?_⟩
  rcases List.mem_append.mp z.2 with q | q
  · exact List.mem_of_mem_drop q
  · exact List.mem_of_mem_take q
/-- the first of the people who rises by so much -/
def fr (rows : List (List Int)) (ps : List Nat) (l : Int) (s t : Nat) : Option Nat := ps.find? fun p => decide (l ≤ rs rows p s t)
def ov : Option Nat → V
  | none => .non
  | some p => .int (p : Nat)
theorem fr_some {rows : List (List Int)} {ps : List Nat} {l : Int} {s t p : Nat} (h : fr rows ps l s t = some p) : p ∈ ps ∧ l ≤ rs rows p s t :=
  ⟨List.mem_of_find?_eq_some h, by simpa using List.find?_some h⟩
theorem fr_none {rows : List (List Int)} {ps : List Nat} {l : Int} {s t : Nat} (h : fr rows ps l s t = none) : ∀ q ∈ ps, ¬ l ≤ rs rows q s t := fun q hq => by
  have := List.find?_eq_none.mp h q hq
  simpa using this
theorem fr_least {rows : List (List Int)} {l : Int} {s t p : Nat} : ∀ {ps : List Nat}, ps.Pairwise (· < ·) → fr rows ps l s t = some p → ∀ q ∈ ps, l ≤ rs rows q s t → p ≤ q
  | [], _, h, _, _, _ => nomatch h
  | x :: ps, pw, h, q, hq, hl => by
    unfold fr at h
    rw [List.find?_cons] at h
    rw [List.pairwise_cons] at pw
    cases c : decide (l ≤ rs rows x s t) with
    | true =>
      rw [c] at h
      have e : x = p := by simpa using h
      subst e
      rcases List.mem_cons.mp hq with rfl | hq
      · exact Nat.le_refl _
      · exact Nat.le_of_lt (pw.1 q hq)
    | false =>
      rw [c] at h
      rcases List.mem_cons.mp hq with rfl | hq
      · exact absurd hl (of_decide_eq_false c)
      · exact fr_least pw.2 (by unfold fr; simpa using h) q hq hl
/-- people who make a ring of the states -/
def Fits (rows : List (List Int)) (ps ss g : List Nat) : Prop := g.length = ss.length ∧ (∀ (i p s t : Nat), g[i]? = some p → (stp ss)[i]? = some (s, t) → p ∈ ps ∧ 1 ≤ rs rows p s t) ∧ ∃ (i p s t : Nat), g[i]? = some p ∧ (stp ss)[i]? = some (s, t) ∧ 2 ≤ rs rows p s t
theorem lx_of_le : ∀ {a b : List Nat}, a.length = b.length → (∀ (i x y : Nat), a[i]? = some x → b[i]? = some y → x ≤ y) → lx (nI b) (nI a) = false
  | [], [], _, _ => rfl
  | [], _ :: _, h, _ => nomatch h
  | _ :: _, [], h, _ => nomatch h
  | a :: as, b :: bs, h, le => by
    have l0 := le 0 a b rfl rfl
    have ih : lx (nI bs) (nI as) = false := lx_of_le (by simpa using h) fun i x y e1 e2 => le (i + 1) x y (by simpa using e1) (by simpa using e2)
    show (decide ((b : Int) < a) || (decide ((b : Int) = a) && lx (nI bs) (nI as))) = false
    rw [ih, Bool.and_false, Bool.or_false]
    exact decide_eq_false (by omega)
/-- the candidates: one steep, all others the first who rise -/
def Cnd (rows : List (List Int)) (ps ss bs : List Nat) (k : Nat) (g : List Nat) : Prop := ∃ (i w s t : Nat), i < k ∧ (stp ss)[i]? = some (s, t) ∧ fr rows ps 2 s t = some w ∧ g = bs.take i ++ [w] ++ bs.drop (i + 1)
def Bas (rows : List (List Int)) (ps ss bs : List Nat) : Prop := bs.length = (stp ss).length ∧ ∀ (i s t : Nat), (stp ss)[i]? = some (s, t) → ∃ b, bs[i]? = some b ∧ fr rows ps 1 s t = some b
theorem set_at {bs : List Nat} {i w j : Nat} (hi : i < bs.length) : (bs.take i ++ [w] ++ bs.drop (i + 1))[j]? = if j = i then some w else bs[j]? := by
  have lt : (bs.take i).length = i := by rw [List.length_take]; omega
  by_cases c : j < i
  · rw [List.append_assoc, List.getElem?_append_left (by omega), List.getElem?_take, if_pos c, if_neg (by omega)]
  · by_cases c2 : j = i
    · subst c2
      rw [if_pos rfl, List.append_assoc, List.getElem?_append_right (by omega), lt, Nat.sub_self]
      rfl
    · rw [if_neg c2, List.getElem?_append_right (by simp; omega), List.getElem?_drop]
      congr 1
      rw [List.length_append, lt]
      show i + 1 + (j - (i + 1)) = j
      omega
theorem set_len {bs : List Nat} {i w : Nat} (hi : i < bs.length) : (bs.take i ++ [w] ++ bs.drop (i + 1)).length = bs.length := by
  rw [List.length_append, List.length_append, List.length_take, List.length_drop]
  show _ + 1 + _ = _
  omega
theorem Cnd.fits {rows : List (List Int)} {ps ss bs g : List Nat} (l1 : 1 ≤ ss.length) (b : Bas rows ps ss bs) (c : Cnd rows ps ss bs (stp ss).length g) : Fits rows ps ss g := by
  obtain ⟨i, w, s, t, li, es, ew, rfl⟩ := c
  have lb : i < bs.length := by rw [b.1]; exact li
  obtain ⟨wm, wr⟩ := fr_some ew
  refine ⟨by rw [set_len lb, b.1, stp_len l1], fun j p s' t' ep et => ?_, i, w, s, t, by rw [set_at lb, if_pos rfl], es, wr⟩
  rw [set_at lb] at ep
  by_cases z : j = i
  · subst z
    rw [if_pos rfl] at ep
    rw [es] at et
    cases ep
    cases et
    exact ⟨wm, by omega⟩
  · rw [if_neg z] at ep
    obtain ⟨b', e1, e2⟩ := b.2 j s' t' et
    rw [e1] at ep
    cases ep
    exact fr_some e2
theorem Fits.cnd {rows : List (List Int)} {ps ss bs g : List Nat} (pw : ps.Pairwise (· < ·)) (l1 : 1 ≤ ss.length) (b : Bas rows ps ss bs) (f : Fits rows ps ss g) : ∃ c, Cnd rows ps ss bs (stp ss).length c ∧ lx (nI g) (nI c) = false := by
  obtain ⟨lg, all, i, p, s, t, ep, es, r2⟩ := f
  have li : i < (stp ss).length := (List.getElem?_eq_some_iff.mp es).1
  have lb : i < bs.length := by rw [b.1]; exact li
  cases e : fr rows ps 2 s t with
  | none => exact absurd r2 (fr_none e p (all i p s t ep es).1)
  | some w =>
    refine ⟨_, ⟨i, w, s, t, li, es, e, rfl⟩, lx_of_le (by rw [set_len lb, b.1, stp_len l1, lg]) fun j x y ex ey => ?_⟩
    rw [set_at lb] at ex
    have lj : j < (stp ss).length := by
      have := (List.getElem?_eq_some_iff.mp ey).1
      rw [stp_len l1]
      omega
    have ej : (stp ss)[j]? = some (stp ss)[j] := List.getElem?_eq_getElem lj
    generalize (stp ss)[j] = st at ej
    obtain ⟨s', t'⟩ := st
    obtain ⟨ym, yr⟩ := all j y s' t' ey ej
    by_cases z : j = i
    · subst z
      rw [if_pos rfl] at ex
      cases ex
      rw [ey] at ep
      cases ep
      exact fr_least pw e _ ym r2
    · rw [if_neg z] at ex
      obtain ⟨b', e1, e2⟩ := b.2 j s' t' ej
      rw [e1] at ex
      cases ex
      exact fr_least pw e2 _ ym yr
/-- the least of the candidates is the least of all -/
theorem cnd_least {rows : List (List Int)} {ps ss bs g : List Nat} (pw : ps.Pairwise (· < ·)) (l1 : 1 ≤ ss.length) (b : Bas rows ps ss bs) (mn : ∀ c, Cnd rows ps ss bs (stp ss).length c → lx (nI c) (nI g) = false) : ∀ g', Fits rows ps ss g' → lx (nI g') (nI g) = false := fun g' f => by
  obtain ⟨c, hc, le⟩ := f.cnd pw l1 b
  cases d : lx (nI g') (nI g) with
  | false => rfl
  | true =>
    have n := mn c hc
    cases f2 : lx (nI c) (nI g') with
    | false =>
      have e := lx_tri f2 le
      rw [e, d] at n
      cases n
    | true =>
      rw [lx_trans f2 d] at n
      cases n
theorem no_base {rows : List (List Int)} {ps ss : List Nat} {i s t : Nat} (l1 : 1 ≤ ss.length) (es : (stp ss)[i]? = some (s, t)) (e : fr rows ps 1 s t = none) : ∀ g, ¬ Fits rows ps ss g := fun g ⟨lg, all, _⟩ => by
  have li : i < (stp ss).length := (List.getElem?_eq_some_iff.mp es).1
  rw [stp_len l1, ← lg] at li
  obtain ⟨a, r⟩ := all i g[i] s t (List.getElem?_eq_getElem li) es
  exact fr_none e _ a r
/-- a ring of these people -/
def IsRing (rows : List (List Int)) (ps ss g : List Nat) : Prop := ss.Nodup ∧ (∀ s ∈ ss, s < wdt rows) ∧ 1 ≤ ss.length ∧ Fits rows ps ss g
/-- the first of the shortest -/
def FstR (rows : List (List Int)) (ps ss g : List Nat) : Prop := IsRing rows ps ss g ∧ ∀ ss' g', IsRing rows ps ss' g' → ss.length ≤ ss'.length ∧ (ss'.length = ss.length → lx (nI ss') (nI ss) = false ∧ (ss' = ss → lx (nI g') (nI g) = false))
theorem FstR.uniq {rows : List (List Int)} {ps ss g ss' g' : List Nat} (a : FstR rows ps ss g) (b : FstR rows ps ss' g') : ss = ss' ∧ g = g' := by
  obtain ⟨a1, a2⟩ := a
  obtain ⟨b1, b2⟩ := b
  have l1 := (a2 _ _ b1).1
  have l2 := (b2 _ _ a1).1
  obtain ⟨x1, x2⟩ := (a2 _ _ b1).2 (by omega)
  obtain ⟨y1, y2⟩ := (b2 _ _ a1).2 (by omega)
  have e := nI_inj (lx_tri y1 x1)
  subst e
  exact ⟨rfl, nI_inj (lx_tri (y2 rfl) (x2 rfl))⟩
/-- a chain of states to which somebody rises -/
def Chn (rows : List (List Int)) (ps ss : List Nat) : Prop := ss.Nodup ∧ (∀ s ∈ ss, s < wdt rows) ∧ ∀ (i s t : Nat), ss[i]? = some s → ss[i + 1]? = some t → fr rows ps 1 s t ≠ none
theorem stp_in {ss : List Nat} {i s t : Nat} (hs : ss[i]? = some s) (ht : ss[i + 1]? = some t) : (stp ss)[i]? = some (s, t) := by
  unfold stp
  have l := (List.getElem?_eq_some_iff.mp ht).1
  rw [List.getElem?_zip_eq_some]
  refine ⟨hs, ?_⟩
  rw [List.getElem?_append_left (by rw [List.length_drop]; omega), List.getElem?_drop, Nat.add_comm]
  exact ht
theorem IsRing.chn {rows : List (List Int)} {ps ss g : List Nat} (h : IsRing rows ps ss g) : Chn rows ps ss := by
  obtain ⟨nd, lt, l1, lg, all, _⟩ := h
  refine ⟨nd, lt, fun i s t hs ht e => ?_⟩
  have li : i < g.length := by rw [lg]; exact (List.getElem?_eq_some_iff.mp hs).1
  obtain ⟨a, r⟩ := all i g[i] s t (List.getElem?_eq_getElem li) (stp_in hs ht)
  exact fr_none e _ a r
theorem nodup_le : ∀ {n : Nat} {ss : List Nat}, ss.Nodup → (∀ s ∈ ss, s < n) → ss.length ≤ n
  | 0, [], _, _ => Nat.le_refl _
  | 0, s :: _, _, lt => absurd (lt s List.mem_cons_self) (Nat.not_lt_zero s)
  | n + 1, ss, nd, lt => by
    have ih := nodup_le (n := n) (ss := ss.erase n) (nd.erase n) fun s hs => by
      obtain ⟨a, b⟩ := nd.mem_erase_iff.mp hs
      have := lt s b
      omega
    have le : ss.length ≤ (ss.erase n).length + 1 := by
      rw [List.length_erase]
      split <;> omega
    omega
end Pl
namespace Pl
open PySem PySem.Spec PyProof.Rows L2
theorem tcl {wi : TI} {g : TG} {tt : TT} {us : List Nat} {t : TIn} {σ σ' : L2.St} {H : Hp} {D : Addr} {Nx : Hp → Prop} (e : σ = σ') (h : tClause wi g tt us t σ' H D Nx) : tClause wi g tt us t σ H D Nx := e ▸ h
end Pl
namespace Pl
open PySem PySem.Spec PyProof.Rows L2
theorem alloc {H H' : Hp} {p : Addr} {o : HO} (e : L2.upd H p o = H') (n : H p = none) : Same H H' ∧ H' p = some o := by
  subst e
  exact ⟨same_new (Same.refl H) n, upd_same⟩
theorem fr_at {rows : List (List Int)} {l : Int} {s t : Nat} : ∀ {ps : List Nat} {i p : Nat}, ps[i]? = some p → l ≤ rs rows p s t → (∀ (j q : Nat), j < i → ps[j]? = some q → ¬ l ≤ rs rows q s t) → fr rows ps l s t = some p
  | [], _, _, h, _, _ => by cases h
  | x :: ps, 0, p, h, c, _ => by
    cases h
    unfold fr
    rw [List.find?_cons, decide_eq_true c]
  | x :: ps, i + 1, p, h, c, no => by
    have n0 := no 0 x (Nat.zero_lt_succ _) rfl
    have ih : fr rows ps l s t = some p := fr_at (i := i) (by simpa using h) c fun j q hj e => no (j + 1) q (by omega) (by simpa using e)
    unfold fr at ih ⊢
    rw [List.find?_cons, decide_eq_false n0]
    exact ih
theorem fr_no {rows : List (List Int)} {l : Int} {s t : Nat} {ps : List Nat} (no : ∀ (j q : Nat), ps[j]? = some q → ¬ l ≤ rs rows q s t) : fr rows ps l s t = none := by
  unfold fr
  rw [List.find?_eq_none]
  intro q hq
  obtain ⟨j, hj⟩ := List.mem_iff_getElem?.mp hq
  have := no j q hj
  simpa using this
def spRiser (CD C : Addr) : Sp := fun vs H Q _ => ∃ (d t : Addr) (ss : List Addr) (rows : List (List Int)) (pl : Addr) (ps : List Nat) (l : Int) (s u : Nat), vs = [.ref d, .ref pl, .int l, .int s, .int u] ∧ DvAt CD C H d t ss rows ∧ H pl = some (.lst (iV ps)) ∧ (∀ p ∈ ps, p < rows.length) ∧ s < wdt rows ∧ u < wdt rows ∧ ∀ H', Same H H' → Q (ov (fr rows ps l s u)) H'
/-- the dict of the first risers -/
def IsR (H : Hp) (D : Addr) (rows : List (List Int)) (ps : List Nat) (l : Int) : Prop := ∃ kvs : List (List Key × V), H D = some (.dT kvs) ∧ ∀ s t : Nat, s < wdt rows → t < wdt rows → valV kvs [.inl (s : Int), .inl (t : Int)] = some (ov (fr rows ps l s t))
theorem IsR.same {H H' : Hp} {D : Addr} {rows : List (List Int)} {ps : List Nat} {l : Int} (h : IsR H D rows ps l) (k : Same H H') : IsR H' D rows ps l := by
  obtain ⟨kvs, e, a⟩ := h
  exact ⟨kvs, k _ _ e, a⟩
theorem IsR.get {H : Hp} {D b : Addr} {rows : List (List Int)} {ps : List Nat} {l : Int} (h : IsR H D rows ps l) {s t : Nat} (ls : s < wdt rows) (lt : t < wdt rows) (eb : H b = some (.tup [.int (s : Nat), .int (t : Nat)])) : DGet H D (.ref b) (some (ov (fr rows ps l s t))) := by
  obtain ⟨kvs, e, a⟩ := h
  rw [← a s t ls lt]
  exact DGet.t (k := [.inl (s : Int), .inl (t : Int)]) e eb
def spRisers (CD C : Addr) : Sp := fun vs H Q _ => ∃ (d t : Addr) (ss : List Addr) (rows : List (List Int)) (pl : Addr) (ps : List Nat) (l : Int), vs = [.ref d, .ref pl, .int l] ∧ DvAt CD C H d t ss rows ∧ H pl = some (.lst (iV ps)) ∧ (∀ p ∈ ps, p < rows.length) ∧ ∀ (D : Addr) (H' : Hp), Same H H' → IsR H' D rows ps l → Q (.ref D) H'
def RsD (rows : List (List Int)) (ps : List Nat) (l : Int) (D : Addr) (H0 : Hp) (i j : Nat) (H : Hp) : Prop := Same H0 H ∧ ∃ kvs : List (List Key × V), H D = some (.dT kvs) ∧ kvs.length ≤ 6 * i + j ∧ ∀ s t : Nat, s < wdt rows → t < wdt rows → (s < i ∨ (s = i ∧ t < j)) → valV kvs [.inl (s : Int), .inl (t : Int)] = some (ov (fr rows ps l s t))
end Pl
namespace Pl
open PySem PySem.Spec PyProof.Rows L2
theorem cut_drop {xs : List V} {n : Nat} (h : n ≤ xs.length) : cutV xs (some (n : Int)) none = xs.drop n := by
  unfold cutV
  rw [HT.sIx_none, HT.sIx_nat, Nat.min_eq_left h, List.take_of_length_le (by rw [List.length_drop]; exact Nat.le_refl _)]
theorem slT {K : PySem.W.Frag} {a : Addr} {xs : List V} {lo hi : Option Int} {H : Hp} {Q : VK} (h : H a = some (.tup xs)) (k : ∀ p H', Same H H' → H' p = some (.tup (cutV xs lo hi)) → Q (.ref p) H') : rSlA K (.ref a) lo hi H Q := by
  refine ⟨a, xs, rfl, SqT.of h, fun w => k a H (Same.refl H) ?_, fun _ p np => k p _ (same_new (Same.refl H) np) upd_same⟩
  rw [h]
  unfold cutV
  rw [w.1, w.2, List.drop_zero, Nat.sub_zero, List.take_length]
theorem caT {K : PySem.W.Frag} {a b : Addr} {xs ys : List V} {H : Hp} {Q : VK} (h1 : H a = some (.tup xs)) (h2 : H b = some (.tup ys)) (l : xs.length + ys.length ≤ 1000) (k : ∀ p H', Same H H' → H' p = some (.tup (xs ++ ys)) → Q (.ref p) H') : rCatA K (.ref a) (.ref b) H Q := by
  refine ⟨a, b, xs, ys, rfl, rfl, SqT.of h1, SqT.of h2, Nat.le_of_lt (size_lt' (by omega)), fun z => k b H (Same.refl H) (by rw [z]; exact h2), fun _ z => k a H (Same.refl H) (by rw [z, List.append_nil]; exact h1), fun _ _ p np => k p _ (same_new (Same.refl H) np) upd_same⟩
/-- steps in the heap -/
inductive StL (H : Hp) : List V → List (Nat × Nat) → Prop
  | nil : StL H [] []
  | cons {q : Addr} {s t : Nat} {ws : List V} {st : List (Nat × Nat)} : H q = some (.tup [.int (s : Nat), .int (t : Nat)]) → StL H ws st → StL H (.ref q :: ws) ((s, t) :: st)
theorem StL.of {H : Hp} : ∀ {a b : List Nat} {ws : List V}, PrA H ws (iV a) (iV b) → StL H ws (a.zip b)
  | [], [], _, h => by
    cases h
    exact .nil
  | [], _ :: _, _, h => by cases h
  | _ :: _, [], _, h => by cases h
  | x :: a, y :: b, _, h => by
    cases h with
    | cons e r => exact .cons e (StL.of (a := a) (b := b) r)
theorem StL.same {H H' : Hp} (k : Same H H') : ∀ {ws : List V} {st : List (Nat × Nat)}, StL H ws st → StL H' ws st
  | _, _, .nil => .nil
  | _, _, .cons e r => .cons (k _ _ e) (r.same k)
theorem StL.len {H : Hp} : ∀ {ws : List V} {st : List (Nat × Nat)}, StL H ws st → ws.length = st.length
  | _, _, .nil => rfl
  | _, _, .cons e r => by rw [List.length_cons, List.length_cons, r.len]
theorem StL.at {H : Hp} : ∀ {ws : List V} {st : List (Nat × Nat)} {i : Nat} {x : V}, StL H ws st → ws[i]? = some x → ∃ (q : Addr) (s t : Nat), x = .ref q ∧ H q = some (.tup [.int (s : Nat), .int (t : Nat)]) ∧ st[i]? = some (s, t)
  | _, _, _, _, .nil, e => by cases e
  | _, _, 0, _, .cons h r, e => by
    cases e
    exact ⟨_, _, _, rfl, h, rfl⟩
  | _, _, i + 1, _, .cons h r, e => r.at (i := i) (by simpa using e)
def spSteps : Sp := fun vs H Q _ => ∃ (q : Addr) (ss : List Nat), vs = [.ref q] ∧ H q = some (.tup (iV ss)) ∧ 1 ≤ ss.length ∧ ss.length ≤ 100 ∧ ∀ (L : Addr) (ws : List V) (H' : Hp), Same H H' → H' L = some (.lst ws) → StL H' ws (stp ss) → Q (.ref L) H'
def spPeopleF : Sp := fun vs H Q _ => ∃ (q R S : Addr) (rows : List (List Int)) (ps ss : List Nat), vs = [.ref q, .ref R, .ref S] ∧ H q = some (.tup (iV ss)) ∧ 1 ≤ ss.length ∧ ss.length ≤ 100 ∧ (∀ s ∈ ss, s < wdt rows) ∧ ps.Pairwise (· < ·) ∧ IsR H R rows ps 1 ∧ IsR H S rows ps 2 ∧
  (∀ H', Same H H' → (∀ g, ¬ Fits rows ps ss g) → Q .non H') ∧ (∀ (r : Addr) (g : List Nat) (H' : Hp), Same H H' → H' r = some (.tup (iV g)) → Fits rows ps ss g → (∀ g', Fits rows ps ss g' → lx (nI g') (nI g) = false) → Q (.ref r) H')
theorem inNon : ∀ {os : List (Option Nat)}, inV .non (os.map ov) = true ↔ none ∈ os
  | [] => by simp [inV]
  | none :: os => by simp [inV, ov, eqV]
  | some p :: os => by
    have ih := inNon (os := os)
    unfold inV at ih ⊢
    rw [List.map_cons, List.any_cons]
    show (eqV (V.int p) .non || _) = true ↔ _
    rw [show eqV (V.int p) .non = false from rfl, Bool.false_or, ih]
    simp
theorem flatOv : ∀ os : List (Option Nat), (os.map ov).all flatV = true
  | [] => rfl
  | none :: os => by
    rw [List.map_cons, List.all_cons, flatOv os]
    rfl
  | some p :: os => by
    rw [List.map_cons, List.all_cons, flatOv os]
    rfl
theorem somes : ∀ {os : List (Option Nat)}, none ∉ os → ∃ bs : List Nat, os = bs.map some
  | [], _ => ⟨[], rfl⟩
  | none :: os, h => absurd List.mem_cons_self h
  | some p :: os, h => by
    obtain ⟨bs, e⟩ := somes (os := os) fun z => h (List.mem_cons_of_mem _ z)
    exact ⟨p :: bs, by rw [e]; rfl⟩
/-- tuples of numbers in the heap -/
inductive RwN (H : Hp) : List V → List (List Nat) → Prop
  | nil : RwN H [] []
  | cons {q : Addr} {g : List Nat} {vs : List V} {gs : List (List Nat)} : H q = some (.tup (iV g)) → RwN H vs gs → RwN H (.ref q :: vs) (g :: gs)
theorem RwN.same {H H' : Hp} (k : Same H H') : ∀ {vs : List V} {gs : List (List Nat)}, RwN H vs gs → RwN H' vs gs
  | _, _, .nil => .nil
  | _, _, .cons h r => .cons (k _ _ h) (r.same k)
theorem RwN.put {H : Hp} {l : Addr} {ys : List V} {o : HO} (hl : H l = some (.lst ys)) : ∀ {vs : List V} {gs : List (List Nat)}, RwN H vs gs → RwN (L2.upd H l o) vs gs
  | _, _, .nil => .nil
  | _, _, .cons h r => .cons (by rw [upd_ne (ne_of h hl (by intro z; cases z))]; exact h) (r.put hl)
theorem RwN.len {H : Hp} : ∀ {vs : List V} {gs : List (List Nat)}, RwN H vs gs → vs.length = gs.length
  | _, _, .nil => rfl
  | _, _, .cons _ r => by rw [List.length_cons, List.length_cons, r.len]
theorem RwN.app {H : Hp} {ws : List V} {hs : List (List Nat)} (h2 : RwN H ws hs) : ∀ {vs : List V} {gs : List (List Nat)}, RwN H vs gs → RwN H (vs ++ ws) (gs ++ hs)
  | _, _, .nil => h2
  | _, _, .cons h r => .cons h (RwN.app h2 r)
theorem RwN.snoc {H : Hp} {q : Addr} {g : List Nat} {vs : List V} {gs : List (List Nat)} (r : RwN H vs gs) (h : H q = some (.tup (iV g))) : RwN H (vs ++ [.ref q]) (gs ++ [g]) := RwN.app (.cons h .nil) r
theorem RwN.at {H : Hp} : ∀ {vs : List V} {gs : List (List Nat)} {i : Nat} {x : V}, RwN H vs gs → vs[i]? = some x → ∃ (q : Addr) (g : List Nat), x = .ref q ∧ H q = some (.tup (iV g)) ∧ gs[i]? = some g
  | _, _, _, _, .nil, e => by cases e
  | _, _, 0, _, .cons h r, e => by
    cases e
    exact ⟨_, _, rfl, h, rfl⟩
  | _, _, i + 1, _, .cons h r, e => r.at (i := i) (by simpa using e)
theorem RwN.dp {K : PySem.W.Frag} {H : Hp} : ∀ {vs : List V} {gs : List (List Nat)}, RwN H vs gs → DpAll K H vs ((gs.map nI).map tpD)
  | _, _, .nil => .nil
  | _, _, .cons (g := g) h r => by
    rw [iV_eq] at h
    exact .cons (.tup (SqT.of h) (dpInts _ _ _)) r.dp
section
variable {P : Program} {w : World} {K : PySem.W.Frag} {mg : Str → Option Value} {base : Heap} {CShare CDivision CNoPerson : Addr}
abbrev st_steps_around : Stmt := top 39
theorem sc_steps_around : FnScope ["states"] ["states"] (defScope st_steps_around) := ⟨rfl, rfl, rfl, by decide +kernel, rfl, by decide +kernel, by decide +kernel⟩
theorem ok_steps (B : Bn mg) (D : Df K mg "steps_around" st_steps_around ["states"]) : Cal P w K mg base 1 "steps_around" ["states"] spSteps := by
  refine D.cal sc_steps_around (fun vs H Q E h => ?_) (fun f cdv A out s H vs Q E hr h => ?_)
  · obtain ⟨q, ss, rfl, _⟩ := h
    rfl
  obtain ⟨q, ss, rfl, hq, l1, l100, k⟩ := h
  refine ⟨_, (pss_one (ps_ret (pe_listZip rfl (by rfl) B.n_list (by rfl) B.n_zip (pa_cons (pv 0) (pa_cons (pe_op op_catA (pe_slice sl_tupA (pv 0) (po_some pe_int) po_none) (pe_slice sl_tupA (pv 0) po_none (po_some pe_int))) pa_nil))))), ?_⟩
  have li := iV_len ss
  have c1t : cutV (iV ss) none (some (1 : Int)) = iV (ss.take 1) := by
    rw [show cutV (iV ss) none (some (1 : Int)) = (iV ss).take 1 from cut_take (n := 1) (by omega)]
    unfold iV
    rw [List.map_take]
  have c1d : cutV (iV ss) (some (1 : Int)) none = iV (ss.drop 1) := by
    rw [show cutV (iV ss) (some (1 : Int)) none = (iV ss).drop 1 from cut_drop (n := 1) (by omega)]
    unfold iV
    rw [List.map_drop]
  refine ⟨_, rfl, _, rfl, _, rfl, ?_⟩
  try unfold tNoPart
  refine slT (K := K) (lo := some (1 : Int)) (hi := none) hq fun p1 H1 k1 e1 => ?_
  rw [c1d] at e1
  refine ⟨_, rfl, _, rfl, slT (K := K) (lo := none) (hi := some (1 : Int)) (k1 _ _ hq) fun p2 H2 k2 e2 => ?_⟩
  rw [c1t] at e2
  refine caT (k2 _ _ e1) e2 (by rw [iV_len, iV_len, List.length_drop, List.length_take]; omega) fun p3 H3 k3 e3 => ?_
  have e3 : H3 p3 = some (.tup (iV (ss.drop 1 ++ ss.take 1))) := by
    rw [e3]
    unfold iV
    rw [List.map_append]
  have kk := k1.trans (k2.trans k3)
  refine ⟨q, p3, _, _, rfl, SqT.of (kk _ _ hq), SqT.of e3, by rw [iV_len, iV_len, List.length_append, List.length_drop, List.length_take]; omega, fun L ws H4 k4 _ hL pr => ?_⟩
  exact k L ws H4 (kk.trans k4) hL (StL.of pr)
end
end Pl
namespace Pl
open PySem PySem.Spec PyProof.Rows L2
theorem lx_app : ∀ {a b : List Int} (x y : List Int), a.length = b.length → lx a b = true → lx (a ++ x) (b ++ y) = true
  | [], [], _, _, _, h => nomatch h
  | [], _ :: _, _, _, h, _ => nomatch h
  | _ :: _, [], _, _, h, _ => nomatch h
  | a :: as, b :: bs, x, y, hl, h => by
    simp only [List.cons_append, lx, Bool.or_eq_true, Bool.and_eq_true, decide_eq_true_eq] at h ⊢
    rcases h with h | ⟨h1, h2⟩
    · exact .inl h
    · exact .inr ⟨h1, lx_app x y (by simpa using hl) h2⟩
theorem lx_pre : ∀ (a : List Int) {x y : List Int}, lx (a ++ x) (a ++ y) = lx x y
  | [], _, _ => rfl
  | a :: as, x, y => by
    simp only [List.cons_append, lx, lx_pre as]
    simp
theorem lx_asym {a b : List Int} (h : lx a b = true) : lx b a = false := by
  cases c : lx b a with
  | false => rfl
  | true =>
    have := lx_trans h c
    rw [lx_irr] at this
    cases this
theorem nI_app (a b : List Nat) : nI (a ++ b) = nI a ++ nI b := by
  unfold nI
  rw [List.map_append]
theorem nI_len (a : List Nat) : (nI a).length = a.length := List.length_map _
/-- a state that makes the chain longer -/
def Ext (rows : List (List Int)) (ps c : List Nat) (s : Nat) : Prop := s ∉ c ∧ ∃ e, c[c.length - 1]? = some e ∧ fr rows ps 1 e s ≠ none
theorem Chn.take {rows : List (List Int)} {ps ss : List Nat} (h : Chn rows ps ss) (k : Nat) : Chn rows ps (ss.take k) := by
  obtain ⟨nd, lt, st⟩ := h
  refine ⟨nd.sublist (List.take_sublist k ss), fun s hs => lt s (List.mem_of_mem_take hs), fun i s t hs ht => ?_⟩
  rw [List.getElem?_take] at hs ht
  by_cases c : i < k
  · by_cases c2 : i + 1 < k
    · rw [if_pos c] at hs
      rw [if_pos c2] at ht
      exact st i s t hs ht
    · rw [if_neg c2] at ht; cases ht
  · rw [if_neg c] at hs; cases hs
theorem Chn.snoc {rows : List (List Int)} {ps c : List Nat} {s : Nat} (h : Chn rows ps c) (ls : s < wdt rows) (e : Ext rows ps c s) : Chn rows ps (c ++ [s]) := by
  obtain ⟨nd, lt, st⟩ := h
  obtain ⟨no, x, ex, rx⟩ := e
  refine ⟨List.nodup_append.mpr ⟨nd, by simp, fun a ha b hb => ?_⟩, fun a ha => ?_, fun i a b ha hb => ?_⟩
  · rw [List.mem_singleton.mp hb]
    intro z
    exact no (z ▸ ha)
  · rcases List.mem_append.mp ha with z | z
    · exact lt a z
    · rw [List.mem_singleton.mp z]; exact ls
  · have lx := (List.getElem?_eq_some_iff.mp hb).1
    rw [List.length_append] at lx
    have lx : i + 1 < c.length + 1 := lx
    rw [List.getElem?_append_left (by omega)] at ha
    by_cases z : i + 1 < c.length
    · rw [List.getElem?_append_left z] at hb
      exact st i a b ha hb
    · have z2 : i = c.length - 1 := by omega
      rw [List.getElem?_append_right (by omega), show i + 1 - c.length = 0 by omega] at hb
      have : s = b := by simpa using hb
      subst this
      rw [z2, ex] at ha
      cases ha
      exact rx
theorem Chn.split {rows : List (List Int)} {ps g : List Nat} {k : Nat} (h : Chn rows ps g) (l : g.length = k + 1) (k1 : 1 ≤ k) : ∃ c s, Chn rows ps c ∧ c.length = k ∧ s < wdt rows ∧ Ext rows ps c s ∧ g = c ++ [s] := by
  have lk : k < g.length := by omega
  have eg : g = g.take k ++ [g[k]] := by
    have z : g.take (k + 1) = g := List.take_of_length_le (by omega)
    refine z.symm.trans ?_
    rw [List.take_add_one, List.getElem?_eq_getElem lk]
    rfl
  have lc : (g.take k).length = k := by rw [List.length_take]; omega
  refine ⟨g.take k, g[k], h.take k, lc, h.2.1 _ (List.getElem_mem lk), ⟨fun z => ?_, g[k - 1], ?_, ?_⟩, eg⟩
  · have nd := h.1
    rw [eg, List.nodup_append] at nd
    exact nd.2.2 _ z _ (List.mem_singleton.mpr rfl) rfl
  · rw [lc, List.getElem?_take, if_pos (by omega)]
    exact List.getElem?_eq_getElem (by omega)
  · refine h.2.2 (k - 1) _ _ (List.getElem?_eq_getElem (by omega)) ?_
    rw [show k - 1 + 1 = k by omega]
    exact List.getElem?_eq_getElem lk
/-- all chains of one length, in order -/
def Chs (rows : List (List Int)) (ps : List Nat) (k : Nat) (cs : List (List Nat)) : Prop := (∀ c, c ∈ cs ↔ Chn rows ps c ∧ c.length = k) ∧ cs.Pairwise fun a b => lx (nI a) (nI b) = true
def spLonger (CD C : Addr) : Sp := fun vs H Q _ => ∃ (d t : Addr) (ss : List Addr) (rows : List (List Int)) (cl R : Addr) (ws : List V) (cs : List (List Nat)) (ps : List Nat) (k : Nat), vs = [.ref d, .ref cl, .ref R] ∧ DvAt CD C H d t ss rows ∧ H cl = some (.lst ws) ∧ RwN H ws cs ∧ IsR H R rows ps 1 ∧ Chs rows ps k cs ∧ 1 ≤ k ∧ k ≤ 6 ∧ cs.length ≤ 6 ^ k ∧
  ∀ (L : Addr) (us : List V) (gs : List (List Nat)) (H' : Hp), Same H H' → H' L = some (.lst us) → RwN H' us gs → Chs rows ps (k + 1) gs → gs.length ≤ 6 ^ (k + 1) → Q (.ref L) H'
/-- a chain of the row before, with a state that comes later, or an earlier one -/
def Old (rows : List (List Int)) (ps : List Nat) (cs : List (List Nat)) (i j : Nat) (g : List Nat) : Prop := ∃ (a s : Nat) (c : List Nat), cs[a]? = some c ∧ (a < i ∨ (a = i ∧ s < j)) ∧ s < wdt rows ∧ Ext rows ps c s ∧ g = c ++ [s]
def LcI (rows : List (List Int)) (ps : List Nat) (cs : List (List Nat)) (D : Addr) (H0 : Hp) (i j : Nat) (H : Hp) : Prop := Same H0 H ∧ ∃ (us : List V) (gs : List (List Nat)), H D = some (.lst us) ∧ RwN H us gs ∧ gs.length ≤ 6 * i + j ∧ (∀ g, g ∈ gs ↔ Old rows ps cs i j g) ∧ gs.Pairwise fun a b => lx (nI a) (nI b) = true
theorem LcI.skip {rows : List (List Int)} {ps : List Nat} {cs : List (List Nat)} {D : Addr} {H0 H H' : Hp} {i j : Nat} {c : List Nat} (h : LcI rows ps cs D H0 i j H) (k : Same H H') (ec : cs[i]? = some c) (no : ¬ Ext rows ps c j) : LcI rows ps cs D H0 i (j + 1) H' := by
  obtain ⟨s, us, gs, hd, rn, l, mem, pw⟩ := h
  refine ⟨s.trans k, us, gs, k _ _ hd, rn.same k, by omega, fun g => (mem g).trans ⟨fun ⟨a, s, c', e1, z, r⟩ => ⟨a, s, c', e1, by omega, r⟩, fun ⟨a, s, c', e1, z, ls, ex, e⟩ => ⟨a, s, c', e1, ?_, ls, ex, e⟩⟩, pw⟩
  by_cases y : a = i ∧ s = j
  · obtain ⟨rfl, rfl⟩ := y
    rw [ec] at e1
    cases e1
    exact absurd ex no
  · omega
theorem LcI.add {rows : List (List Int)} {ps : List Nat} {cs : List (List Nat)} {D q : Addr} {H0 H H' : Hp} {i j k0 : Nat} {c : List Nat} (h : LcI rows ps cs D H0 i j H) (nD : H0 D = none) (k : Same H H') (chs : Chs rows ps k0 cs) (ec : cs[i]? = some c) (lj : j < wdt rows) (ex : Ext rows ps c j) (hq : H' q = some (.tup (iV (c ++ [j])))) (sz : 6 * i + j ≤ 900000) :
    ∃ acc, H' D = some (.lst acc) ∧ acc.length < sizeLine ∧ LcI rows ps cs D H0 i (j + 1) (L2.upd H' D (.lst (acc ++ [.ref q]))) := by
  obtain ⟨s, us, gs, hd, rn, l, mem, pw⟩ := h
  have hd' := k _ _ hd
  have lu := rn.len
  refine ⟨us, hd', Nat.lt_of_le_of_lt (show us.length ≤ 1000000 by omega) (by decide), same_put (s.trans k) nD, us ++ [.ref q], gs ++ [c ++ [j]], upd_same, ((rn.same k).put hd').snoc (by rw [upd_ne (ne_of hq hd' (by intro z; cases z))]; exact hq), by rw [List.length_append]; show _ + 1 ≤ _; omega, fun g => ?_, ?_⟩
  · rw [List.mem_append, mem, List.mem_singleton]
    constructor
    · rintro (⟨a, s, c', e1, z, r⟩ | e)
      · exact ⟨a, s, c', e1, by omega, r⟩
      · exact ⟨i, j, c, ec, by omega, lj, ex, e⟩
    · rintro ⟨a, s, c', e1, z, ls, ex', e⟩
      by_cases y : a = i ∧ s = j
      · obtain ⟨rfl, rfl⟩ := y
        rw [ec] at e1
        cases e1
        exact .inr e
      · exact .inl ⟨a, s, c', e1, by omega, ls, ex', e⟩
  · refine List.pairwise_append.mpr ⟨pw, List.pairwise_singleton _ _, fun a ha b hb => ?_⟩
    rw [List.mem_singleton.mp hb]
    obtain ⟨x, s, c', e1, z, ls, ex', rfl⟩ := (mem a).mp ha
    rw [nI_app, nI_app]
    rcases z with z | ⟨rfl, z⟩
    · refine lx_app _ _ ?_ ?_
      · rw [nI_len, nI_len, ((chs.1 c').mp (List.mem_of_getElem? e1)).2, ((chs.1 c).mp (List.mem_of_getElem? ec)).2]
      · obtain ⟨l1, g1⟩ := List.getElem?_eq_some_iff.mp e1
        obtain ⟨l2, g2⟩ := List.getElem?_eq_some_iff.mp ec
        have z2 := List.pairwise_iff_getElem.mp chs.2 x i l1 l2 z
        rw [g1, g2] at z2
        exact z2
    · rw [ec] at e1
      cases e1
      rw [lx_pre]
      show (decide ((s : Int) < j) || _) = true
      rw [decide_eq_true (by omega), Bool.true_or]
theorem inNat : ∀ {c : List Nat} {s : Nat}, inV (.int (s : Nat)) (iV c) = true ↔ s ∈ c
  | [], s => by simp [inV, iV]
  | x :: c, s => by
    have ih := inNat (c := c) (s := s)
    unfold inV iV at ih ⊢
    rw [List.map_cons, List.any_cons]
    show (((x : Int) == (s : Int)) || _) = true ↔ _
    rw [Bool.or_eq_true, ih, List.mem_cons]
    simp
    constructor
    · rintro (z | z)
      · exact .inl (by omega)
      · exact .inr z
    · rintro (z | z)
      · exact .inl (by omega)
      · exact .inr z
theorem flatI : ∀ c : List Nat, (iV c).all flatV = true
  | [] => rfl
  | x :: c => by
    have ih := flatI c
    unfold iV at ih ⊢
    rw [List.map_cons, List.all_cons, ih]
    rfl
theorem atI_end {xs : List V} {x : V} (h : xs[xs.length - 1]? = some x) : atI xs (-1) = some x := by
  have : xs ≠ [] := fun e => by subst e; simp at h
  obtain ⟨ys, y, rfl⟩ : ∃ ys y, xs = ys ++ [y] := ⟨xs.dropLast, xs.getLast this, (List.dropLast_concat_getLast this).symm⟩
  rw [List.length_append, List.length_singleton, Nat.add_sub_cancel, List.getElem?_append_right (Nat.le_refl _), Nat.sub_self] at h
  cases h
  exact atI_last _ _
end Pl
namespace Pl
open PySem PySem.Spec PyProof.Rows L2
def spIsPair (K : PySem.W.Frag) : Sp := fun vs H Q _ => ∃ x : V, vs = [x] ∧ ((∃ ty, TyX K H x ty ∧ PySem.W.kitOne K ty (.type "tuple") = some false ∧ Q (.bl false) H) ∨ (∃ (p : Addr) (xs : List V), x = .ref p ∧ H p = some (.tup xs) ∧ Q (.bl (decide (xs.length = 2))) H))
def spNums (K : PySem.W.Frag) : Sp := fun vs H Q _ => ∃ (x : V) (m : Int), vs = [x, .int m] ∧ ((∃ ty, TyX K H x ty ∧ PySem.W.kitOne K ty (.type "tuple") = some false ∧ Q (.bl false) H) ∨ (∃ (p : Addr) (xs : List V), x = .ref p ∧ H p = some (.tup xs) ∧ xs.length ≤ 100 ∧ (∀ y ∈ xs, Kd K H y) ∧ ∀ H', Same H H' → Q (.bl (xs.all (isTo (m - 1)))) H'))
theorem nums_iV {n : Nat} : ∀ {xs : List V}, xs.all (isTo ((n : Int) - 1)) = true ↔ ∃ ss : List Nat, xs = iV ss ∧ ∀ s ∈ ss, s < n
  | [] => ⟨fun _ => ⟨[], rfl, fun _ h => (nomatch h)⟩, fun _ => rfl⟩
  | x :: xs => by
    rw [List.all_cons, Bool.and_eq_true, nums_iV]
    constructor
    · rintro ⟨hx, ss, rfl, lt⟩
      cases x <;> first | (simp [isTo] at hx; done) | skip
      rename_i i
      have hi : 0 ≤ i ∧ i ≤ (n : Int) - 1 := by simpa [isTo] using hx
      refine ⟨i.toNat :: ss, ?_, fun s hs => ?_⟩
      · show V.int i :: _ = V.int ((i.toNat : Nat) : Int) :: _
        rw [show ((i.toNat : Nat) : Int) = i by omega]
        rfl
      · rcases List.mem_cons.mp hs with rfl | hs
        · omega
        · exact lt s hs
    · rintro ⟨ss, e, lt⟩
      cases ss with
      | nil => cases e
      | cons s ss =>
        obtain ⟨e1, e2⟩ := List.cons.inj e
        subst e1
        have ls := lt s List.mem_cons_self
        refine ⟨?_, ss, e2, fun t ht => lt t (List.mem_cons_of_mem _ ht)⟩
        simp only [isTo, Bool.and_eq_true, decide_eq_true_eq]
        omega
theorem perm_of_sub : ∀ {ks ns : List Int}, ks.Nodup → (∀ k ∈ ks, k ∈ ns) → ks.length = ns.length → ks.Perm ns
  | [], ns, _, _, l => by
    rw [List.length_eq_zero_iff.mp l.symm]
  | k :: ks, ns, nd, sub, l => by
    rw [List.nodup_cons] at nd
    have hk := sub k List.mem_cons_self
    have ih := perm_of_sub (ks := ks) (ns := ns.erase k) nd.2 (fun x hx => (List.mem_erase_of_ne (fun z => nd.1 (by rw [← z]; exact hx))).mpr (sub x (List.mem_cons_of_mem _ hx))) (by
      rw [List.length_erase_of_mem hk]
      have : ks.length + 1 = ns.length := l
      omega)
    exact (ih.cons k).trans (List.perm_cons_erase hk).symm
theorem len_set {ks ns : List Int} (nd : ks.Nodup) (m : ∀ k, k ∈ ks ↔ k ∈ ns) : ks.length = ns.length ↔ ns.Nodup := by
  constructor
  · intro l
    exact (perm_of_sub nd (fun k hk => (m k).mp hk) l).nodup_iff.mp nd
  · intro h
    exact ((List.perm_ext_iff_of_nodup nd h).mpr m).length_eq
theorem nI_nodup {l : List Nat} : (nI l).Nodup ↔ l.Nodup := by
  unfold nI
  rw [List.nodup_iff_pairwise_ne, List.nodup_iff_pairwise_ne, List.pairwise_map]
  constructor
  · exact fun h => h.imp fun {a b} z e => z (by rw [e])
  · exact fun h => h.imp fun {a b} z e => z (by omega)
/-- the two tuples are a ring -/
def RgX (rows : List (List Int)) (xs zs : List V) : Prop := ∃ ss g : List Nat, xs = iV ss ∧ zs = iV g ∧ IsRing rows (List.range rows.length) ss g
def NoTu (K : PySem.W.Frag) (H : Hp) (x : V) : Prop := ∃ ty, TyX K H x ty ∧ PySem.W.kitOne K ty (.type "tuple") = some false
def spShowR (K : PySem.W.Frag) (CD C : Addr) : Sp := fun vs H Q _ => ∃ (d t : Addr) (ss : List Addr) (rows : List (List Int)) (x : V), vs = [.ref d, x] ∧ DvAt CD C H d t ss rows ∧
  ((NoTu K H x ∧ Q (.bl false) H) ∨ (∃ (p : Addr) (xs : List V), x = .ref p ∧ H p = some (.tup xs) ∧ xs.length ≠ 2 ∧ Q (.bl false) H) ∨
   (∃ (p : Addr) (y z : V), x = .ref p ∧ H p = some (.tup [y, z]) ∧
     ((NoTu K H y ∧ Q (.bl false) H) ∨
      (∃ (q : Addr) (xs : List V), y = .ref q ∧ H q = some (.tup xs) ∧ xs.length ≤ 100 ∧ (∀ v ∈ xs, Kd K H v) ∧
        ((NoTu K H z ∧ ∀ H', Same H H' → Q (.bl false) H') ∨
         (∃ (r : Addr) (zs : List V), z = .ref r ∧ H r = some (.tup zs) ∧ zs.length ≤ 100 ∧ (∀ v ∈ zs, Kd K H v) ∧ ∀ (b : Bool) (H' : Hp), Same H H' → (b = true ↔ RgX rows xs zs) → Q (.bl b) H'))))))
theorem iV_inj {a b : List Nat} (h : iV a = iV b) : a = b := by
  rw [iV_eq, iV_eq] at h
  exact nI_inj ((List.map_inj_right (f := V.int) (fun _ _ h => V.int.inj h)).mp h)
theorem RgX.at {rows : List (List Int)} {ss g : List Nat} : RgX rows (iV ss) (iV g) ↔ IsRing rows (List.range rows.length) ss g := by
  constructor
  · rintro ⟨ss', g', e1, e2, ir⟩
    rw [iV_inj e1, iV_inj e2]
    exact ir
  · exact fun ir => ⟨ss, g, rfl, rfl, ir⟩
theorem RgX.nums {rows : List (List Int)} {xs zs : List V} (h : RgX rows xs zs) : xs.all (isTo ((wdt rows : Int) - 1)) = true ∧ zs.all (isTo ((rows.length : Int) - 1)) = true := by
  obtain ⟨ss, g, rfl, rfl, nd, lt, l1, lg, all, _⟩ := h
  refine ⟨nums_iV.mpr ⟨ss, rfl, lt⟩, nums_iV.mpr ⟨g, rfl, fun p hp => ?_⟩⟩
  obtain ⟨j, hj⟩ := List.mem_iff_getElem?.mp hp
  have lj : j < (stp ss).length := by
    rw [stp_len l1, ← lg]
    exact (List.getElem?_eq_some_iff.mp hj).1
  exact List.mem_range.mp (all j p (stp ss)[j].1 (stp ss)[j].2 hj (List.getElem?_eq_getElem lj)).1
section
variable {P : Program} {w : World} {K : PySem.W.Frag} {mg : Str → Option Value} {base : Heap} {CShare CDivision CNoPerson : Addr}
abbrev st_is_pair : Stmt := top 4
theorem sc_is_pair : FnScope ["thing"] ["thing"] (defScope st_is_pair) := ⟨rfl, rfl, rfl, by decide +kernel, rfl, by decide +kernel, by decide +kernel⟩
theorem ok_isPair (B : Bn mg) (D : Df K mg "is_pair" st_is_pair ["thing"]) : Cal P w K mg base 1 "is_pair" ["thing"] (spIsPair K) := by
  refine D.cal sc_is_pair (fun vs H Q E h => ?_) (fun f cdv A out s H vs Q E hr h => ?_)
  · obtain ⟨x, rfl, _⟩ := h
    rfl
  obtain ⟨x, rfl, h⟩ := h
  refine ⟨_, (pss_one (ps_ret (pe_and (pe_callB call_isi (by rfl) B.n_isinstance (by decide +kernel) (pa_cons (pv 0) (pa_cons (pe_bltn (v := .ty "tuple") (by rfl) B.n_tuple (by decide +kernel) rfl) pa_nil))) (pe_one (pe_cmpR op_eq (pe_callB call_len_seq (by rfl) B.n_len (by decide +kernel) (pa_cons (pv 0) pa_nil)) pe_int (nomark _)))))), ?_⟩
  rcases h with ⟨ty, tx, kt, k⟩ | ⟨p, xs, rfl, hp, k⟩
  · exact ⟨_, rfl, _, _, _, _, false, rfl, .ty _, tx, kt, _, rfl, iteF k⟩
  · refine ⟨_, rfl, _, _, _, _, true, rfl, .ty _, .base (.tup hp), kit_ty (by decide +kernel), _, rfl, iteT ?_⟩
    refine ⟨_, rfl, p, _, rfl, .inr (SqT.of hp), rfl, ?_⟩
    have e : decide (V.int (xs.length : Int) = V.int 2) = decide (xs.length = 2) := by
      by_cases c : xs.length = 2
      · rw [decide_eq_true c, decide_eq_true (by rw [c]; rfl)]
      · rw [decide_eq_false c, decide_eq_false (fun z => c (by have := V.int.inj z; omega))]
    rw [e]
    exact k
abbrev st_is_numbers : Stmt := top 38
theorem sc_is_numbers : FnScope ["thing", "many", "number"] ["thing", "many"] (defScope st_is_numbers) := ⟨rfl, rfl, rfl, by decide +kernel, rfl, by decide +kernel, by decide +kernel⟩
theorem ok_nums (B : Bn mg) (c_is_integer_to : Cal P w K mg base 2 "is_integer_to" ["thing", "most"] (spIsInt K)) (D : Df K mg "is_numbers" st_is_numbers ["thing", "many"]) : Cal P w K mg base 3 "is_numbers" ["thing", "many"] (spNums K) := by
  refine D.cal sc_is_numbers (fun vs H Q E h => ?_) (fun f cdv A out s H vs Q E hr h => ?_)
  · obtain ⟨x, m, rfl, _⟩ := h
    rfl
  obtain ⟨x, m, rfl, h⟩ := h
  refine ⟨_, (pss_one (ps_ret (pe_and (pe_callB call_isi (by rfl) B.n_isinstance (by decide +kernel) (pa_cons (pv 0) (pa_cons (pe_bltn (v := .ty "tuple") (by rfl) B.n_tuple (by decide +kernel) rfl) pa_nil))) (pe_one (pe_callB (cr_all rfl) (by rfl) B.n_all (by decide +kernel) (pa_cons (pe_lc (own := [("number", 2)]) (g := gName 2) rfl sc_is_numbers.nd (pi_tup (pv 0)) (blkOk_by (N := ["thing", "many", "number"]) (sc := defScope st_is_numbers) (by decide +kernel)) (fun _ _ _ _ _ => (pg_name (i := 2) sc_is_numbers.nd rfl (.inl rfl))) (fun _ _ _ _ _ => pts_nil) (fun _ _ _ _ _ => (pe_fn c_is_integer_to (hr.mono (by decide)) (pa_cons (pv 2) (pa_cons (pe_op op_sub (pv 1) pe_int) pa_nil))))) pa_nil)))))), ?_⟩
  rcases h with ⟨ty, tx, kt, k⟩ | ⟨p, xs, rfl, hp, l100, kd, k⟩
  · exact ⟨_, rfl, _, _, _, _, false, rfl, .ty _, tx, kt, _, rfl, iteF k⟩
  · refine ⟨_, rfl, _, _, _, _, true, rfl, .ty _, .base (.tup hp), kit_ty (by decide +kernel), _, rfl, iteT ?_⟩
    refine ⟨_, rfl, p, rfl, ⟨_, SqT.of hp⟩, fun D hD => lc_tup (K := K) (a := p) (xs := xs) (fun i H' => Same H H' ∧ H' D = some (.lst (((xs.take i).map (isTo (m - 1))).map V.bl))) ⟨same_new (Same.refl _) hD, upd_same⟩ (fun i H' _ q => SqT.of (q.1 _ _ hp)) (fun i x H' hx ⟨k1, h1⟩ => ⟨rfl, tyes ?_⟩) (fun H' ⟨k1, h1⟩ => ?_)⟩
    · have il := (List.getElem?_eq_some_iff.mp hx).1
      refine ⟨_, rfl, _, rfl, _, _, rfl, rfl, _, _, rfl, (kd x (List.mem_of_getElem? hx)).same k1, _, h1, size_lt' (by rw [List.length_map, List.length_map, List.length_take]; omega), same_put k1 hD, ?_⟩
      rw [upd_same, List.take_add_one, hx, List.map_append, List.map_append]
      rfl
    · rw [List.take_length] at h1
      refine ⟨D, _, rfl, SqL.of h1, ?_⟩
      have e : (xs.map (isTo (m - 1))).all id = xs.all (isTo (m - 1)) := by
        rw [List.all_map]
        rfl
      rw [e]
      exact k H' k1
abbrev st_shows_ring : Stmt := top 35
theorem sc_shows_ring : FnScope ["division", "thing", "states", "people", "steps", "rises", "person", "state", "second"] ["division", "thing"] (defScope st_shows_ring) := ⟨rfl, rfl, rfl, by decide +kernel, rfl, by decide +kernel, by decide +kernel⟩
theorem ok_showR (B : Bn mg) (n_set : mg "set" = none) (cSR : ∃ t, mg "SHORTEST_RING" = some (.int 2 t)) (SDivision : DvK K mg CDivision) (p_people : PCal P w K mg base 2 CDivision "people" ["self"] (spPeople CDivision CShare)) (p_states : PCal P w K mg base 4 CDivision "states" ["self"] (spStates CDivision CShare)) (c_check_division : Cal P w K mg base 1 "check_division" ["thing"] (spCheckD CDivision CShare)) (c_is_pair : Cal P w K mg base 1 "is_pair" ["thing"] (spIsPair K)) (c_is_numbers : Cal P w K mg base 3 "is_numbers" ["thing", "many"] (spNums K)) (c_steps_around : Cal P w K mg base 1 "steps_around" ["states"] spSteps) (c_rise : Cal P w K mg base 5 "rise" ["division", "person", "state", "second"] (spRise CDivision CShare)) (D : Df K mg "shows_ring" st_shows_ring ["division", "thing"]) : Cal P w K mg base 7 "shows_ring" ["division", "thing"] (spShowR K CDivision CShare) := by
  refine D.cal sc_shows_ring (fun vs H Q E h => ?_) (fun f cdv A out s H vs Q E hr h => ?_)
  · obtain ⟨d, t, ss, rows, x, rfl, _⟩ := h
    rfl
  obtain ⟨d, t, ss, rows, x, rfl, dv, h⟩ := h
  refine ⟨_, (pss_cons (ps_expr (pe_fn c_check_division (hr.mono (by decide)) (pa_cons (pv 0) pa_nil)))
   (pss_cons (ps_if (pt_not (pt_val (pe_fn c_is_pair (hr.mono (by decide)) (pa_cons (pv 1) pa_nil)))) (pss_one (ps_ret pe_bl)) pss_nil)
   (pss_cons (ps_asg (pv 1) (pg_tup rfl (pgs_cons (pg_name (i := 2) sc_shows_ring.nd rfl (.inl rfl)) (pgs_cons (pg_name (i := 3) sc_shows_ring.nd rfl (.inl rfl)) pgs_nil))))
   (pss_cons (ps_if (PW.pt (pw_or (pt_not (pt_val (pe_fn c_is_numbers (hr.mono (by decide)) (pa_cons (pv 2) (pa_cons (pe_pr p_states SDivision.cl (hr.mono (by decide)) (pv 0)) pa_nil))))) (pw_or1 (pt_not (pt_val (pe_fn c_is_numbers (hr.mono (by decide)) (pa_cons (pv 3) (pa_cons (pe_pr p_people SDivision.cl (hr.mono (by decide)) (pv 0)) pa_nil)))))))) (pss_one (ps_ret pe_bl)) pss_nil)
   (pss_cons (ps_if (PW.pt (pw_or (pt_cmpR op_lt (pe_callB call_len_seq (by rfl) B.n_len (by decide +kernel) (pa_cons (pv 2) pa_nil)) (pe_glob (v := .int 2) rfl cSR.choose_spec ⟨_, rfl⟩) (nomark _)) (pw_or (pt_cmpR op_ne (pe_callB call_len_seq (by rfl) B.n_len (by decide +kernel) (pa_cons (pv 2) pa_nil)) (pe_callB call_len_seq (by rfl) B.n_len (by decide +kernel) (pa_cons (pv 3) pa_nil)) (nomark _)) (pw_or1 (pt_cmpR op_ne (pe_callB call_len_seq (by rfl) B.n_len (by decide +kernel) (pa_cons (pv 2) pa_nil)) (pe_lenSetT (by rfl) B.n_len (by rfl) n_set (pv 2)) (nomark _)))))) (pss_one (ps_ret pe_bl)) pss_nil)
   (pss_cons (ps_set (i := 4) sc_shows_ring.nd rfl (.inl rfl) (pe_fn c_steps_around (hr.mono (by decide)) (pa_cons (pv 2) pa_nil)))
   (pss_cons (ps_setLc (i := 5) (own := [("person", 6), ("state", 7), ("second", 8)]) (g := gTup K 2 (gCons (gName 6) (gCons (gTup K 2 (gCons (gName 7) (gCons (gName 8) gNil))) gNil))) rfl sc_shows_ring.nd rfl rfl (sw_true rfl rfl rfl (by decide +kernel)) (pi_zipM (by rfl) B.n_zip (pa_cons (pv 3) (pa_cons (pv 4) pa_nil))) (blkOk_by (N := ["division", "thing", "states", "people", "steps", "rises", "person", "state", "second"]) (sc := defScope st_shows_ring) (by decide +kernel)) (fun _ _ _ _ _ => (pg_tup rfl (pgs_cons (pg_name (i := 6) sc_shows_ring.nd rfl (.inl rfl)) (pgs_cons (pg_tup rfl (pgs_cons (pg_name (i := 7) sc_shows_ring.nd rfl (.inl rfl)) (pgs_cons (pg_name (i := 8) sc_shows_ring.nd rfl (.inl rfl)) pgs_nil))) pgs_nil)))) (fun _ _ _ _ _ => pts_nil) (fun _ _ _ _ _ => (pe_fn c_rise (hr.mono (by decide)) (pa_cons (pv 0) (pa_cons (pv 6) (pa_cons (pv 7) (pa_cons (pv 8) pa_nil)))))))
   (pss_one (ps_ret (pe_and (pe_cmpR op_ge (pe_callB (cr_min rfl) (by rfl) B.n_min (by decide +kernel) (pa_cons (pv 5) pa_nil)) pe_int (nomark _)) (pe_one (pe_cmpR op_ge (pe_callB (cr_max rfl) (by rfl) B.n_max (by decide +kernel) (pa_cons (pv 5) pa_nil)) pe_int (nomark _))))))))))))), ?_⟩
  obtain ⟨⟨dx, hd⟩, ht, al, rw_⟩ := id dv
  obtain ⟨w2, w6⟩ := rw_.w26
  have p2 := rw_.1
  have p4 := rw_.2.1
  refine ⟨_, rfl, d, t, ss, rows, rfl, dv, ?_⟩
  rcases h with ⟨⟨ty, tx, kt⟩, k⟩ | ⟨p, xs, rfl, hp, ne, k⟩ | ⟨p, y, z, rfl, hp, h⟩
  · exact ⟨_, rfl, x, rfl, .inl ⟨ty, tx, kt, _, rfl, iteT k⟩⟩
  · refine ⟨_, rfl, _, rfl, .inr ⟨p, xs, rfl, hp, _, rfl, ?_⟩⟩
    rw [decide_eq_false ne]
    exact iteT k
  refine ⟨_, rfl, _, rfl, .inr ⟨p, _, rfl, hp, _, rfl, ?_⟩⟩
  refine iteF ?_
  refine ⟨_, rfl, p, _, rfl, SqT.of hp, rfl, _, _, rfl, _, _, rfl, rfl, ?_⟩
  rcases h with ⟨⟨ty, tx, kt⟩, k⟩ | ⟨q, xs, rfl, hq, l100, kd, h⟩
  · refine ⟨_, rfl, _, rfl, d, dx, _, rfl, hd, d, t, ss, rows, rfl, dv, fun ns0 hn0 => ?_⟩
    exact ⟨_, _, rfl, .inl ⟨ty, tx, kt, _, rfl, iteT k⟩⟩
  refine ⟨_, rfl, _, rfl, d, dx, _, rfl, hd, d, t, ss, rows, rfl, dv, fun ns0 hn0 => ?_⟩
  rw [rw_.wdt hn0]
  refine ⟨_, _, rfl, .inr ⟨q, xs, rfl, hq, l100, kd, fun H1 k1 => ?_⟩⟩
  cases e1 : xs.all (isTo ((wdt rows : Int) - 1)) with
  | false =>
    refine ⟨_, rfl, iteT ?_⟩
    rcases h with ⟨_, k⟩ | ⟨r, zs, rfl, hr1, _, _, k⟩
    · exact k H1 k1
    · refine k false H1 k1 ⟨fun z => (nomatch z), fun z => ?_⟩
      rw [z.nums.1] at e1
      cases e1
  | true =>
    refine ⟨_, rfl, iteF ?_⟩
    rcases h with ⟨⟨ty, tx, kt⟩, k⟩ | ⟨r, zs, rfl, hr1, z100, kz, k⟩
    · refine ⟨_, rfl, _, rfl, d, dx, _, rfl, k1 _ _ hd, d, t, ss, rows, rfl, dv.same k1, ?_⟩
      exact ⟨_, _, rfl, .inl ⟨ty, TyX.same k1 tx, kt, _, rfl, iteT (k H1 k1)⟩⟩
    refine ⟨_, rfl, _, rfl, d, dx, _, rfl, k1 _ _ hd, d, t, ss, rows, rfl, dv.same k1, ?_⟩
    refine ⟨_, _, rfl, .inr ⟨r, zs, rfl, k1 _ _ hr1, z100, fun v hv => (kz v hv).same k1, fun H2 k2 => ?_⟩⟩
    have k02 := k1.trans k2
    cases e2 : zs.all (isTo ((rows.length : Int) - 1)) with
    | false =>
      refine ⟨_, rfl, iteT (k false H2 k02 ⟨fun z => (nomatch z), fun z => ?_⟩)⟩
      rw [z.nums.2] at e2
      cases e2
    | true =>
      refine ⟨_, rfl, iteF ?_⟩
      obtain ⟨s1, rfl, lts⟩ := nums_iV.mp e1
      obtain ⟨g1, rfl, ltg⟩ := nums_iV.mp e2
      have hq2 := k02 _ _ hq
      have hr2 := k02 _ _ hr1
      have il := iV_len s1
      have ig := iV_len g1
      refine ⟨_, rfl, q, _, rfl, .inr (SqT.of hq2), _, _, rfl, rfl, _, rfl, ?_⟩
      have bad : ∀ H', Same H H' → ¬ IsRing rows (List.range rows.length) s1 g1 → Q (.bl false) H' := fun H' k' n => k false H' k' ⟨fun z => (nomatch z), fun z => absurd (RgX.at.mp z) n⟩
      refine ite2 (fun c => ?_) (fun c => ?_)
      · have c1 : ((iV s1).length : Int) < 2 := of_decide_eq_true c
        refine bad H2 k02 fun ir => ?_
        obtain ⟨_, _, l1, lg, all, _⟩ := ir
        have l1' : s1.length = 1 := by omega
        obtain ⟨s, rfl⟩ := List.length_eq_one_iff.mp l1'
        have l0 : 0 < g1.length := by rw [lg]; show 0 < 1; decide
        have z := (all 0 g1[0] s s (List.getElem?_eq_getElem l0) rfl).2
        unfold rs at z
        omega
      have c1 : 2 ≤ s1.length := by
        have : ¬ ((iV s1).length : Int) < 2 := fun z => c (decide_eq_true z)
        omega
      refine ⟨_, rfl, q, _, rfl, .inr (SqT.of hq2), _, rfl, r, _, rfl, .inr (SqT.of hr2), rfl, _, rfl, ?_⟩
      refine ite2 (fun c => ?_) (fun c => ?_)
      · refine bad H2 k02 fun ir => ?_
        have lg := ir.2.2.2.1
        rw [il, ig, lg] at c
        simp at c
      have c2 : g1.length = s1.length := by
        have z : V.int ((iV s1).length : Int) = V.int ((iV g1).length : Int) := by simpa using c
        have := V.int.inj z
        omega
      refine ⟨_, rfl, q, _, rfl, .inr (SqT.of hq2), _, rfl, q, nI s1, rfl, SqT.of (by rw [hq2, iV_eq]), by rw [nI_len]; omega, fun ks nd m => ?_⟩
      have ls := len_set nd m
      rw [nI_len, nI_nodup] at ls
      refine ⟨rfl, _, rfl, ?_⟩
      refine ite2 (fun c => ?_) (fun c => ?_)
      · refine bad H2 k02 fun ir => ?_
        have z := ls.mpr ir.1
        rw [il, z] at c
        simp at c
      have nds : s1.Nodup := by
        refine ls.mp ?_
        have z : V.int ((iV s1).length : Int) = V.int (ks.length : Int) := by simpa using c
        have := V.int.inj z
        omega
      have l6 := nodup_le nds lts
      have lst := stp_len (ss := s1) (by omega)
      refine ⟨_, rfl, q, s1, rfl, hq2, by omega, by omega, fun L ws H3 k3 hL st => ?_⟩
      have lw := st.len
      have k03 := k02.trans k3
      have hr3 := k3 _ _ hr2
      refine ⟨_, rfl, _, rfl, r, L, _, _, rfl, SqT.of hr3, SqL.of hL, fun D hD => lc_it (walk_zipM (K := K) (a := r) (b := L) (xs := iV g1) (ys := ws) (by rw [ig, lw, lst, c2])) (fun i H' => Same H3 H' ∧ ∃ us : List Int, H' D = some (.lst (us.map V.int)) ∧ us.length = i ∧ ∀ (j p a b : Nat), j < i → g1[j]? = some p → (stp s1)[j]? = some (a, b) → us[j]? = some (rs rows p a b)) ⟨same_new (Same.refl _) hD, [], upd_same, rfl, fun j _ _ _ hj => absurd hj (Nat.not_lt_zero j)⟩ (fun i H' _ r' => ⟨SqT.of (r'.1 _ _ hr3), SqL.of (r'.1 _ _ hL)⟩) ?_ (fun H4 q4 => ?_)⟩
      · rintro i x H4 H5 hi ⟨k4, us, h4, lu, ok⟩ ⟨T, x', y', rfl, nT, rfl, ex, ey⟩
        obtain ⟨p1, rfl, ep⟩ := iV_at ex
        obtain ⟨u, a, b, rfl, hu, en⟩ := st.at ey
        have la := lts a (stp_mem en).1
        have lb := lts b (stp_mem en).2
        have lp := ltg p1 (List.mem_of_getElem? ep)
        generalize hH5 : upd H4 T _ = H5
        obtain ⟨k5, hT⟩ := alloc hH5 nT
        clear hH5
        have k45 := k4.trans k5
        refine ⟨T, _, rfl, SqT.of hT, rfl, _, _, rfl, _, _, rfl, ⟨u, _, rfl, SqT.of (k45 _ _ hu), rfl, _, _, rfl, _, _, rfl, rfl, rfl, rfl, tyes ?_⟩⟩
        have li : i < g1.length := (List.getElem?_eq_some_iff.mp ep).1
        refine ⟨_, rfl, _, rfl, _, rfl, _, rfl, d, t, ss, rows, p1, a, b, rfl, dv.same (k03.trans k45), lp, fun ns hn => by rw [rw_.wdt hn]; exact ⟨la, lb⟩, ?_⟩
        refine ⟨_, k5 _ _ h4, size_lt' (by rw [List.length_map]; omega), same_put k45 hD, us ++ [rs rows p1 a b], by rw [upd_same, List.map_append]; rfl, by rw [List.length_append, lu]; rfl, fun j p a' b' hj ep' en' => ?_⟩
        by_cases z : j < i
        · rw [List.getElem?_append_left (by omega)]
          exact ok j p a' b' z ep' en'
        · have z : j = i := by omega
          subst z
          rw [ep] at ep'
          rw [en] at en'
          cases ep'
          cases en'
          rw [List.getElem?_append_right (by omega), lu, Nat.sub_self]
          rfl
      · obtain ⟨k4, us, h4, lu, ok⟩ := q4
        rw [ig] at lu ok
        have k04 := k03.trans k4
        have uat : ∀ (j p a b : Nat), g1[j]? = some p → (stp s1)[j]? = some (a, b) → us[j]? = some (rs rows p a b) := fun j p a b ep en => ok j p a b (List.getElem?_eq_some_iff.mp ep).1 ep en
        have umem : ∀ x ∈ us, ∃ (j p a b : Nat), g1[j]? = some p ∧ (stp s1)[j]? = some (a, b) ∧ x = rs rows p a b := fun x hx => by
          obtain ⟨j, hj⟩ := List.mem_iff_getElem?.mp hx
          have lj : j < us.length := (List.getElem?_eq_some_iff.mp hj).1
          have e1 : g1[j]? = some g1[j] := List.getElem?_eq_getElem (by omega)
          have e2 : (stp s1)[j]? = some (stp s1)[j] := List.getElem?_eq_getElem (by omega)
          have e3 := uat j _ _ _ e1 e2
          rw [hj] at e3
          exact ⟨j, _, _, _, e1, e2, Option.some.inj e3⟩
        refine ⟨_, rfl, D, us, rfl, SqL.of h4, by omega, fun mn hmn mnle => ?_⟩
        refine ⟨_, _, rfl, rfl, ?_⟩
        have base : IsRing rows (List.range rows.length) s1 g1 ↔ 1 ≤ mn ∧ ∃ x ∈ us, 2 ≤ x := by
          constructor
          · rintro ⟨_, _, _, _, all, j, p, a, b, ep, en, r2⟩
            obtain ⟨j', p', a', b', ep', en', e⟩ := umem mn hmn
            exact ⟨by rw [e]; exact (all j' p' a' b' ep' en').2, _, List.mem_of_getElem? (uat j p a b ep en), r2⟩
          · rintro ⟨m1, x, hx, x2⟩
            obtain ⟨j, p, a, b, ep, en, rfl⟩ := umem x hx
            exact ⟨nds, lts, by omega, c2, fun j' p' a' b' ep' en' => ⟨List.mem_range.mpr (ltg p' (List.mem_of_getElem? ep')), Int.le_trans m1 (mnle _ (List.mem_of_getElem? (uat j' p' a' b' ep' en')))⟩, j, p, a, b, ep, en, x2⟩
        refine ⟨_, rfl, ?_⟩
        cases em : decide (1 ≤ mn) with
        | false => exact iteF (bad H4 k04 fun ir => absurd (base.mp ir).1 (of_decide_eq_false em))
        | true =>
          refine iteT ⟨_, rfl, D, us, rfl, SqL.of h4, by omega, fun mx hmx mxge => ⟨_, _, rfl, rfl, k _ H4 k04 ?_⟩⟩
          rw [RgX.at, base, decide_eq_true_eq]
          constructor
          · intro z
            exact ⟨of_decide_eq_true em, mx, hmx, z⟩
          · rintro ⟨_, x, hx, x2⟩
            have := mxge x hx
            omega
end
end Pl
namespace Pl
open PySem PySem.Spec PyProof.Rows L2
/-- every row with one more number -/
def grow (f : List Nat → List Nat) (cs : List (List Nat)) : List (List Nat) := cs.flatMap fun c => (f c).map fun s => c ++ [s]
theorem grow_cons (f : List Nat → List Nat) (c : List Nat) (cs : List (List Nat)) : grow f (c :: cs) = ((f c).map fun s => c ++ [s]) ++ grow f cs := rfl
theorem grow_app (f : List Nat → List Nat) : ∀ (a b : List (List Nat)), grow f (a ++ b) = grow f a ++ grow f b
  | [], b => rfl
  | c :: a, b => by rw [List.cons_append, grow_cons, grow_cons, grow_app f a b, List.append_assoc]
theorem mem_grow {f : List Nat → List Nat} {cs : List (List Nat)} {g : List Nat} : g ∈ grow f cs ↔ ∃ c s, c ∈ cs ∧ s ∈ f c ∧ g = c ++ [s] := by
  unfold grow
  rw [List.mem_flatMap]
  constructor
  · rintro ⟨c, hc, h⟩
    obtain ⟨s, hs, e⟩ := List.mem_map.mp h
    exact ⟨c, s, hc, hs, e.symm⟩
  · rintro ⟨c, s, hc, hs, e⟩
    exact ⟨c, hc, List.mem_map.mpr ⟨s, hs, e.symm⟩⟩
def Srt (cs : List (List Nat)) : Prop := cs.Pairwise fun a b => lx (nI a) (nI b) = true
theorem grow_srt {f : List Nat → List Nat} {k : Nat} : ∀ {cs : List (List Nat)}, (∀ c ∈ cs, c.length = k) → Srt cs → (∀ c ∈ cs, (f c).Pairwise (· < ·)) → Srt (grow f cs)
  | [], _, _, _ => .nil
  | c :: cs, hl, pw, hf => by
    unfold Srt at pw
    rw [List.pairwise_cons] at pw
    rw [grow_cons]
    refine List.pairwise_append.mpr ⟨?_, grow_srt (fun c hc => hl c (List.mem_cons_of_mem _ hc)) pw.2 fun c hc => hf c (List.mem_cons_of_mem _ hc), fun a ha b hb => ?_⟩
    · rw [List.pairwise_map]
      refine (hf c List.mem_cons_self).imp fun {a b} h => ?_
      rw [nI_app, nI_app, lx_pre]
      show (decide ((a : Int) < b) || _) = true
      rw [decide_eq_true (by omega), Bool.true_or]
    · obtain ⟨s, _, rfl⟩ := List.mem_map.mp ha
      obtain ⟨c', s', hc', _, rfl⟩ := mem_grow.mp hb
      rw [nI_app, nI_app]
      exact lx_app _ _ (by rw [nI_len, nI_len, hl c List.mem_cons_self, hl c' (List.mem_cons_of_mem _ hc')]) (pw.1 c' hc')
theorem grow_size {f : List Nat → List Nat} {m : Nat} : ∀ {cs : List (List Nat)}, (∀ c ∈ cs, (f c).length ≤ m) → (grow f cs).length ≤ m * cs.length
  | [], _ => Nat.zero_le _
  | c :: cs, h => by
    have h1 := h c List.mem_cons_self
    have h2 := grow_size fun c hc => h c (List.mem_cons_of_mem _ hc)
    rw [grow_cons, List.length_append, List.length_map, List.length_cons, Nat.mul_add, Nat.mul_one]
    omega
/-- tuples of different states, in order -/
def oth (n : Nat) (c : List Nat) : List Nat := (List.range n).filter fun s => decide (s ∉ c)
def tps (n : Nat) : Nat → List (List Nat)
  | 0 => [[]]
  | k + 1 => grow (oth n) (tps n k)
theorem mem_tps {n : Nat} : ∀ {k : Nat} {g : List Nat}, g ∈ tps n k ↔ g.Nodup ∧ (∀ s ∈ g, s < n) ∧ g.length = k
  | 0, g => by
    constructor
    · intro h
      rw [List.mem_singleton.mp h]
      exact ⟨List.nodup_nil, (fun s hs => nomatch hs), rfl⟩
    · rintro ⟨_, _, h⟩
      rw [List.length_eq_zero_iff.mp h]
      exact List.mem_singleton.mpr rfl
  | k + 1, g => by
    show g ∈ grow (oth n) (tps n k) ↔ _
    rw [mem_grow]
    constructor
    · rintro ⟨c, s, hc, hs, rfl⟩
      obtain ⟨nd, lt, l⟩ := mem_tps.mp hc
      obtain ⟨h1, h2⟩ := List.mem_filter.mp hs
      have h2 : s ∉ c := of_decide_eq_true h2
      refine ⟨List.nodup_append.mpr ⟨nd, by simp, fun a ha b hb => ?_⟩, fun a ha => ?_, by rw [List.length_append, l]; rfl⟩
      · rw [List.mem_singleton.mp hb]
        intro z
        exact h2 (z ▸ ha)
      · rcases List.mem_append.mp ha with z | z
        · exact lt a z
        · rw [List.mem_singleton.mp z]; exact List.mem_range.mp h1
    · rintro ⟨nd, lt, l⟩
      have ne : g ≠ [] := fun e => by rw [e] at l; cases l
      have eg := (List.dropLast_concat_getLast ne).symm
      rw [eg, List.nodup_append] at nd
      refine ⟨g.dropLast, g.getLast ne, mem_tps.mpr ⟨nd.1, fun s hs => lt s ((List.dropLast_sublist _).subset hs), by rw [List.length_dropLast, l]; rfl⟩, List.mem_filter.mpr ⟨List.mem_range.mpr (lt _ (List.getLast_mem ne)), decide_eq_true fun z => ?_⟩, eg⟩
      exact nd.2.2 _ z _ (List.mem_singleton.mpr rfl) rfl
theorem srt_tps (n : Nat) : ∀ k, Srt (tps n k)
  | 0 => List.pairwise_singleton _ _
  | k + 1 => grow_srt (k := k) (fun c hc => (mem_tps.mp hc).2.2) (srt_tps n k) fun c _ => List.Pairwise.filter _ List.pairwise_lt_range
theorem len_tps {n : Nat} (h : n ≤ 6) : ∀ k, (tps n k).length ≤ 6 ^ k
  | 0 => Nat.le_refl _
  | k + 1 => by
    have ih := len_tps h k
    have z : (grow (oth n) (tps n k)).length ≤ 6 * (tps n k).length := grow_size fun c _ => Nat.le_trans (List.length_filter_le _ _) (by rw [List.length_range]; exact h)
    show (grow (oth n) (tps n k)).length ≤ _
    rw [Nat.pow_succ]
    omega
/-- people of each place, in order -/
def pls (ab : Nat → List Nat) : Nat → List (List Nat)
  | 0 => [[]]
  | k + 1 => grow (fun _ => ab k) (pls ab k)
theorem mem_pls {ab : Nat → List Nat} : ∀ {k : Nat} {g : List Nat}, g ∈ pls ab k ↔ g.length = k ∧ ∀ (i p : Nat), g[i]? = some p → p ∈ ab i
  | 0, g => by
    constructor
    · intro h
      rw [List.mem_singleton.mp h]
      exact ⟨rfl, fun i p e => by cases e⟩
    · rintro ⟨h, _⟩
      rw [List.length_eq_zero_iff.mp h]
      exact List.mem_singleton.mpr rfl
  | k + 1, g => by
    show g ∈ grow (fun _ => ab k) (pls ab k) ↔ _
    rw [mem_grow]
    constructor
    · rintro ⟨c, s, hc, hs, rfl⟩
      obtain ⟨l, al⟩ := mem_pls.mp hc
      refine ⟨by rw [List.length_append, l]; rfl, fun i p e => ?_⟩
      by_cases z : i < c.length
      · rw [List.getElem?_append_left z] at e
        exact al i p e
      · have li := (List.getElem?_eq_some_iff.mp e).1
        rw [List.length_append] at li
        have li : i < c.length + 1 := li
        have zi : i = c.length := by omega
        subst zi
        rw [List.getElem?_append_right (Nat.le_refl _), Nat.sub_self] at e
        have : s = p := by simpa using e
        subst this
        rw [l]
        exact hs
    · rintro ⟨l, al⟩
      have ne : g ≠ [] := fun e => by rw [e] at l; cases l
      have eg := (List.dropLast_concat_getLast ne).symm
      have ld : g.dropLast.length = k := by rw [List.length_dropLast, l]; rfl
      refine ⟨g.dropLast, g.getLast ne, mem_pls.mpr ⟨ld, fun i p e => al i p ?_⟩, al k _ ?_, eg⟩
      · rw [eg, List.getElem?_append_left (List.getElem?_eq_some_iff.mp e).1]
        exact e
      · rw [List.getLast_eq_getElem, List.getElem?_eq_getElem (by omega)]
        congr 1
        simp [l]
theorem srt_pls {ab : Nat → List Nat} (ha : ∀ i, (ab i).Pairwise (· < ·)) : ∀ k, Srt (pls ab k)
  | 0 => List.pairwise_singleton _ _
  | k + 1 => grow_srt (k := k) (fun c hc => (mem_pls.mp hc).1) (srt_pls ha k) fun c _ => ha k
theorem len_pls {ab : Nat → List Nat} (ha : ∀ i, (ab i).length ≤ 4) : ∀ k, (pls ab k).length ≤ 4 ^ k
  | 0 => Nat.le_refl _
  | k + 1 => by
    have ih := len_pls ha k
    have z : (grow (fun _ => ab k) (pls ab k)).length ≤ 4 * (pls ab k).length := grow_size fun c _ => ha k
    show (grow (fun _ => ab k) (pls ab k)).length ≤ _
    rw [Nat.pow_succ]
    omega
def sA (ss : List Nat) (i : Nat) : Nat := (ss[i]?).getD 0
def sB (ss : List Nat) (i : Nat) : Nat := (ss[(i + 1) % ss.length]?).getD 0
theorem sA_at {ss : List Nat} {i : Nat} (h : i < ss.length) : ss[i]? = some (sA ss i) := by
  unfold sA
  rw [List.getElem?_eq_getElem h]
  rfl
theorem sB_at {ss : List Nat} {i : Nat} (h : i < ss.length) : ss[(i + 1) % ss.length]? = some (sB ss i) := by
  unfold sB
  rw [List.getElem?_eq_getElem (Nat.mod_lt _ (by omega))]
  rfl
theorem stp_at {ss : List Nat} {i : Nat} (h : i < ss.length) : (stp ss)[i]? = some (sA ss i, sB ss i) := by
  unfold stp
  rw [List.getElem?_zip_eq_some]
  refine ⟨sA_at h, ?_⟩
  rw [← sB_at h]
  by_cases c : i + 1 < ss.length
  · rw [List.getElem?_append_left (by rw [List.length_drop]; omega), List.getElem?_drop, Nat.mod_eq_of_lt c, Nat.add_comm]
  · have e : i + 1 = ss.length := by omega
    rw [List.getElem?_append_right (by rw [List.length_drop]; omega), List.length_drop, e, Nat.mod_self, show i - (ss.length - 1) = 0 by omega, List.getElem?_take, if_pos (by decide)]
/-- who rises at a place -/
def able (rows : List (List Int)) (ss : List Nat) (i : Nat) : List Nat := (List.range rows.length).filter fun p => decide (1 ≤ rs rows p (sA ss i) (sB ss i))
def rss (rows : List (List Int)) (ss g : List Nat) : List Int := (List.range ss.length).map fun i => rs rows ((g[i]?).getD 0) (sA ss i) (sB ss i)
/-- somebody rises by two -/
def Big (rows : List (List Int)) (ss g : List Nat) : Prop := ∃ i, i < ss.length ∧ 2 ≤ rs rows ((g[i]?).getD 0) (sA ss i) (sB ss i)
theorem fits_pls {rows : List (List Int)} {ss g : List Nat} (l1 : 1 ≤ ss.length) : Fits rows (List.range rows.length) ss g ↔ g ∈ pls (able rows ss) ss.length ∧ Big rows ss g := by
  rw [mem_pls]
  constructor
  · rintro ⟨lg, all, i, p, s, t, ep, es, r2⟩
    have ga : ∀ j q, g[j]? = some q → j < ss.length := fun j q e => by
      rw [← lg]
      exact (List.getElem?_eq_some_iff.mp e).1
    refine ⟨⟨lg, fun j q e => ?_⟩, i, ga i p ep, ?_⟩
    · obtain ⟨m, r⟩ := all j q _ _ e (stp_at (ga j q e))
      exact List.mem_filter.mpr ⟨m, decide_eq_true r⟩
    · rw [stp_at (ga i p ep)] at es
      cases es
      rw [ep]
      exact r2
  · rintro ⟨⟨lg, al⟩, i, li, r2⟩
    have li' : i < g.length := by omega
    refine ⟨lg, fun j q s t eq es => ?_, i, g[i], _, _, List.getElem?_eq_getElem li', stp_at li, ?_⟩
    · have lj : j < ss.length := by
        rw [← lg]
        exact (List.getElem?_eq_some_iff.mp eq).1
      rw [stp_at lj] at es
      cases es
      obtain ⟨m, r⟩ := List.mem_filter.mp (al j q eq)
      exact ⟨m, of_decide_eq_true r⟩
    · rw [List.getElem?_eq_getElem li'] at r2
      exact r2
theorem srt_first {cs : List (List Nat)} {c : List Nat} (h : Srt (c :: cs)) : ∀ b ∈ c :: cs, lx (nI b) (nI c) = false := fun b hb => by
  rcases List.mem_cons.mp hb with rfl | hb
  · exact lx_irr _
  · exact lx_asym ((List.pairwise_cons.mp h).1 b hb)
/-- if somebody rises by two, and each place has someone, there is a ring -/
theorem big_some {rows : List (List Int)} {ss : List Nat} {i p : Nat} (li : i < ss.length) (lp : p < rows.length) (r2 : 2 ≤ rs rows p (sA ss i) (sB ss i)) (ne : pls (able rows ss) ss.length ≠ []) : ∃ g, g ∈ pls (able rows ss) ss.length ∧ Big rows ss g := by
  obtain ⟨g0, h0⟩ := List.exists_mem_of_ne_nil _ ne
  obtain ⟨lg, al⟩ := mem_pls.mp h0
  refine ⟨g0.set i p, mem_pls.mpr ⟨by rw [List.length_set, lg], fun j q e => ?_⟩, i, li, ?_⟩
  · by_cases z : j = i
    · subst z
      rw [List.getElem?_set_self (by omega)] at e
      cases e
      exact List.mem_filter.mpr ⟨List.mem_range.mpr lp, decide_eq_true (by omega)⟩
    · rw [List.getElem?_set_ne (fun e => z e.symm)] at e
      exact al j q e
  · rw [List.getElem?_set_self (by omega)]
    exact r2
theorem no_one {rows : List (List Int)} {ps ss g : List Nat} (h : IsRing rows ps ss g) : 2 ≤ ss.length := by
  obtain ⟨_, _, l1, lg, all, _⟩ := h
  by_cases c : ss.length = 1
  · obtain ⟨s, rfl⟩ := List.length_eq_one_iff.mp c
    have l0 : 0 < g.length := by rw [lg]; show 0 < 1; decide
    have z := (all 0 g[0] s s (List.getElem?_eq_getElem l0) rfl).2
    unfold rs at z
    omega
  · omega
end Pl
namespace Pl
open PySem PySem.Spec PyProof.Rows L2
theorem IsRing.ppl {rows : List (List Int)} {ss g : List Nat} (h : IsRing rows (List.range rows.length) ss g) : ∀ p ∈ g, p < rows.length := fun x hx => by
  obtain ⟨nd, lt, l1, lg, all, _⟩ := h
  obtain ⟨j, hj⟩ := List.mem_iff_getElem?.mp hx
  have lj : j < ss.length := by rw [← lg]; exact (List.getElem?_eq_some_iff.mp hj).1
  exact List.mem_range.mp (all j x _ _ hj (stp_at lj)).1
end Pl
namespace Pl
open PySem PySem.Spec PyProof.Rows L2
theorem lsAt {H : Hp} {ts : List Addr} {rows : List (List Int)} (tp : LsAll H ts rows) {p : Nat} (lp : p < rows.length) : ∃ (t : Addr) (ns : List Int), ts[p]? = some t ∧ rows[p]? = some ns ∧ H t = some (.lst (ns.map V.int)) := by
  have l := tp.1
  have e1 : ts[p]? = some ts[p] := List.getElem?_eq_getElem (by omega)
  have e2 : rows[p]? = some rows[p] := List.getElem?_eq_getElem lp
  exact ⟨_, _, e1, e2, tp.2 p _ _ e1 e2⟩
theorem refAt {ts : List Addr} {i : Nat} {x : V} (h : (ts.map V.ref)[i]? = some x) : ∃ t, x = .ref t ∧ ts[i]? = some t := by
  rw [List.getElem?_map] at h
  cases e : ts[i]? with
  | none => rw [e] at h; cases h
  | some t => rw [e] at h; exact ⟨t, (Option.some.inj h).symm, rfl⟩
theorem intAt {l : List Int} {i : Nat} {y : Int} (h : l[i]? = some y) : atI (l.map V.int) (i : Int) = some (.int y) := atI_nat (j := i) (by rw [List.getElem?_map, h]; rfl)
theorem refsAt {ts : List Addr} {i : Nat} {t : Addr} (h : ts[i]? = some t) : atI (ts.map V.ref) (i : Int) = some (.ref t) := atI_nat (j := i) (by rw [List.getElem?_map, h]; rfl)
theorem rsN {rows : List (List Int)} {p s t : Nat} {ns : List Int} {x y : Int} (h : rows[p]? = some ns) (hx : ns[s]? = some x) (hy : ns[t]? = some y) : rs rows p s t = y - x := by simp [rs, h, hx, hy]
end Pl
namespace Pl
open PySem PySem.Spec PyProof.Rows L2
/-- an amount of a division -/
def gR (rows : List (List Int)) (p v : Nat) : Int := (((rows[p]?).getD [])[v]?).getD 0
def Shp (n : Nat) (rows : List (List Int)) : Prop := ∀ ns ∈ rows, ns.length = n
theorem gR_at {rows : List (List Int)} {p v : Nat} {ns : List Int} {x : Int} (h : rows[p]? = some ns) (hx : ns[v]? = some x) : gR rows p v = x := by simp [gR, h, hx]
theorem gR_rs (rows : List (List Int)) (p s t : Nat) : rs rows p s t = gR rows p t - gR rows p s := rfl
/-- one amount more or less -/
def bmp (rows : List (List Int)) (p v : Nat) (d : Int) : List (List Int) := rows.set p (((rows[p]?).getD []).set v (gR rows p v + d))
theorem bmp_len (rows : List (List Int)) (p v : Nat) (d : Int) : (bmp rows p v d).length = rows.length := List.length_set
theorem bmp_shp {n : Nat} {rows : List (List Int)} (h : Shp n rows) (p v : Nat) (d : Int) : Shp n (bmp rows p v d) := fun ns hn => by
  unfold bmp at hn
  by_cases c : p < rows.length
  · rcases List.mem_or_eq_of_mem_set hn with z | z
    · exact h ns z
    · rw [z, List.length_set, List.getElem?_eq_getElem c]
      exact h _ (List.getElem_mem c)
  · rw [List.set_eq_of_length_le (by omega)] at hn
    exact h ns hn
theorem gR_bmp {n : Nat} {rows : List (List Int)} (h : Shp n rows) {p v : Nat} (lp : p < rows.length) (lv : v < n) (d : Int) (q u : Nat) : gR (bmp rows p v d) q u = gR rows q u + if p = q ∧ v = u then d else 0 := by
  have ep : rows[p]? = some rows[p] := List.getElem?_eq_getElem lp
  have ln := h _ (List.getElem_mem lp)
  by_cases c : p = q
  · subst c
    by_cases c2 : v = u
    · subst c2
      rw [if_pos ⟨rfl, rfl⟩]
      unfold bmp
      have e1 : (rows.set p (((rows[p]?).getD []).set v (gR rows p v + d)))[p]? = some (((rows[p]?).getD []).set v (gR rows p v + d)) := List.getElem?_set_self lp
      refine gR_at e1 ?_
      rw [ep]
      exact List.getElem?_set_self (by show v < rows[p].length; omega)
    · rw [if_neg (fun z => c2 z.2), Int.add_zero]
      unfold bmp
      have e1 : (rows.set p (((rows[p]?).getD []).set v (gR rows p v + d)))[p]? = some (((rows[p]?).getD []).set v (gR rows p v + d)) := List.getElem?_set_self lp
      show ((((rows.set p (((rows[p]?).getD []).set v (gR rows p v + d)))[p]?).getD [])[u]?).getD 0 = _
      rw [e1]
      show (((((rows[p]?).getD []).set v (gR rows p v + d))[u]?)).getD 0 = _
      rw [List.getElem?_set_ne c2]
      rfl
  · rw [if_neg (fun z => c z.1), Int.add_zero]
    unfold bmp
    show ((((rows.set p (((rows[p]?).getD []).set v (gR rows p v + d)))[q]?).getD [])[u]?).getD 0 = _
    rw [List.getElem?_set_ne c]
    rfl
/-- one step of an exchange: who, what gets one more, what one less -/
def ex1 (rows : List (List Int)) (e : Nat × Nat × Nat) : List (List Int) := bmp (bmp rows e.1 e.2.1 1) e.1 e.2.2 (-1)
def exs (rows : List (List Int)) (l : List (Nat × Nat × Nat)) : List (List Int) := l.foldl ex1 rows
theorem exs_snoc (rows : List (List Int)) (l : List (Nat × Nat × Nat)) (e : Nat × Nat × Nat) : exs rows (l ++ [e]) = ex1 (exs rows l) e := by unfold exs; rw [List.foldl_append]; rfl
theorem ex1_len (rows : List (List Int)) (e : Nat × Nat × Nat) : (ex1 rows e).length = rows.length := by unfold ex1; rw [bmp_len, bmp_len]
theorem ex1_shp {n : Nat} {rows : List (List Int)} (h : Shp n rows) (e : Nat × Nat × Nat) : Shp n (ex1 rows e) := bmp_shp (bmp_shp h _ _ _) _ _ _
theorem exs_len : ∀ (l : List (Nat × Nat × Nat)) (rows : List (List Int)), (exs rows l).length = rows.length
  | [], rows => rfl
  | e :: l, rows => (exs_len l (ex1 rows e)).trans (ex1_len rows e)
theorem exs_shp {n : Nat} : ∀ (l : List (Nat × Nat × Nat)) {rows : List (List Int)}, Shp n rows → Shp n (exs rows l)
  | [], rows, h => h
  | e :: l, rows, h => exs_shp l (ex1_shp h e)
def up (l : List (Nat × Nat × Nat)) (p v : Nat) : Nat := l.countP fun e => decide (e.1 = p ∧ e.2.1 = v)
def dn (l : List (Nat × Nat × Nat)) (p v : Nat) : Nat := l.countP fun e => decide (e.1 = p ∧ e.2.2 = v)
def InB (n m : Nat) (l : List (Nat × Nat × Nat)) : Prop := ∀ e ∈ l, e.1 < m ∧ e.2.1 < n ∧ e.2.2 < n
theorem gR_ex1 {n : Nat} {rows : List (List Int)} (h : Shp n rows) {e : Nat × Nat × Nat} (lp : e.1 < rows.length) (ls : e.2.1 < n) (lt : e.2.2 < n) (p v : Nat) : gR (ex1 rows e) p v = gR rows p v + (if e.1 = p ∧ e.2.1 = v then 1 else 0) - (if e.1 = p ∧ e.2.2 = v then 1 else 0) := by
  unfold ex1
  rw [gR_bmp (bmp_shp h _ _ _) (by rw [bmp_len]; exact lp) lt, gR_bmp h lp ls]
  split <;> split <;> omega
theorem gR_exs {n : Nat} : ∀ (l : List (Nat × Nat × Nat)) {rows : List (List Int)}, Shp n rows → InB n rows.length l → ∀ p v, gR (exs rows l) p v = gR rows p v + (up l p v : Int) - (dn l p v : Int)
  | [], rows, h, _, p, v => by
    show gR rows p v = _ + ((0 : Nat) : Int) - ((0 : Nat) : Int)
    omega
  | e :: l, rows, h, b, p, v => by
    obtain ⟨b1, b2, b3⟩ := b e List.mem_cons_self
    have ih := gR_exs l (ex1_shp h e) (fun x hx => by rw [ex1_len]; exact b x (List.mem_cons_of_mem _ hx)) p v
    show gR (exs (ex1 rows e) l) p v = _
    rw [ih, gR_ex1 h b1 b2 b3]
    unfold up dn
    rw [List.countP_cons, List.countP_cons]
    simp only [decide_eq_true_eq]
    split <;> split <;> omega
theorem zip_fst {ss g : List Nat} (l1 : 1 ≤ ss.length) (lg : g.length = ss.length) : (g.zip (stp ss)).map (fun e => e.2.1) = ss := by
  have e : (g.zip (stp ss)).map (fun e => e.2.1) = ((g.zip (stp ss)).map Prod.snd).map Prod.fst := by rw [List.map_map]; rfl
  rw [e, List.map_snd_zip (by rw [stp_len l1]; omega)]
  unfold stp
  exact List.map_fst_zip (by rw [List.length_append, List.length_drop, List.length_take]; omega)
theorem zip_snd {ss g : List Nat} (l1 : 1 ≤ ss.length) (lg : g.length = ss.length) : (g.zip (stp ss)).map (fun e => e.2.2) = ss.drop 1 ++ ss.take 1 := by
  have e : (g.zip (stp ss)).map (fun e => e.2.2) = ((g.zip (stp ss)).map Prod.snd).map Prod.snd := by rw [List.map_map]; rfl
  rw [e, List.map_snd_zip (by rw [stp_len l1]; omega)]
  unfold stp
  exact List.map_snd_zip (by rw [List.length_append, List.length_drop, List.length_take]; omega)
theorem rot_perm (ss : List Nat) : (ss.drop 1 ++ ss.take 1).Perm ss := by
  have z : (ss.take 1 ++ ss.drop 1).Perm ss := by rw [List.take_append_drop]
  exact List.perm_append_comm.trans z
theorem up_le {ss g : List Nat} (l1 : 1 ≤ ss.length) (lg : g.length = ss.length) (p v : Nat) : up (g.zip (stp ss)) p v ≤ ss.count v := by
  have e : ss.count v = (g.zip (stp ss)).countP (fun e => decide (e.2.1 = v)) := by
    conv => lhs; rw [← zip_fst l1 lg]
    rw [List.count_eq_countP, List.countP_map]
    refine List.countP_congr fun x _ => ?_
    simp
  rw [e]
  exact List.countP_mono_left fun x _ z => by
    have := of_decide_eq_true z
    exact decide_eq_true this.2
theorem dn_le {ss g : List Nat} (l1 : 1 ≤ ss.length) (lg : g.length = ss.length) (p v : Nat) : dn (g.zip (stp ss)) p v ≤ ss.count v := by
  have e : ss.count v = (g.zip (stp ss)).countP (fun e => decide (e.2.2 = v)) := by
    rw [← (rot_perm ss).count_eq v, ← zip_snd l1 lg, List.count_eq_countP, List.countP_map]
    refine List.countP_congr fun x _ => ?_
    simp
  rw [e]
  exact List.countP_mono_left fun x _ z => by
    have := of_decide_eq_true z
    exact decide_eq_true this.2
theorem zip_mem {ss g : List Nat} {e : Nat × Nat × Nat} (h : e ∈ g.zip (stp ss)) : ∃ i : Nat, g[i]? = some e.1 ∧ (stp ss)[i]? = some (e.2.1, e.2.2) := by
  obtain ⟨i, hi⟩ := List.mem_iff_getElem?.mp h
  obtain ⟨h1, h2⟩ := List.getElem?_zip_eq_some.mp hi
  exact ⟨i, h1, h2⟩
theorem IsRing.inB {rows : List (List Int)} {ss g : List Nat} (h : IsRing rows (List.range rows.length) ss g) : InB (wdt rows) rows.length (g.zip (stp ss)) := fun e he => by
  obtain ⟨nd, lt, l1, lg, all, _⟩ := h
  obtain ⟨i, h1, h2⟩ := zip_mem he
  exact ⟨List.mem_range.mp (all i _ _ _ h1 h2).1, lt _ (stp_mem h2).1, lt _ (stp_mem h2).2⟩
theorem Rows.shp {rows : List (List Int)} (h : Rows rows) : Shp (Pl.wdt rows) rows := fun ns hn => h.wdt hn
theorem gR_am {rows : List (List Int)} (h : Rows rows) {p v : Nat} (lp : p < rows.length) (lv : v < wdt rows) : 0 ≤ gR rows p v ∧ gR rows p v ≤ 30 := by
  have e1 : rows[p]? = some rows[p] := List.getElem?_eq_getElem lp
  have m := List.getElem_mem lp
  have ln := h.wdt m
  have e2 : rows[p][v]? = some rows[p][v] := List.getElem?_eq_getElem (by omega)
  rw [gR_at e1 e2]
  exact h.am _ m _ (List.getElem_mem _)
theorem ex_rows {rows : List (List Int)} {ss g : List Nat} (rw_ : Rows rows) (h : IsRing rows (List.range rows.length) ss g) : Rows (exs rows (g.zip (stp ss))) := by
  have ib := h.inB
  have sh := rw_.shp
  have sh2 := exs_shp (g.zip (stp ss)) sh
  have le := exs_len (g.zip (stp ss)) rows
  have gr := gR_exs (g.zip (stp ss)) sh ib
  obtain ⟨w2, w6⟩ := rw_.w26
  have am := fun {p v : Nat} (lp : p < rows.length) (lv : v < wdt rows) => gR_am rw_ lp lv
  obtain ⟨nd, lt, l1, lg, all, _⟩ := h
  have ul := fun p v => Nat.le_trans (up_le (g := g) l1 lg p v) (List.nodup_iff_count.mp nd v)
  have dl := fun p v => Nat.le_trans (dn_le (g := g) l1 lg p v) (List.nodup_iff_count.mp nd v)
  have p2 := rw_.1
  have p4 := rw_.2.1
  refine ⟨by omega, by omega, wdt rows, w2, w6, fun ns hn => ⟨sh2 ns hn, fun x hx => ?_⟩⟩
  obtain ⟨p, hp⟩ := List.mem_iff_getElem?.mp hn
  obtain ⟨v, hv⟩ := List.mem_iff_getElem?.mp hx
  have lp : p < rows.length := by rw [← le]; exact (List.getElem?_eq_some_iff.mp hp).1
  have lv : v < wdt rows := by rw [← sh2 ns hn]; exact (List.getElem?_eq_some_iff.mp hv).1
  have ex := gr p v
  rw [gR_at hp hv] at ex
  have u1 := ul p v
  have d1 := dl p v
  have a := am lp lv
  have hu : 0 < up (g.zip (stp ss)) p v → gR rows p v ≤ 29 := fun z => by
    obtain ⟨e, he, c⟩ := List.countP_pos_iff.mp z
    have c := of_decide_eq_true c
    obtain ⟨i, h1, h2⟩ := zip_mem he
    have r := (all i _ _ _ h1 h2).2
    have ib' := ib e he
    have a2 := am ib'.1 ib'.2.2
    rw [gR_rs, c.2] at r
    rw [c.1] at r a2
    omega
  have hd : 0 < dn (g.zip (stp ss)) p v → 1 ≤ gR rows p v := fun z => by
    obtain ⟨e, he, c⟩ := List.countP_pos_iff.mp z
    have c := of_decide_eq_true c
    obtain ⟨i, h1, h2⟩ := zip_mem he
    have r := (all i _ _ _ h1 h2).2
    have ib' := ib e he
    have a2 := am ib'.1 ib'.2.1
    rw [gR_rs, c.2] at r
    rw [c.1] at r a2
    omega
  omega
theorem ex_wdt {rows : List (List Int)} {ss g : List Nat} (rw_ : Rows rows) (h : IsRing rows (List.range rows.length) ss g) : wdt (exs rows (g.zip (stp ss))) = wdt rows := by
  have l : 0 < (exs rows (g.zip (stp ss))).length := by
    rw [exs_len]
    have := rw_.1
    omega
  have z := exs_shp (g.zip (stp ss)) rw_.shp _ (List.getElem_mem l)
  unfold wdt at z ⊢
  rw [List.getElem?_eq_getElem l]
  exact z
/-- what all have of a state -/
def csum (rows : List (List Int)) (v : Nat) : Int := (rows.map fun ns => (ns[v]?).getD 0).sum
theorem sum_set {f : List Int → Int} : ∀ {rows : List (List Int)} {p : Nat} (lp : p < rows.length) (x : List Int), ((rows.set p x).map f).sum = (rows.map f).sum + f x - f rows[p]
  | r :: rows, 0, lp, x => by
    show f x + (rows.map f).sum = f r + (rows.map f).sum + f x - f r
    omega
  | r :: rows, p + 1, lp, x => by
    have ih := sum_set (f := f) (rows := rows) (p := p) (by simpa using lp) x
    show f r + ((rows.set p x).map f).sum = f r + (rows.map f).sum + f x - f (rows[p]'(by simpa using lp))
    omega
theorem csum_bmp {n : Nat} {rows : List (List Int)} (h : Shp n rows) {p v : Nat} (lp : p < rows.length) (lv : v < n) (d : Int) (u : Nat) : csum (bmp rows p v d) u = csum rows u + if v = u then d else 0 := by
  have ep : rows[p]? = some rows[p] := List.getElem?_eq_getElem lp
  have ln := h _ (List.getElem_mem lp)
  unfold csum bmp
  rw [sum_set lp, ep]
  show _ + (((rows[p].set v (gR rows p v + d))[u]?).getD 0) - _ = _
  by_cases c : v = u
  · subst c
    rw [if_pos rfl, List.getElem?_set_self (by omega)]
    have e : gR rows p v = (rows[p][v]?).getD 0 := by unfold gR; rw [ep]; rfl
    rw [e]
    show _ + (_ + d) - _ = _
    omega
  · rw [if_neg c, List.getElem?_set_ne c]
    omega
theorem csum_exs {n : Nat} : ∀ (l : List (Nat × Nat × Nat)) {rows : List (List Int)}, Shp n rows → InB n rows.length l → ∀ v, csum (exs rows l) v = csum rows v + ((l.map fun e => e.2.1).count v : Int) - ((l.map fun e => e.2.2).count v : Int)
  | [], rows, h, _, v => by
    show csum rows v = _ + ((0 : Nat) : Int) - ((0 : Nat) : Int)
    omega
  | e :: l, rows, h, b, v => by
    obtain ⟨b1, b2, b3⟩ := b e List.mem_cons_self
    have ih := csum_exs l (ex1_shp h e) (fun x hx => by rw [ex1_len]; exact b x (List.mem_cons_of_mem _ hx)) v
    show csum (exs (ex1 rows e) l) v = _
    rw [ih]
    have e1 : csum (ex1 rows e) v = csum rows v + (if e.2.1 = v then 1 else 0) + (if e.2.2 = v then -1 else 0) := by
      unfold ex1
      rw [csum_bmp (bmp_shp h _ _ _) (by rw [bmp_len]; exact b1) b3, csum_bmp h b1 b2]
    rw [e1, List.map_cons, List.map_cons, List.count_cons, List.count_cons]
    simp only [beq_iff_eq]
    split <;> split <;> omega
theorem ex_csum {rows : List (List Int)} {ss g : List Nat} (rw_ : Rows rows) (h : IsRing rows (List.range rows.length) ss g) (v : Nat) : csum (exs rows (g.zip (stp ss))) v = csum rows v := by
  have ib := h.inB
  rw [csum_exs _ rw_.shp ib, zip_fst h.2.2.1 h.2.2.2.1, zip_snd h.2.2.1 h.2.2.2.1, (rot_perm ss).count_eq v]
  omega
end Pl
namespace Pl
open PySem PySem.Spec PyProof.Rows L2
theorem nodup_ix {ts : List Addr} {i j : Nat} (nd : ts.Nodup) (li : i < ts.length) (lj : j < ts.length) (e : ts[i] = ts[j]) : i = j := by
  have pw := List.pairwise_iff_getElem.mp nd
  by_cases a : i < j
  · exact absurd e (pw i j li lj a)
  · by_cases b : j < i
    · exact absurd e.symm (pw j i lj li b)
    · omega
theorem LsAll.set {H : Hp} {ts : List Addr} {rows : List (List Int)} {p : Nat} {t : Addr} {ms : List Int} (h : LsAll H ts rows) (nd : ts.Nodup) (et : ts[p]? = some t) : LsAll (L2.upd H t (.lst (ms.map V.int))) ts (rows.set p ms) := by
  refine ⟨by rw [List.length_set]; exact h.1, fun j u ns hu hn => ?_⟩
  by_cases c : p = j
  · subst c
    rw [et] at hu
    cases hu
    have lp : p < rows.length := by rw [← h.1]; exact (List.getElem?_eq_some_iff.mp et).1
    rw [List.getElem?_set_self lp] at hn
    cases hn
    exact upd_same
  · rw [List.getElem?_set_ne c] at hn
    have ne : u ≠ t := fun z => by
      obtain ⟨l1, g1⟩ := List.getElem?_eq_some_iff.mp et
      obtain ⟨l2, g2⟩ := List.getElem?_eq_some_iff.mp hu
      exact c (nodup_ix nd l1 l2 (by rw [g1, g2, z]))
    rw [upd_ne ne]
    exact h.2 j u ns hu hn
theorem LsAll.bmp {H : Hp} {ts : List Addr} {rows : List (List Int)} {p a : Nat} {t : Addr} {ns : List Int} {x d : Int} (h : LsAll H ts rows) (nd : ts.Nodup) (et : ts[p]? = some t) (en : rows[p]? = some ns) (ex : ns[a]? = some x) : LsAll (L2.upd H t (.lst ((ns.map V.int).set a (.int (x + d))))) ts (Pl.bmp rows p a d) := by
  have e : Pl.bmp rows p a d = rows.set p (ns.set a (x + d)) := by
    unfold Pl.bmp
    rw [gR_at en ex, en]
    rfl
  rw [e, ← List.map_set]
  exact h.set nd et
theorem LsAll.put {H : Hp} {ts : List Addr} {rows : List (List Int)} {l : Addr} {o : HO} (h : LsAll H ts rows) (n : ∀ u ∈ ts, u ≠ l) : LsAll (L2.upd H l o) ts rows := ⟨h.1, fun j u ns a b => by rw [upd_ne (n u (List.mem_of_getElem? a))]; exact h.2 j u ns a b⟩
theorem LsAll.snoc {H : Hp} {ts : List Addr} {rows : List (List Int)} {i : Nat} {t : Addr} {ns : List Int} (h : LsAll H ts (rows.take i)) (en : rows[i]? = some ns) (e : H t = some (.lst (ns.map V.int))) : LsAll H (ts ++ [t]) (rows.take (i + 1)) := by
  have l := h.1
  rw [List.take_add_one, en]
  refine ⟨by rw [List.length_append, List.length_append, l]; rfl, fun j u ms hu hm => ?_⟩
  by_cases c : j < ts.length
  · rw [List.getElem?_append_left c] at hu
    rw [List.getElem?_append_left (by omega)] at hm
    exact h.2 j u ms hu hm
  · have lj := (List.getElem?_eq_some_iff.mp hu).1
    rw [List.length_append] at lj
    have lj : j < ts.length + 1 := lj
    have ej : j = ts.length := by omega
    subst ej
    rw [List.getElem?_append_right (Nat.le_refl _), Nat.sub_self] at hu
    rw [List.getElem?_append_right (by omega), l, Nat.sub_self] at hm
    cases hu
    cases hm
    exact e
theorem StL.put {H : Hp} {l : Addr} {ys : List V} {o : HO} (hl : H l = some (.lst ys)) : ∀ {vs : List V} {gs : List (Nat × Nat)}, StL H vs gs → StL (L2.upd H l o) vs gs
  | _, _, .nil => .nil
  | _, _, .cons h r => .cons (by rw [upd_ne (ne_of h hl (by intro z; cases z))]; exact h) (r.put hl)
theorem ixN_nat {n j : Nat} (hj : j < n) : ixN n (j : Int) = some j := by
  unfold ixN
  rw [if_pos (by omega), if_pos (by omega)]
  simp
theorem kdIV {K : PySem.W.Frag} {H : Hp} {l : List Nat} : ∀ v ∈ iV l, Kd K H v := fun v hv => by
  unfold iV at hv
  obtain ⟨x, _, rfl⟩ := List.mem_map.mp hv
  exact Kd.int _
end Pl
namespace Pl
open PySem PySem.Spec PyProof.Rows L2
theorem sqT_ty {K : PySem.W.Frag} {H : Hp} {p : Addr} {xs : List V} (h : SqT K H p xs) : TyX K H (.ref p) (.type "tuple") := by
  rcases h with (h | ⟨o, h⟩) | ⟨o, its, n, h, c, _⟩
  · exact .base (.tup h)
  · exact .fTuple h
  · exact .kTuple h c
theorem slQ {K : PySem.W.Frag} {a : Addr} {xs : List V} {lo hi : Option Int} {H : Hp} {Q : VK} (h : SqT K H a xs) (k : ∀ p H', Same H H' → SqT K H' p (cutV xs lo hi) → Q (.ref p) H') : rSlA K (.ref a) lo hi H Q := by
  refine ⟨a, xs, rfl, h, fun w => k a H (Same.refl H) ?_, fun _ p np => k p _ (same_new (Same.refl H) np) (SqT.of upd_same)⟩
  have e : cutV xs lo hi = xs := by
    unfold cutV
    rw [w.1, w.2, List.drop_zero, Nat.sub_zero, List.take_length]
  rw [e]
  exact h
theorem caQ {K : PySem.W.Frag} {a b : Addr} {xs ys : List V} {H : Hp} {Q : VK} (h1 : SqT K H a xs) (h2 : SqT K H b ys) (l : xs.length + ys.length ≤ 1000) (k : ∀ p H', Same H H' → SqT K H' p (xs ++ ys) → Q (.ref p) H') : rCatA K (.ref a) (.ref b) H Q :=
  ⟨a, b, xs, ys, rfl, rfl, h1, h2, Nat.le_of_lt (size_lt' (by omega)), fun z => k b H (Same.refl H) (by rw [z]; exact h2), fun _ z => k a H (Same.refl H) (by rw [z, List.append_nil]; exact h1), fun _ _ p np => k p _ (same_new (Same.refl H) np) (SqT.of upd_same)⟩
def spStepsF (K : PySem.W.Frag) : Sp := fun vs H Q _ => ∃ (q : Addr) (ss : List Nat), vs = [.ref q] ∧ SqT K H q (iV ss) ∧ 1 ≤ ss.length ∧ ss.length ≤ 100 ∧ ∀ (L : Addr) (ws : List V) (H' : Hp), Same H H' → H' L = some (.lst ws) → StL H' ws (stp ss) → Q (.ref L) H'
def spIsPairF (K : PySem.W.Frag) : Sp := fun vs H Q _ => ∃ x : V, vs = [x] ∧ ((∃ ty, TyX K H x ty ∧ PySem.W.kitOne K ty (.type "tuple") = some false ∧ Q (.bl false) H) ∨ (∃ (p : Addr) (xs : List V), x = .ref p ∧ SqT K H p xs ∧ Q (.bl (decide (xs.length = 2))) H))
def spNumsF (K : PySem.W.Frag) : Sp := fun vs H Q _ => ∃ (x : V) (m : Int), vs = [x, .int m] ∧ ((∃ ty, TyX K H x ty ∧ PySem.W.kitOne K ty (.type "tuple") = some false ∧ Q (.bl false) H) ∨ (∃ (p : Addr) (xs : List V), x = .ref p ∧ SqT K H p xs ∧ xs.length ≤ 100 ∧ (∀ y ∈ xs, Kd K H y) ∧ ∀ H', Same H H' → Q (.bl (xs.all (isTo (m - 1)))) H'))
def spShowRF (K : PySem.W.Frag) (CD C : Addr) : Sp := fun vs H Q _ => ∃ (d t : Addr) (ss : List Addr) (rows : List (List Int)) (x : V), vs = [.ref d, x] ∧ DvAt CD C H d t ss rows ∧
  ((NoTu K H x ∧ Q (.bl false) H) ∨ (∃ (p : Addr) (xs : List V), x = .ref p ∧ SqT K H p xs ∧ xs.length ≠ 2 ∧ Q (.bl false) H) ∨
   (∃ (p : Addr) (y z : V), x = .ref p ∧ SqT K H p [y, z] ∧
     ((NoTu K H y ∧ Q (.bl false) H) ∨
      (∃ (q : Addr) (xs : List V), y = .ref q ∧ SqT K H q xs ∧ xs.length ≤ 100 ∧ (∀ v ∈ xs, Kd K H v) ∧
        ((NoTu K H z ∧ ∀ H', Same H H' → Q (.bl false) H') ∨
         (∃ (r : Addr) (zs : List V), z = .ref r ∧ SqT K H r zs ∧ zs.length ≤ 100 ∧ (∀ v ∈ zs, Kd K H v) ∧ ∀ (b : Bool) (H' : Hp), Same H H' → (b = true ↔ RgX rows xs zs) → Q (.bl b) H'))))))
section
variable {P : Program} {w : World} {K : PySem.W.Frag} {mg : Str → Option Value} {base : Heap} {CShare CDivision CNoPerson : Addr}
theorem ok_stepsF (B : Bn mg) (D : Df K mg "steps_around" st_steps_around ["states"]) : Cal P w K mg base 1 "steps_around" ["states"] (spStepsF K) := by
  refine D.cal sc_steps_around (fun vs H Q E h => ?_) (fun f cdv A out s H vs Q E hr h => ?_)
  · obtain ⟨q, ss, rfl, _⟩ := h
    rfl
  obtain ⟨q, ss, rfl, hq, l1, l100, k⟩ := h
  refine ⟨_, (pss_one (ps_ret (pe_listZip rfl (by rfl) B.n_list (by rfl) B.n_zip (pa_cons (pv 0) (pa_cons (pe_op op_catA (pe_slice sl_tupA (pv 0) (po_some pe_int) po_none) (pe_slice sl_tupA (pv 0) po_none (po_some pe_int))) pa_nil))))), ?_⟩
  have li := iV_len ss
  have c1t : cutV (iV ss) none (some (1 : Int)) = iV (ss.take 1) := by
    rw [show cutV (iV ss) none (some (1 : Int)) = (iV ss).take 1 from cut_take (n := 1) (by omega)]
    unfold iV
    rw [List.map_take]
  have c1d : cutV (iV ss) (some (1 : Int)) none = iV (ss.drop 1) := by
    rw [show cutV (iV ss) (some (1 : Int)) none = (iV ss).drop 1 from cut_drop (n := 1) (by omega)]
    unfold iV
    rw [List.map_drop]
  refine ⟨_, rfl, _, rfl, _, rfl, ?_⟩
  try unfold tNoPart
  refine slQ (K := K) (lo := some (1 : Int)) (hi := none) hq fun p1 H1 k1 e1 => ?_
  rw [c1d] at e1
  refine ⟨_, rfl, _, rfl, slQ (K := K) (lo := none) (hi := some (1 : Int)) (sqT_same k1 hq) fun p2 H2 k2 e2 => ?_⟩
  rw [c1t] at e2
  refine caQ (sqT_same k2 e1) e2 (by rw [iV_len, iV_len, List.length_drop, List.length_take]; omega) fun p3 H3 k3 e3 => ?_
  have e3 : SqT K H3 p3 (iV (ss.drop 1 ++ ss.take 1)) := by
    unfold iV at e3 ⊢
    rw [List.map_append]
    exact e3
  have kk := k1.trans (k2.trans k3)
  refine ⟨q, p3, _, _, rfl, sqT_same kk hq, e3, by rw [iV_len, iV_len, List.length_append, List.length_drop, List.length_take]; omega, fun L ws H4 k4 _ hL pr => ?_⟩
  exact k L ws H4 (kk.trans k4) hL (StL.of pr)
theorem ok_isPairF (B : Bn mg) (D : Df K mg "is_pair" st_is_pair ["thing"]) : Cal P w K mg base 1 "is_pair" ["thing"] (spIsPairF K) := by
  refine D.cal sc_is_pair (fun vs H Q E h => ?_) (fun f cdv A out s H vs Q E hr h => ?_)
  · obtain ⟨x, rfl, _⟩ := h
    rfl
  obtain ⟨x, rfl, h⟩ := h
  refine ⟨_, (pss_one (ps_ret (pe_and (pe_callB call_isi (by rfl) B.n_isinstance (by decide +kernel) (pa_cons (pv 0) (pa_cons (pe_bltn (v := .ty "tuple") (by rfl) B.n_tuple (by decide +kernel) rfl) pa_nil))) (pe_one (pe_cmpR op_eq (pe_callB call_len_seq (by rfl) B.n_len (by decide +kernel) (pa_cons (pv 0) pa_nil)) pe_int (nomark _)))))), ?_⟩
  rcases h with ⟨ty, tx, kt, k⟩ | ⟨p, xs, rfl, hp, k⟩
  · exact ⟨_, rfl, _, _, _, _, false, rfl, .ty _, tx, kt, _, rfl, iteF k⟩
  · refine ⟨_, rfl, _, _, _, _, true, rfl, .ty _, sqT_ty hp, kit_ty (by decide +kernel), _, rfl, iteT ?_⟩
    refine ⟨_, rfl, p, _, rfl, .inr (hp), rfl, ?_⟩
    have e : decide (V.int (xs.length : Int) = V.int 2) = decide (xs.length = 2) := by
      by_cases c : xs.length = 2
      · rw [decide_eq_true c, decide_eq_true (by rw [c]; rfl)]
      · rw [decide_eq_false c, decide_eq_false (fun z => c (by have := V.int.inj z; omega))]
    rw [e]
    exact k
theorem ok_numsF (B : Bn mg) (c_is_integer_to : Cal P w K mg base 2 "is_integer_to" ["thing", "most"] (spIsInt K)) (D : Df K mg "is_numbers" st_is_numbers ["thing", "many"]) : Cal P w K mg base 3 "is_numbers" ["thing", "many"] (spNumsF K) := by
  refine D.cal sc_is_numbers (fun vs H Q E h => ?_) (fun f cdv A out s H vs Q E hr h => ?_)
  · obtain ⟨x, m, rfl, _⟩ := h
    rfl
  obtain ⟨x, m, rfl, h⟩ := h
  refine ⟨_, (pss_one (ps_ret (pe_and (pe_callB call_isi (by rfl) B.n_isinstance (by decide +kernel) (pa_cons (pv 0) (pa_cons (pe_bltn (v := .ty "tuple") (by rfl) B.n_tuple (by decide +kernel) rfl) pa_nil))) (pe_one (pe_callB (cr_all rfl) (by rfl) B.n_all (by decide +kernel) (pa_cons (pe_lc (own := [("number", 2)]) (g := gName 2) rfl sc_is_numbers.nd (pi_tup (pv 0)) (blkOk_by (N := ["thing", "many", "number"]) (sc := defScope st_is_numbers) (by decide +kernel)) (fun _ _ _ _ _ => (pg_name (i := 2) sc_is_numbers.nd rfl (.inl rfl))) (fun _ _ _ _ _ => pts_nil) (fun _ _ _ _ _ => (pe_fn c_is_integer_to (hr.mono (by decide)) (pa_cons (pv 2) (pa_cons (pe_op op_sub (pv 1) pe_int) pa_nil))))) pa_nil)))))), ?_⟩
  rcases h with ⟨ty, tx, kt, k⟩ | ⟨p, xs, rfl, hp, l100, kd, k⟩
  · exact ⟨_, rfl, _, _, _, _, false, rfl, .ty _, tx, kt, _, rfl, iteF k⟩
  · refine ⟨_, rfl, _, _, _, _, true, rfl, .ty _, sqT_ty hp, kit_ty (by decide +kernel), _, rfl, iteT ?_⟩
    refine ⟨_, rfl, p, rfl, ⟨_, hp⟩, fun D hD => lc_tup (K := K) (a := p) (xs := xs) (fun i H' => Same H H' ∧ H' D = some (.lst (((xs.take i).map (isTo (m - 1))).map V.bl))) ⟨same_new (Same.refl _) hD, upd_same⟩ (fun i H' _ q => sqT_same q.1 hp) (fun i x H' hx ⟨k1, h1⟩ => ⟨rfl, tyes ?_⟩) (fun H' ⟨k1, h1⟩ => ?_)⟩
    · have il := (List.getElem?_eq_some_iff.mp hx).1
      refine ⟨_, rfl, _, rfl, _, _, rfl, rfl, _, _, rfl, (kd x (List.mem_of_getElem? hx)).same k1, _, h1, size_lt' (by rw [List.length_map, List.length_map, List.length_take]; omega), same_put k1 hD, ?_⟩
      rw [upd_same, List.take_add_one, hx, List.map_append, List.map_append]
      rfl
    · rw [List.take_length] at h1
      refine ⟨D, _, rfl, SqL.of h1, ?_⟩
      have e : (xs.map (isTo (m - 1))).all id = xs.all (isTo (m - 1)) := by
        rw [List.all_map]
        rfl
      rw [e]
      exact k H' k1
theorem ok_showRF (B : Bn mg) (n_set : mg "set" = none) (cSR : ∃ t, mg "SHORTEST_RING" = some (.int 2 t)) (SDivision : DvK K mg CDivision) (p_people : PCal P w K mg base 2 CDivision "people" ["self"] (spPeople CDivision CShare)) (p_states : PCal P w K mg base 4 CDivision "states" ["self"] (spStates CDivision CShare)) (c_check_division : Cal P w K mg base 1 "check_division" ["thing"] (spCheckD CDivision CShare)) (c_is_pair : Cal P w K mg base 1 "is_pair" ["thing"] (spIsPairF K)) (c_is_numbers : Cal P w K mg base 3 "is_numbers" ["thing", "many"] (spNumsF K)) (c_steps_around : Cal P w K mg base 1 "steps_around" ["states"] (spStepsF K)) (c_rise : Cal P w K mg base 5 "rise" ["division", "person", "state", "second"] (spRise CDivision CShare)) (D : Df K mg "shows_ring" st_shows_ring ["division", "thing"]) : Cal P w K mg base 7 "shows_ring" ["division", "thing"] (spShowRF K CDivision CShare) := by
  refine D.cal sc_shows_ring (fun vs H Q E h => ?_) (fun f cdv A out s H vs Q E hr h => ?_)
  · obtain ⟨d, t, ss, rows, x, rfl, _⟩ := h
    rfl
  obtain ⟨d, t, ss, rows, x, rfl, dv, h⟩ := h
  refine ⟨_, (pss_cons (ps_expr (pe_fn c_check_division (hr.mono (by decide)) (pa_cons (pv 0) pa_nil)))
   (pss_cons (ps_if (pt_not (pt_val (pe_fn c_is_pair (hr.mono (by decide)) (pa_cons (pv 1) pa_nil)))) (pss_one (ps_ret pe_bl)) pss_nil)
   (pss_cons (ps_asg (pv 1) (pg_tup rfl (pgs_cons (pg_name (i := 2) sc_shows_ring.nd rfl (.inl rfl)) (pgs_cons (pg_name (i := 3) sc_shows_ring.nd rfl (.inl rfl)) pgs_nil))))
   (pss_cons (ps_if (PW.pt (pw_or (pt_not (pt_val (pe_fn c_is_numbers (hr.mono (by decide)) (pa_cons (pv 2) (pa_cons (pe_pr p_states SDivision.cl (hr.mono (by decide)) (pv 0)) pa_nil))))) (pw_or1 (pt_not (pt_val (pe_fn c_is_numbers (hr.mono (by decide)) (pa_cons (pv 3) (pa_cons (pe_pr p_people SDivision.cl (hr.mono (by decide)) (pv 0)) pa_nil)))))))) (pss_one (ps_ret pe_bl)) pss_nil)
   (pss_cons (ps_if (PW.pt (pw_or (pt_cmpR op_lt (pe_callB call_len_seq (by rfl) B.n_len (by decide +kernel) (pa_cons (pv 2) pa_nil)) (pe_glob (v := .int 2) rfl cSR.choose_spec ⟨_, rfl⟩) (nomark _)) (pw_or (pt_cmpR op_ne (pe_callB call_len_seq (by rfl) B.n_len (by decide +kernel) (pa_cons (pv 2) pa_nil)) (pe_callB call_len_seq (by rfl) B.n_len (by decide +kernel) (pa_cons (pv 3) pa_nil)) (nomark _)) (pw_or1 (pt_cmpR op_ne (pe_callB call_len_seq (by rfl) B.n_len (by decide +kernel) (pa_cons (pv 2) pa_nil)) (pe_lenSetT (by rfl) B.n_len (by rfl) n_set (pv 2)) (nomark _)))))) (pss_one (ps_ret pe_bl)) pss_nil)
   (pss_cons (ps_set (i := 4) sc_shows_ring.nd rfl (.inl rfl) (pe_fn c_steps_around (hr.mono (by decide)) (pa_cons (pv 2) pa_nil)))
   (pss_cons (ps_setLc (i := 5) (own := [("person", 6), ("state", 7), ("second", 8)]) (g := gTup K 2 (gCons (gName 6) (gCons (gTup K 2 (gCons (gName 7) (gCons (gName 8) gNil))) gNil))) rfl sc_shows_ring.nd rfl rfl (sw_true rfl rfl rfl (by decide +kernel)) (pi_zipM (by rfl) B.n_zip (pa_cons (pv 3) (pa_cons (pv 4) pa_nil))) (blkOk_by (N := ["division", "thing", "states", "people", "steps", "rises", "person", "state", "second"]) (sc := defScope st_shows_ring) (by decide +kernel)) (fun _ _ _ _ _ => (pg_tup rfl (pgs_cons (pg_name (i := 6) sc_shows_ring.nd rfl (.inl rfl)) (pgs_cons (pg_tup rfl (pgs_cons (pg_name (i := 7) sc_shows_ring.nd rfl (.inl rfl)) (pgs_cons (pg_name (i := 8) sc_shows_ring.nd rfl (.inl rfl)) pgs_nil))) pgs_nil)))) (fun _ _ _ _ _ => pts_nil) (fun _ _ _ _ _ => (pe_fn c_rise (hr.mono (by decide)) (pa_cons (pv 0) (pa_cons (pv 6) (pa_cons (pv 7) (pa_cons (pv 8) pa_nil)))))))
   (pss_one (ps_ret (pe_and (pe_cmpR op_ge (pe_callB (cr_min rfl) (by rfl) B.n_min (by decide +kernel) (pa_cons (pv 5) pa_nil)) pe_int (nomark _)) (pe_one (pe_cmpR op_ge (pe_callB (cr_max rfl) (by rfl) B.n_max (by decide +kernel) (pa_cons (pv 5) pa_nil)) pe_int (nomark _))))))))))))), ?_⟩
  obtain ⟨⟨dx, hd⟩, ht, al, rw_⟩ := id dv
  obtain ⟨w2, w6⟩ := rw_.w26
  have p2 := rw_.1
  have p4 := rw_.2.1
  refine ⟨_, rfl, d, t, ss, rows, rfl, dv, ?_⟩
  rcases h with ⟨⟨ty, tx, kt⟩, k⟩ | ⟨p, xs, rfl, hp, ne, k⟩ | ⟨p, y, z, rfl, hp, h⟩
  · exact ⟨_, rfl, x, rfl, .inl ⟨ty, tx, kt, _, rfl, iteT k⟩⟩
  · refine ⟨_, rfl, _, rfl, .inr ⟨p, xs, rfl, hp, _, rfl, ?_⟩⟩
    rw [decide_eq_false ne]
    exact iteT k
  refine ⟨_, rfl, _, rfl, .inr ⟨p, _, rfl, hp, _, rfl, ?_⟩⟩
  refine iteF ?_
  refine ⟨_, rfl, p, _, rfl, hp, rfl, _, _, rfl, _, _, rfl, rfl, ?_⟩
  rcases h with ⟨⟨ty, tx, kt⟩, k⟩ | ⟨q, xs, rfl, hq, l100, kd, h⟩
  · refine ⟨_, rfl, _, rfl, d, dx, _, rfl, hd, d, t, ss, rows, rfl, dv, fun ns0 hn0 => ?_⟩
    exact ⟨_, _, rfl, .inl ⟨ty, tx, kt, _, rfl, iteT k⟩⟩
  refine ⟨_, rfl, _, rfl, d, dx, _, rfl, hd, d, t, ss, rows, rfl, dv, fun ns0 hn0 => ?_⟩
  rw [rw_.wdt hn0]
  refine ⟨_, _, rfl, .inr ⟨q, xs, rfl, hq, l100, kd, fun H1 k1 => ?_⟩⟩
  cases e1 : xs.all (isTo ((wdt rows : Int) - 1)) with
  | false =>
    refine ⟨_, rfl, iteT ?_⟩
    rcases h with ⟨_, k⟩ | ⟨r, zs, rfl, hr1, _, _, k⟩
    · exact k H1 k1
    · refine k false H1 k1 ⟨fun z => (nomatch z), fun z => ?_⟩
      rw [z.nums.1] at e1
      cases e1
  | true =>
    refine ⟨_, rfl, iteF ?_⟩
    rcases h with ⟨⟨ty, tx, kt⟩, k⟩ | ⟨r, zs, rfl, hr1, z100, kz, k⟩
    · refine ⟨_, rfl, _, rfl, d, dx, _, rfl, k1 _ _ hd, d, t, ss, rows, rfl, dv.same k1, ?_⟩
      exact ⟨_, _, rfl, .inl ⟨ty, TyX.same k1 tx, kt, _, rfl, iteT (k H1 k1)⟩⟩
    refine ⟨_, rfl, _, rfl, d, dx, _, rfl, k1 _ _ hd, d, t, ss, rows, rfl, dv.same k1, ?_⟩
    refine ⟨_, _, rfl, .inr ⟨r, zs, rfl, sqT_same k1 hr1, z100, fun v hv => (kz v hv).same k1, fun H2 k2 => ?_⟩⟩
    have k02 := k1.trans k2
    cases e2 : zs.all (isTo ((rows.length : Int) - 1)) with
    | false =>
      refine ⟨_, rfl, iteT (k false H2 k02 ⟨fun z => (nomatch z), fun z => ?_⟩)⟩
      rw [z.nums.2] at e2
      cases e2
    | true =>
      refine ⟨_, rfl, iteF ?_⟩
      obtain ⟨s1, rfl, lts⟩ := nums_iV.mp e1
      obtain ⟨g1, rfl, ltg⟩ := nums_iV.mp e2
      have hq2 := sqT_same k02 hq
      have hr2 := sqT_same k02 hr1
      have il := iV_len s1
      have ig := iV_len g1
      refine ⟨_, rfl, q, _, rfl, .inr (hq2), _, _, rfl, rfl, _, rfl, ?_⟩
      have bad : ∀ H', Same H H' → ¬ IsRing rows (List.range rows.length) s1 g1 → Q (.bl false) H' := fun H' k' n => k false H' k' ⟨fun z => (nomatch z), fun z => absurd (RgX.at.mp z) n⟩
      refine ite2 (fun c => ?_) (fun c => ?_)
      · have c1 : ((iV s1).length : Int) < 2 := of_decide_eq_true c
        refine bad H2 k02 fun ir => ?_
        obtain ⟨_, _, l1, lg, all, _⟩ := ir
        have l1' : s1.length = 1 := by omega
        obtain ⟨s, rfl⟩ := List.length_eq_one_iff.mp l1'
        have l0 : 0 < g1.length := by rw [lg]; show 0 < 1; decide
        have z := (all 0 g1[0] s s (List.getElem?_eq_getElem l0) rfl).2
        unfold rs at z
        omega
      have c1 : 2 ≤ s1.length := by
        have : ¬ ((iV s1).length : Int) < 2 := fun z => c (decide_eq_true z)
        omega
      refine ⟨_, rfl, q, _, rfl, .inr (hq2), _, rfl, r, _, rfl, .inr (hr2), rfl, _, rfl, ?_⟩
      refine ite2 (fun c => ?_) (fun c => ?_)
      · refine bad H2 k02 fun ir => ?_
        have lg := ir.2.2.2.1
        rw [il, ig, lg] at c
        simp at c
      have c2 : g1.length = s1.length := by
        have z : V.int ((iV s1).length : Int) = V.int ((iV g1).length : Int) := by simpa using c
        have := V.int.inj z
        omega
      refine ⟨_, rfl, q, _, rfl, .inr (hq2), _, rfl, q, nI s1, rfl, (iV_eq s1 ▸ hq2), by rw [nI_len]; omega, fun ks nd m => ?_⟩
      have ls := len_set nd m
      rw [nI_len, nI_nodup] at ls
      refine ⟨rfl, _, rfl, ?_⟩
      refine ite2 (fun c => ?_) (fun c => ?_)
      · refine bad H2 k02 fun ir => ?_
        have z := ls.mpr ir.1
        rw [il, z] at c
        simp at c
      have nds : s1.Nodup := by
        refine ls.mp ?_
        have z : V.int ((iV s1).length : Int) = V.int (ks.length : Int) := by simpa using c
        have := V.int.inj z
        omega
      have l6 := nodup_le nds lts
      have lst := stp_len (ss := s1) (by omega)
      refine ⟨_, rfl, q, s1, rfl, hq2, by omega, by omega, fun L ws H3 k3 hL st => ?_⟩
      have lw := st.len
      have k03 := k02.trans k3
      have hr3 := sqT_same k3 hr2
      refine ⟨_, rfl, _, rfl, r, L, _, _, rfl, hr3, SqL.of hL, fun D hD => lc_it (walk_zipM (K := K) (a := r) (b := L) (xs := iV g1) (ys := ws) (by rw [ig, lw, lst, c2])) (fun i H' => Same H3 H' ∧ ∃ us : List Int, H' D = some (.lst (us.map V.int)) ∧ us.length = i ∧ ∀ (j p a b : Nat), j < i → g1[j]? = some p → (stp s1)[j]? = some (a, b) → us[j]? = some (rs rows p a b)) ⟨same_new (Same.refl _) hD, [], upd_same, rfl, fun j _ _ _ hj => absurd hj (Nat.not_lt_zero j)⟩ (fun i H' _ r' => ⟨sqT_same r'.1 hr3, SqL.of (r'.1 _ _ hL)⟩) ?_ (fun H4 q4 => ?_)⟩
      · rintro i x H4 H5 hi ⟨k4, us, h4, lu, ok⟩ ⟨T, x', y', rfl, nT, rfl, ex, ey⟩
        obtain ⟨p1, rfl, ep⟩ := iV_at ex
        obtain ⟨u, a, b, rfl, hu, en⟩ := st.at ey
        have la := lts a (stp_mem en).1
        have lb := lts b (stp_mem en).2
        have lp := ltg p1 (List.mem_of_getElem? ep)
        generalize hH5 : upd H4 T _ = H5
        obtain ⟨k5, hT⟩ := alloc hH5 nT
        clear hH5
        have k45 := k4.trans k5
        refine ⟨T, _, rfl, SqT.of hT, rfl, _, _, rfl, _, _, rfl, ⟨u, _, rfl, SqT.of (k45 _ _ hu), rfl, _, _, rfl, _, _, rfl, rfl, rfl, rfl, tyes ?_⟩⟩
        have li : i < g1.length := (List.getElem?_eq_some_iff.mp ep).1
        refine ⟨_, rfl, _, rfl, _, rfl, _, rfl, d, t, ss, rows, p1, a, b, rfl, dv.same (k03.trans k45), lp, fun ns hn => by rw [rw_.wdt hn]; exact ⟨la, lb⟩, ?_⟩
        refine ⟨_, k5 _ _ h4, size_lt' (by rw [List.length_map]; omega), same_put k45 hD, us ++ [rs rows p1 a b], by rw [upd_same, List.map_append]; rfl, by rw [List.length_append, lu]; rfl, fun j p a' b' hj ep' en' => ?_⟩
        by_cases z : j < i
        · rw [List.getElem?_append_left (by omega)]
          exact ok j p a' b' z ep' en'
        · have z : j = i := by omega
          subst z
          rw [ep] at ep'
          rw [en] at en'
          cases ep'
          cases en'
          rw [List.getElem?_append_right (by omega), lu, Nat.sub_self]
          rfl
      · obtain ⟨k4, us, h4, lu, ok⟩ := q4
        rw [ig] at lu ok
        have k04 := k03.trans k4
        have uat : ∀ (j p a b : Nat), g1[j]? = some p → (stp s1)[j]? = some (a, b) → us[j]? = some (rs rows p a b) := fun j p a b ep en => ok j p a b (List.getElem?_eq_some_iff.mp ep).1 ep en
        have umem : ∀ x ∈ us, ∃ (j p a b : Nat), g1[j]? = some p ∧ (stp s1)[j]? = some (a, b) ∧ x = rs rows p a b := fun x hx => by
          obtain ⟨j, hj⟩ := List.mem_iff_getElem?.mp hx
          have lj : j < us.length := (List.getElem?_eq_some_iff.mp hj).1
          have e1 : g1[j]? = some g1[j] := List.getElem?_eq_getElem (by omega)
          have e2 : (stp s1)[j]? = some (stp s1)[j] := List.getElem?_eq_getElem (by omega)
          have e3 := uat j _ _ _ e1 e2
          rw [hj] at e3
          exact ⟨j, _, _, _, e1, e2, Option.some.inj e3⟩
        refine ⟨_, rfl, D, us, rfl, SqL.of h4, by omega, fun mn hmn mnle => ?_⟩
        refine ⟨_, _, rfl, rfl, ?_⟩
        have base : IsRing rows (List.range rows.length) s1 g1 ↔ 1 ≤ mn ∧ ∃ x ∈ us, 2 ≤ x := by
          constructor
          · rintro ⟨_, _, _, _, all, j, p, a, b, ep, en, r2⟩
            obtain ⟨j', p', a', b', ep', en', e⟩ := umem mn hmn
            exact ⟨by rw [e]; exact (all j' p' a' b' ep' en').2, _, List.mem_of_getElem? (uat j p a b ep en), r2⟩
          · rintro ⟨m1, x, hx, x2⟩
            obtain ⟨j, p, a, b, ep, en, rfl⟩ := umem x hx
            exact ⟨nds, lts, by omega, c2, fun j' p' a' b' ep' en' => ⟨List.mem_range.mpr (ltg p' (List.mem_of_getElem? ep')), Int.le_trans m1 (mnle _ (List.mem_of_getElem? (uat j' p' a' b' ep' en')))⟩, j, p, a, b, ep, en, x2⟩
        refine ⟨_, rfl, ?_⟩
        cases em : decide (1 ≤ mn) with
        | false => exact iteF (bad H4 k04 fun ir => absurd (base.mp ir).1 (of_decide_eq_false em))
        | true =>
          refine iteT ⟨_, rfl, D, us, rfl, SqL.of h4, by omega, fun mx hmx mxge => ⟨_, _, rfl, rfl, k _ H4 k04 ?_⟩⟩
          rw [RgX.at, base, decide_eq_true_eq]
          constructor
          · intro z
            exact ⟨of_decide_eq_true em, mx, hmx, z⟩
          · rintro ⟨_, x, hx, x2⟩
            have := mxge x hx
            omega
end
end Pl
namespace Pl
open PySem PySem.Spec PyProof.Rows L2
theorem fzO.sq {K : PySem.W.Frag} {H : Hp} {q : Addr} {xs : List V} {u : HO} (f : fzO xs u) (h : H q = some u) : SqT K H q xs := by
  obtain ⟨o, _, rfl⟩ := f
  exact .inl (.inr ⟨o, h⟩)
theorem fzO.fz {H : Hp} {q : Addr} {xs : List V} {u : HO} (f : fzO xs u) (h : H q = some u) : Fz H q xs := by
  obtain ⟨o, e, rfl⟩ := f
  exact ⟨o, e, h⟩
theorem fzO.ne {H : Hp} {a b : Addr} {xs ys : List V} {u : HO} (f : fzO xs u) (h : H a = some u) (h2 : H b = some (.lst ys)) : a ≠ b := by
  obtain ⟨o, _, rfl⟩ := f
  exact ne_of h h2 (by intro z; cases z)
theorem Fz.same {H H' : Hp} {q : Addr} {xs : List V} (h : Fz H q xs) (k : Same H H') : Fz H' q xs := by
  obtain ⟨o, e, h⟩ := h
  exact ⟨o, e, k _ _ h⟩
theorem Fz.out {H : Hp} {q : Addr} {xs : List V} (h : Fz H q xs) : ∃ u, fzO xs u ∧ H q = some u := by
  obtain ⟨o, e, h⟩ := h
  exact ⟨_, ⟨o, e, rfl⟩, h⟩
def tyN : PyData → String
  | .none => "NoneType"
  | .bool _ => "bool"
  | .int _ => "int"
  | .str _ => "str"
  | .list _ => "list"
  | .tuple _ => "tuple"
  | _ => "dict"
theorem sqL_ty {K : PySem.W.Frag} {H : Hp} {p : Addr} {xs : List V} (h : SqL K H p xs) : TyX K H (.ref p) (.type "list") := by
  rcases h with (h | ⟨o, h⟩) | ⟨o, its, n, h, c, _⟩
  · exact .base (.lst h)
  · exact .base (.frz h)
  · exact .kList h c
theorem dp_ty {K : PySem.W.Frag} {H : Hp} {x : V} {d : PyData} (h : Dp K H x d) : TyX K H x (.type (tyN d)) := by
  cases h with
  | non => exact .base .non
  | bl b => exact .base (.bl b)
  | int i => exact .base (.int i)
  | str z => exact .base (.str z)
  | lst h _ => exact sqL_ty h
  | tup h _ => exact sqT_ty h
theorem dp_noTu {K : PySem.W.Frag} {H : Hp} {x : V} {d : PyData} (h : Dp K H x d) (n : ∀ ds, d ≠ .tuple ds) : NoTu K H x := by
  refine ⟨_, dp_ty h, ?_⟩
  cases h with
  | tup _ _ => exact absurd rfl (n _)
  | non => exact kit_ty (a := "NoneType") (by decide +kernel)
  | bl _ => exact kit_ty (a := "bool") (by decide +kernel)
  | int _ => exact kit_ty (a := "int") (by decide +kernel)
  | str _ => exact kit_ty (a := "str") (by decide +kernel)
  | lst _ _ => exact kit_ty (a := "list") (by decide +kernel)
theorem dp_kd {K : PySem.W.Frag} {H : Hp} {x : V} {d : PyData} (h : Dp K H x d) : Kd K H x := by
  cases h with
  | non => exact Kd.non
  | bl b => exact Kd.bl b
  | int i => exact Kd.int i
  | str z => exact Kd.str z
  | lst h _ => exact Kd.of (sqL_ty h) (kit_ty (by decide +kernel)) (kit_ty (by decide +kernel)) rfl
  | tup h _ => exact Kd.of (sqT_ty h) (kit_ty (by decide +kernel)) (kit_ty (by decide +kernel)) rfl
theorem dpAll_kd {K : PySem.W.Frag} {H : Hp} : ∀ {xs : List V} {ds : List PyData}, DpAll K H xs ds → ∀ y ∈ xs, Kd K H y
  | _, _, .nil, _, h => nomatch h
  | _, _, .cons h r, y, m => by
    rcases List.mem_cons.mp m with z | z
    · rw [z]; exact dp_kd h
    · exact dpAll_kd r y z
theorem dpAll_len {K : PySem.W.Frag} {H : Hp} : ∀ {xs : List V} {ds : List PyData}, DpAll K H xs ds → xs.length = ds.length
  | _, _, .nil => rfl
  | _, _, .cons _ r => congrArg (· + 1) (dpAll_len r)
theorem dp_tup_out {K : PySem.W.Frag} {H : Hp} {x : V} {ds : List PyData} (h : Dp K H x (.tuple ds)) : ∃ (q : Addr) (xs : List V), x = .ref q ∧ SqT K H q xs ∧ DpAll K H xs ds := by
  cases h with
  | tup h a => exact ⟨_, _, rfl, h, a⟩
theorem dpAll_two {K : PySem.W.Frag} {H : Hp} {xs : List V} {ds : List PyData} (h : DpAll K H xs ds) (l : xs.length = 2) : ∃ (y w : V) (d1 d2 : PyData), xs = [y, w] ∧ ds = [d1, d2] ∧ Dp K H y d1 ∧ Dp K H w d2 := by
  cases h with
  | nil => cases l
  | cons h1 r =>
    cases r with
    | nil => cases l
    | cons h2 r =>
      cases r with
      | nil => exact ⟨_, _, _, _, rfl, rfl, h1, h2⟩
      | cons _ _ => simp at l
/-- a tuple of numbers -/
def tupN (ss : List Nat) : PyData := .tuple ((nI ss).map PyData.int)
theorem dpAll_ints {K : PySem.W.Frag} {H : Hp} : ∀ {ns : List Int} {ds : List PyData}, DpAll K H (ns.map V.int) ds → ds = ns.map PyData.int
  | [], _, h => by cases h; rfl
  | n :: ns, _, h => by
    cases h with
    | cons h r =>
      cases h
      rw [dpAll_ints r]
      rfl
theorem ints_dpAll {K : PySem.W.Frag} {H : Hp} : ∀ {xs : List V} {ns : List Int}, DpAll K H xs (ns.map PyData.int) → xs = ns.map V.int
  | _, [], h => by cases h; rfl
  | _, n :: ns, h => by
    cases h with
    | cons h r =>
      cases h
      rw [ints_dpAll r]
      rfl
theorem ints_inj' : ∀ {a b : List Int}, a.map PyData.int = b.map PyData.int → a = b
  | [], [], _ => rfl
  | [], _ :: _, h => nomatch h
  | _ :: _, [], h => nomatch h
  | x :: a, y :: b, h => by
    rw [List.map_cons, List.map_cons] at h
    injection h with h1 h2
    injection h1 with h1
    rw [h1, ints_inj' h2]
theorem tupN_inj {a b : List Nat} (h : tupN a = tupN b) : a = b := by
  unfold tupN at h
  injection h with h
  exact nI_inj (ints_inj' h)
def RgD (rows : List (List Int)) (d : PyData) : Prop := ∃ ss g : List Nat, d = .tuple [tupN ss, tupN g] ∧ IsRing rows (List.range rows.length) ss g
theorem rgx_iff {K : PySem.W.Frag} {H H' : Hp} {rows : List (List Int)} {xs zs : List V} {e1 e2 : List PyData} (a1 : DpAll K H xs e1) (a2 : DpAll K H' zs e2) : RgX rows xs zs ↔ RgD rows (.tuple [.tuple e1, .tuple e2]) := by
  constructor
  · rintro ⟨ss, g, rfl, rfl, ir⟩
    rw [iV_eq] at a1 a2
    exact ⟨ss, g, by rw [dpAll_ints a1, dpAll_ints a2]; rfl, ir⟩
  · rintro ⟨ss, g, e, ir⟩
    injection e with e
    injection e with ea e
    injection e with eb _
    injection ea with ea
    injection eb with eb
    subst ea eb
    exact ⟨ss, g, by rw [ints_dpAll a1, iV_eq], by rw [ints_dpAll a2, iV_eq], ir⟩
mutual
/-- no tuple within is long -/
def lz : PyData → Bool
  | .tuple ds => decide (ds.length ≤ 100) && lzAll ds
  | .list ds => decide (ds.length ≤ 100) && lzAll ds
  | _ => true
def lzAll : List PyData → Bool
  | [] => true
  | d :: ds => lz d && lzAll ds
end
/-- a value with its data -/
structure Vl (K : PySem.W.Frag) (H : Hp) (x : V) (d : PyData) : Prop where
  dp : Dp K H x d
  lay : d.canLay0 = true
  dep : d.depth ≤ 60
  lz : lz d = true
theorem lz_tup {ds : List PyData} (h : lz (.tuple ds) = true) : ds.length ≤ 100 ∧ ∀ d ∈ ds, lz d = true := by
  rw [lz, Bool.and_eq_true, decide_eq_true_eq] at h
  refine ⟨h.1, ?_⟩
  have key : ∀ {es : List PyData}, lzAll es = true → ∀ d ∈ es, lz d = true := by
    intro es
    induction es with
    | nil => exact fun _ d m => nomatch m
    | cons e es ih =>
      intro h d m
      rw [lzAll, Bool.and_eq_true] at h
      rcases List.mem_cons.mp m with z | z
      · rw [z]; exact h.1
      · exact ih h.2 d z
  exact key h.2
theorem vl_two {K : PySem.W.Frag} {H : Hp} {x y w : V} {d1 d2 : PyData} (v : Vl K H x (.tuple [d1, d2])) (h1 : Dp K H y d1) (h2 : Dp K H w d2) : Vl K H y d1 ∧ Vl K H w d2 := by
  have l := v.lay
  have p := v.dep
  have z := (lz_tup v.lz).2
  simp only [PyData.canLay0, PyData.canLayAll0, Bool.and_eq_true] at l
  simp only [PyData.depth, PyData.depthAll] at p
  exact ⟨⟨h1, l.1, by omega, z _ (by simp)⟩, ⟨h2, l.2.1, by omega, z _ (by simp)⟩⟩
theorem Vl.same {K : PySem.W.Frag} {H H' : Hp} {x : V} {d : PyData} (v : Vl K H x d) (k : Same H H') : Vl K H' x d := ⟨dpSame k _ _ v.dp, v.lay, v.dep, v.lz⟩
theorem Vl.len {K : PySem.W.Frag} {H : Hp} {x : V} {ds : List PyData} (v : Vl K H x (.tuple ds)) : ds.length ≤ 100 := (lz_tup v.lz).1
theorem showRD {K : PySem.W.Frag} {CD C : Addr} {H : Hp} {Q : VK} {E : XK} {d t : Addr} {sd : List Addr} {rows : List (List Int)} {z : V} {dz : PyData} (v : Vl K H z dz) (dv : DvAt CD C H d t sd rows) (k : ∀ (b : Bool) (H' : Hp), Same H H' → (b = true ↔ RgD rows dz) → Q (.bl b) H') : spShowRF K CD C [.ref d, z] H Q E := by
  refine ⟨d, t, sd, rows, z, rfl, dv, ?_⟩
  have no : ∀ H', Same H H' → ¬ RgD rows dz → Q (.bl false) H' := fun H' s n => k false H' s ⟨fun z => (nomatch z), fun z => absurd z n⟩
  by_cases c : ∃ ds, dz = .tuple ds
  case neg => exact .inl ⟨dp_noTu v.dp fun ds e => c ⟨ds, e⟩, no H (Same.refl H) fun ⟨_, _, e, _⟩ => c ⟨_, e⟩⟩
  obtain ⟨ds, rfl⟩ := c
  obtain ⟨q, xs, rfl, sq, al⟩ := dp_tup_out v.dp
  by_cases l : xs.length = 2
  case neg =>
    refine .inr (.inl ⟨q, xs, rfl, sq, l, no H (Same.refl H) fun ⟨_, _, e, _⟩ => l ?_⟩)
    rw [dpAll_len al]
    injection e with e
    rw [e]
    rfl
  obtain ⟨y, w, d1, d2, rfl, rfl, h1, h2⟩ := dpAll_two al l
  obtain ⟨v1, v2⟩ := vl_two v h1 h2
  refine .inr (.inr ⟨q, y, w, rfl, sq, ?_⟩)
  by_cases c1 : ∃ ds, d1 = .tuple ds
  case neg =>
    refine .inl ⟨dp_noTu h1 fun ds e => c1 ⟨ds, e⟩, no H (Same.refl H) fun ⟨ss, _, e, _⟩ => ?_⟩
    injection e with e
    injection e with e _
    exact c1 ⟨_, e⟩
  obtain ⟨e1, rfl⟩ := c1
  obtain ⟨r, ys, rfl, sr, al1⟩ := dp_tup_out h1
  refine .inr ⟨r, ys, rfl, sr, by rw [dpAll_len al1]; exact v1.len, dpAll_kd al1, ?_⟩
  by_cases c2 : ∃ ds, d2 = .tuple ds
  case neg =>
    refine .inl ⟨dp_noTu h2 fun ds e => c2 ⟨ds, e⟩, fun H' s => no H' s fun ⟨_, g, e, _⟩ => ?_⟩
    injection e with e
    injection e with _ e
    injection e with e _
    exact c2 ⟨_, e⟩
  obtain ⟨e2, rfl⟩ := c2
  obtain ⟨r2, zs, rfl, sr2, al2⟩ := dp_tup_out h2
  exact .inr ⟨r2, zs, rfl, sr2, by rw [dpAll_len al2]; exact v2.len, dpAll_kd al2, fun b H' s hb => k b H' s (hb.trans (rgx_iff al1 al2))⟩
/-- a value that may be asked whether it is a ring: the states of a pair of tuples may be counted -/
structure One (K : PySem.W.Frag) (H : Hp) (z : V) (d : PyData) : Prop where
  vl : Vl K H z d
  rp : (∀ ds d2, d ≠ .tuple [.tuple ds, d2]) ∨ ∃ (q r : Addr) (v : V) (xs : List V) (ds : List PyData) (d2 : PyData), z = .ref q ∧ d = .tuple [.tuple ds, d2] ∧ SqT K H q [.ref r, v] ∧ Fz H r xs ∧ DpAll K H xs ds ∧ Dp K H v d2
theorem One.same {K : PySem.W.Frag} {H H' : Hp} {z : V} {d : PyData} (o : One K H z d) (k : Same H H') : One K H' z d := by
  refine ⟨o.vl.same k, ?_⟩
  rcases o.rp with h | ⟨q, r, v, xs, ds, d2, e1, e2, s, f, a, p⟩
  · exact .inl h
  · exact .inr ⟨q, r, v, xs, ds, d2, e1, e2, sqT_same k s, f.same k, dpSameAll k _ _ a, dpSame k _ _ p⟩
theorem One.out {K : PySem.W.Frag} {H : Hp} {z : V} {ds : List PyData} (o : One K H z (.tuple ds)) : ∃ (q : Addr) (xs : List V), z = .ref q ∧ SqT K H q xs ∧ DpAll K H xs ds ∧ ∀ (y w : V) (e1 : List PyData) (d2 : PyData), xs = [y, w] → ds = [.tuple e1, d2] → ∃ (r : Addr) (ys : List V), y = .ref r ∧ Fz H r ys ∧ DpAll K H ys e1 := by
  rcases o.rp with h | ⟨q, r, v, xs, es, d2, e1, e2, s, f, a, p⟩
  · obtain ⟨q, xs, e, s, a⟩ := dp_tup_out o.vl.dp
    exact ⟨q, xs, e, s, a, fun y w e1 d2 _ e2 => absurd (by rw [e2]) (h e1 d2)⟩
  · injection e2 with e2
    subst e2
    refine ⟨q, _, e1, s, .cons (.tup f.sq a) (.cons p .nil), fun y w e1 d2' ex ed => ?_⟩
    injection ex with ex _
    injection ed with ed _
    injection ed with ed
    subst ex ed
    exact ⟨r, xs, rfl, f, a⟩
def Num (n : Nat) (d : PyData) : Prop := ∃ ss : List Nat, d = tupN ss ∧ ∀ s ∈ ss, s < n
theorem num_iff {K : PySem.W.Frag} {H : Hp} {n : Nat} {xs : List V} {ds : List PyData} (a : DpAll K H xs ds) : xs.all (isTo ((n : Int) - 1)) = true ↔ Num n (.tuple ds) := by
  rw [nums_iV]
  constructor
  · rintro ⟨ss, rfl, lt⟩
    rw [iV_eq] at a
    exact ⟨ss, by rw [dpAll_ints a]; rfl, lt⟩
  · rintro ⟨ss, e, lt⟩
    unfold tupN at e
    injection e with e
    subst e
    exact ⟨ss, by rw [ints_dpAll a, iV_eq], lt⟩
theorem rg_nums {rows : List (List Int)} {d1 d2 : PyData} (h : RgD rows (.tuple [d1, d2])) : Num (wdt rows) d1 ∧ Num rows.length d2 := by
  obtain ⟨ss, g, e, ir⟩ := h
  injection e with e
  injection e with e1 e
  injection e with e2 _
  refine ⟨⟨ss, e1, ir.2.1⟩, g, e2, fun p hp => ?_⟩
  obtain ⟨_, _, l1, lg, all, _⟩ := ir
  obtain ⟨j, hj⟩ := List.mem_iff_getElem?.mp hp
  have lj : j < (stp ss).length := by
    rw [stp_len l1, ← lg]
    exact (List.getElem?_eq_some_iff.mp hj).1
  exact List.mem_range.mp (all j p (stp ss)[j].1 (stp ss)[j].2 hj (List.getElem?_eq_getElem lj)).1
theorem rg_at {rows : List (List Int)} {ss g : List Nat} : RgD rows (.tuple [tupN ss, tupN g]) ↔ IsRing rows (List.range rows.length) ss g := by
  constructor
  · rintro ⟨ss', g', e, ir⟩
    injection e with e
    injection e with e1 e
    injection e with e2 _
    rw [tupN_inj e1, tupN_inj e2]
    exact ir
  · exact fun ir => ⟨ss, g, rfl, ir⟩
theorem countN {s : Nat} : ∀ {ss : List Nat}, (iV ss).countP (fun z => eqV z (.int (s : Nat))) = ss.count s
  | [] => rfl
  | t :: ss => by
    show List.countP _ (V.int ((t : Nat) : Int) :: iV ss) = _
    rw [List.countP_cons, List.count_cons, countN]
    congr 1
    have e : eqV (V.int ((t : Nat) : Int)) (.int ((s : Nat) : Int)) = (t == s) := by
      show decide (((t : Nat) : Int) = ((s : Nat) : Int)) = (t == s)
      rw [Bool.eq_iff_iff, decide_eq_true_eq, beq_iff_eq]
      omega
    rw [e]
theorem caF {K : PySem.W.Frag} {a b : Addr} {xs ys : List V} {u1 u2 : HO} {H : Hp} {Q : VK} (h1 : H a = some u1) (f1 : fzO xs u1) (h2 : H b = some u2) (f2 : fzO ys u2) (l : xs.length + ys.length ≤ 1000) (k : ∀ (p : Addr) (H' : Hp) (u : HO), Same H H' → H' p = some u → fzO (xs ++ ys) u → Q (.ref p) H') : rCatF K (.ref a) (.ref b) H Q :=
  ⟨a, b, xs, ys, rfl, rfl, f1.sq h1, f2.sq h2, Nat.le_of_lt (size_lt' (by omega)), fun z => k b H u2 (Same.refl H) h2 (by rw [z]; exact f2), fun _ z => k a H u1 (Same.refl H) h1 (by rw [z, List.append_nil]; exact f1), fun _ _ p u np f => k p _ u (same_new (Same.refl H) np) upd_same f⟩
theorem slF {K : PySem.W.Frag} {a : Addr} {xs : List V} {u : HO} {lo hi : Option Int} {H : Hp} {Q : VK} (h : H a = some u) (f : fzO xs u) (k : ∀ (p : Addr) (H' : Hp) (u : HO), Same H H' → H' p = some u → fzO (cutV xs lo hi) u → Q (.ref p) H') : rSlF K (.ref a) lo hi H Q := by
  refine ⟨a, xs, rfl, f.sq h, fun w => k a H u (Same.refl H) h ?_, fun _ p u np f => k p _ u (same_new (Same.refl H) np) upd_same f⟩
  have e : cutV xs lo hi = xs := by
    unfold cutV
    rw [w.1, w.2, List.drop_zero, Nat.sub_zero, List.take_length]
  rw [e]
  exact f
theorem iV_app (a b : List Nat) : iV (a ++ b) = iV a ++ iV b := by
  unfold iV
  rw [List.map_append]
theorem Fz.kp {H H' : Hp} {q a : Addr} {xs : List V} (h : Fz H q xs) (s : Src H a) (k : Kp a H H') : Fz H' q xs := by
  obtain ⟨o, e, h⟩ := h
  refine ⟨o, e, k _ _ (fun z => ?_) h⟩
  obtain ⟨x, y, w, e2, _⟩ := s
  rw [z, e2] at h
  cases h
/-- all but what is at S is kept -/
def Kb (S : Addr → Prop) (H H' : Hp) : Prop := ∀ b o, ¬ S b → H b = some o → H' b = some o
theorem Kb.refl {S : Addr → Prop} {H : Hp} : Kb S H H := fun _ _ _ h => h
theorem Kb.trans {S : Addr → Prop} {H H1 H2 : Hp} (a : Kb S H H1) (b : Kb S H1 H2) : Kb S H H2 := fun c o n h => b c o n (a c o n h)
theorem Kb.of {S : Addr → Prop} {H H' : Hp} (k : Same H H') : Kb S H H' := fun b o _ h => k b o h
theorem Kb.kp {S : Addr → Prop} {a : Addr} {H H' : Hp} (h : S a) (k : Kp a H H') : Kb S H H' := fun b o n e => k b o (fun z => n (by rw [z]; exact h)) e
theorem Kb.put {S : Addr → Prop} {F : Addr} {H : Hp} {o : HO} (h : S F) : Kb S H (L2.upd H F o) := fun b u n e => by
  rw [upd_ne (fun z => n (by rw [z]; exact h))]
  exact e
def LS (S : Addr → Prop) (H : Hp) : Prop := ∀ b, S b → ∃ xs, H b = some (.lst xs)
theorem LS.nN {S : Addr → Prop} {H : Hp} {p : Addr} (l : LS S H) (h : H p = none) : ¬ S p := fun s => by
  obtain ⟨xs, e⟩ := l p s
  rw [e] at h
  cases h
theorem LS.nT {S : Addr → Prop} {H : Hp} {p : Addr} {ys : List V} (l : LS S H) (h : H p = some (.tup ys)) : ¬ S p := fun s => by
  obtain ⟨xs, e⟩ := l p s
  rw [e] at h
  cases h
theorem LS.nZ {S : Addr → Prop} {H : Hp} {p : Addr} {ys : List V} (l : LS S H) (h : Fz H p ys) : ¬ S p := fun s => by
  obtain ⟨xs, e⟩ := l p s
  obtain ⟨o, _, h⟩ := h
  rw [e] at h
  cases h
theorem LS.same {S : Addr → Prop} {H H' : Hp} (l : LS S H) (k : Same H H') : LS S H' := fun b s => by
  obtain ⟨xs, e⟩ := l b s
  exact ⟨xs, k _ _ e⟩
theorem iV_drop (ss : List Nat) (n : Nat) : (iV ss).drop n = iV (ss.drop n) := by
  unfold iV
  rw [List.map_drop]
theorem iV_take (ss : List Nat) (n : Nat) : (iV ss).take n = iV (ss.take n) := by
  unfold iV
  rw [List.map_take]
theorem iV_rev (ss : List Nat) : (iV ss).reverse = iV ss.reverse := by
  unfold iV
  rw [List.map_reverse]
/-- t[turn:] + t[:turn] -/
theorem turnF {K : PySem.W.Frag} {σ : L2.St} {H : Hp} {Q : VK} {i j tt : Nat} {q : Addr} {ss : List Nat} (h1 : σ[i]? = some (some (.ref q))) (h2 : σ[j]? = some (some (.int (tt : Nat)))) (fz : Fz H q (iV ss)) (l : tt ≤ ss.length) (l7 : ss.length ≤ 100) (k : ∀ (p : Addr) (H' : Hp), Same H H' → Fz H' p (iV (ss.drop tt ++ ss.take tt)) → Q (.ref p) H') :
    tOp (rCatF K) (tSl (rSlF K) (tVar i) (tPart (tVar j)) tNoPart) (tSl (rSlF K) (tVar i) tNoPart (tPart (tVar j))) σ H Q := by
  obtain ⟨u, f, h⟩ := fz.out
  have il := iV_len ss
  refine ⟨_, h1, _, h2, _, rfl, ?_⟩
  unfold tNoPart
  refine slF (lo := some ((tt : Nat) : Int)) (hi := none) h f fun p1 H1 u1 k1 e1 f1 => ?_
  refine ⟨_, h1, _, h2, _, rfl, ?_⟩
  refine slF (lo := none) (hi := some ((tt : Nat) : Int)) (k1 _ _ h) f fun p2 H2 u2 k2 e2 f2 => ?_
  rw [cut_drop (n := tt) (by omega), iV_drop] at f1
  rw [show cutV (iV ss) none (some ((tt : Nat) : Int)) = (iV ss).take tt from cut_take (n := tt) (by omega), iV_take] at f2
  refine caF (k2 _ _ e1) f1 e2 f2 (by rw [iV_len, iV_len, List.length_drop, List.length_take]; omega) fun p3 H3 u3 k3 e3 f3 => ?_
  rw [← iV_app] at f3
  exact k p3 H3 (k1.trans (k2.trans k3)) (f3.fz e3)
theorem notWhole {n : Nat} (h : 2 ≤ n) : ¬ (HT.sIx n 0 none = 0 ∧ HT.sIx n n (some (1 : Int)) = n) := by
  rw [show (1 : Int) = ((1 : Nat) : Int) from rfl, HT.sIx_nat]
  omega
theorem notWhole' {n : Nat} (h : 2 ≤ n) : ¬ (HT.sIx n 0 (some (1 : Int)) = 0 ∧ HT.sIx n n none = n) := by
  rw [show (1 : Int) = ((1 : Nat) : Int) from rfl, HT.sIx_nat]
  omega
/-- t[:1] -/
theorem headS {K : PySem.W.Frag} {σ : L2.St} {H : Hp} {Q : VK} {i : Nat} {q : Addr} {xs : List V} (h1 : σ[i]? = some (some (.ref q))) (sq : SqT K H q xs) (l : 2 ≤ xs.length) (k : ∀ (p : Addr) (H' : Hp), Same H H' → Fz H' p (xs.take 1) → Q (.ref p) H') : tSl (rSlF K) (tVar i) tNoPart (tPart (tC (.int 1))) σ H Q := by
  refine ⟨_, h1, 1, rfl, q, xs, rfl, sq, fun z => absurd z (notWhole l), fun _ p u np f => ?_⟩
  rw [show cutV xs none (some (1 : Int)) = xs.take 1 from cut_take (n := 1) (by omega)] at f
  exact k p _ (same_new (Same.refl H) np) (f.fz upd_same)
/-- t[1:] -/
theorem tailS {K : PySem.W.Frag} {σ : L2.St} {H : Hp} {Q : VK} {i : Nat} {q : Addr} {xs : List V} (h1 : σ[i]? = some (some (.ref q))) (sq : SqT K H q xs) (l : 2 ≤ xs.length) (k : ∀ (p : Addr) (H' : Hp), Same H H' → Fz H' p (xs.drop 1) → Q (.ref p) H') : tSl (rSlF K) (tVar i) (tPart (tC (.int 1))) tNoPart σ H Q := by
  refine ⟨_, h1, 1, rfl, ?_⟩
  refine ⟨q, xs, rfl, sq, fun z => absurd z (notWhole' l), fun _ p u np f => ?_⟩
  rw [show cutV xs (some (1 : Int)) none = xs.drop 1 from cut_drop (n := 1) (by omega)] at f
  exact k p _ (same_new (Same.refl H) np) (f.fz upd_same)
/-- t + t[:1] -/
theorem headF {K : PySem.W.Frag} {σ : L2.St} {H : Hp} {Q : VK} {i : Nat} {q : Addr} {xs : List V} (h1 : σ[i]? = some (some (.ref q))) (sq : SqT K H q xs) (l : 2 ≤ xs.length) (l7 : xs.length ≤ 100) (k : ∀ (p : Addr) (H' : Hp), Same H H' → Fz H' p (xs ++ xs.take 1) → Q (.ref p) H') : tOp (rCatF K) (tVar i) (tSl (rSlF K) (tVar i) tNoPart (tPart (tC (.int 1)))) σ H Q := by
  refine ⟨_, h1, headS h1 sq l fun p H1 k1 fz => ?_⟩
  have ne : xs ≠ [] := fun z => by rw [z] at l; simp at l
  have lt : (xs.take 1).length = 1 := by rw [List.length_take]; omega
  refine ⟨q, p, xs, _, rfl, rfl, sqT_same k1 sq, fz.sq, Nat.le_of_lt (size_lt' (by omega)), fun z => absurd z ne, fun _ z => absurd z (fun z => by rw [z] at lt; cases lt), fun _ _ p2 u np f => k p2 _ (k1.trans (same_new (Same.refl _) np)) (f.fz upd_same)⟩
/-- t[::-1] -/
theorem revF {K : PySem.W.Frag} {σ : L2.St} {H : Hp} {Q : VK} {i : Nat} {q : Addr} {xs : List V} (h1 : σ[i]? = some (some (.ref q))) (sq : SqT K H q xs) (k : ∀ (p : Addr) (H' : Hp), Same H H' → Fz H' p xs.reverse → Q (.ref p) H') : tRevF K (tVar i) σ H Q :=
  ⟨_, h1, q, xs, rfl, sq, fun p u np f => k p _ (same_new (Same.refl H) np) (f.fz upd_same)⟩
theorem Fz.put {q : Addr} {H : Hp} {l : Addr} {ys zs : List V} {o : HO} (h : Fz H q zs) (hl : H l = some (.lst ys)) : Fz (L2.upd H l o) q zs := by
  obtain ⟨o', e, h⟩ := h
  exact ⟨o', e, by rw [upd_ne (ne_of h hl (by intro z; cases z))]; exact h⟩
theorem oneFlat {K : PySem.W.Frag} {H : Hp} {z : V} {d : PyData} (v : Vl K H z d) (l : d.depth ≤ 1) : One K H z d := ⟨v, .inl fun ds d2 e => by
  subst e
  simp only [PyData.depth, PyData.depthAll] at l
  omega⟩
theorem LS.nK {S : Addr → Prop} {H : Hp} {p : Addr} {ys : List (Key × V)} (l : LS S H) (h : H p = some (.dK ys)) : ¬ S p := fun s => by
  obtain ⟨xs, e⟩ := l p s
  rw [e] at h
  cases h
theorem lsA {a : Addr} {H : Hp} (s : Src H a) : LS (fun b => b = a) H := fun b z => by
  obtain ⟨x, y, w, e, _⟩ := s
  exact ⟨_, by rw [show b = a from z]; exact e⟩
end Pl
namespace Pl
open PySem PySem.Spec PyProof.Rows L2
/-- exchanged, of a ring or of what is none -/
def spExchD (K : PySem.W.Frag) (CD C CN : Addr) : Sp := fun vs H Q E => ∃ (d t : Addr) (sd : List Addr) (rows : List (List Int)) (x : V), vs = [.ref d, x] ∧ DvAt CD C H d t sd rows ∧
  ((NoTu K H x ∧ E (.ref CN) none H) ∨ ∃ Dx, Vl K H x Dx ∧
    (∀ ss g, Dx = .tuple [tupN ss, tupN g] → IsRing rows (List.range rows.length) ss g → ∀ (d' t' : Addr) (sd' : List Addr) (H' : Hp), Same H H' → DvAt CD C H' d' t' sd' (exs rows (g.zip (stp ss))) → Q (.ref d') H') ∧
    (¬ RgD rows Dx → ∀ H', Same H H' → E (.ref CN) none H'))
section
variable {P : Program} {w : World} {K : PySem.W.Frag} {mg : Str → Option Value} {base : Heap} {CShare CDivision CNoPerson CNoRing : Addr}
abbrev st_exchanged : Stmt := top 36
theorem sc_exchanged : FnScope ["division", "ring", "states", "people", "rows", "person", "state", "second", "shares", "share", "row"] ["division", "ring"] (defScope st_exchanged) := ⟨rfl, rfl, rfl, by decide +kernel, rfl, by decide +kernel, by decide +kernel⟩
theorem ok_exchD (e_NoRing : ExK K mg "NoRing" CNoRing) (B : Bn mg) (SShare : ShK K mg CShare) (SDivision : DvK K mg CDivision) (p_amounts : PCal P w K mg base 2 CShare "amounts" ["self"] (getSp CShare "by_state")) (p_shares : PCal P w K mg base 2 CDivision "shares" ["self"] (getSp CDivision "by_person")) (m_initShare : MCal P w K mg base 4 CShare "__init__" ["self", "amounts"] (spInit CShare)) (m_initDivision : MCalR P w K mg base CX0 5 CDivision "__init__" (spStar (spDvInit CDivision CShare))) (c_shows_ring : Cal P w K mg base 7 "shows_ring" ["division", "thing"] (spShowRF K CDivision CShare)) (c_steps_around : Cal P w K mg base 1 "steps_around" ["states"] (spStepsF K)) (D : Df K mg "exchanged" st_exchanged ["division", "ring"]) : CalX P w K mg base 8 "exchanged" ["division", "ring"] (spExchD K CDivision CShare CNoRing) := by
  refine D.calX sc_exchanged (fun vs H Q E h => ?_) (fun f cdv A out s H vs Q E hr h => ?_)
  · obtain ⟨d, t, sd, rows, x, rfl, _⟩ := h
    rfl
  obtain ⟨d, t, sd, rows, x, rfl, dv, hx⟩ := h
  refine ⟨_, (pss_cons (ps_if (pt_not (pt_val (pe_fn c_shows_ring (hr.mono (by decide)) (pa_cons (pv 0) (pa_cons (pv 1) pa_nil))))) (pss_one (ps_err e_NoRing (takes_of rfl rfl rfl rfl))) pss_nil)
   (pss_cons (ps_asg (pv 1) (pg_tup rfl (pgs_cons (pg_name (i := 2) sc_exchanged.nd rfl (.inl rfl)) (pgs_cons (pg_name (i := 3) sc_exchanged.nd rfl (.inl rfl)) pgs_nil))))
   (pss_cons (ps_setLc (i := 4) (own := [("share", 9)]) (g := gName 9) rfl sc_exchanged.nd rfl rfl (sw_true rfl rfl rfl (by decide +kernel)) (pi_tup (pe_pr p_shares SDivision.cl (hr.mono (by decide)) (pv 0))) (blkOk_by (N := ["division", "ring", "states", "people", "rows", "person", "state", "second", "shares", "share", "row"]) (sc := defScope st_exchanged) (by decide +kernel)) (fun _ _ _ _ _ => (pg_name (i := 9) sc_exchanged.nd rfl (.inl rfl))) (fun _ _ _ _ _ => pts_nil) (fun _ _ _ _ _ => (pe_callTy (show CallR _ (.type "list") (rListOf K) from call_list_of) (by rfl) B.n_list (by decide +kernel) (pa_cons (pe_pr p_amounts SShare.cl (hr.mono (by decide)) (pv 9)) pa_nil))))
   (pss_cons (ps_for (passes_of rfl) rfl (pi_zipM (by rfl) B.n_zip (pa_cons (pv 3) (pa_cons (pe_fn c_steps_around (hr.mono (by decide)) (pa_cons (pv 2) pa_nil)) pa_nil))) (pg_tup rfl (pgs_cons (pg_name (i := 5) sc_exchanged.nd rfl (.inl rfl)) (pgs_cons (pg_tup rfl (pgs_cons (pg_name (i := 6) sc_exchanged.nd rfl (.inl rfl)) (pgs_cons (pg_name (i := 7) sc_exchanged.nd rfl (.inl rfl)) pgs_nil))) pgs_nil)))
   (pss_cons (ps_augS (pe_ix ix_list (pv 4) (pv 5) (fun _ _ => rfl)) (pv 6) get_list pe_int ip_add set_list)
   (pss_one (ps_augS (pe_ix ix_list (pv 4) (pv 5) (fun _ _ => rfl)) (pv 7) get_list pe_int ip_sub set_list))))
   (pss_cons (ps_setLc (i := 8) (own := [("row", 10)]) (g := gName 10) rfl sc_exchanged.nd rfl rfl (sw_true rfl rfl rfl (by decide +kernel)) (pi_list (pv 4)) (blkOk_by (N := ["division", "ring", "states", "people", "rows", "person", "state", "second", "shares", "share", "row"]) (sc := defScope st_exchanged) (by decide +kernel)) (fun _ _ _ _ _ => (pg_name (i := 10) sc_exchanged.nd rfl (.inl rfl))) (fun _ _ _ _ _ => pts_nil) (fun _ _ _ _ _ => (pe_mk m_initShare SShare.mks SShare.kc SShare.mgC (hr.mono (by decide)) (pa_cons (pe_callTy (show CallR _ (.type "tuple") (rTupleOf K) from call_tuple_of) (by rfl) B.n_tuple (by decide +kernel) (pa_cons (pv 10) pa_nil)) pa_nil))))
   (pss_one (ps_ret (pe_mkS m_initDivision pass0 SDivision.mks SDivision.kc SDivision.mgC (hr.mono (by decide)) (pv 8))))))))), ?_⟩
  obtain ⟨⟨dx, hd⟩, ht, al, rw_⟩ := id dv
  refine ⟨_, rfl, _, rfl, ?_⟩
  try dsimp only [tNil]
  rcases hx with ⟨nt, kN⟩ | ⟨Dx, vl, k, kN⟩
  · exact ⟨d, t, sd, rows, x, rfl, dv, .inl ⟨nt, false, rfl, iteT kN⟩⟩
  refine showRD vl dv fun b H1 k1 hb => ?_
  cases b with
  | false => exact ⟨false, rfl, iteT (kN (fun z => nomatch hb.mpr z) H1 k1)⟩
  | true =>
  obtain ⟨ss, g, rfl, ir⟩ := hb.mp rfl
  have k := k ss g rfl ir
  obtain ⟨T, xs0, rfl, sT, al0⟩ := dp_tup_out vl.dp
  obtain ⟨y0, w0, e01, e02, rfl, ee, d1, d2⟩ := dpAll_two al0 (by rw [dpAll_len al0]; rfl)
  injection ee with ee1 ee
  injection ee with ee2 _
  subst ee1 ee2
  obtain ⟨q, ys0, rfl, hq, aq⟩ := dp_tup_out d1
  obtain rfl := ints_dpAll aq
  obtain ⟨r, zs0, rfl, hr', ar⟩ := dp_tup_out d2
  obtain rfl := ints_dpAll ar
  rw [← iV_eq] at hq hr'
  clear d1 d2 aq ar al0 vl
  have lp := ir.ppl
  obtain ⟨nd, lt, l1, lg, all, _⟩ := id ir
  have l6 := nodup_le nd lt
  obtain ⟨w2, w6⟩ := rw_.w26
  have p4 := rw_.2.1
  refine ⟨true, rfl, iteF ?_⟩
  refine ⟨_, rfl, T, _, rfl, sqT_same k1 sT, rfl, _, _, rfl, _, _, rfl, rfl, ?_⟩
  have dv1 := dv.same k1
  have ln := al.len
  obtain ⟨⟨dx1, hd1⟩, ht1, al1, _⟩ := id dv1
  refine ⟨_, rfl, d, dx1, _, rfl, hd1, d, dx1, _, _, rfl, hd1, dvF_get t, t, rfl, ⟨_, SqT.of ht1⟩, fun L hL => lc_tup (K := K) (a := t) (xs := sd.map V.ref) (fun i H' => Same H1 H' ∧ ∃ ts : List Addr, H' L = some (.lst (ts.map V.ref)) ∧ LsAll H' ts (rows.take i) ∧ ts.Nodup ∧ ∀ u ∈ ts, u ≠ L ∧ H1 u = none) ⟨same_new (Same.refl _) hL, [], upd_same, ⟨by simp, fun j u ns z => by simp at z⟩, List.nodup_nil, fun u hu => (nomatch hu)⟩ (fun i H' _ z => SqT.of (z.1 _ _ ht1)) (fun i x H' hx z => ⟨rfl, tyes ?_⟩) (fun H2 z => ?_)⟩
  · obtain ⟨k2, ts, h2, ls, nt, fr_⟩ := z
    obtain ⟨s1, rfl, es⟩ := refAt hx
    obtain ⟨t1, ns, en, sh⟩ := al1.get es
    obtain ⟨⟨d1, a1⟩, a2, _⟩ := id sh
    refine ⟨_, rfl, s1, d1, _, rfl, k2 _ _ a1, s1, d1, _, _, rfl, k2 _ _ a1, shF_get t1, t1, _, rfl, .inr (SqT.of (k2 _ _ a2)), fun l hl => ?_⟩
    have lL : l ≠ L := fun e => by rw [e, h2] at hl; cases hl
    have nl : l ∉ ts := fun m => by
      obtain ⟨j, hj⟩ := List.mem_iff_getElem?.mp m
      have lj : j < (rows.take i).length := by rw [← ls.1]; exact (List.getElem?_eq_some_iff.mp hj).1
      rw [ls.2 j l _ hj (List.getElem?_eq_getElem lj)] at hl
      cases hl
    have hl1 : H1 l = none := by
      cases e : H1 l with
      | none => rfl
      | some o => rw [k2 _ _ e] at hl; cases hl
    generalize hH3 : upd H' l _ = H3
    obtain ⟨k3, e3⟩ := alloc hH3 hl
    clear hH3
    have h3 := k3 _ _ h2
    have li := (List.getElem?_eq_some_iff.mp en).1
    have lt_ := ls.1
    rw [List.length_take] at lt_
    have ne : ∀ u ∈ ts ++ [l], u ≠ L ∧ H1 u = none := fun u hu => by
      rcases List.mem_append.mp hu with m | m
      · exact fr_ u m
      · rw [List.mem_singleton.mp m]; exact ⟨lL, hl1⟩
    refine ⟨_, h3, size_lt' (by rw [List.length_map]; omega), same_put (k2.trans k3) hL, ts ++ [l], by rw [upd_same, List.map_append]; rfl, ((ls.same k3).snoc en e3).put fun u hu => (ne u hu).1, ?_, ne⟩
    rw [List.nodup_append]
    refine ⟨nt, by simp, fun a ha b hb e => nl ?_⟩
    rw [← List.mem_singleton.mp hb, ← e]
    exact ha
  obtain ⟨k2, ts, h2, ls, nt, fr_⟩ := z
  rw [List.length_map, ln, List.take_length] at ls
  have k12 := k1.trans k2
  refine ⟨_, rfl, _, rfl, q, ss, rfl, sqT_same k12 hq, l1, by omega, fun Ls ws H3 k3 hLs st => ?_⟩
  have lw := st.len
  have lst := stp_len l1
  have k13 := k2.trans k3
  have nLs : ∀ u ∈ ts, u ≠ Ls := fun u hu e => by
    obtain ⟨j, hj⟩ := List.mem_iff_getElem?.mp hu
    have lj : j < rows.length := by rw [← ls.1]; exact (List.getElem?_eq_some_iff.mp hj).1
    have z := k3 _ _ (ls.2 j u _ hj (List.getElem?_eq_getElem lj))
    rw [e, hLs] at z
    have z : ws = rows[j].map V.int := by injection z with z; injection z
    have l0 : 0 < ws.length := by omega
    obtain ⟨u', a, b, e1, _⟩ := st.at (List.getElem?_eq_getElem l0)
    have z2 : (rows[j].map V.int)[0]? = some (.ref u') := by rw [← z, List.getElem?_eq_getElem l0, e1]
    rw [List.getElem?_map] at z2
    cases e2 : rows[j][0]? with
    | none => rw [e2] at z2; cases z2
    | some y => rw [e2] at z2; cases z2
  have hrH : ∀ {H' : Hp}, Same H1 H' → SqT K H' r (iV g) := fun kk => sqT_same kk (sqT_same k1 hr')
  refine ⟨r, Ls, _, _, rfl, hrH k13, SqL.of hLs, for_it (walk_zipM (K := K) (a := r) (b := Ls) (xs := iV g) (ys := ws) (by rw [iV_len, lw, lst, lg])) (fun i σ H' => ∃ v5 v6 v7 : Option V, σ = [some (.ref d), some (.ref T), some (.ref q), some (.ref r), some (.ref L), v5, v6, v7, none, none, none] ∧ Same H1 H' ∧ H' L = some (.lst (ts.map V.ref)) ∧ LsAll H' ts (exs rows ((g.zip (stp ss)).take i)) ∧ H' Ls = some (.lst ws) ∧ StL H' ws (stp ss)) ⟨none, none, none, rfl, k13, k3 _ _ h2, ls.same k3, hLs, st⟩ (fun i σ H' _ ⟨_, _, _, _, z, _, _, hw, _⟩ => ⟨hrH z, SqL.of hw⟩) ?_ ?_⟩
  · rintro i x σ H4 H5 hi ⟨v5, v6, v7, rfl, k4, h4, ls4, hw4, st4⟩ ⟨T', x', y', rfl, nT, rfl, ex, ey⟩
    obtain ⟨p1, rfl, ep⟩ := iV_at ex
    obtain ⟨u, a, b, rfl, hu, en⟩ := st4.at ey
    have la := lt a (stp_mem en).1
    have lb := lt b (stp_mem en).2
    have lp1 := lp p1 (List.mem_of_getElem? ep)
    generalize hH5 : upd H4 T' _ = H5
    obtain ⟨k5, hT'⟩ := alloc hH5 nT
    clear hH5
    have eR := exs_snoc rows ((g.zip (stp ss)).take i) (p1, a, b)
    have eT : (g.zip (stp ss)).take (i + 1) = (g.zip (stp ss)).take i ++ [(p1, a, b)] := by
      have e9 : (g.zip (stp ss))[i]? = some (p1, a, b) := List.getElem?_zip_eq_some.mpr ⟨ep, en⟩
      rw [List.take_add_one, e9]
      rfl
    rw [← eT] at eR
    have lR := exs_len ((g.zip (stp ss)).take i) rows
    have sR := exs_shp ((g.zip (stp ss)).take i) rw_.shp
    generalize hR : exs rows ((g.zip (stp ss)).take i) = R at *
    refine ⟨T', _, rfl, SqT.of hT', rfl, _, _, rfl, _, _, rfl, ⟨u, _, rfl, SqT.of (k5 _ _ hu), rfl, _, _, rfl, _, _, rfl, rfl, rfl, ?_⟩⟩
    have lp2 : p1 < ts.length := by rw [ls4.1, lR]; exact lp1
    have lp3 : p1 < R.length := by rw [lR]; exact lp1
    have et : ts[p1]? = some ts[p1] := List.getElem?_eq_getElem lp2
    have mt := List.mem_of_getElem? et
    generalize ts[p1] = t1 at et mt
    have e1 : R[p1]? = some R[p1] := List.getElem?_eq_getElem lp3
    have ln1 := sR _ (List.mem_of_getElem? e1)
    generalize R[p1] = ns at e1 ln1
    have ga : ns[a]? = some ns[a] := List.getElem?_eq_getElem (by omega)
    generalize ns[a] = x1 at ga
    have h5 := k5 _ _ h4
    have ht1 := k5 _ _ (ls4.2 p1 t1 ns et e1)
    have k45 := k4.trans k5
    have gaV : (ns.map V.int)[((a : Nat) : Int).toNat]? = some (.int x1) := by rw [List.getElem?_map, show ((a : Nat) : Int).toNat = a by omega, ga]; rfl
    refine ⟨_, rfl, _, rfl, L, _, _, _, rfl, rfl, SqL.of h5, refsAt et, _, rfl, t1, _, _, _, rfl, rfl, SqL.of ht1, by omega, gaV, _, _, rfl, rfl, t1, _, _, a, rfl, rfl, ht1, ixN_nat (by rw [List.length_map]; omega), ?_⟩
    have ls5 := (ls4.same k5).bmp (d := 1) nt et e1 ga
    have tL : L ≠ t1 := fun e => (fr_ t1 mt).1 e.symm
    have tW : Ls ≠ t1 := fun e => nLs t1 mt e.symm
    have k6 : Same H1 (upd H5 t1 (.lst ((ns.map V.int).set a (.int (x1 + 1))))) := same_put k45 (fr_ t1 mt).2
    have h6 : (upd H5 t1 (.lst ((ns.map V.int).set a (.int (x1 + 1))))) L = some (.lst (ts.map V.ref)) := by rw [upd_ne tL]; exact h5
    have hw6 : (upd H5 t1 (.lst ((ns.map V.int).set a (.int (x1 + 1))))) Ls = some (.lst ws) := by rw [upd_ne tW]; exact k5 _ _ hw4
    have st6 := (st4.same k5).put (o := .lst ((ns.map V.int).set a (.int (x1 + 1)))) ht1
    generalize upd H5 t1 (.lst ((ns.map V.int).set a (.int (x1 + 1)))) = H6 at *
    have lp4 : p1 < (bmp R p1 a 1).length := by rw [bmp_len]; exact lp3
    have e2 : (bmp R p1 a 1)[p1]? = some (bmp R p1 a 1)[p1] := List.getElem?_eq_getElem lp4
    have ln2 := bmp_shp sR p1 a 1 _ (List.mem_of_getElem? e2)
    generalize (bmp R p1 a 1)[p1] = ms at e2 ln2
    have gb : ms[b]? = some ms[b] := List.getElem?_eq_getElem (by omega)
    generalize ms[b] = x2 at gb
    have ht2 := ls5.2 p1 t1 ms et e2
    have gbV : (ms.map V.int)[((b : Nat) : Int).toNat]? = some (.int x2) := by rw [List.getElem?_map, show ((b : Nat) : Int).toNat = b by omega, gb]; rfl
    refine ⟨_, rfl, _, rfl, L, _, _, _, rfl, rfl, SqL.of h6, refsAt et, _, rfl, t1, _, _, _, rfl, rfl, SqL.of ht2, by omega, gbV, _, _, rfl, rfl, t1, _, _, b, rfl, rfl, ht2, ixN_nat (by rw [List.length_map]; omega), ?_⟩
    have ls6 := ls5.bmp (d := -1) nt et e2 gb
    refine ⟨_, _, _, rfl, same_put k6 (fr_ t1 mt).2, by rw [upd_ne tL]; exact h6, ?_, by rw [upd_ne tW]; exact hw6, st6.put ht2⟩
    rw [eR]
    exact ls6
  · rintro σ H4 ⟨v5, v6, v7, rfl, k4, h4, ls4, hw4, st4⟩
    have el : (g.zip (stp ss)).take (iV g).length = g.zip (stp ss) := by
      rw [List.take_of_length_le]
      rw [List.length_zip, iV_len]
      omega
    rw [el] at ls4
    have rR := ex_rows rw_ ir
    generalize hR : exs rows (g.zip (stp ss)) = R at *
    have lR : R.length = rows.length := by rw [← hR, exs_len]
    refine ⟨_, rfl, L, rfl, ⟨_, SqL.of h4⟩, fun D hD => lc_list (K := K) (a := L) (xs := ts.map V.ref) (RInv CShare D H4 R) (RInv.start hD) (fun i H' _ z => SqL.of (z.1 _ _ h4)) (fun i x H' hx z => ⟨rfl, tyes ?_⟩) (fun H5 z => ?_)⟩
    · obtain ⟨t1, rfl, et⟩ := refAt hx
      have li : i < R.length := by rw [← ls4.1]; exact (List.getElem?_eq_some_iff.mp et).1
      have en : R[i]? = some R[i] := List.getElem?_eq_getElem li
      have m := List.mem_of_getElem? en
      generalize R[i] = ns at en m
      have ht1 := z.1 _ _ (ls4.2 i t1 ns et en)
      refine ⟨_, rfl, t1, _, rfl, .inl ⟨SqL.of ht1, fun l hl x dx nx nd nex => ?_⟩⟩
      exact mk_at nx nd upd_same (rR.l2 m) (rR.l6 m) (rR.am ns m) fun H6 k6 sh => z.next hD (by omega) en ((same_new (Same.refl _) hl).trans k6) sh
    · obtain ⟨k5, sd2, hD2, al2⟩ := z
      rw [List.length_map, ls4.1, List.take_length] at al2
      have l2 := al2.len
      refine ⟨_, rfl, D, _, rfl, .inr (SqL.of hD2), fun x dx nx nd nex => ⟨_, _, rfl, ?_, fun q' hq' => ?_⟩⟩
      · exact size_of (by rw [List.length_map]; omega)
      have s2 : Same H5 (upd (upd (upd H5 dx (.own x)) x (.ins CDivision dx [])) q' (.tup (sd2.map V.ref))) := same_new (same_new (same_new (Same.refl _) nd) (by rw [upd_ne (Ne.symm nex)]; exact nx)) hq'
      have xq : x ≠ q' := fun z => by rw [← z, upd_same] at hq'; cases hq'
      refine ⟨x, q', dx, sd2, R, rfl, by rw [upd_ne xq, upd_same], upd_same, al2.same s2, rR, fun H6 kp dv6 => ⟨rfl, k x q' sd2 H6 ?_ dv6⟩⟩
      have k15 : Same H H5 := k1.trans (k4.trans k5)
      exact fun b o z => kp b o (ne_of_none (k15 b o z) nx) (s2 b o (k15 b o z))
end
end Pl
namespace Pl
open PySem PySem.Spec PyProof.Rows L2
theorem eqv_all : ∀ ns ms : List Int, PyData.eqvAll (ns.map PyData.int) (ms.map PyData.int) = decide (ns = ms)
  | [], [] => by simp [PyData.eqvAll]
  | [], m :: ms => by simp [PyData.eqvAll]
  | n :: ns, [] => by simp [PyData.eqvAll]
  | n :: ns, m :: ms => by
    simp only [List.map_cons, PyData.eqvAll, eqv_all ns ms]
    by_cases e : n = m
    · subst e
      simp [PyData.eqv]
    · simp [PyData.eqv, e]
theorem eqv_tup (ns ms : List Int) : PyData.eqv (.tuple (ns.map PyData.int)) (.tuple (ms.map PyData.int)) = decide (ns = ms) := by
  simp only [PyData.eqv]
  exact eqv_all ns ms
theorem shapedTup (ns : List Int) : SeqAt.shaped (.tuple (ns.map PyData.int)) = true := by
  show (PyData.canLay0 (.tuple (ns.map PyData.int)) && decide (PyData.depth (.tuple (ns.map PyData.int)) ≤ 64)) = true
  simp only [PyData.canLay0, PyData.depth, layInts, depthInts]
  decide
def spEqS (C : Addr) : Sp := fun vs H Q _ => ∃ (s t s2 t2 : Addr) (ns ms : List Int), vs = [.ref s, .ref s2] ∧ ShAt C H s t ns ∧ ShAt C H s2 t2 ms ∧ Q (.bl (decide (ns = ms))) H
def spEqD (CD C : Addr) : Sp := fun vs H Q _ => ∃ (d t d2 t2 : Addr) (ss ss2 : List Addr) (rows rows2 : List (List Int)), vs = [.ref d, .ref d2] ∧ DvAt CD C H d t ss rows ∧ DvAt CD C H d2 t2 ss2 rows2 ∧ Q (.bl (decide (rows = rows2))) H
theorem imS {C : Addr} : ∀ vs H Q Q', (∀ v H', Q v H' → Q' v H') → spEqS C vs H Q E0 → spEqS C vs H Q' E0 := fun vs H Q Q' f ⟨s, t, s2, t2, ns, ms, e, a, b, q⟩ => ⟨s, t, s2, t2, ns, ms, e, a, b, f _ _ q⟩
theorem ints_inj : ∀ {ns ms : List Int}, ns.map V.int = ms.map V.int → ns = ms
  | [], [], _ => rfl
  | [], _ :: _, h => by cases h
  | _ :: _, [], h => by cases h
  | x :: a, y :: b, h => by
    rw [List.map_cons, List.map_cons, List.cons.injEq] at h
    rw [V.int.inj h.1, ints_inj h.2]
theorem ShAt.uniq {C : Addr} {H : Hp} {s t t2 : Addr} {ns ms : List Int} (a : ShAt C H s t ns) (b : ShAt C H s t2 ms) : ns = ms := by
  obtain ⟨⟨d, h1⟩, h2, _⟩ := a
  obtain ⟨⟨d', k1⟩, k2, _⟩ := b
  rw [h1] at k1
  have e := (HO.ins.inj (Option.some.inj k1)).2.2
  have et : t = t2 := by
    unfold shF at e
    simpa using e
  subst et
  rw [h2] at k2
  exact ints_inj (HO.tup.inj (Option.some.inj k2))
section
variable {P : Program} {w : World} {K : PySem.W.Frag} {mg : Str → Option Value} {base : Heap} {CShare CDivision CNoAmounts : Addr}
abbrev st_Sh_eq : Stmt := inClass (top 22) 9
theorem sc_Sh_eq : FnScope ["self", "other"] ["self", "other"] (defScope st_Sh_eq) := ⟨rfl, rfl, rfl, by decide +kernel, rfl, by decide +kernel, by decide +kernel⟩
theorem ok_eqS (B : Bn mg) (SShare : ShK K mg CShare) (D : Mh K CShare "__eq__" "Share.__eq__" st_Sh_eq ["self", "other"]) : MCal P w K mg base 2 CShare "__eq__" ["self", "other"] (spEqS CShare) := by
  refine D.cal sc_Sh_eq (fun vs H Q E h => ?_) (fun f cdv A out s H vs Q E hr h => ?_)
  · obtain ⟨s1, t1, s2, t2, ns, ms, rfl, _⟩ := h
    rfl
  obtain ⟨s1, t1, s2, t2, ns, ms, rfl, ⟨⟨d1, a1⟩, b1, _⟩, ⟨⟨d2, a2⟩, b2, _⟩, k⟩ := h
  refine ⟨_, (pss_one (ps_ret (pe_and (pe_callB call_isi (by rfl) B.n_isinstance (by decide +kernel) (pa_cons (pv 1) (pa_cons (pe_glob (v := .ref CShare) rfl SShare.mgC rfl) pa_nil))) (pe_one (pe_cmpR (op_eqD hr.units) (pe_fld (pv 0) rfl) (pe_fld (pv 1) rfl) (nomark _)))))), ?_⟩
  refine ⟨_, rfl, _, _, _, _, true, rfl, .own _, .base (.ins a2 SShare.cl SShare.ca SShare.cg SShare.ct SShare.mro), SShare.kit, _, rfl, iteT ?_⟩
  refine ⟨_, rfl, s1, CShare, d1, _, _, rfl, a1, SShare.cl, SShare.nB, shF_get t1, _, rfl, s2, CShare, d2, _, _, rfl, a2, SShare.cl, SShare.nB, shF_get t2, _, _, .tup (SqT.of b1) (dpInts _ _ _), .tup (SqT.of b2) (dpInts _ _ _), shapedTup ns, shapedTup ms, ?_⟩
  rw [eqv_tup]
  exact k
abbrev st_Di_eq : Stmt := inClass (top 29) 11
theorem sc_Di_eq : FnScope ["self", "other"] ["self", "other"] (defScope st_Di_eq) := ⟨rfl, rfl, rfl, by decide +kernel, rfl, by decide +kernel, by decide +kernel⟩
theorem ok_eqD (B : Bn mg) (SDivision : DvK K mg CDivision) (m_eqS : MCal P w K mg base 2 CShare "__eq__" ["self", "other"] (spEqS CShare)) (D : Mh K CDivision "__eq__" "Division.__eq__" st_Di_eq ["self", "other"]) : MCal P w K mg base 4 CDivision "__eq__" ["self", "other"] (spEqD CDivision CShare) := by
  refine D.cal sc_Di_eq (fun vs H Q E h => ?_) (fun f cdv A out s H vs Q E hr h => ?_)
  · obtain ⟨d, t, d2, t2, ss, ss2, rows, rows2, rfl, _⟩ := h
    rfl
  obtain ⟨d, t, d2, t2, ss, ss2, rows, rows2, rfl, ⟨⟨dx, a1⟩, b1, sh1, rw1⟩, ⟨⟨dx2, a2⟩, b2, sh2, rw2⟩, k⟩ := h
  refine ⟨_, (pss_one (ps_ret (pe_and (pe_callB call_isi (by rfl) B.n_isinstance (by decide +kernel) (pa_cons (pv 1) (pa_cons (pe_glob (v := .ref CDivision) rfl SDivision.mgC rfl) pa_nil))) (pe_one (pe_cmpR (op_eqT m_eqS imS (hr.mono (by decide))) (pe_fld (pv 0) rfl) (pe_fld (pv 1) rfl) (nomark _)))))), ?_⟩
  refine ⟨_, rfl, _, _, _, _, true, rfl, .own _, .base (.ins a2 SDivision.cl SDivision.ca SDivision.cg SDivision.ct SDivision.mro), SDivision.kit, _, rfl, iteT ?_⟩
  refine ⟨_, rfl, d, CDivision, dx, _, _, rfl, a1, SDivision.cl, SDivision.nP, dvF_get t, _, rfl, d2, CDivision, dx2, _, _, rfl, a2, SDivision.cl, SDivision.nP, dvF_get t2, ?_⟩
  have l1 := sh1.len
  have l2 := sh2.len
  refine ⟨t, t2, ss, ss2, fun i => decide (rows[i]? = rows2[i]?), rfl, rfl, SqT.of b1, SqT.of b2, fun i u v hu hv => ?_, ?_⟩
  · obtain ⟨u1, ns, en, su⟩ := sh1.get hu
    obtain ⟨v1, ms, em, sv⟩ := sh2.get hv
    refine ⟨fun e => ?_, ⟨_, _, su.1.choose_spec⟩, ⟨_, _, sv.1.choose_spec⟩, u, u1, v, v1, ns, ms, rfl, su, sv, ?_, rfl⟩
    · subst e
      show decide (rows[i]? = rows2[i]?) = true
      rw [en, em, su.uniq sv]
      exact decide_eq_true rfl
    · show V.bl (decide (ns = ms)) = V.bl (decide (rows[i]? = rows2[i]?))
      rw [en, em]
      congr 1
      exact decide_eq_decide.mpr ⟨fun e => by rw [e], fun e => Option.some.inj e⟩
  · have e : ((List.range (min ss.length ss2.length)).all (fun i => decide (rows[i]? = rows2[i]?)) && decide (ss.length = ss2.length)) = decide (rows = rows2) := by
      rw [Bool.eq_iff_iff]
      simp only [Bool.and_eq_true, List.all_eq_true, decide_eq_true_eq, List.mem_range]
      constructor
      · rintro ⟨a, b⟩
        refine List.ext_getElem? fun i => ?_
        rcases Nat.lt_or_ge i (min ss.length ss2.length) with h | h
        · exact a i h
        · rw [List.getElem?_eq_none (by omega), List.getElem?_eq_none (by omega)]
      · intro e
        subst e
        exact ⟨fun _ _ => rfl, by omega⟩
    rw [e]
    exact k
end
end Pl
namespace Pl
open PySem PySem.Spec PyProof.Rows L2
/-! what a call returns, or the name of its exception -/
abbrev st_l_said : Stmt := top 67
theorem sc_l_said : FnScope ["_law_call"] ["_law_call"] (defScope st_l_said) := ⟨rfl, rfl, rfl, by decide +kernel, rfl, by decide +kernel, by decide +kernel⟩
theorem pss_pick {X : Cx} {b : List Stmt} {ι : Type} {p : ι → Prop} {t : ι → TS} (h : ∀ i, p i → PSs X b (t i)) : PSs X b (fun D σ H => ∃ i, p i ∧ t i D σ H) := ⟨fun pins s σ H D I ⟨i, hp, ht⟩ => (h i hp).run pins s σ H D I ht⟩
section
variable {X : Cx} {C1 C2 C3 C4 C5 : Addr}
theorem said_gives {g : Addr} {cdg : Value} {q : Str} (e1 : ExK X.K X.mg "NoDivision" C1) (e2 : ExK X.K X.mg "NoPerson" C2) (e3 : ExK X.K X.mg "NoRing" C3) (e4 : ExK X.K X.mg "NothingBetter" C4) (e5 : ExK X.K X.mg "NothingDone" C5) :
    LamX.GivesTo X ["_law_call"] "_law_said" (defScope st_l_said) g cdg (defBody st_l_said) "_law_call" q (TTs X.K [(C1, "NoDivision"), (C2, "NoPerson"), (C3, "NoRing"), (C4, "NothingBetter"), (C5, "NothingDone")]) := by
  intro f c' s H Q tl act hc h
  refine ⟨_, pss_one (ps_try_many (X := (cxOf C8.CX0 X.prog X.w X.K X.mg X.base ["_law_call"] "_law_said" (defScope st_l_said) g cdg X.A X.stack s H C8.E0).nox)
    (tb := fun W D σ H => ∃ Ech : XK, (∀ cls d σ' H', Ech cls d H' → W cls d σ' H') ∧ tRet (tLst (tCons (tC (.str "told")) (tCons (fun σZ HZ Q => σZ[0]? = some (some (.ref f)) ∧ HZ c' = some (LamX.CodeO c' q) ∧ tl Ech HZ Q) tNil))) D σ H)
    rfl rfl LamX.takes0 (fun W pn xe tk _ => pss_pick fun Ech hW => pss_one (ps_ret (pe_lst (pa_cons pe_str (pa_cons (act W pn xe Ech _ _ tk hW) pa_nil)))))
    (.cons ⟨rfl, by decide, .inl e1.g⟩ (fun a oe cls d pn _ _ => pss_one (ps_ret (pe_lst (pa_cons pe_str pa_nil))))
    (.cons ⟨rfl, by decide, .inl e2.g⟩ (fun a oe cls d pn _ _ => pss_one (ps_ret (pe_lst (pa_cons pe_str pa_nil))))
    (.cons ⟨rfl, by decide, .inl e3.g⟩ (fun a oe cls d pn _ _ => pss_one (ps_ret (pe_lst (pa_cons pe_str pa_nil))))
    (.cons ⟨rfl, by decide, .inl e4.g⟩ (fun a oe cls d pn _ _ => pss_one (ps_ret (pe_lst (pa_cons pe_str pa_nil))))
    (.cons ⟨rfl, by decide, .inl e5.g⟩ (fun a oe cls d pn _ _ => pss_one (ps_ret (pe_lst (pa_cons pe_str pa_nil)))) .nil)))))), ?_⟩
  refine ⟨clW X.K (fun nm H' => ∀ p, H' p = none → Q (.ref p) (upd H' p (.lst [.str nm]))) [(C1, "NoDivision"), (C2, "NoPerson"), (C3, "NoRing"), (C4, "NothingBetter"), (C5, "NothingDone")], fun cls d σ' H' w => ?_, rfl, hc, h⟩
  have one : ∀ {nm : Str} {H' : Hp}, (∀ p, H' p = none → Q (.ref p) (upd H' p (.lst [.str nm]))) → ([V.str nm].length ≤ sizeLine ∧ ∀ p, H' p = none → Q (.ref p) (upd H' p (.lst [.str nm]))) := fun h => ⟨(by show 1 ≤ sizeLine; decide), h⟩
  obtain ⟨b1, x1, y1, z1⟩ := w
  refine ⟨b1, x1, fun hb a _ => one (y1 hb), fun hb => ?_⟩
  obtain ⟨b2, x2, y2, z2⟩ := z1 hb
  refine ⟨b2, x2, fun hb a _ => one (y2 hb), fun hb => ?_⟩
  obtain ⟨b3, x3, y3, z3⟩ := z2 hb
  refine ⟨b3, x3, fun hb a _ => one (y3 hb), fun hb => ?_⟩
  obtain ⟨b4, x4, y4, z4⟩ := z3 hb
  refine ⟨b4, x4, fun hb a _ => one (y4 hb), fun hb => ?_⟩
  obtain ⟨b5, x5, y5, z5⟩ := z4 hb
  exact ⟨b5, x5, fun hb a _ => one (y5 hb), fun hb => z5 hb⟩
end
end Pl
namespace Pl
open PySem PySem.Spec PyProof.Rows L2
/-! pools -/
structure PlK (K : PySem.W.Frag) (mg : Str → Option Value) (x : Str) (C : Addr) : Prop where
  cl : Cls K C
  nC : NoAttr K C "course"
  nP : NoAttr K C "person"
  mgC : mg x = some (.ref C)
  mks : PySem.W.makesIn K C = true
  kc : PySem.W.keepIn K (.ref C) = true
structure PlF (K : PySem.W.Frag) (C : Addr) : Prop where
  pg : PySem.W.plainGet K C Str.empty = true
  hd : PySem.W.hasDictIn K C = true
  po : PySem.W.plainOver K C = true
  sa : PySem.W.findIn K (.ref C) "__setattr__" = some (some (.builtin "object.__setattr__"))
  nC : PySem.W.findIn K (.ref C) "course" = some none
  nP : PySem.W.findIn K (.ref C) "person" = some none
  mks : PySem.W.makesIn K C = true
  kc : PySem.W.keepIn K (.ref C) = true
theorem PlF.k {K : PySem.W.Frag} {mg : Str → Option Value} {x : Str} {C : Addr} (s : PlF K C) (g : mg x = some (.ref C)) : PlK K mg x C := ⟨⟨s.pg, s.hd, s.po, s.sa⟩, s.nC, s.nP, g, s.mks, s.kc⟩
/-- wo: the person whose share is kept -/
def exW (wo : Option Nat) : List (Str × V) := match wo with
  | none => []
  | some n => [("person", .int (n : Nat))]
def plF (wo : Option Nat) (t : Addr) : List (Str × V) := ("course", .ref t) :: exW wo
theorem plF_get (wo : Option Nat) (t : Addr) : (plF wo t).lookup ("course" : Str) = some (.ref t) := by simp [plF, List.lookup]
theorem plF_who (n : Nat) (t : Addr) : (plF (some n) t).lookup ("person" : Str) = some (.int (n : Nat)) := rfl
theorem plF_put (wo : Option Nat) (t t2 : Addr) : putF "course" (.ref t2) (plF wo t) = plF wo t2 := by cases wo <;> rfl
theorem plF_len (wo : Option Nat) (t : Addr) : (plF wo t).length < 1000 := by cases wo <;> (simp [plF, exW])
theorem plF_ne (wo : Option Nat) (t : Addr) : ∀ t1, plF wo t ≠ shF t1 := fun t1 z => by cases wo <;> cases z
/-- the first division and the one behind each change, each with its unit -/
def CoA (CD C : Addr) (H : Hp) (us : List Addr) (cs : List (List (List Int) × Int)) : Prop := us.length = cs.length ∧ ∀ (j : Nat) (u : Addr) (r : List (List Int)) (k : Int), us[j]? = some u → cs[j]? = some (r, k) → ∃ (d t : Addr) (ss : List Addr), H u = some (.tup [.ref d, .int k]) ∧ DvAt CD C H d t ss r
/-- a pool with this course stands at p -/
def PlAt (CP : Addr) (wo : Option Nat) (CD C : Addr) (H : Hp) (p : Addr) (cs : List (List (List Int) × Int)) : Prop := ∃ (dx t : Addr) (us : List Addr), H p = some (.ins CP dx (plF wo t)) ∧ H t = some (.tup (us.map V.ref)) ∧ CoA CD C H us cs ∧ cs ≠ [] ∧ cs.length ≤ 100000
/-- what is not at p, and no table, stays -/
def KpN (p : Addr) (H H' : Hp) : Prop := ∀ b o, b ≠ p → H b = some o → (∀ ps, o ≠ .tbl ps) → H' b = some o
theorem KpN.of {p : Addr} {H H' : Hp} (k : Kp p H H') : KpN p H H' := fun b o n e _ => k b o n e
theorem KpN.same {p : Addr} {H H' : Hp} (k : Same H H') : KpN p H H' := fun b o _ e _ => k b o e
theorem KpN.ext {p : Addr} {H H' : Hp} (k : LamX.ExtN H H') : KpN p H H' := fun b o _ e n => k b o e n
theorem KpN.trans {p : Addr} {H H1 H2 : Hp} (a : KpN p H H1) (b : KpN p H1 H2) : KpN p H H2 := fun c o n e t => b c o n (a c o n e t) t
theorem ShAll.kn {C p : Addr} {H H' : Hp} (k : KpN p H H') (hp : ∃ CP dx fs, H p = some (.ins CP dx fs) ∧ ∀ t, fs ≠ shF t) : ∀ {ss : List Addr} {rows : List (List Int)}, ShAll C H ss rows → ShAll C H' ss rows
  | _, _, .nil => .nil
  | _, _, .cons (s := s) (t := t) h r => by
    refine .cons (t := t) ?_ (r.kn k hp)
    obtain ⟨⟨dx, h1⟩, h2, h3⟩ := h
    obtain ⟨CP, dx2, fs, e, ne⟩ := hp
    refine ⟨⟨dx, k _ _ (fun z => ?_) h1 (fun ps z => nomatch z)⟩, k _ _ (fun z => ?_) h2 (fun ps z => nomatch z), h3⟩
    · rw [z, e] at h1
      cases h1
      exact ne t rfl
    · rw [z, e] at h2
      cases h2
theorem DvAt.kn {CD C p d t : Addr} {H H' : Hp} {ss : List Addr} {rows : List (List Int)} (h : DvAt CD C H d t ss rows) (k : KpN p H H') (hp : ∃ CP dx wo t, H p = some (.ins CP dx (plF wo t))) : DvAt CD C H' d t ss rows := by
  obtain ⟨⟨dx, h1⟩, h2, h3, r⟩ := h
  obtain ⟨CP, dx2, wo2, t2, e⟩ := hp
  refine ⟨⟨dx, k _ _ (fun z => ?_) h1 (fun ps z => nomatch z)⟩, k _ _ (fun z => ?_) h2 (fun ps z => nomatch z), h3.kn k ⟨CP, dx2, _, e, plF_ne _ _⟩, r⟩
  · rw [z, e] at h1
    cases h1
  · rw [z, e] at h2
    cases h2
theorem CoA.kn {CD C p : Addr} {H H' : Hp} {us : List Addr} {cs : List (List (List Int) × Int)} (h : CoA CD C H us cs) (k : KpN p H H') (hp : ∃ CP dx wo t, H p = some (.ins CP dx (plF wo t))) : CoA CD C H' us cs := ⟨h.1, fun j u r q a b => by
  obtain ⟨d, t, ss, h1, h2⟩ := h.2 j u r q a b
  refine ⟨d, t, ss, k _ _ (fun z => ?_) h1 (fun ps z => nomatch z), h2.kn k hp⟩
  obtain ⟨CP, dx, wo2, t2, e⟩ := hp
  rw [z, e] at h1
  cases h1⟩
theorem PlAt.same {CP CD C p : Addr} {wo : Option Nat} {H H' : Hp} {cs : List (List (List Int) × Int)} (h : PlAt CP wo CD C H p cs) (k : Same H H') : PlAt CP wo CD C H' p cs := by
  obtain ⟨dx, t, us, h1, h2, h3, h4⟩ := h
  exact ⟨dx, t, us, k _ _ h1, k _ _ h2, h3.kn (KpN.same k) ⟨_, _, _, _, h1⟩, h4⟩
theorem PlAt.ext {CP CD C p : Addr} {wo : Option Nat} {H H' : Hp} {cs : List (List (List Int) × Int)} (h : PlAt CP wo CD C H p cs) (k : LamX.ExtN H H') : PlAt CP wo CD C H' p cs := by
  obtain ⟨dx, t, us, h1, h2, h3, h4⟩ := h
  exact ⟨dx, t, us, k _ _ h1 (fun ps z => nomatch z), k _ _ h2 (fun ps z => nomatch z), h3.kn (KpN.ext k) ⟨_, _, _, _, h1⟩, h4⟩
theorem PlAt.ins {CP CD C p : Addr} {wo : Option Nat} {H : Hp} {cs : List (List (List Int) × Int)} (h : PlAt CP wo CD C H p cs) : ∃ CP dx wo t, H p = some (.ins CP dx (plF wo t)) := by
  obtain ⟨dx, t, us, h1, _⟩ := h
  exact ⟨_, _, _, _, h1⟩
theorem PlAt.own {CP CD C p : Addr} {wo : Option Nat} {H : Hp} {cs : List (List (List Int) × Int)} (h : PlAt CP wo CD C H p cs) : ∃ dx t, H p = some (.ins CP dx (plF wo t)) := by
  obtain ⟨dx, t, us, h1, _⟩ := h
  exact ⟨_, _, h1⟩
def spPlInit (CP CD C : Addr) : Sp := fun vs H Q _ => ∃ (p d dx t : Addr) (ss : List Addr) (rows : List (List Int)), vs = [.ref p, .ref d] ∧ H p = some (.ins CP dx []) ∧ DvAt CD C H d t ss rows ∧ ∀ H', Kp p H H' → PlAt CP none CD C H' p [(rows, 1)] → Q .non H'
/-- the last one -/
def spPlDiv (CP CD C : Addr) : Sp := fun vs H Q _ => ∃ (wo : Option Nat) (p : Addr) (cs : List (List (List Int) × Int)) (r : List (List Int)) (k : Int), vs = [.ref p] ∧ PlAt CP wo CD C H p (cs ++ [(r, k)]) ∧ ∀ (d t : Addr) (ss : List Addr), DvAt CD C H d t ss r → Q (.ref d) H
def spPlChanges (CP CD C : Addr) : Sp := fun vs H Q _ => ∃ (wo : Option Nat) (p : Addr) (cs : List (List (List Int) × Int)), vs = [.ref p] ∧ PlAt CP wo CD C H p cs ∧ Q (.int ((cs.length : Int) - 1)) H
def spPlChange (CP CD C : Addr) : Sp := fun vs H Q _ => ∃ (wo : Option Nat) (p d t : Addr) (ss : List Addr) (cs : List (List (List Int) × Int)) (r rows : List (List Int)) (k f : Int), vs = [.ref p, .ref d, .int f] ∧ PlAt CP wo CD C H p (cs ++ [(r, k)]) ∧ cs.length ≤ 90000 ∧ k.natAbs < 2 ^ 30 ∧ DvAt CD C H d t ss rows ∧ ∀ H', Kp p H H' → PlAt CP wo CD C H' p (cs ++ [(r, k), (rows, k * f)]) → Q .non H'
end Pl
namespace Pl
open PySem PySem.Spec PyProof.Rows L2
section
variable {P : Program} {w : World} {K : PySem.W.Frag} {mg : Str → Option Value} {base : Heap} {nm : Str} {W : Option Nat → Prop} {CShare CDivision CPool CNoPerson CNothingBetter CNothingDone Dd : Addr}
abbrev st_Po_division : Stmt := inClass (top 46) 2
theorem sc_Po_division : FnScope ["self"] ["self"] (defScope st_Po_division) := ⟨rfl, rfl, rfl, by decide +kernel, rfl, by decide +kernel, by decide +kernel⟩
theorem ok_plDiv (SPool : PlK K mg nm CPool) (D : Ph K CPool "division" "Pool.division" st_Po_division ["self"]) : PCal P w K mg base 1 CPool "division" ["self"] (spPlDiv CPool CDivision CShare) := by
  refine D.cal sc_Po_division (fun vs H Q E h => ?_) (fun f cdv A out s H vs Q E hr h => ?_)
  · obtain ⟨wo, p, cs, r, k, rfl, _⟩ := h
    rfl
  obtain ⟨wo, p, cs, r, k, rfl, ⟨dx, t, us, hp, ht, co, ne, sz⟩, kk⟩ := h
  refine ⟨_, (pss_one (ps_ret (pe_ix ix_tup (pe_ix ix_tup (pe_fld (pv 0) rfl) (pe_un un_neg pe_int) (fun _ _ => rfl)) pe_int (fun _ _ => rfl)))), ?_⟩
  have l := co.1
  rw [List.length_append] at l
  have l : us.length = cs.length + 1 := l
  have eu : us[cs.length]? = some (us[cs.length]'(by omega)) := List.getElem?_eq_getElem (by omega)
  generalize (us[cs.length]'_) = u at eu
  obtain ⟨d, t1, ss, hu, dv⟩ := co.2 cs.length u r k eu (by simp)
  have al : atI (us.map V.ref) (-1) = some (.ref u) := by
    have ne2 : us ≠ [] := fun e => by rw [e] at l; simp at l
    have e1 := (List.dropLast_concat_getLast ne2).symm
    have e2 : us.getLast ne2 = u := by
      rw [List.getLast_eq_getElem]
      rw [List.getElem?_eq_getElem (by omega)] at eu
      have := Option.some.inj eu
      rw [← this]
      congr 1
      omega
    rw [e1, List.map_append, e2]
    exact atI_last _ _
  refine ⟨_, rfl, p, CPool, dx, _, _, rfl, hp, SPool.cl, SPool.nC, plF_get _ t, 1, rfl, t, _, _, _, rfl, rfl, SqT.of ht, al, u, _, _, _, rfl, rfl, SqT.of hu, atI_nat (j := 0) rfl, ?_⟩
  exact kk d t1 ss dv
abbrev st_Po_changes : Stmt := inClass (top 46) 4
theorem sc_Po_changes : FnScope ["self"] ["self"] (defScope st_Po_changes) := ⟨rfl, rfl, rfl, by decide +kernel, rfl, by decide +kernel, by decide +kernel⟩
theorem ok_plChanges (B : Bn mg) (SPool : PlK K mg nm CPool) (D : Ph K CPool "changes" "Pool.changes" st_Po_changes ["self"]) : PCal P w K mg base 1 CPool "changes" ["self"] (spPlChanges CPool CDivision CShare) := by
  refine D.cal sc_Po_changes (fun vs H Q E h => ?_) (fun f cdv A out s H vs Q E hr h => ?_)
  · obtain ⟨wo, p, cs, rfl, _⟩ := h
    rfl
  obtain ⟨wo, p, cs, rfl, ⟨dx, t, us, hp, ht, co, ne, sz⟩, kk⟩ := h
  refine ⟨_, (pss_one (ps_ret (pe_op op_sub (pe_callB call_len_seq (by rfl) B.n_len (by decide +kernel) (pa_cons (pe_fld (pv 0) rfl) pa_nil)) pe_int))), ?_⟩
  refine ⟨_, rfl, p, CPool, dx, _, _, rfl, hp, SPool.cl, SPool.nC, plF_get _ t, t, _, rfl, .inr (SqT.of ht), _, _, rfl, rfl, ?_⟩
  rw [List.length_map, co.1]
  exact kk
end
end Pl
namespace Pl
open PySem PySem.Spec PyProof.Rows L2
/-- the last of a course -/
theorem CoA.last {CD C : Addr} {H : Hp} {us : List Addr} {cs : List (List (List Int) × Int)} {r : List (List Int)} {k : Int} (co : CoA CD C H us (cs ++ [(r, k)])) : ∃ (pre : List Addr) (u d t : Addr) (ss : List Addr), us = pre ++ [u] ∧ CoA CD C H pre cs ∧ H u = some (.tup [.ref d, .int k]) ∧ DvAt CD C H d t ss r := by
  have l := co.1
  rw [List.length_append] at l
  have l : us.length = cs.length + 1 := l
  have ne2 : us ≠ [] := fun e => by rw [e] at l; simp at l
  have e1 := (List.dropLast_concat_getLast ne2).symm
  have lp : us.dropLast.length = cs.length := by rw [List.length_dropLast]; omega
  generalize us.dropLast = pre at e1 lp
  generalize us.getLast ne2 = u at e1
  clear ne2
  subst e1
  obtain ⟨d, t, ss, h1, h2⟩ := co.2 cs.length u r k (by rw [← lp]; simp) (by simp)
  refine ⟨pre, u, d, t, ss, rfl, ⟨lp, fun j u' r' q a b => co.2 j u' r' q ?_ ?_⟩, h1, h2⟩
  · rw [List.getElem?_append_left (List.getElem?_eq_some_iff.mp a).1]
    exact a
  · rw [List.getElem?_append_left (List.getElem?_eq_some_iff.mp b).1]
    exact b
theorem CoA.snoc {CD C : Addr} {H : Hp} {us : List Addr} {cs : List (List (List Int) × Int)} {r : List (List Int)} {k : Int} {u d t : Addr} {ss : List Addr} (co : CoA CD C H us cs) (hu : H u = some (.tup [.ref d, .int k])) (dv : DvAt CD C H d t ss r) : CoA CD C H (us ++ [u]) (cs ++ [(r, k)]) := by
  refine ⟨by rw [List.length_append, List.length_append, co.1]; rfl, fun j u' r' q a b => ?_⟩
  by_cases c : j < us.length
  · rw [List.getElem?_append_left c] at a
    rw [List.getElem?_append_left (by rw [← co.1]; exact c)] at b
    exact co.2 j u' r' q a b
  · have lj := (List.getElem?_eq_some_iff.mp a).1
    rw [List.length_append] at lj
    have lj : j < us.length + 1 := lj
    have ej : j = us.length := by omega
    subst ej
    rw [List.getElem?_append_right (Nat.le_refl _), Nat.sub_self] at a
    rw [List.getElem?_append_right (by rw [co.1]; exact Nat.le_refl _), co.1, Nat.sub_self] at b
    cases a
    cases b
    exact ⟨d, t, ss, hu, dv⟩
end Pl
namespace Pl
open PySem PySem.Spec PyProof.Rows L2
section
variable {P : Program} {w : World} {K : PySem.W.Frag} {mg : Str → Option Value} {base : Heap} {nm : Str} {W : Option Nat → Prop} {CShare CDivision CPool CNoPerson CNothingBetter CNothingDone Dd : Addr}
abbrev st_Po_change : Stmt := inClass (top 46) 12
theorem sc_Po_change : FnScope ["self", "division", "factor", "unit"] ["self", "division", "factor"] (defScope st_Po_change) := ⟨rfl, rfl, rfl, by decide +kernel, rfl, by decide +kernel, by decide +kernel⟩
theorem ok_plChange (SPool : PlK K mg nm CPool) (D : Mh K CPool "change" "Pool.change" st_Po_change ["self", "division", "factor"]) : MCal P w K mg base 1 CPool "change" ["self", "division", "factor"] (spPlChange CPool CDivision CShare) := by
  refine D.cal sc_Po_change (fun vs H Q E h => ?_) (fun f cdv A out s H vs Q E hr h => ?_)
  · obtain ⟨wo, p, d, t, ss, cs, r, rows, k, f, rfl, _⟩ := h
    rfl
  obtain ⟨wo, p, d, t, ss, cs, r, rows, k, f, rfl, ⟨dx, t0, us, hp, ht, co, ne, sz⟩, c9, k30, dv, kk⟩ := h
  refine ⟨_, (pss_cons (ps_set (i := 3) sc_Po_change.nd rfl (.inl rfl) (pe_ix ix_tup (pe_ix ix_tup (pe_fld (pv 0) rfl) (pe_un un_neg pe_int) (fun _ _ => rfl)) pe_int (fun _ _ => rfl)))
   (pss_one (ps_fld (pv 0) (pe_tup (StX.pa_star (pe_fld (pv 0) rfl) (pa_cons (pe_tup (pa_cons (pv 1) (pa_cons (pe_op op_mul (pv 3) (pv 2)) pa_nil))) pa_nil))) rfl))), ?_⟩
  obtain ⟨pre, u, d0, t1, ss1, rfl, cp, hu, dv0⟩ := co.last
  have al : atI ((pre ++ [u]).map V.ref) (-1) = some (.ref u) := by
    rw [List.map_append]
    exact atI_last _ _
  refine ⟨_, rfl, p, CPool, dx, _, _, rfl, hp, SPool.cl, SPool.nC, plF_get _ t0, 1, rfl, t0, _, _, _, rfl, rfl, SqT.of ht, al, u, _, _, _, rfl, rfl, SqT.of hu, atI_nat (j := 1) rfl, ?_⟩
  have lpre := cp.1
  have szc : cs.length + 1 ≤ 100000 := by
    have z := sz
    rw [List.length_append] at z
    exact z
  refine ⟨_, rfl, p, CPool, dx, _, _, rfl, hp, SPool.cl, SPool.nC, plF_get _ t0, t0, _, rfl, .inl (SqT.of ht), ?_⟩
  refine ⟨_, rfl, _, rfl, _, rfl, _, _, rfl, rfl, .inl ⟨by omega, by omega⟩, (by show 2 ≤ sizeLine; decide), fun u2 hu2 => ?_⟩
  generalize hH1 : upd H u2 _ = H1
  obtain ⟨k1, e1⟩ := alloc hH1 hu2
  clear hH1
  refine ⟨?_, fun t2 ht2 => ?_⟩
  · refine Nat.le_trans (m := 100001) ?_ (by decide)
    rw [List.length_append, List.length_map, List.length_append]
    show pre.length + 1 + 1 ≤ 100001
    omega
  generalize hH2 : upd H1 t2 _ = H2
  obtain ⟨k2, e2⟩ := alloc hH2 ht2
  clear hH2
  have k12 := k1.trans k2
  have hp2 := k12 _ _ hp
  refine ⟨_, rfl, p, CPool, dx, _, rfl, hp2, SPool.cl, SPool.nC, (plF_len wo t0), ?_⟩
  have kp : Kp p H (upd H2 p (.ins CPool dx (putF "course" (.ref t2) (plF wo t0)))) := (Kp.of k12).trans Kp.upd
  have tp : t2 ≠ p := ne_of e2 hp2 (by intro z; cases z)
  have kn : KpN p H2 (upd H2 p (.ins CPool dx (putF "course" (.ref t2) (plF wo t0)))) := KpN.of Kp.upd
  have ins2 : ∃ CP dx wo t, H2 p = some (.ins CP dx (plF wo t)) := ⟨_, _, _, _, hp2⟩
  have e1' := k2 _ _ e1
  have up : u2 ≠ p := ne_of e1' hp2 (by intro z; cases z)
  have co2 : CoA CDivision CShare (upd H2 p (.ins CPool dx (putF "course" (.ref t2) (plF wo t0)))) ((pre ++ [u]) ++ [u2]) ((cs ++ [(r, k)]) ++ [(rows, k * f)]) := ((co.kn (KpN.same k12) ⟨_, _, _, _, hp⟩).kn kn ins2).snoc (d := d) (t := t) (ss := ss) (by rw [upd_ne up]; exact e1') ((dv.same k12).kn kn ins2)
  refine kk _ kp ⟨dx, t2, (pre ++ [u]) ++ [u2], by rw [upd_same, plF_put], by rw [upd_ne tp, e2, List.map_append (l₂ := [u2])]; rfl, ?_, by simp, ?_⟩
  · have e : cs ++ [(r, k), (rows, k * f)] = (cs ++ [(r, k)]) ++ [(rows, k * f)] := by rw [List.append_assoc]; rfl
    rw [e]
    exact co2
  · rw [List.length_append]
    show cs.length + 2 ≤ 100000
    omega
end
end Pl
namespace Pl
open PySem PySem.Spec PyProof.Rows L2
/-- exchange, of a ring or of what is none -/
def spPlExch (K : PySem.W.Frag) (CP CD C CN : Addr) : Sp := fun vs H Q E => ∃ (wo : Option Nat) (p : Addr) (x : V) (cs : List (List (List Int) × Int)) (r : List (List Int)) (k : Int), vs = [.ref p, x] ∧ PlAt CP wo CD C H p (cs ++ [(r, k)]) ∧ cs.length ≤ 90000 ∧ k.natAbs < 2 ^ 30 ∧
  ((NoTu K H x ∧ E (.ref CN) none H) ∨ ∃ Dx, Vl K H x Dx ∧
    (∀ ss g, Dx = .tuple [tupN ss, tupN g] → IsRing r (List.range r.length) ss g → ∀ H', Kp p H H' → PlAt CP wo CD C H' p (cs ++ [(r, k), (exs r (g.zip (stp ss)), k * 1)]) → Q .non H') ∧
    (¬ RgD r Dx → ∀ H', Same H H' → E (.ref CN) none H'))
section
variable {P : Program} {w : World} {K : PySem.W.Frag} {mg : Str → Option Value} {base : Heap} {nm : Str} {CShare CDivision CPool CNoRing : Addr}
abbrev st_Po_init : Stmt := inClass (top 46) 1
theorem sc_Po_init : FnScope ["self", "division"] ["self", "division"] (defScope st_Po_init) := ⟨rfl, rfl, rfl, by decide +kernel, rfl, by decide +kernel, by decide +kernel⟩
theorem ok_plInit (SPool : PlK K mg nm CPool) (c_check_division : Cal P w K mg base 1 "check_division" ["thing"] (spCheckD CDivision CShare)) (D : Mh K CPool "__init__" "Pool.__init__" st_Po_init ["self", "division"]) : MCal P w K mg base 2 CPool "__init__" ["self", "division"] (spPlInit CPool CDivision CShare) := by
  refine D.cal sc_Po_init (fun vs H Q E h => ?_) (fun f cdv A out s H vs Q E hr h => ?_)
  · obtain ⟨p, d, dx, t, ss, rows, rfl, _⟩ := h
    rfl
  obtain ⟨p, d, dx, t, ss, rows, rfl, hp, dv, k⟩ := h
  refine ⟨_, (pss_cons (ps_expr (pe_fn c_check_division (hr.mono (by decide)) (pa_cons (pv 1) pa_nil)))
   (pss_one (ps_fld (pv 0) (pe_tup (pa_cons (pe_tup (pa_cons (pv 1) (pa_cons pe_int pa_nil))) pa_nil)) rfl))), ?_⟩
  refine ⟨_, rfl, d, t, ss, rows, rfl, dv, ?_⟩
  refine ⟨_, rfl, (by show 2 ≤ sizeLine; decide), fun u hu => ?_⟩
  generalize hH1 : upd H u _ = H1
  obtain ⟨k1, e1⟩ := alloc hH1 hu
  clear hH1
  refine ⟨(by show 1 ≤ sizeLine; decide), fun t2 ht2 => ?_⟩
  generalize hH2 : upd H1 t2 _ = H2
  obtain ⟨k2, e2⟩ := alloc hH2 ht2
  clear hH2
  have k12 := k1.trans k2
  have hp2 := k12 _ _ hp
  refine ⟨_, rfl, p, CPool, dx, _, rfl, hp2, SPool.cl, SPool.nC, (by show 0 < 1000; decide), ?_⟩
  have kp : Kp p H (upd H2 p (.ins CPool dx (putF "course" (.ref t2) []))) := (Kp.of k12).trans Kp.upd
  have tp : t2 ≠ p := ne_of e2 hp2 (by intro z; cases z)
  have up : u ≠ p := ne_of (k2 _ _ e1) hp2 (by intro z; cases z)
  refine k _ kp ⟨dx, t2, [u], upd_same, by rw [upd_ne tp]; exact e2, ⟨rfl, fun j u' r q a b => ?_⟩, by simp, by show 1 ≤ 100000; decide⟩
  match j, a, b with
  | 0, a, b =>
    cases a
    cases b
    refine ⟨d, t, ss, by rw [upd_ne up]; exact k2 _ _ e1, ?_⟩
    have dv2 := dv.same k12
    obtain ⟨⟨d1, a1⟩, a2, a3, a4⟩ := dv2
    have dp : d ≠ p := fun z => by
      rw [z, hp2] at a1
      cases a1
    refine ⟨⟨d1, by rw [upd_ne dp]; exact a1⟩, by rw [upd_ne (ne_of a2 hp2 (by intro z; cases z))]; exact a2, a3.kp Kp.upd ⟨_, _, _, hp2, fun t z => by cases z⟩, a4⟩
  | j + 1, a, _ => simp at a
abbrev st_Po_exchange : Stmt := inClass (top 46) 8
theorem sc_Po_exchange : FnScope ["self", "ring"] ["self", "ring"] (defScope st_Po_exchange) := ⟨rfl, rfl, rfl, by decide +kernel, rfl, by decide +kernel, by decide +kernel⟩
theorem ok_plExch (SPool : PlK K mg nm CPool) (p_division : PCal P w K mg base 1 CPool "division" ["self"] (spPlDiv CPool CDivision CShare)) (c_exchanged : CalX P w K mg base 8 "exchanged" ["division", "ring"] (spExchD K CDivision CShare CNoRing)) (m_change : MCal P w K mg base 1 CPool "change" ["self", "division", "factor"] (spPlChange CPool CDivision CShare)) (D : Mh K CPool "exchange" "Pool.exchange" st_Po_exchange ["self", "ring"]) : MCalX P w K mg base 9 CPool "exchange" ["self", "ring"] (spPlExch K CPool CDivision CShare CNoRing) := by
  refine D.calX sc_Po_exchange (fun vs H Q E h => ?_) (fun f cdv A out s H vs Q E hr h => ?_)
  · obtain ⟨wo, p, x, cs, r, k, rfl, _⟩ := h
    rfl
  obtain ⟨wo, p, x, cs, r, k, rfl, pl, c9, k30, hx⟩ := h
  refine ⟨_, (pss_one (ps_expr (pe_mtN m_change SPool.cl (hr.mono (by decide)) (pv 0) (pa_cons (pe_fnX c_exchanged (passW (takes_of rfl rfl rfl rfl)) (hr.mono (by decide)) (pa_cons (pe_pr p_division SPool.cl (hr.mono (by decide)) (pv 0)) (pa_cons (pv 1) pa_nil))) (pa_cons pe_int pa_nil))))), ?_⟩
  obtain ⟨dp, t0, hp⟩ := pl.own
  refine ⟨_, rfl, p, dp, _, rfl, hp, (by cases wo <;> rfl), _, rfl, p, dp, _, rfl, hp, wo, p, cs, r, k, rfl, pl, fun d t ss dv => ?_⟩
  refine ⟨_, rfl, d, t, ss, r, x, rfl, dv, ?_⟩
  rcases hx with ⟨nt, kN⟩ | ⟨Dx, vl, kk, kN⟩
  · exact .inl ⟨nt, fun σ' => kN⟩
  refine .inr ⟨Dx, vl, fun sg g e ir d' t' sd' H1 k1 dv1 => ?_, fun n H' k' σ' => kN n H' k'⟩
  exact ⟨wo, p, d', t', sd', cs, r, _, k, 1, rfl, pl.same k1, c9, k30, dv1, fun H2 kp pl2 => kk sg g e ir H2 ((Kp.of k1).trans kp) pl2⟩
abbrev st_Po_call : Stmt := inClass (top 46) 9
theorem sc_Po_call : FnScope ["self", "ring"] ["self", "ring"] (defScope st_Po_call) := ⟨rfl, rfl, rfl, by decide +kernel, rfl, by decide +kernel, by decide +kernel⟩
theorem ok_plCall (SPool : PlK K mg nm CPool) (m_exchange : MCalX P w K mg base 9 CPool "exchange" ["self", "ring"] (spPlExch K CPool CDivision CShare CNoRing)) (D : Mh K CPool "__call__" "Pool.__call__" st_Po_call ["self", "ring"]) : MCalX P w K mg base 10 CPool "__call__" ["self", "ring"] (spPlExch K CPool CDivision CShare CNoRing) := by
  refine D.calX sc_Po_call (fun vs H Q E h => ?_) (fun f cdv A out s H vs Q E hr h => ?_)
  · obtain ⟨wo, p, x, cs, r, k, rfl, _⟩ := h
    rfl
  obtain ⟨wo, p, x, cs, r, k, rfl, pl, c9, k30, hx⟩ := h
  refine ⟨_, (pss_one (ps_expr (pe_mtNX m_exchange (passW (takes_of rfl rfl rfl rfl)) SPool.cl (hr.mono (by decide)) (pv 0) (pa_cons (pv 1) pa_nil)))), ?_⟩
  obtain ⟨dp, t0, hp⟩ := pl.own
  refine ⟨_, rfl, p, dp, _, rfl, hp, (by cases wo <;> rfl), _, rfl, wo, p, x, cs, r, k, rfl, pl, c9, k30, ?_⟩
  rcases hx with ⟨nt, kN⟩ | ⟨Dx, vl, kk, kN⟩
  · exact .inl ⟨nt, fun σ' => kN⟩
  exact .inr ⟨Dx, vl, kk, fun n H' k' σ' => kN n H' k'⟩
end
end Pl
namespace Pl
open PySem PySem.Spec PyProof.Rows L2
theorem saJoin {te : TE} {g : TG} {u : TS} {D : Ends} {σ : L2.St} {H : Hp} (R : V → Hp → Prop) (h1 : ∀ v H', R v H' → g v σ H' (u D)) (h2 : ∀ N : VK, (∀ v H', R v H' → N v H') → te σ H N) : tSeq (tAsg te g) u D σ H := h2 _ h1
theorem eqv_nilJ (ns : List Int) : PyData.eqv (.list (ns.map PyData.int)) (.list []) = decide (ns = []) := by
  cases ns with
  | nil => rfl
  | cons x xs => simp [PyData.eqv, PyData.eqvAll]
def isTupD : PyData → Bool
  | .tuple _ => true
  | _ => false
theorem isTupD_iff {d : PyData} : isTupD d = true ↔ ∃ ds, d = .tuple ds := by
  cases d <;> simp [isTupD]
theorem dp_isTu {K : PySem.W.Frag} {H : Hp} {x : V} {d : PyData} (h : Dp K H x d) : ∃ ty, TyX K H x ty ∧ PySem.W.kitOne K ty (.type "tuple") = some (isTupD d) := by
  by_cases c : ∃ ds, d = .tuple ds
  · obtain ⟨ds, rfl⟩ := c
    obtain ⟨q, xs, rfl, sq, _⟩ := dp_tup_out h
    exact ⟨_, sqT_ty sq, (kit_ty (by decide +kernel) : PySem.W.kitOne K (.type "tuple") (.type "tuple") = some true)⟩
  · obtain ⟨ty, a, b⟩ := dp_noTu h fun ds e => c ⟨ds, e⟩
    refine ⟨ty, a, ?_⟩
    rw [b]
    congr 1
    cases e : isTupD d with
    | false => rfl
    | true => exact absurd (isTupD_iff.mp e) c
def spBelow (K : PySem.W.Frag) : Sp := fun vs H Q _ => ∃ (q : Addr) (xs : List V) (n : Nat), vs = [.ref q, .int (n : Nat)] ∧ SqT K H q xs ∧ xs.length ≤ 100 ∧ (∀ x ∈ xs, Kd K H x) ∧ ∀ H', Same H H' → Q (.bl (xs.all (isTo ((n : Int) - 1)))) H'
/-- the amounts behind the exchanges of a ring -/
def spAfter (K : PySem.W.Frag) : Sp := fun vs H Q _ => ∃ (l T q r : Addr) (ts : List Addr) (rows : List (List Int)) (ss g : List Nat), vs = [.ref l, .ref T] ∧ H l = some (.lst (ts.map V.ref)) ∧ LsAll H ts rows ∧ Rows rows ∧ SqT K H T [.ref q, .ref r] ∧ SqT K H q (iV ss) ∧ SqT K H r (iV g) ∧ IsRing rows (List.range rows.length) ss g ∧
  ∀ (F : Addr) (us : List Addr) (H' : Hp), Same H H' → H' F = some (.lst (us.map V.ref)) → LsAll H' us (exs rows (g.zip (stp ss))) → (∀ u ∈ us, H u = none) → Q (.ref F) H'
def spIsRgL (K : PySem.W.Frag) : Sp := fun vs H Q _ => ∃ (l : Addr) (ts : List Addr) (rows : List (List Int)) (x : V), vs = [.ref l, x] ∧ H l = some (.lst (ts.map V.ref)) ∧ LsAll H ts rows ∧ Rows rows ∧
  ((NoTu K H x ∧ Q (.bl false) H) ∨ ∃ d, One K H x d ∧ ∀ (b : Bool) (H' : Hp), Same H H' → (b = true ↔ RgD rows d) → Q (.bl b) H')
section
variable {P : Program} {w : World} {K : PySem.W.Frag} {mg : Str → Option Value} {base : Heap} {CShare CDivision CNoPerson : Addr}
abbrev st_l_pairs : Stmt := top 58
theorem sc_l_pairs : FnScope ["_law_states"] ["_law_states"] (defScope st_l_pairs) := ⟨rfl, rfl, rfl, by decide +kernel, rfl, by decide +kernel, by decide +kernel⟩
theorem ok_pairs (B : Bn mg) (D : Df K mg "_law_pairs" st_l_pairs ["_law_states"]) : Cal P w K mg base 1 "_law_pairs" ["_law_states"] (spStepsF K) := by
  refine D.cal sc_l_pairs (fun vs H Q E h => ?_) (fun f cdv A out s H vs Q E hr h => ?_)
  · obtain ⟨q, ss, rfl, _⟩ := h
    rfl
  obtain ⟨q, ss, rfl, hq, l1, l100, k⟩ := h
  refine ⟨_, (pss_one (ps_ret (pe_listZip rfl (by rfl) B.n_list (by rfl) B.n_zip (pa_cons (pv 0) (pa_cons (pe_op op_catA (pe_slice sl_tupA (pv 0) (po_some pe_int) po_none) (pe_slice sl_tupA (pv 0) po_none (po_some pe_int))) pa_nil))))), ?_⟩
  have li := iV_len ss
  have c1t : cutV (iV ss) none (some (1 : Int)) = iV (ss.take 1) := by
    rw [show cutV (iV ss) none (some (1 : Int)) = (iV ss).take 1 from cut_take (n := 1) (by omega)]
    unfold iV
    rw [List.map_take]
  have c1d : cutV (iV ss) (some (1 : Int)) none = iV (ss.drop 1) := by
    rw [show cutV (iV ss) (some (1 : Int)) none = (iV ss).drop 1 from cut_drop (n := 1) (by omega)]
    unfold iV
    rw [List.map_drop]
  refine ⟨_, rfl, _, rfl, _, rfl, ?_⟩
  try unfold tNoPart
  refine slQ (K := K) (lo := some (1 : Int)) (hi := none) hq fun p1 H1 k1 e1 => ?_
  rw [c1d] at e1
  refine ⟨_, rfl, _, rfl, slQ (K := K) (lo := none) (hi := some (1 : Int)) (sqT_same k1 hq) fun p2 H2 k2 e2 => ?_⟩
  rw [c1t] at e2
  refine caQ (sqT_same k2 e1) e2 (by rw [iV_len, iV_len, List.length_drop, List.length_take]; omega) fun p3 H3 k3 e3 => ?_
  have e3 : SqT K H3 p3 (iV (ss.drop 1 ++ ss.take 1)) := by
    unfold iV at e3 ⊢
    rw [List.map_append]
    exact e3
  have kk := k1.trans (k2.trans k3)
  refine ⟨q, p3, _, _, rfl, sqT_same kk hq, e3, by rw [iV_len, iV_len, List.length_append, List.length_drop, List.length_take]; omega, fun L ws H4 k4 _ hL pr => ?_⟩
  exact k L ws H4 (kk.trans k4) hL (StL.of pr)
abbrev st_l_are_below : Stmt := top 60
theorem sc_l_are_below : FnScope ["_law_values", "_law_many", "_law_one"] ["_law_values", "_law_many"] (defScope st_l_are_below) := ⟨rfl, rfl, rfl, by decide +kernel, rfl, by decide +kernel, by decide +kernel⟩
theorem ok_below (B : Bn mg) (D : Df K mg "_law_are_below" st_l_are_below ["_law_values", "_law_many"]) : Cal P w K mg base 1 "_law_are_below" ["_law_values", "_law_many"] (spBelow K) := by
  refine D.cal sc_l_are_below (fun vs H Q E h => ?_) (fun f cdv A out s H vs Q E hr h => ?_)
  · obtain ⟨q, xs, n, rfl, _⟩ := h
    rfl
  obtain ⟨r, ys, n, rfl, sr, lr, kd, k⟩ := h
  refine ⟨_, (pss_one (ps_ret (pe_callB (cr_all rfl) (by rfl) B.n_all (by decide +kernel) (pa_cons (pe_lc (own := [("_law_one", 2)]) (g := gName 2) rfl sc_l_are_below.nd (pi_tup (pv 0)) (blkOk_by (N := ["_law_values", "_law_many", "_law_one"]) (sc := defScope st_l_are_below) (by decide +kernel)) (fun _ _ _ _ _ => (pg_name (i := 2) sc_l_are_below.nd rfl (.inl rfl))) (fun _ _ _ _ _ => pts_nil) (fun _ _ _ _ _ => (pe_and (pe_callB (show CallR _ (.builtin "isinstance") (rIsi K) from call_isi) (by rfl) B.n_isinstance (by decide +kernel) (pa_cons (pv 2) (pa_cons (pe_bltn (v := .ty "int") (by rfl) B.n_int (by decide +kernel) rfl) pa_nil))) (pe_and (pe_not (pe_callB (show CallR _ (.builtin "isinstance") (rIsi K) from call_isi) (by rfl) B.n_isinstance (by decide +kernel) (pa_cons (pv 2) (pa_cons (pe_bltn (v := .ty "bool") (by rfl) B.n_bool (by decide +kernel) rfl) pa_nil)))) (pe_one (pe_chain op_le op_lt pe_int (pv 2) (pv 1))))))) pa_nil)))), ?_⟩
  refine ⟨_, rfl, r, rfl, ⟨_, sr⟩, fun D hD => lc_tup (K := K) (a := r) (xs := ys) (BlI D H fun j => ∀ x, ys[j]? = some x → isTo ((n : Int) - 1) x = true) (BlI.start hD) (fun i H' _ z => sqT_same z.1 sr) (fun j x H' hx z => ⟨rfl, tyes ?_⟩) (fun H5 z => ?_)⟩
  · have lj := (List.getElem?_eq_some_iff.mp hx).1
    obtain ⟨ty, bi, bb, tx, kk1, kk2, e3⟩ := (kd x (List.mem_of_getElem? hx)).same z.1
    have fin : ∀ b : Bool, b = isTo ((n : Int) - 1) x → ∃ acc, H' D = some (.lst acc) ∧ acc.length < sizeLine ∧ BlI D H (fun j => ∀ x, ys[j]? = some x → isTo ((n : Int) - 1) x = true) (j + 1) (upd H' D (.lst (acc ++ [.bl b]))) := fun b hb => z.next (Same.refl _) hD (by omega) (b := b) ⟨fun z y hy => by
      rw [hx] at hy
      cases hy
      rw [← hb]; exact z, fun z => by rw [hb]; exact z x hx⟩
    have nI : isInt x = false → isTo ((n : Int) - 1) x = false := fun e => by
      cases x <;> first | rfl | cases e
    cases bi with
    | false => exact ⟨_, rfl, _, _, _, _, false, rfl, .ty _, tx, kk1, _, rfl, iteF (fin false (nI (by rw [← e3]; rfl)).symm)⟩
    | true =>
      refine ⟨_, rfl, _, _, _, _, true, rfl, .ty _, tx, kk1, _, rfl, iteT ?_⟩
      refine ⟨_, rfl, _, _, _, _, bb, rfl, .ty _, tx, kk2, _, rfl, ?_⟩
      cases bb with
      | true => exact ⟨_, rfl, iteF (fin false (nI (by rw [← e3]; rfl)).symm)⟩
      | false =>
        have ii : isInt x = true := by rw [← e3]; rfl
        cases x <;> first | (simp [isInt] at ii; done) | skip
        rename_i a
        refine ⟨_, rfl, iteT ?_⟩
        refine ⟨_, rfl, _, _, rfl, rfl, _, rfl, ?_⟩
        by_cases c0 : 0 ≤ a
        · rw [if_pos (decide_eq_true c0)]
          refine ⟨_, rfl, _, _, rfl, rfl, fin _ ?_⟩
          show decide (a < (n : Int)) = (decide (0 ≤ a) && decide (a ≤ (n : Int) - 1))
          rw [decide_eq_true c0, Bool.true_and]
          exact decide_eq_decide.mpr (by omega)
        · rw [if_neg (fun z => c0 (of_decide_eq_true z))]
          refine fin false ?_
          show false = (decide (0 ≤ a) && decide (a ≤ (n : Int) - 1))
          rw [decide_eq_false c0]
          rfl
  obtain ⟨bs, e, ev⟩ := z.all
  have evN : bs.all id = ys.all (isTo ((n : Int) - 1)) := by
    rw [Bool.eq_iff_iff]
    exact ev.trans ⟨fun h => List.all_eq_true.mpr fun x hx => by
      obtain ⟨j, hj⟩ := List.mem_iff_getElem?.mp hx
      exact h j (List.getElem?_eq_some_iff.mp hj).1 x hj, fun h j _ x hx => List.all_eq_true.mp h x (List.mem_of_getElem? hx)⟩
  refine ⟨D, bs, rfl, SqL.of e, ?_⟩
  rw [evN]
  exact k H5 z.1
abbrev st_l_after : Stmt := top 59
theorem sc_l_after : FnScope ["_law_rows_here", "_law_way", "_law_found", "_law_who", "_law_pair", "_law_row_here"] ["_law_rows_here", "_law_way"] (defScope st_l_after) := ⟨rfl, rfl, rfl, by decide +kernel, rfl, by decide +kernel, by decide +kernel⟩
theorem ok_after (B : Bn mg) (c_l_pairs : Cal P w K mg base 1 "_law_pairs" ["_law_states"] (spStepsF K)) (D : Df K mg "_law_after" st_l_after ["_law_rows_here", "_law_way"]) : Cal P w K mg base 2 "_law_after" ["_law_rows_here", "_law_way"] (spAfter K) := by
  refine D.cal sc_l_after (fun vs H Q E h => ?_) (fun f cdv A out s H vs Q E hr h => ?_)
  · obtain ⟨l, T, q, r, ts, rows, ss, g, rfl, _⟩ := h
    rfl
  obtain ⟨l, T, q, r, ts0, rows, ss, g, rfl, hl, ls0, rw_, sT, hq, hr', ir, k⟩ := h
  refine ⟨_, (pss_cons (ps_setLc (i := 2) (own := [("_law_row_here", 5)]) (g := gName 5) rfl sc_l_after.nd rfl rfl (sw_true rfl rfl rfl (by decide +kernel)) (pi_list (pv 0)) (blkOk_by (N := ["_law_rows_here", "_law_way", "_law_found", "_law_who", "_law_pair", "_law_row_here"]) (sc := defScope st_l_after) (by decide +kernel)) (fun _ _ _ _ _ => (pg_name (i := 5) sc_l_after.nd rfl (.inl rfl))) (fun _ _ _ _ _ => pts_nil) (fun _ _ _ _ _ => (pe_callTy (show CallR _ (.type "list") (rListOf K) from call_list_of) (by rfl) B.n_list (by decide +kernel) (pa_cons (pv 5) pa_nil))))
   (pss_cons (ps_for PassesOwn.never rfl (pi_zipM (by rfl) B.n_zip (pa_cons (pe_ix ix_tup (pv 1) pe_int (fun _ _ => rfl)) (pa_cons (pe_fn c_l_pairs (hr.mono (by decide)) (pa_cons (pe_ix ix_tup (pv 1) pe_int (fun _ _ => rfl)) pa_nil)) pa_nil))) (pg_tup rfl (pgs_cons (pg_name (i := 3) sc_l_after.nd rfl (.inl rfl)) (pgs_cons (pg_name (i := 4) sc_l_after.nd rfl (.inl rfl)) pgs_nil)))
   (pss_cons (ps_set (i := 5) sc_l_after.nd rfl (.inl rfl) (pe_ix ix_list (pv 2) (pv 3) (fun _ _ => rfl)))
   (pss_cons (ps_asg (pe_op op_add (pe_ix ix_list (pv 5) (pe_ix ix_tup (pv 4) pe_int (fun _ _ => rfl)) (fun _ _ => rfl)) pe_int) (pg_sub (pv 5) (pe_ix ix_tup (pv 4) pe_int (fun _ _ => rfl)) set_list))
   (pss_one (ps_asg (pe_op op_sub (pe_ix ix_list (pv 5) (pe_ix ix_tup (pv 4) pe_int (fun _ _ => rfl)) (fun _ _ => rfl)) pe_int) (pg_sub (pv 5) (pe_ix ix_tup (pv 4) pe_int (fun _ _ => rfl)) set_list))))))
   (pss_one (ps_ret (pv 2))))), ?_⟩
  have lp := ir.ppl
  obtain ⟨nd, lt, l1, lg, all, _⟩ := id ir
  have l6 := nodup_le nd lt
  obtain ⟨w2, w6⟩ := rw_.w26
  have p4 := rw_.2.1
  have ln := ls0.1
  refine ⟨_, rfl, l, rfl, ⟨_, SqL.of hl⟩, fun L hL => lc_list (K := K) (a := l) (xs := ts0.map V.ref) (fun i H' => Same H H' ∧ ∃ ts : List Addr, H' L = some (.lst (ts.map V.ref)) ∧ LsAll H' ts (rows.take i) ∧ ts.Nodup ∧ ∀ u ∈ ts, u ≠ L ∧ H u = none) ⟨same_new (Same.refl _) hL, [], upd_same, ⟨by simp, fun j u ns z => by simp at z⟩, List.nodup_nil, fun u hu => (nomatch hu)⟩ (fun i H' _ z => SqL.of (z.1 _ _ hl)) (fun i x H' hx z => ⟨rfl, tyes ?_⟩) (fun H2 z => ?_)⟩
  · obtain ⟨k2, ts, h2, ls, nt, fr_⟩ := z
    obtain ⟨s1, rfl, es⟩ := refAt hx
    have li : i < rows.length := by rw [← ln]; exact (List.getElem?_eq_some_iff.mp es).1
    have en : rows[i]? = some rows[i] := List.getElem?_eq_getElem li
    generalize rows[i] = ns at en
    have hs := k2 _ _ (ls0.2 i s1 ns es en)
    refine ⟨_, rfl, s1, _, rfl, .inl (SqL.of hs), fun l' hl' => ?_⟩
    have lL : l' ≠ L := fun e => by rw [e, h2] at hl'; cases hl'
    have nl : l' ∉ ts := fun m => by
      obtain ⟨j, hj⟩ := List.mem_iff_getElem?.mp m
      have lj : j < (rows.take i).length := by rw [← ls.1]; exact (List.getElem?_eq_some_iff.mp hj).1
      rw [ls.2 j l' _ hj (List.getElem?_eq_getElem lj)] at hl'
      cases hl'
    have hl1 : H l' = none := by
      cases e : H l' with
      | none => rfl
      | some o => rw [k2 _ _ e] at hl'; cases hl'
    generalize hH3 : upd H' l' _ = H3
    obtain ⟨k3, e3⟩ := alloc hH3 hl'
    clear hH3
    have h3 := k3 _ _ h2
    have lt_ := ls.1
    rw [List.length_take] at lt_
    have ne : ∀ u ∈ ts ++ [l'], u ≠ L ∧ H u = none := fun u hu => by
      rcases List.mem_append.mp hu with m | m
      · exact fr_ u m
      · rw [List.mem_singleton.mp m]; exact ⟨lL, hl1⟩
    refine ⟨_, h3, size_lt' (by rw [List.length_map]; omega), same_put (k2.trans k3) hL, ts ++ [l'], by rw [upd_same, List.map_append]; rfl, ((ls.same k3).snoc en e3).put fun u hu => (ne u hu).1, ?_, ne⟩
    rw [List.nodup_append]
    refine ⟨nt, by simp, fun a ha b hb e => nl ?_⟩
    rw [← List.mem_singleton.mp hb, ← e]
    exact ha
  obtain ⟨k2, ts, h2, ls, nt, fr_⟩ := z
  rw [List.length_map, ln, List.take_length] at ls
  refine ⟨_, rfl, T, _, 1, _, rfl, rfl, sqT_same k2 sT, rfl, ?_⟩
  refine ⟨_, rfl, T, _, 0, _, rfl, rfl, sqT_same k2 sT, rfl, q, ss, rfl, sqT_same k2 hq, l1, by omega, fun Ls ws H3 k3 hLs st => ?_⟩
  have lw := st.len
  have lst := stp_len l1
  have k13 := k2.trans k3
  have nLs : ∀ u ∈ ts, u ≠ Ls := fun u hu e => by
    obtain ⟨j, hj⟩ := List.mem_iff_getElem?.mp hu
    have lj : j < rows.length := by rw [← ls.1]; exact (List.getElem?_eq_some_iff.mp hj).1
    have z := k3 _ _ (ls.2 j u _ hj (List.getElem?_eq_getElem lj))
    rw [e, hLs] at z
    have z : ws = rows[j].map V.int := by injection z with z; injection z
    have l0 : 0 < ws.length := by omega
    obtain ⟨u', a, b, e1, _⟩ := st.at (List.getElem?_eq_getElem l0)
    have z2 : (rows[j].map V.int)[0]? = some (.ref u') := by rw [← z, List.getElem?_eq_getElem l0, e1]
    rw [List.getElem?_map] at z2
    cases e2 : rows[j][0]? with
    | none => rw [e2] at z2; cases z2
    | some y => rw [e2] at z2; cases z2
  have hrH : ∀ {H' : Hp}, Same H H' → SqT K H' r (iV g) := fun kk => sqT_same kk hr'
  refine ⟨r, Ls, _, _, rfl, hrH k13, SqL.of hLs, for_it (walk_zipM (K := K) (a := r) (b := Ls) (xs := iV g) (ys := ws) (by rw [iV_len, lw, lst, lg])) (fun i σ H' => ∃ v3 v4 v5 : Option V, σ = [some (.ref l), some (.ref T), some (.ref L), v3, v4, v5] ∧ Same H H' ∧ H' L = some (.lst (ts.map V.ref)) ∧ LsAll H' ts (exs rows ((g.zip (stp ss)).take i)) ∧ H' Ls = some (.lst ws) ∧ StL H' ws (stp ss)) ⟨none, none, none, rfl, k13, k3 _ _ h2, ls.same k3, hLs, st⟩ (fun i σ H' _ ⟨_, _, _, _, z, _, _, hw, _⟩ => ⟨hrH z, SqL.of hw⟩) ?_ ?_⟩
  · rintro i x σ H4 H5 hi ⟨v3, v4, v5, rfl, k4, h4, ls4, hw4, st4⟩ ⟨T', x', y', rfl, nT, rfl, ex, ey⟩
    obtain ⟨p1, rfl, ep⟩ := iV_at ex
    obtain ⟨u, a, b, rfl, hu, en⟩ := st4.at ey
    have la := lt a (stp_mem en).1
    have lb := lt b (stp_mem en).2
    have lp1 := lp p1 (List.mem_of_getElem? ep)
    generalize hH5 : upd H4 T' _ = H5
    obtain ⟨k5, hT'⟩ := alloc hH5 nT
    clear hH5
    have eR := exs_snoc rows ((g.zip (stp ss)).take i) (p1, a, b)
    have eT : (g.zip (stp ss)).take (i + 1) = (g.zip (stp ss)).take i ++ [(p1, a, b)] := by
      have e9 : (g.zip (stp ss))[i]? = some (p1, a, b) := List.getElem?_zip_eq_some.mpr ⟨ep, en⟩
      rw [List.take_add_one, e9]
      rfl
    rw [← eT] at eR
    have lR := exs_len ((g.zip (stp ss)).take i) rows
    have sR := exs_shp ((g.zip (stp ss)).take i) rw_.shp
    generalize hR : exs rows ((g.zip (stp ss)).take i) = R at *
    refine ⟨T', _, rfl, SqT.of hT', rfl, _, _, rfl, _, _, rfl, rfl, ?_⟩
    have lp2 : p1 < ts.length := by rw [ls4.1, lR]; exact lp1
    have lp3 : p1 < R.length := by rw [lR]; exact lp1
    have et : ts[p1]? = some ts[p1] := List.getElem?_eq_getElem lp2
    have mt := List.mem_of_getElem? et
    generalize ts[p1] = t1 at et mt
    have e1 : R[p1]? = some R[p1] := List.getElem?_eq_getElem lp3
    have ln1 := sR _ (List.mem_of_getElem? e1)
    generalize R[p1] = ns at e1 ln1
    have ga : ns[a]? = some ns[a] := List.getElem?_eq_getElem (by omega)
    generalize ns[a] = x1 at ga
    have h5 := k5 _ _ h4
    have hu5 := k5 _ _ hu
    have ht1 := k5 _ _ (ls4.2 p1 t1 ns et e1)
    have k45 := k4.trans k5
    refine ⟨_, rfl, _, rfl, L, _, _, _, rfl, rfl, SqL.of h5, refsAt et, ?_⟩
    refine ⟨_, rfl, _, rfl, u, _, 0, _, rfl, rfl, SqT.of hu5, rfl, t1, _, _, _, rfl, rfl, SqL.of ht1, intAt ga, _, _, rfl, rfl, ?_⟩
    refine ⟨_, rfl, _, rfl, u, _, 0, _, rfl, rfl, SqT.of hu5, rfl, t1, _, _, a, rfl, rfl, ht1, ixN_nat (by rw [List.length_map]; omega), ?_⟩
    have ls5 := (ls4.same k5).bmp (d := 1) nt et e1 ga
    have tL : L ≠ t1 := fun e => (fr_ t1 mt).1 e.symm
    have tW : Ls ≠ t1 := fun e => nLs t1 mt e.symm
    have tU : u ≠ t1 := ne_of hu5 ht1 (by intro z; cases z)
    have k6 : Same H (upd H5 t1 (.lst ((ns.map V.int).set a (.int (x1 + 1))))) := same_put k45 (fr_ t1 mt).2
    have h6 : (upd H5 t1 (.lst ((ns.map V.int).set a (.int (x1 + 1))))) L = some (.lst (ts.map V.ref)) := by rw [upd_ne tL]; exact h5
    have hw6 : (upd H5 t1 (.lst ((ns.map V.int).set a (.int (x1 + 1))))) Ls = some (.lst ws) := by rw [upd_ne tW]; exact k5 _ _ hw4
    have hu6 : (upd H5 t1 (.lst ((ns.map V.int).set a (.int (x1 + 1))))) u = some (.tup [.int (a : Nat), .int (b : Nat)]) := by rw [upd_ne tU]; exact hu5
    have st6 := (st4.same k5).put (o := .lst ((ns.map V.int).set a (.int (x1 + 1)))) ht1
    generalize upd H5 t1 (.lst ((ns.map V.int).set a (.int (x1 + 1)))) = H6 at *
    have lp4 : p1 < (bmp R p1 a 1).length := by rw [bmp_len]; exact lp3
    have e2 : (bmp R p1 a 1)[p1]? = some (bmp R p1 a 1)[p1] := List.getElem?_eq_getElem lp4
    have ln2 := bmp_shp sR p1 a 1 _ (List.mem_of_getElem? e2)
    generalize (bmp R p1 a 1)[p1] = ms at e2 ln2
    have gb : ms[b]? = some ms[b] := List.getElem?_eq_getElem (by omega)
    generalize ms[b] = x2 at gb
    have ht2 := ls5.2 p1 t1 ms et e2
    refine ⟨_, rfl, _, rfl, u, _, 1, _, rfl, rfl, SqT.of hu6, rfl, t1, _, _, _, rfl, rfl, SqL.of ht2, intAt gb, _, _, rfl, rfl, ?_⟩
    refine ⟨_, rfl, _, rfl, u, _, 1, _, rfl, rfl, SqT.of hu6, rfl, t1, _, _, b, rfl, rfl, ht2, ixN_nat (by rw [List.length_map]; omega), ?_⟩
    have ls6 := ls5.bmp (d := -1) nt et e2 gb
    refine ⟨_, _, _, rfl, same_put k6 (fr_ t1 mt).2, by rw [upd_ne tL]; exact h6, ?_, by rw [upd_ne tW]; exact hw6, st6.put ht2⟩
    rw [eR]
    exact ls6
  · rintro σ H4 ⟨v3, v4, v5, rfl, k4, h4, ls4, hw4, st4⟩
    have el : (g.zip (stp ss)).take (iV g).length = g.zip (stp ss) := by
      rw [List.take_of_length_le]
      rw [List.length_zip, iV_len]
      omega
    rw [el] at ls4
    exact ⟨_, rfl, k L ts H4 k4 h4 ls4 fun u hu => (fr_ u hu).2⟩
abbrev st_l_is_ring : Stmt := top 61
theorem sc_l_is_ring : FnScope ["_law_rows_here", "_law_thing", "_law_states", "_law_people", "_law_more", "_law_who", "_law_pair", "_law_one", "_law_part"] ["_law_rows_here", "_law_thing"] (defScope st_l_is_ring) := ⟨rfl, rfl, rfl, by decide +kernel, rfl, by decide +kernel, by decide +kernel⟩
theorem ok_isRgL (B : Bn mg) (c_l_are_below : Cal P w K mg base 1 "_law_are_below" ["_law_values", "_law_many"] (spBelow K)) (c_l_pairs : Cal P w K mg base 1 "_law_pairs" ["_law_states"] (spStepsF K)) (D : Df K mg "_law_is_ring" st_l_is_ring ["_law_rows_here", "_law_thing"]) : Cal P w K mg base 2 "_law_is_ring" ["_law_rows_here", "_law_thing"] (spIsRgL K) := by
  refine D.cal sc_l_is_ring (fun vs H Q E h => ?_) (fun f cdv A out s H vs Q E hr h => ?_)
  · obtain ⟨l, ts, rows, x, rfl, _⟩ := h
    rfl
  obtain ⟨l, ts, rows, x, rfl, hl, ls, rw_, h⟩ := h
  refine ⟨_, (pss_cons (ps_if (PW.pt (pw_or (pt_not (pt_val (pe_callB call_isi (by rfl) B.n_isinstance (by decide +kernel) (pa_cons (pv 1) (pa_cons (pe_bltn (v := .ty "tuple") (by rfl) B.n_tuple (by decide +kernel) rfl) pa_nil))))) (pw_or (pt_cmpR op_ne (pe_callB call_len_seq (by rfl) B.n_len (by decide +kernel) (pa_cons (pv 1) pa_nil)) pe_int (nomark _)) (pw_or1 (pt_not (pt_val (pe_callB (cr_all rfl) (by rfl) B.n_all (by decide +kernel) (pa_cons (pe_lc (own := [("_law_part", 8)]) (g := gName 8) rfl sc_l_is_ring.nd (pi_tup (pv 1)) (blkOk_by (N := ["_law_rows_here", "_law_thing", "_law_states", "_law_people", "_law_more", "_law_who", "_law_pair", "_law_one", "_law_part"]) (sc := defScope st_l_is_ring) (by decide +kernel)) (fun _ _ _ _ _ => (pg_name (i := 8) sc_l_is_ring.nd rfl (.inl rfl))) (fun _ _ _ _ _ => pts_nil) (fun _ _ _ _ _ => (pe_callB (show CallR _ (.builtin "isinstance") (rIsi K) from call_isi) (by rfl) B.n_isinstance (by decide +kernel) (pa_cons (pv 8) (pa_cons (pe_bltn (v := .ty "tuple") (by rfl) B.n_tuple (by decide +kernel) rfl) pa_nil))))) pa_nil)))))))) (pss_one (ps_ret pe_bl)) pss_nil)
   (pss_cons (ps_asg (pv 1) (pg_tup rfl (pgs_cons (pg_name (i := 2) sc_l_is_ring.nd rfl (.inr rfl)) (pgs_cons (pg_name (i := 3) sc_l_is_ring.nd rfl (.inl rfl)) pgs_nil))))
   (pss_cons (ps_if (PW.pt (pw_or (pt_cmpR op_lt (pe_callB call_len_seq (by rfl) B.n_len (by decide +kernel) (pa_cons (pv 2) pa_nil)) pe_int (nomark _)) (pw_or (pt_cmpR op_ne (pe_callB call_len_seq (by rfl) B.n_len (by decide +kernel) (pa_cons (pv 2) pa_nil)) (pe_callB call_len_seq (by rfl) B.n_len (by decide +kernel) (pa_cons (pv 3) pa_nil)) (nomark _)) (pw_or1 (pt_not (pt_val (pe_fn c_l_are_below (hr.mono (by decide)) (pa_cons (pv 2) (pa_cons (pe_callB call_len_seq (by rfl) B.n_len (by decide +kernel) (pa_cons (pe_ix ix_list (pv 0) pe_int (fun _ _ => rfl)) pa_nil)) pa_nil))))))))) (pss_one (ps_ret pe_bl)) pss_nil)
   (pss_cons (ps_if (PW.pt (pw_or (pt_not (pt_val (pe_fn c_l_are_below (hr.mono (by decide)) (pa_cons (pv 3) (pa_cons (pe_callB call_len_seq (by rfl) B.n_len (by decide +kernel) (pa_cons (pv 0) pa_nil)) pa_nil))))) (pw_or1 (pt_cmpR (op_neD hr.units) (pe_lc (own := [("_law_one", 7)]) (g := gName 7) rfl sc_l_is_ring.nd (pi_tup (pv 2)) (blkOk_by (N := ["_law_rows_here", "_law_thing", "_law_states", "_law_people", "_law_more", "_law_who", "_law_pair", "_law_one", "_law_part"]) (sc := defScope st_l_is_ring) (by decide +kernel)) (fun _ _ _ _ _ => (pg_name (i := 7) sc_l_is_ring.nd rfl (.inl rfl))) (fun _ _ _ _ _ => (pts_one (pt_cmpR op_gt (pe_bF PySem.F.plainAttrs_tuple PySem.F.slot_tuple_count PySem.F.type_tuple_count (show MtR _ "tuple.count" (rCountT K) from mt_countT) (pv 2) (pa_cons (pv 7) pa_nil)) pe_int (nomark _)))) (fun _ _ _ _ _ => (pv 7))) (pe_lst pa_nil) (nomark _))))) (pss_one (ps_ret pe_bl)) pss_nil)
   (pss_cons (ps_setLc (i := 4) (own := [("_law_who", 5), ("_law_pair", 6)]) (g := gTup K 2 (gCons (gName 5) (gCons (gName 6) gNil))) rfl sc_l_is_ring.nd rfl rfl (sw_true rfl rfl rfl (by decide +kernel)) (pi_zipM (by rfl) B.n_zip (pa_cons (pv 3) (pa_cons (pe_fn c_l_pairs (hr.mono (by decide)) (pa_cons (pv 2) pa_nil)) pa_nil))) (blkOk_by (N := ["_law_rows_here", "_law_thing", "_law_states", "_law_people", "_law_more", "_law_who", "_law_pair", "_law_one", "_law_part"]) (sc := defScope st_l_is_ring) (by decide +kernel)) (fun _ _ _ _ _ => (pg_tup rfl (pgs_cons (pg_name (i := 5) sc_l_is_ring.nd rfl (.inl rfl)) (pgs_cons (pg_name (i := 6) sc_l_is_ring.nd rfl (.inl rfl)) pgs_nil)))) (fun _ _ _ _ _ => pts_nil) (fun _ _ _ _ _ => (pe_op op_sub (pe_ix (show IxR _ (rIxL K) from ix_list) (pe_ix (show IxR _ (rIxL K) from ix_list) (pv 0) (pv 5) (fun _ _ => rfl)) (pe_ix (show IxR _ (rIxT K) from ix_tup) (pv 6) pe_int (fun _ _ => rfl)) (fun _ _ => rfl)) (pe_ix (show IxR _ (rIxL K) from ix_list) (pe_ix (show IxR _ (rIxL K) from ix_list) (pv 0) (pv 5) (fun _ _ => rfl)) (pe_ix (show IxR _ (rIxT K) from ix_tup) (pv 6) pe_int (fun _ _ => rfl)) (fun _ _ => rfl)))))
   (pss_one (ps_ret (pe_and (pe_cmpR op_ge (pe_callB (cr_min rfl) (by rfl) B.n_min (by decide +kernel) (pa_cons (pv 4) pa_nil)) pe_int (nomark _)) (pe_one (pe_cmpR op_ge (pe_callB (cr_max rfl) (by rfl) B.n_max (by decide +kernel) (pa_cons (pv 4) pa_nil)) pe_int (nomark _))))))))))), ?_⟩
  obtain ⟨w2, w6⟩ := rw_.w26
  have p2 := rw_.1
  have p4 := rw_.2.1
  have ln := ls.1
  rcases h with ⟨⟨ty, tx, kt⟩, k⟩ | ⟨d, one, k⟩
  · exact ⟨_, rfl, _, _, _, _, false, rfl, .ty _, tx, kt, _, rfl, iteT k⟩
  have no : ∀ H', Same H H' → ¬ RgD rows d → Q (.bl false) H' := fun H' s n => k false H' s ⟨fun z => (nomatch z), fun z => absurd z n⟩
  by_cases c : ∃ ds, d = .tuple ds
  case neg =>
    obtain ⟨ty, tx, kt⟩ := dp_noTu one.vl.dp fun ds e => c ⟨ds, e⟩
    exact ⟨_, rfl, _, _, _, _, false, rfl, .ty _, tx, kt, _, rfl, iteT (no H (Same.refl H) fun ⟨_, _, e, _⟩ => c ⟨_, e⟩)⟩
  obtain ⟨ds, rfl⟩ := c
  obtain ⟨q, xs, rfl, sq, al, fz⟩ := one.out
  refine ⟨_, rfl, _, _, _, _, true, rfl, .ty _, sqT_ty sq, kit_ty (by decide +kernel), _, rfl, iteF ?_⟩
  refine ⟨_, rfl, q, _, rfl, .inr sq, rfl, _, rfl, ?_⟩
  refine ite2 (fun c => ?_) (fun c => ?_)
  · refine no H (Same.refl H) fun ⟨_, _, e, _⟩ => ?_
    injection e with e
    have l := dpAll_len al
    rw [e] at l
    rw [l] at c
    simp at c
  have l22 : xs.length = 2 := by
    have z : V.int (xs.length : Int) = V.int 2 := by simpa using c
    have := V.int.inj z
    omega
  obtain ⟨y, w, d1, d2, rfl, rfl, h1, h2⟩ := dpAll_two al l22
  obtain ⟨v1, v2⟩ := vl_two one.vl h1 h2
  refine ⟨_, rfl, q, rfl, ⟨_, sq⟩, fun D hD => lc_tup (K := K) (a := q) (xs := [y, w]) (BlI D H fun j => ∀ e, [d1, d2][j]? = some e → isTupD e = true) (BlI.start hD) (fun i H' _ z => sqT_same z.1 sq) (fun j x H' hx z => ⟨rfl, tyes ?_⟩) (fun H1 z => ?_)⟩
  · obtain ⟨e0, he, hd⟩ : ∃ e0, [d1, d2][j]? = some e0 ∧ Dp K H x e0 := by
      match j, hx with
      | 0, hx => exact ⟨d1, rfl, by obtain rfl := Option.some.inj hx; exact h1⟩
      | 1, hx => exact ⟨d2, rfl, by obtain rfl := Option.some.inj hx; exact h2⟩
      | j + 2, hx => simp at hx
    have lj : j < 2 := (List.getElem?_eq_some_iff.mp hx).1
    obtain ⟨ty, tx, kt⟩ := dp_isTu (dpSame z.1 _ _ hd)
    exact ⟨_, rfl, _, _, _, _, isTupD e0, rfl, .ty _, tx, kt, z.next (Same.refl _) hD (by omega) ⟨fun z' e he' => by
      rw [he] at he'
      cases he'
      exact z', fun z' => z' e0 he⟩⟩
  obtain ⟨bs, hb, ev⟩ := z.all
  have k01 := z.1
  refine ⟨D, bs, rfl, SqL.of hb, ?_⟩
  cases ea : bs.all id with
  | false =>
    refine ⟨_, rfl, iteT (no H1 k01 fun ⟨s1, g1, e, _⟩ => ?_)⟩
    injection e with e
    injection e with e1 e
    injection e with e2 _
    have : bs.all id = true := ev.mpr fun j _ e he => by
      match j, he with
      | 0, he => cases he; rw [e1]; rfl
      | 1, he => cases he; rw [e2]; rfl
      | j + 2, he => simp at he
    rw [ea] at this
    cases this
  | true =>
  have tu := ev.mp ea
  obtain ⟨e1, rfl⟩ := isTupD_iff.mp (tu 0 (by show 0 < 2; decide) d1 rfl)
  obtain ⟨e2, rfl⟩ := isTupD_iff.mp (tu 1 (by show 1 < 2; decide) d2 rfl)
  obtain ⟨r, ys, rfl, fq, alr⟩ := fz y w _ _ rfl rfl
  obtain ⟨r2, zs, rfl, sr2, al2⟩ := dp_tup_out h2
  have fz1 := fq.same k01
  have sr1 := sqT_same k01 sr2
  refine ⟨_, rfl, iteF ?_⟩
  refine ⟨_, rfl, q, _, rfl, sqT_same k01 sq, rfl, _, _, rfl, _, _, rfl, rfl, ?_⟩
  have bad : ∀ H', Same H H' → ¬ (∃ ss g, PyData.tuple e1 = tupN ss ∧ PyData.tuple e2 = tupN g ∧ IsRing rows (List.range rows.length) ss g) → Q (.bl false) H' := fun H' s n => no H' s fun ⟨ss, g, e, ir⟩ => by
    injection e with e
    injection e with ea e
    injection e with eb _
    exact n ⟨ss, g, ea, eb, ir⟩
  have tl : ∀ {es : List PyData} {ss : List Nat}, PyData.tuple es = tupN ss → es.length = ss.length := fun {es ss} e => by
    unfold tupN at e
    injection e with e
    rw [e, List.length_map, nI_len]
  have ly := dpAll_len alr
  have lz_ := dpAll_len al2
  refine ⟨_, rfl, r, _, rfl, .inr fz1.sq, _, _, rfl, rfl, _, rfl, ?_⟩
  refine ite2 (fun c => bad H1 k01 fun ⟨ss, g, ea, eb, ir⟩ => ?_) (fun c => ?_)
  · have c1 : (ys.length : Int) < 2 := of_decide_eq_true c
    have := no_one ir
    have := tl ea
    omega
  have c1 : 2 ≤ ys.length := by
    have : ¬ (ys.length : Int) < 2 := fun z => c (decide_eq_true z)
    omega
  refine ⟨_, rfl, r, _, rfl, .inr fz1.sq, _, rfl, r2, _, rfl, .inr sr1, rfl, _, rfl, ?_⟩
  refine ite2 (fun c => bad H1 k01 fun ⟨ss, g, ea, eb, ir⟩ => ?_) (fun c => ?_)
  · have lg := ir.2.2.2.1
    have := tl ea
    have := tl eb
    rw [show ys.length = zs.length by omega] at c
    simp at c
  have c2 : zs.length = ys.length := by
    have z : V.int (ys.length : Int) = V.int (zs.length : Int) := by simpa using c
    have := V.int.inj z
    omega
  have t0 : ts[0]? = some ts[0] := List.getElem?_eq_getElem (by omega)
  have r0 : rows[0]? = some rows[0] := List.getElem?_eq_getElem (by omega)
  have ew : (rows[0].map V.int).length = wdt rows := by rw [List.length_map, rw_.wdt (List.mem_of_getElem? r0)]
  have ht0 := k01 _ _ (ls.2 0 _ _ t0 r0)
  have a0 := refsAt t0
  generalize ts[0] = t1 at t0 ht0 a0
  generalize rows[0] = n1 at r0 ew ht0
  refine ⟨_, rfl, _, rfl, l, _, 0, _, rfl, rfl, SqL.of (k01 _ _ hl), a0, t1, _, rfl, .inl (SqL.of ht0), ?_⟩
  rw [ew]
  refine ⟨r, ys, wdt rows, rfl, fz1.sq, by rw [ly]; exact v1.len, fun x hx => (dpAll_kd alr x hx).same k01, fun H2 k2 => ?_⟩
  have k02 := k01.trans k2
  cases b1 : ys.all (isTo ((wdt rows : Int) - 1)) with
  | false =>
    refine ⟨_, rfl, iteT (bad H2 k02 fun ⟨ss, g, ea, eb, ir⟩ => ?_)⟩
    have := (num_iff alr).mpr ⟨ss, ea, ir.2.1⟩
    rw [b1] at this
    cases this
  | true =>
  obtain ⟨ss, ea, lts⟩ := (num_iff alr).mp b1
  unfold tupN at ea
  injection ea with ea
  subst ea
  obtain rfl := ints_dpAll alr
  refine ⟨_, rfl, iteF ?_⟩
  refine ⟨_, rfl, _, rfl, l, _, rfl, .inl (SqL.of (k02 _ _ hl)), ?_⟩
  rw [List.length_map, ln]
  refine ⟨r2, zs, rows.length, rfl, sqT_same k2 sr1, by rw [lz_]; exact v2.len, fun x hx => (dpAll_kd al2 x hx).same k02, fun H3 k3 => ?_⟩
  have k03 := k02.trans k3
  cases b2 : zs.all (isTo ((rows.length : Int) - 1)) with
  | false =>
    refine ⟨_, rfl, iteT (bad H3 k03 fun ⟨ss', g, ea, eb, ir⟩ => ?_)⟩
    have := (num_iff al2).mpr ⟨g, eb, ir.ppl⟩
    rw [b2] at this
    cases this
  | true =>
  obtain ⟨g, eb, ltg⟩ := (num_iff al2).mp b2
  unfold tupN at eb
  injection eb with eb
  subst eb
  obtain rfl := ints_dpAll al2
  have c2 : g.length = ss.length := by
    rw [List.length_map, List.length_map, nI_len, nI_len] at c2
    exact c2
  have c1 : 2 ≤ ss.length := by
    rw [List.length_map, nI_len] at c1
    exact c1
  have no3 : ∀ H', Same H H' → ¬ IsRing rows (List.range rows.length) ss g → Q (.bl false) H' := fun H' s n => no H' s fun z => n (rg_at.mp z)
  have k3' : ∀ (b : Bool) (H' : Hp), Same H H' → (b = true ↔ IsRing rows (List.range rows.length) ss g) → Q (.bl b) H' := fun b H' s z => k b H' s (z.trans rg_at.symm)
  refine ⟨_, rfl, iteF ?_⟩
  rw [← iV_eq] at fz1 sr1
  have il := iV_len ss
  have ig := iV_len g
  have fz3 := fz1.same (k2.trans k3)
  have sr3 := sqT_same (k2.trans k3) sr1
  have l100 : ss.length ≤ 100 := by
    have := v1.len
    rw [List.length_map, nI_len] at this
    exact this
  refine ⟨_, rfl, r, rfl, ⟨_, fz3.sq⟩, fun D2 hD2 => lc_tup (K := K) (a := r) (xs := iV ss) (fun i H' => Same H3 H' ∧ H' D2 = some (.lst (iV ((ss.take i).filter fun s => decide (1 < ss.count s))))) ⟨same_new (Same.refl _) hD2, upd_same⟩ (fun i H' _ z => sqT_same z.1 fz3.sq) (fun i x H' hx z => ⟨rfl, ?_⟩) (fun H4 z => ?_)⟩
  · obtain ⟨s0, rfl, es⟩ := iV_at hx
    have li := (List.getElem?_eq_some_iff.mp es).1
    have fz4 := fz3.same z.1
    refine ⟨_, rfl, ⟨r, _, rfl, fz4⟩, _, rfl, r, iV ss, _, rfl, rfl, fz4.sq, rfl, flatI ss, ?_⟩
    rw [countN]
    have et : (ss.take (i + 1)).filter (fun s => decide (1 < ss.count s)) = (ss.take i).filter (fun s => decide (1 < ss.count s)) ++ (if 1 < ss.count s0 then [s0] else []) := by
      rw [List.take_add_one, es, List.filter_append]
      congr 1
      by_cases z : 1 < ss.count s0 <;> simp [z]
    refine ⟨_, _, rfl, rfl, _, rfl, ?_⟩
    refine ite2 (fun c => ?_) (fun c => ?_)
    · have cc : 1 < ss.count s0 := by
        have : ((ss.count s0 : Nat) : Int) > 1 := of_decide_eq_true c
        omega
      have lf := List.length_filter_le (fun s => decide (1 < ss.count s)) (ss.take i)
      rw [List.length_take] at lf
      refine ⟨_, rfl, _, z.2, size_lt' (by rw [iV_len]; omega), same_put z.1 hD2, ?_⟩
      rw [upd_same, et, if_pos cc]
      unfold iV
      rw [List.map_append]
      rfl
    · have cc : ¬ 1 < ss.count s0 := fun z => c (decide_eq_true (show ((ss.count s0 : Nat) : Int) > 1 by omega))
      refine ⟨z.1, ?_⟩
      rw [et, if_neg cc, List.append_nil]
      exact z.2
  obtain ⟨k4, h4⟩ := z
  rw [il, List.take_length, iV_eq] at h4
  refine ⟨Nat.zero_le _, fun e0 he0 => ?_⟩
  generalize hH5 : upd H4 e0 _ = H5
  obtain ⟨k5, e5⟩ := alloc hH5 he0
  clear hH5
  refine ⟨.list ((nI (ss.filter fun s => decide (1 < ss.count s))).map PyData.int), .list [], .lst (SqL.of (k5 _ _ h4)) (dpInts _ _ _), .lst (SqL.of e5) .nil, shapedInts _, by decide, ?_⟩
  rw [eqv_nilJ]
  have k05 := k03.trans (k4.trans k5)
  have ndf : nI (ss.filter fun s => decide (1 < ss.count s)) = [] ↔ ss.Nodup := by
    have : nI (ss.filter fun s => decide (1 < ss.count s)) = [] ↔ (ss.filter fun s => decide (1 < ss.count s)) = [] := by unfold nI; exact List.map_eq_nil_iff
    rw [this, List.filter_eq_nil_iff, List.nodup_iff_count]
    constructor
    · intro z s0
      by_cases ms : s0 ∈ ss
      · have := z s0 ms
        simp only [decide_eq_true_eq] at this
        omega
      · rw [List.count_eq_zero.mpr ms]
        omega
    · intro z s0 _
      have := z s0
      simp only [decide_eq_true_eq]
      omega
  by_cases nds : ss.Nodup
  case neg =>
    rw [decide_eq_false (fun z => nds (ndf.mp z))]
    exact ⟨_, rfl, iteT (no3 H5 k05 fun ir => nds ir.1)⟩
  rw [decide_eq_true (ndf.mpr nds)]
  refine ⟨_, rfl, iteF ?_⟩
  have l6 := nodup_le nds lts
  have lst := stp_len (ss := ss) (by omega)
  have fz5 := fz3.same (k4.trans k5)
  have sr5 := sqT_same (k4.trans k5) sr3
  have hl5 := k05 _ _ hl
  have ls5 := ls.same k05
  refine ⟨_, rfl, _, rfl, r, ss, rfl, fz5.sq, by omega, by omega, fun L ws H6 k6 hL st => ?_⟩
  have lw := st.len
  have k06 := k05.trans k6
  have sr6 := sqT_same k6 sr5
  have hl6 := k6 _ _ hl5
  have ls6 := ls5.same k6
  refine ⟨r2, L, _, _, rfl, sr6, SqL.of hL, fun D3 hD3 => lc_it (walk_zipM (K := K) (a := r2) (b := L) (xs := iV g) (ys := ws) (by rw [ig, lw, lst, c2])) (fun i H' => Same H6 H' ∧ ∃ us : List Int, H' D3 = some (.lst (us.map V.int)) ∧ us.length = i ∧ ∀ (j p a b : Nat), j < i → g[j]? = some p → (stp ss)[j]? = some (a, b) → us[j]? = some (rs rows p a b)) ⟨same_new (Same.refl _) hD3, [], upd_same, rfl, fun j _ _ _ hj => absurd hj (Nat.not_lt_zero j)⟩ (fun i H' _ r' => ⟨sqT_same r'.1 sr6, SqL.of (r'.1 _ _ hL)⟩) ?_ (fun H7 q7 => ?_)⟩
  · rintro i x H7 H8 hi ⟨k7, us, h7, lu, ok⟩ ⟨T, x', y', rfl, nT, rfl, ex, ey⟩
    obtain ⟨p1, rfl, ep⟩ := iV_at ex
    obtain ⟨u, a, b, rfl, hu, en⟩ := st.at ey
    have la := lts a (stp_mem en).1
    have lb := lts b (stp_mem en).2
    have lp := ltg p1 (List.mem_of_getElem? ep)
    generalize hH8 : upd H7 T _ = H8
    obtain ⟨k8, hT⟩ := alloc hH8 nT
    clear hH8
    have k78 := k7.trans k8
    have hu8 := k78 _ _ hu
    obtain ⟨t9, ns, e9, en9, ht9⟩ := lsAt (ls6.same k78) lp
    have lw9 := rw_.wdt (List.mem_of_getElem? en9)
    have ga : ns[a]? = some ns[a] := List.getElem?_eq_getElem (by omega)
    have gb : ns[b]? = some ns[b] := List.getElem?_eq_getElem (by omega)
    generalize ns[a] = xa at ga
    generalize ns[b] = xb at gb
    have hl8 := k78 _ _ hl6
    refine ⟨T, _, rfl, SqT.of hT, rfl, _, _, rfl, _, _, rfl, rfl, rfl, tyes ?_⟩
    have li : i < g.length := (List.getElem?_eq_some_iff.mp ep).1
    refine ⟨_, rfl, _, rfl, l, _, _, _, rfl, rfl, SqL.of hl8, refsAt e9, _, rfl, u, _, 1, _, rfl, rfl, SqT.of hu8, rfl, t9, _, _, _, rfl, rfl, SqL.of ht9, intAt gb, ?_⟩
    refine ⟨_, rfl, _, rfl, l, _, _, _, rfl, rfl, SqL.of hl8, refsAt e9, _, rfl, u, _, 0, _, rfl, rfl, SqT.of hu8, rfl, t9, _, _, _, rfl, rfl, SqL.of ht9, intAt ga, _, _, rfl, rfl, ?_⟩
    refine ⟨_, k8 _ _ h7, size_lt' (by rw [List.length_map]; omega), same_put k78 hD3, us ++ [rs rows p1 a b], by rw [upd_same, List.map_append, rsN en9 ga gb]; rfl, by rw [List.length_append, lu]; rfl, fun j p a' b' hj ep' en' => ?_⟩
    by_cases z : j < i
    · rw [List.getElem?_append_left (by omega)]
      exact ok j p a' b' z ep' en'
    · have z : j = i := by omega
      subst z
      rw [ep] at ep'
      rw [en] at en'
      cases ep'
      cases en'
      rw [List.getElem?_append_right (by omega), lu, Nat.sub_self]
      rfl
  obtain ⟨k7, us, h7, lu, ok⟩ := q7
  rw [ig] at lu ok
  have k07 := k06.trans k7
  have uat : ∀ (j p a b : Nat), g[j]? = some p → (stp ss)[j]? = some (a, b) → us[j]? = some (rs rows p a b) := fun j p a b ep en => ok j p a b (List.getElem?_eq_some_iff.mp ep).1 ep en
  have umem : ∀ x ∈ us, ∃ (j p a b : Nat), g[j]? = some p ∧ (stp ss)[j]? = some (a, b) ∧ x = rs rows p a b := fun x hx => by
    obtain ⟨j, hj⟩ := List.mem_iff_getElem?.mp hx
    have lj : j < us.length := (List.getElem?_eq_some_iff.mp hj).1
    have e1 : g[j]? = some g[j] := List.getElem?_eq_getElem (by omega)
    have e2 : (stp ss)[j]? = some (stp ss)[j] := List.getElem?_eq_getElem (by omega)
    have e3 := uat j _ _ _ e1 e2
    rw [hj] at e3
    exact ⟨j, _, _, _, e1, e2, Option.some.inj e3⟩
  refine ⟨_, rfl, D3, us, rfl, SqL.of h7, by omega, fun mn hmn mnle => ?_⟩
  refine ⟨_, _, rfl, rfl, ?_⟩
  have base : IsRing rows (List.range rows.length) ss g ↔ 1 ≤ mn ∧ ∃ x ∈ us, 2 ≤ x := by
    constructor
    · rintro ⟨_, _, _, _, all, j, p, a, b, ep, en, r2⟩
      obtain ⟨j', p', a', b', ep', en', e⟩ := umem mn hmn
      exact ⟨by rw [e]; exact (all j' p' a' b' ep' en').2, _, List.mem_of_getElem? (uat j p a b ep en), r2⟩
    · rintro ⟨m1, x, hx, x2⟩
      obtain ⟨j, p, a, b, ep, en, rfl⟩ := umem x hx
      exact ⟨nds, lts, by omega, c2, fun j' p' a' b' ep' en' => ⟨List.mem_range.mpr (ltg p' (List.mem_of_getElem? ep')), Int.le_trans m1 (mnle _ (List.mem_of_getElem? (uat j' p' a' b' ep' en')))⟩, j, p, a, b, ep, en, x2⟩
  refine ⟨_, rfl, ?_⟩
  cases em : decide (mn ≥ 1) with
  | false => exact iteF (no3 H7 k07 fun ir => absurd (base.mp ir).1 (of_decide_eq_false em))
  | true =>
    refine iteT ⟨_, rfl, D3, us, rfl, SqL.of h7, by omega, fun mx hmx mxge => ⟨_, _, rfl, rfl, k3' _ H7 k07 ?_⟩⟩
    rw [base, decide_eq_true_eq]
    constructor
    · intro z
      exact ⟨of_decide_eq_true em, mx, hmx, z⟩
    · rintro ⟨_, x, hx, x2⟩
      have := mxge x hx
      omega
end
end Pl
namespace Pl
open PySem PySem.Spec PyProof.Rows L2
/-! data made of parts -/
theorem lzInts : ∀ ns : List Int, lzAll (ns.map PyData.int) = true
  | [] => rfl
  | n :: ns => by
    rw [List.map_cons, lzAll, lzInts ns]
    rfl
def Vd (n : Nat) (K : PySem.W.Frag) (H : Hp) (x : V) (d : PyData) : Prop := Vl K H x d ∧ d.depth ≤ n
inductive VdAll (n : Nat) (K : PySem.W.Frag) (H : Hp) : List V → List PyData → Prop
  | nil : VdAll n K H [] []
  | cons {x : V} {d : PyData} {xs : List V} {ds : List PyData} (h : Vd n K H x d) (r : VdAll n K H xs ds) : VdAll n K H (x :: xs) (d :: ds)
theorem VdAll.app {n : Nat} {K : PySem.W.Frag} {H : Hp} {ys : List V} {es : List PyData} (h : VdAll n K H ys es) : ∀ {xs : List V} {ds : List PyData}, VdAll n K H xs ds → VdAll n K H (xs ++ ys) (ds ++ es)
  | _, _, .nil => h
  | _, _, .cons a r => .cons a (VdAll.app h r)
theorem VdAll.fit {n : Nat} {K : PySem.W.Frag} {H : Hp} : ∀ {xs : List V} {ds : List PyData}, VdAll n K H xs ds → DpAll K H xs ds ∧ PyData.canLayAll0 ds = true ∧ PyData.depthAll ds ≤ n ∧ lzAll ds = true
  | _, _, .nil => ⟨.nil, by simp [PyData.canLayAll0], by simp [PyData.depthAll], rfl⟩
  | _, _, .cons h r => by
    obtain ⟨a, b, c, e⟩ := r.fit
    obtain ⟨v, l⟩ := h
    refine ⟨.cons v.dp a, by simp [PyData.canLayAll0, v.lay, b], ?_, ?_⟩
    · simp only [PyData.depthAll]
      omega
    · rw [lzAll, v.lz, e]
      rfl
theorem VdAll.len {n : Nat} {K : PySem.W.Frag} {H : Hp} {xs : List V} {ds : List PyData} (h : VdAll n K H xs ds) : xs.length = ds.length := dpAll_len h.fit.1
theorem vdI {n : Nat} {K : PySem.W.Frag} {H : Hp} (i : Int) : Vd n K H (.int i) (.int i) := ⟨⟨.int i, by simp [PyData.canLay0], by simp [PyData.depth], rfl⟩, by simp [PyData.depth]⟩
theorem vdB {n : Nat} {K : PySem.W.Frag} {H : Hp} (b : Bool) : Vd n K H (.bl b) (.bool b) := ⟨⟨.bl b, by simp [PyData.canLay0], by simp [PyData.depth], rfl⟩, by simp [PyData.depth]⟩
theorem vdN {n : Nat} {K : PySem.W.Frag} {H : Hp} : Vd n K H .non .none := ⟨⟨.non, by simp [PyData.canLay0], by simp [PyData.depth], rfl⟩, by simp [PyData.depth]⟩
theorem vdS {n : Nat} {K : PySem.W.Frag} {H : Hp} {s : Str} (h : PyData.strOk s = true) : Vd n K H (.str s) (.str s) := ⟨⟨.str s, by simpa [PyData.canLay0] using h, by simp [PyData.depth], rfl⟩, by simp [PyData.depth]⟩
theorem vdT {n : Nat} {K : PySem.W.Frag} {H : Hp} {p : Addr} {xs : List V} {ds : List PyData} (h : SqT K H p xs) (a : VdAll n K H xs ds) (l : xs.length ≤ 100) (n5 : n ≤ 50) : Vd (n + 1) K H (.ref p) (.tuple ds) := by
  have ln := a.len
  obtain ⟨f1, f2, f3, f4⟩ := a.fit
  have dep : PyData.depth (.tuple ds) ≤ n + 1 := by simp only [PyData.depth]; omega
  refine ⟨⟨.tup h f1, by simpa [PyData.canLay0] using f2, by omega, ?_⟩, dep⟩
  rw [lz, f4, Bool.and_true]
  exact decide_eq_true (by omega)
theorem vdL {n : Nat} {K : PySem.W.Frag} {H : Hp} {p : Addr} {xs : List V} {ds : List PyData} (h : H p = some (.lst xs)) (a : VdAll n K H xs ds) (l : xs.length ≤ 100) (n5 : n ≤ 50) : Vd (n + 1) K H (.ref p) (.list ds) := by
  have ln := a.len
  obtain ⟨f1, f2, f3, f4⟩ := a.fit
  have dep : PyData.depth (.list ds) ≤ n + 1 := by simp only [PyData.depth]; omega
  refine ⟨⟨.lst (SqL.of h) f1, by simpa [PyData.canLay0] using f2, by omega, ?_⟩, dep⟩
  rw [lz, f4, Bool.and_true]
  exact decide_eq_true (by omega)
theorem vdInts {n : Nat} {K : PySem.W.Frag} {H : Hp} : ∀ ns : List Int, VdAll n K H (ns.map V.int) (ns.map PyData.int)
  | [] => .nil
  | i :: ns => .cons (vdI i) (vdInts ns)
theorem Vd.up {n m : Nat} {K : PySem.W.Frag} {H : Hp} {x : V} {d : PyData} (h : Vd n K H x d) (l : n ≤ m) : Vd m K H x d := ⟨h.1, Nat.le_trans h.2 l⟩
/-- numbers in a tuple -/
theorem vdZ {K : PySem.W.Frag} {H : Hp} {q : Addr} {ss : List Nat} (h : SqT K H q (iV ss)) (l : ss.length ≤ 100) : Vd 1 K H (.ref q) (tupN ss) := by
  rw [iV_eq] at h
  exact vdT (n := 0) h (vdInts _) (by rw [List.length_map, nI_len]; exact l) (by decide)
/-- a pair whose first part may be counted -/
theorem oneP {n : Nat} {K : PySem.W.Frag} {H : Hp} {T r : Addr} {v : V} {xs : List V} {ds : List PyData} {d2 : PyData} (hT : SqT K H T [.ref r, v]) (f : Fz H r xs) (a : VdAll n K H xs ds) (l : xs.length ≤ 100) (h2 : Vd (n + 1) K H v d2) (n5 : n ≤ 40) : One K H (.ref T) (.tuple [.tuple ds, d2]) :=
  ⟨(vdT hT (.cons (vdT f.sq a l (by omega)) (.cons h2 .nil)) (by show 2 ≤ 100; decide) (by omega)).1, .inr ⟨T, r, v, xs, ds, d2, rfl, rfl, hT, f, a.fit.1, h2.1.dp⟩⟩
theorem oneW {K : PySem.W.Frag} {H : Hp} {T q r : Addr} {ss g : List Nat} (hT : SqT K H T [.ref q, .ref r]) (hq : Fz H q (iV ss)) (hr : Fz H r (iV g)) (l1 : ss.length ≤ 100) (l2 : g.length ≤ 100) : One K H (.ref T) (.tuple [tupN ss, tupN g]) := by
  rw [iV_eq] at hq
  exact oneP (n := 0) hT hq (vdInts _) (by rw [List.length_map, nI_len]; exact l1) (vdZ hr.sq l2) (by decide)
/-- a ring, or none -/
def WayR (rows : List (List Int)) (v : V) (H : Hp) : Prop := v = .non ∨ ∃ (T q r : Addr) (ss g : List Nat), v = .ref T ∧ Fz H T [.ref q, .ref r] ∧ Fz H q (iV ss) ∧ Fz H r (iV g) ∧ IsRing rows (List.range rows.length) ss g
theorem WayR.kp {rows : List (List Int)} {v : V} {a : Addr} {H H' : Hp} (h : WayR rows v H) (s : Src H a) (k : Kp a H H') : WayR rows v H' := by
  rcases h with h | ⟨T, q, r, ss, g, e, hT, hq, hr, ir⟩
  · exact .inl h
  · exact .inr ⟨T, q, r, ss, g, e, hT.kp s k, hq.kp s k, hr.kp s k, ir⟩
def spSomeRg (K : PySem.W.Frag) : Sp := fun vs H Q _ => ∃ (a l sm : Addr) (ts : List Addr) (rows : List (List Int)) (who : List Nat), vs = [.ref a, .ref l, .ref sm] ∧ Src H a ∧ l ≠ a ∧ H l = some (.lst (ts.map V.ref)) ∧ LsAll H ts rows ∧ (∀ t ∈ ts, t ≠ a) ∧ Rows rows ∧ sm ≠ a ∧ H sm = some (.lst (iV who)) ∧ who.length ≤ 4 ∧ (∀ p ∈ who, p < rows.length) ∧
  ∀ (v : V) (H' : Hp), Kp a H H' → Src H' a → WayR rows v H' → Q v H'
theorem stl_ne {H : Hp} {a L : Addr} {ws : List V} {st : List (Nat × Nat)} (s : Src H a) (h : H L = some (.lst ws)) (t : StL H ws st) (l : 1 ≤ st.length) : L ≠ a := fun z => by
  obtain ⟨x, y, w, e, _⟩ := s
  rw [z, e] at h
  have h := HO.lst.inj (Option.some.inj h)
  have lw := t.len
  have l0 : 0 < ws.length := by omega
  obtain ⟨u, p, q, e1, _⟩ := t.at (List.getElem?_eq_getElem l0)
  subst h
  cases e1
theorem rgV_iV (n : Nat) : rgV 0 (n : Int) = iV (List.range n) := by
  unfold rgV iV
  rw [show ((n : Int) - 0).toNat = n by omega]
  refine List.map_congr_left fun x _ => ?_
  simp
theorem StL.kp {a : Addr} {H H' : Hp} (s : Src H a) (k : Kp a H H') : ∀ {ws : List V} {st : List (Nat × Nat)}, StL H ws st → StL H' ws st
  | _, _, .nil => .nil
  | _, _, .cons h r => .cons (k _ _ (s.neT h) h) (r.kp s k)
theorem LsAll.kpA {a : Addr} {H H' : Hp} {ts : List Addr} {rows : List (List Int)} (h : LsAll H ts rows) (k : Kp a H H') (n : ∀ u ∈ ts, u ≠ a) : LsAll H' ts rows := ⟨h.1, fun j t ns x y => k _ _ (n t (List.mem_of_getElem? x)) (h.2 j t ns x y)⟩
section
variable {P : Program} {w : World} {K : PySem.W.Frag} {mg : Str → Option Value} {base : Heap} {CShare CDivision CNoPerson : Addr}
abbrev st_l_some_ring : Stmt := top 62
theorem sc_l_some_ring : FnScope ["_law_source_here", "_law_rows_here", "_law_some", "_law_turn", "_law_left", "_law_states", "_law_people", "_law_place", "_law_pair", "_law_fit", "_law_who"] ["_law_source_here", "_law_rows_here", "_law_some"] (defScope st_l_some_ring) := ⟨rfl, rfl, rfl, by decide +kernel, rfl, by decide +kernel, by decide +kernel⟩
theorem ok_someRg (B : Bn mg) (c_l_draw : Cal P w K mg base 2 "_law_draw" ["_law_source_here", "_law_many"] spDraw) (c_l_choose : Cal P w K mg base 3 "_law_choose" ["_law_source_here", "_law_values"] spChoose) (c_l_pairs : Cal P w K mg base 1 "_law_pairs" ["_law_states"] (spStepsF K)) (c_l_is_ring : Cal P w K mg base 2 "_law_is_ring" ["_law_rows_here", "_law_thing"] (spIsRgL K)) (D : Df K mg "_law_some_ring" st_l_some_ring ["_law_source_here", "_law_rows_here", "_law_some"]) : Cal P w K mg base 4 "_law_some_ring" ["_law_source_here", "_law_rows_here", "_law_some"] (spSomeRg K) := by
  refine D.cal sc_l_some_ring (fun vs H Q E h => ?_) (fun f cdv A out s H vs Q E hr h => ?_)
  · obtain ⟨a, l, sm, ts, rows, who, rfl, _⟩ := h
    rfl
  obtain ⟨a, l, sm, ts, rows, who, rfl, src, la, hl, ls, nt, rw_, sa, hsm, lwho, bwho, k⟩ := h
  refine ⟨_, (pss_cons (ps_for PassesOwn.never rfl (pi_range1 (by rfl) B.n_range (pa_cons pe_int pa_nil)) (pg_name (i := 3) sc_l_some_ring.nd rfl (.inl rfl))
   (pss_cons (ps_par3 (i := 4) (j := 5) (l := 6) (by rfl) sc_l_some_ring.nd rfl rfl rfl (by decide) (by decide) (by decide) rfl rfl rfl (pa_cons (pe_listRg rfl (by rfl) B.n_list (prg_1 (by rfl) B.n_range (pe_callB call_len_seq (by rfl) B.n_len (by decide +kernel) (pa_cons (pe_ix ix_list (pv 1) pe_int (fun _ _ => rfl)) pa_nil)))) (pa_cons (pe_tupF pa_nil) (pa_cons (pe_tupF pa_nil) pa_nil))) (by rfl))
   (pss_cons (ps_for PassesOwn.never rfl (pi_range1 (by rfl) B.n_range (pa_cons (pe_op op_add pe_int (pe_fn c_l_draw (hr.mono (by decide)) (pa_cons (pv 0) (pa_cons (pe_callB (call_min2 rfl) (by rfl) B.n_min (by decide +kernel) (pa_cons pe_int (pa_cons (pe_op op_sub (pe_callB call_len_seq (by rfl) B.n_len (by decide +kernel) (pa_cons (pv 4) pa_nil)) pe_int) pa_nil))) pa_nil)))) pa_nil)) (pg_name (i := 7) sc_l_some_ring.nd rfl (.inl rfl))
   (pss_one (ps_set (i := 5) sc_l_some_ring.nd rfl (.inl rfl) (pe_op op_catF (pv 5) (pe_tupF (pa_cons (pe_bm PySem.F.plainAttrs_list PySem.F.slot_list_pop PySem.F.type_list_pop mt_popAt (pv 4) (pa_cons (pe_fn c_l_draw (hr.mono (by decide)) (pa_cons (pv 0) (pa_cons (pe_callB call_len_seq (by rfl) B.n_len (by decide +kernel) (pa_cons (pv 4) pa_nil)) pa_nil))) pa_nil)) pa_nil))))))
   (pss_cons (ps_for PassesOwn.never rfl (pi_list (pe_fn c_l_pairs (hr.mono (by decide)) (pa_cons (pv 5) pa_nil))) (pg_name (i := 8) sc_l_some_ring.nd rfl (.inr rfl))
   (pss_cons (ps_setLc (i := 9) (own := [("_law_who", 10)]) (g := gName 10) rfl sc_l_some_ring.nd rfl rfl (sw_true rfl rfl rfl (by decide +kernel)) (pi_list (pv 2)) (blkOk_by (N := ["_law_source_here", "_law_rows_here", "_law_some", "_law_turn", "_law_left", "_law_states", "_law_people", "_law_place", "_law_pair", "_law_fit", "_law_who"]) (sc := defScope st_l_some_ring) (by decide +kernel)) (fun _ _ _ _ _ => (pg_name (i := 10) sc_l_some_ring.nd rfl (.inl rfl))) (fun _ _ _ _ _ => (pts_one (pt_cmpR op_ge (pe_op op_sub (pe_ix (show IxR _ (rIxL K) from ix_list) (pe_ix (show IxR _ (rIxL K) from ix_list) (pv 1) (pv 10) (fun _ _ => rfl)) (pe_ix (show IxR _ (rIxT K) from ix_tup) (pv 8) pe_int (fun _ _ => rfl)) (fun _ _ => rfl)) (pe_ix (show IxR _ (rIxL K) from ix_list) (pe_ix (show IxR _ (rIxL K) from ix_list) (pv 1) (pv 10) (fun _ _ => rfl)) (pe_ix (show IxR _ (rIxT K) from ix_tup) (pv 8) pe_int (fun _ _ => rfl)) (fun _ _ => rfl))) pe_int (nomark _)))) (fun _ _ _ _ _ => (pv 10)))
   (pss_one (ps_set (i := 6) sc_l_some_ring.nd rfl (.inl rfl) (pe_op op_catF (pv 6) (pe_ifExp (pt_cmpR (op_neD hr.units) (pv 9) (pe_lst pa_nil) (nomark _)) (pe_tupF (pa_cons (pe_fn c_l_choose (hr.mono (by decide)) (pa_cons (pv 0) (pa_cons (pv 9) pa_nil))) pa_nil)) (pe_tupF pa_nil)))))))
   (pss_one (ps_if (pt_val (pe_fn c_l_is_ring (hr.mono (by decide)) (pa_cons (pv 1) (pa_cons (pe_tupF (pa_cons (pv 5) (pa_cons (pv 6) pa_nil))) pa_nil)))) (pss_one (ps_ret (pe_tupF (pa_cons (pv 5) (pa_cons (pv 6) pa_nil))))) pss_nil))))))
   (pss_one (ps_ret pe_non))), ?_⟩
  obtain ⟨w2, w6⟩ := rw_.w26
  have p2 := rw_.1
  have p4 := rw_.2.1
  have ln := ls.1
  have lwV := iV_len who
  refine ⟨8, rfl, by decide, by decide, ?_⟩
  refine for_range (lo := 0) (n := 8) (fun i σ H' => ∃ v3 v4 v5 v6 v7 v8 v9 : Option V, σ = [some (.ref a), some (.ref l), some (.ref sm), v3, v4, v5, v6, v7, v8, v9, none] ∧ Src H' a ∧ Kp a H H') ⟨none, none, none, none, none, none, none, rfl, src, Kp.refl a H⟩ ?_ ?_
  case refine_2 =>
    rintro σ H1 ⟨v3, v4, v5, v6, v7, v8, v9, rfl, s1, k1⟩
    exact k .non H1 k1 s1 (.inl rfl)
  rintro i σ H1 hi ⟨v3, v4, v5, v6, v7, v8, v9, rfl, s1, k1⟩
  have hl1 := k1 _ _ la hl
  have ls1 := ls.kpA k1 nt
  obtain ⟨t1, n1, t0, r0, ht0⟩ := lsAt ls1 (p := 0) (by omega)
  have ew : (n1.map V.int).length = wdt rows := by rw [List.length_map, rw_.wdt (List.mem_of_getElem? r0)]
  refine ⟨_, rfl, l, _, 0, _, rfl, rfl, SqL.of hl1, refsAt t0, t1, _, rfl, .inl (SqL.of ht0), ?_⟩
  rw [ew]
  refine ⟨_, rfl, RgOk.of_le (by omega) (by omega) (by omega) (by omega), fun Lf hLf => ?_⟩
  have Lfa : Lf ≠ a := s1.ne hLf
  have H0L : H Lf = none := k1.free Lfa hLf
  rw [rgV_iV]
  generalize hH2 : upd H1 Lf _ = H2
  obtain ⟨k2, e2⟩ := alloc hH2 hLf
  clear hH2
  refine ⟨Nat.zero_le _, fun q0 u0 hq0 f0 => ?_⟩
  generalize hH3 : upd H2 q0 _ = H3
  obtain ⟨k3, e3⟩ := alloc hH3 hq0
  clear hH3
  refine ⟨Nat.zero_le _, fun r0' u1 hr0 f1 => ?_⟩
  generalize hH4 : upd H3 r0' _ = H4
  obtain ⟨k4, e4⟩ := alloc hH4 hr0
  clear hH4
  have k24 := k2.trans (k3.trans k4)
  refine ⟨_, _, _, rfl, ?_⟩
  have s4 := s1.same k24
  have kp4 : Kp a H H4 := k1.trans (Kp.of k24)
  have eL4 := (k3.trans k4) _ _ e2
  have fq4 : Fz H4 q0 (iV []) := f0.fz (k4 _ _ e3)
  have fr4 : Fz H4 r0' (iV []) := f1.fz e4
  clear e2 e3 e4 k2 k3 k4 k24 s1 hl1 ls1 ht0 hLf hq0 hr0 k1
  refine ⟨_, rfl, _, rfl, Lf, _, rfl, .inl (SqL.of eL4), _, _, rfl, rfl, _, _, rfl, ?_⟩
  have il : ((iV (List.range (wdt rows))).length : Int) = wdt rows := by rw [iV_len, List.length_range]
  rw [il]
  refine ⟨a, _, rfl, s4, ?_, ?_, fun r H5 r0 r1 s5 k5 => ⟨_, _, rfl, rfl, ?_⟩⟩
  · split <;> omega
  · split <;> omega
  obtain ⟨lg, elg, lg2, lgn⟩ : ∃ lg : Nat, (2 : Int) + r = (lg : Int) ∧ 2 ≤ lg ∧ lg ≤ wdt rows := ⟨(2 + r).toNat, by omega, by omega, by split at r1 <;> omega⟩
  refine ⟨lg, congrArg (fun z : Int => [V.int z]) elg, by omega, by omega, for_range (lo := 0) (n := lg) (fun j σ H' => ∃ (left ss : List Nat) (q : Addr) (v7 : Option V), σ = [some (.ref a), some (.ref l), some (.ref sm), some (.int (0 + i)), some (.ref Lf), some (.ref q), some (.ref r0'), v7, v8, v9, none] ∧ Src H' a ∧ Kp a H H' ∧ H' Lf = some (.lst (iV left)) ∧ left.length + j = wdt rows ∧ (∀ s ∈ left, s < wdt rows) ∧ Fz H' q (iV ss) ∧ ss.length = j ∧ (∀ s ∈ ss, s < wdt rows) ∧ Fz H' r0' (iV []))
    ⟨List.range (wdt rows), [], q0, v7, rfl, s5, kp4.trans k5, k5 _ _ Lfa eL4, by rw [List.length_range]; rfl, fun s hs => List.mem_range.mp hs, fq4.kp s4 k5, rfl, (fun s h => nomatch h), fr4.kp s4 k5⟩ ?_ ?_⟩
  · rintro j σ H6 hj ⟨left, ss, q, v7, rfl, s6, k6, e6, ll, bl, fq, lss, bs, fr⟩
    have lV := iV_len left
    refine ⟨_, rfl, _, rfl, .inl ⟨rfl, _, SqL.of e6⟩, _, rfl, _, rfl, Lf, _, rfl, .inl (SqL.of e6), ?_⟩
    rw [lV]
    refine ⟨a, left.length, rfl, s6, by omega, by omega, fun r H7 r0 r1 s7 k7 => ?_⟩
    have e7 := k7 _ _ Lfa e6
    obtain ⟨m, rfl⟩ : ∃ m : Nat, r = (m : Int) := ⟨r.toNat, by omega⟩
    have lt : m < left.length := by omega
    have ex : left[m]? = some left[m] := List.getElem?_eq_getElem lt
    generalize left[m] = y at ex
    have by_ := bl y (List.mem_of_getElem? ex)
    refine ⟨Lf, _, (m : Int), m, .int (y : Nat), rfl, rfl, e7, by omega, by omega, by rw [lV]; exact (ixN_seq (ixN_nat lt)).1, by unfold iV; rw [List.getElem?_map, ex]; rfl, ?_⟩
    have e8 : (upd H7 Lf (.lst ((iV left).eraseIdx m))) Lf = some (.lst (iV (left.eraseIdx m))) := by
      rw [upd_same]
      unfold iV
      rw [map_erase]
    have fq8 : Fz (upd H7 Lf (.lst ((iV left).eraseIdx m))) q (iV ss) := (fq.kp s6 k7).put e7
    have fr8 : Fz (upd H7 Lf (.lst ((iV left).eraseIdx m))) r0' (iV []) := (fr.kp s6 k7).put e7
    have s8 : Src (upd H7 Lf (.lst ((iV left).eraseIdx m))) a := s7.put Lfa
    have k8 : Kp a H (upd H7 Lf (.lst ((iV left).eraseIdx m))) := (k6.trans k7).put H0L
    generalize upd H7 Lf (.lst ((iV left).eraseIdx m)) = H8 at *
    refine ⟨(by show 1 ≤ sizeLine; decide), fun z uz hz fz => ?_⟩
    generalize hH9 : upd H8 z _ = H9
    obtain ⟨k9, e9⟩ := alloc hH9 hz
    clear hH9
    obtain ⟨uq, fqo, hq⟩ := fq8.out
    refine caF (k9 _ _ hq) fqo e9 fz (by rw [iV_len]; show _ + 1 ≤ 1000; omega) fun y2 H10 u2 k10 e10 f10 => ?_
    have f10 : fzO (iV (ss ++ [y])) u2 := by
      rw [iV_app]
      exact f10
    have k9t := k9.trans k10
    exact ⟨left.eraseIdx m, ss ++ [y], y2, _, rfl, s8.same k9t, k8.trans (Kp.of k9t), k9t _ _ e8, by rw [List.length_eraseIdx, if_pos lt]; omega, fun s hs => bl s (List.mem_of_mem_eraseIdx hs), f10.fz e10, by rw [List.length_append, lss]; rfl, fun s hs => by
      rcases List.mem_append.mp hs with z | z
      · exact bs s z
      · rw [List.mem_singleton.mp z]; exact by_, fr8.same k9t⟩
  rintro σ H6 ⟨left, ss, q, v7, rfl, s6, k6, e6, ll, bl, fq, lss, bs, fr⟩
  have hl6 := k6 _ _ la hl
  have ls6 := ls.kpA k6 nt
  have hsm6 := k6 _ _ sa hsm
  clear e6 ll bl s5 k5 s4 kp4 eL4 fq4 fr4
  refine ⟨_, rfl, q, ss, rfl, fq.sq, by omega, by omega, fun Lp ws H7 k7 hLp st => ?_⟩
  have s7 := s6.same k7
  have lst := stp_len (ss := ss) (by omega)
  have Lpa := stl_ne s7 hLp st (by omega)
  have lw := st.len
  refine ⟨Lp, rfl, ⟨_, SqL.of hLp⟩, for_list (K := K) (a := Lp) (xs := ws) (fun j σ H' => ∃ (g : List Nat) (r : Addr) (v8 v9 : Option V), σ = [some (.ref a), some (.ref l), some (.ref sm), some (.int (0 + i)), some (.ref Lf), some (.ref q), some (.ref r), v7, v8, v9, none] ∧ Src H' a ∧ Kp a H7 H' ∧ Fz H' r (iV g) ∧ g.length ≤ j ∧ (∀ p ∈ g, p < rows.length)) ⟨[], r0', v8, v9, rfl, s7, Kp.refl a H7, fr.same k7, Nat.le_refl _, fun p h => nomatch h⟩ (fun j σ H' _ ⟨_, _, _, _, _, _, z, _⟩ => SqL.of (z _ _ Lpa hLp)) ?_ ?_⟩
  · rintro j x σ H8 hx ⟨g, r, v8, v9, rfl, s8, k8, fr8, lg8, bg⟩
    have lj := (List.getElem?_eq_some_iff.mp hx).1
    have k68 : Kp a H6 H8 := (Kp.of k7).trans k8
    obtain ⟨u, x1, x2, rfl, hu, en⟩ := (StL.kp s7 k8 st).at hx
    have lb1 := bs x1 (stp_mem en).1
    have lb2 := bs x2 (stp_mem en).2
    have hl8 := k68 _ _ la hl6
    have ls8 := ls6.kpA k68 nt
    have hsm8 := k68 _ _ sa hsm6
    refine ⟨_, rfl, sm, rfl, ⟨_, SqL.of hsm8⟩, fun D hD => lc_list (K := K) (a := sm) (xs := iV who) (fun m H' => Same H8 H' ∧ ∃ fs : List Nat, H' D = some (.lst (iV fs)) ∧ fs.length ≤ m ∧ ∀ p ∈ fs, p < rows.length) ⟨same_new (Same.refl _) hD, [], upd_same, Nat.le_refl _, fun p h => nomatch h⟩ (fun m H' _ z => SqL.of (z.1 _ _ hsm8)) (fun m x H' hx z => ⟨rfl, ?_⟩) (fun H9 z => ?_)⟩
    · obtain ⟨k9, fs, h9, lf, bf⟩ := z
      obtain ⟨p1, rfl, ep⟩ := iV_at hx
      have lp := bwho p1 (List.mem_of_getElem? ep)
      have lm := (List.getElem?_eq_some_iff.mp ep).1
      obtain ⟨t9, ns, e9, en9, ht9⟩ := lsAt (ls8.same k9) lp
      have lw9 := rw_.wdt (List.mem_of_getElem? en9)
      have ga : ns[x1]? = some ns[x1] := List.getElem?_eq_getElem (by omega)
      have gb : ns[x2]? = some ns[x2] := List.getElem?_eq_getElem (by omega)
      generalize ns[x1] = xa at ga
      generalize ns[x2] = xb at gb
      have hl9 := k9 _ _ hl8
      have hu9 := k9 _ _ hu
      refine ⟨_, rfl, _, rfl, l, _, _, _, rfl, rfl, SqL.of hl9, refsAt e9, _, rfl, u, _, 1, _, rfl, rfl, SqT.of hu9, rfl, t9, _, _, _, rfl, rfl, SqL.of ht9, intAt gb, ?_⟩
      refine ⟨_, rfl, _, rfl, l, _, _, _, rfl, rfl, SqL.of hl9, refsAt e9, _, rfl, u, _, 0, _, rfl, rfl, SqT.of hu9, rfl, t9, _, _, _, rfl, rfl, SqL.of ht9, intAt ga, _, _, rfl, rfl, ?_⟩
      refine ⟨_, _, rfl, rfl, _, rfl, ?_⟩
      refine ite2 (fun c => ?_) (fun c => ?_)
      · exact ⟨_, rfl, _, h9, size_lt' (by rw [iV_len]; omega), same_put k9 hD, fs ++ [p1], by rw [upd_same]; unfold iV; rw [List.map_append]; rfl, by rw [List.length_append]; show fs.length + 1 ≤ m + 1; omega, fun p hp => by
          rcases List.mem_append.mp hp with z | z
          · exact bf p z
          · rw [List.mem_singleton.mp z]; exact lp⟩
      · exact ⟨k9, fs, h9, Nat.le_succ_of_le lf, bf⟩
    obtain ⟨k9, fs, h9, lf, bf⟩ := z
    rw [lwV] at lf
    have s9 := s8.same k9
    have Da := s8.ne hD
    obtain ⟨ur, fro, hr9⟩ := (fr8.same k9).out
    refine ⟨_, rfl, ?_⟩
    refine ⟨_, rfl, Nat.zero_le _, fun e0 he0 => ?_⟩
    generalize hH10 : upd H9 e0 _ = H10
    obtain ⟨k10, e10⟩ := alloc hH10 he0
    clear hH10
    rw [iV_eq] at h9
    refine ⟨.list ((nI fs).map PyData.int), .list [], .lst (SqL.of (k10 _ _ h9)) (dpInts _ _ _), .lst (SqL.of e10) .nil, shapedInts _, by decide, ?_⟩
    rw [eqv_nilJ]
    have nfs : nI fs = [] ↔ fs = [] := by unfold nI; exact List.map_eq_nil_iff
    by_cases c : fs = []
    · rw [decide_eq_true (nfs.mpr c)]
      refine ⟨_, rfl, iteF ⟨Nat.zero_le _, fun z uz hz fz => ?_⟩⟩
      generalize hH11 : upd H10 z _ = H11
      obtain ⟨k11, e11⟩ := alloc hH11 hz
      clear hH11
      refine caF ((k10.trans k11) _ _ hr9) fro e11 fz (by rw [iV_len]; show _ + 0 ≤ 1000; omega) fun y2 H12 u2 k12 e12 f12 => ?_
      rw [List.append_nil] at f12
      have kk := k9.trans (k10.trans (k11.trans k12))
      exact ⟨g, y2, _, _, rfl, s8.same kk, k8.trans (Kp.of kk), f12.fz e12, Nat.le_succ_of_le lg8, bg⟩
    · rw [decide_eq_false (fun z => c (nfs.mp z))]
      refine ⟨_, rfl, iteT ?_⟩
      have s10 := s9.same k10
      have ne0 : 0 < fs.length := List.length_pos_iff.mpr c
      refine ⟨_, rfl, _, rfl, a, D, _, rfl, s10, k10 _ _ h9, Da, by rw [List.length_map, nI_len]; exact ne0, by rw [List.length_map, nI_len]; omega, fun v H11 hv s11 k11 => ⟨(by show 1 ≤ sizeLine; decide), fun z uz hz fz => ?_⟩⟩
      obtain ⟨p1, mp, rfl⟩ : ∃ p1 ∈ fs, v = .int ((p1 : Nat) : Int) := by
        rw [← iV_eq] at hv
        obtain ⟨p1, h1, h2⟩ := List.mem_map.mp hv
        exact ⟨p1, h1, h2.symm⟩
      generalize hH12 : upd H11 z _ = H12
      obtain ⟨k12, e12⟩ := alloc hH12 hz
      clear hH12
      obtain ⟨ur2, fro2, hr11⟩ := ((fr8.same (k9.trans k10)).kp s10 k11).out
      refine caF (k12 _ _ hr11) fro2 e12 fz (by rw [iV_len]; show _ + 1 ≤ 1000; omega) fun y2 H13 u2 k13 e13 f13 => ?_
      have f13 : fzO (iV (g ++ [p1])) u2 := by
        rw [iV_app]
        exact f13
      have kk := k12.trans k13
      exact ⟨g ++ [p1], y2, _, _, rfl, s11.same kk, ((k8.trans (Kp.of (k9.trans k10))).trans k11).trans (Kp.of kk), f13.fz e13, by rw [List.length_append]; show g.length + 1 ≤ j + 1; omega, fun p hp => by
        rcases List.mem_append.mp hp with z | z
        · exact bg p z
        · rw [List.mem_singleton.mp z]; exact bf p1 mp⟩
  · rintro σ H8 ⟨g, r, v8, v9, rfl, s8, k8, fr8, lg8, bg⟩
    have k68 : Kp a H6 H8 := (Kp.of k7).trans k8
    have fq8 := (fq.same k7).kp s7 k8
    have hl8 := k68 _ _ la hl6
    have ls8 := ls6.kpA k68 nt
    refine ⟨_, rfl, _, rfl, _, rfl, (by show 2 ≤ sizeLine; decide), fun T uT hT fT => ?_⟩
    generalize hH9 : upd H8 T _ = H9
    obtain ⟨k9, e9⟩ := alloc hH9 hT
    clear hH9
    refine ⟨l, ts, rows, .ref T, rfl, k9 _ _ hl8, ls8.same k9, rw_, .inr ⟨_, oneW (fT.fz e9).sq (fq8.same k9) (fr8.same k9) (by omega) (by omega), fun b H10 k10 hb => ?_⟩⟩
    have kk := k9.trans k10
    have kA : Kp a H H10 := (k6.trans k68).trans (Kp.of kk)
    have sA' := s8.same kk
    cases b with
    | false => exact ⟨_, rfl, iteF ⟨_, _, _, _, _, _, _, rfl, sA', kA⟩⟩
    | true =>
      have ir := rg_at.mp (hb.mp rfl)
      refine ⟨_, rfl, iteT ⟨_, rfl, _, rfl, (by show 2 ≤ sizeLine; decide), fun T2 u2 hT2 f2 => ?_⟩⟩
      generalize hH11 : upd H10 T2 _ = H11
      obtain ⟨k11, e11⟩ := alloc hH11 hT2
      clear hH11
      exact k (.ref T2) H11 (kA.trans (Kp.of k11)) (sA'.same k11) (.inr ⟨T2, q, r, ss, g, rfl, f2.fz e11, fq8.same (kk.trans k11), fr8.same (kk.trans k11), ir⟩)
end
end Pl
namespace Pl
open PySem PySem.Spec PyProof.Rows L2
/-! what is no ring, or hardly one -/
def Vk (n : Nat) (K : PySem.W.Frag) (a : Addr) (x : V) (d : PyData) (H : Hp) : Prop := ∀ H', KpN a H H' → Vd n K H' x d
theorem Vk.mono {n : Nat} {K : PySem.W.Frag} {a : Addr} {x : V} {d : PyData} {H H1 : Hp} (h : Vk n K a x d H) (k : KpN a H H1) : Vk n K a x d H1 := fun H' k' => h H' (k.trans k')
theorem Vk.up {n m : Nat} {K : PySem.W.Frag} {a : Addr} {x : V} {d : PyData} {H : Hp} (h : Vk n K a x d H) (l : n ≤ m) : Vk m K a x d H := fun H' k' => (h H' k').up l
inductive VkAll (n : Nat) (K : PySem.W.Frag) (a : Addr) (H : Hp) : List V → List PyData → Prop
  | nil : VkAll n K a H [] []
  | cons {x : V} {d : PyData} {xs : List V} {ds : List PyData} (h : Vk n K a x d H) (r : VkAll n K a H xs ds) : VkAll n K a H (x :: xs) (d :: ds)
theorem VkAll.at {n : Nat} {K : PySem.W.Frag} {a : Addr} {H H' : Hp} (k : KpN a H H') : ∀ {xs : List V} {ds : List PyData}, VkAll n K a H xs ds → VdAll n K H' xs ds
  | _, _, .nil => .nil
  | _, _, .cons h r => .cons (h H' k) (r.at k)
theorem VkAll.app {n : Nat} {K : PySem.W.Frag} {a : Addr} {H : Hp} {ys : List V} {es : List PyData} (h : VkAll n K a H ys es) : ∀ {xs : List V} {ds : List PyData}, VkAll n K a H xs ds → VkAll n K a H (xs ++ ys) (ds ++ es)
  | _, _, .nil => h
  | _, _, .cons a r => .cons a (VkAll.app h r)
theorem vkIs {n : Nat} {K : PySem.W.Frag} {a : Addr} {H : Hp} : ∀ ss : List Nat, VkAll n K a H (iV ss) ((nI ss).map PyData.int)
  | [] => .nil
  | s :: ss => .cons (fun _ _ => vdI _) (vkIs ss)
theorem Fz.ne {a : Addr} {H : Hp} {q : Addr} {xs : List V} (f : Fz H q xs) (s : Src H a) : q ≠ a := fun z => by
  obtain ⟨x, y, w, e, _⟩ := s
  obtain ⟨o, _, h⟩ := f
  rw [z, e] at h
  cases h
theorem Fz.kb {a : Addr} {H H' : Hp} {q : Addr} {xs : List V} (f : Fz H q xs) (s : Src H a) (k : KpN a H H') : Fz H' q xs := by
  have n := f.ne s
  obtain ⟨o, e, h⟩ := f
  exact ⟨o, e, k _ _ n h (fun ps z => nomatch z)⟩
/-- a tuple of parts -/
theorem vkT {n : Nat} {K : PySem.W.Frag} {a : Addr} {H : Hp} {p : Addr} {xs : List V} {ds : List PyData} (f : Fz H p xs) (s : Src H a) (v : VkAll n K a H xs ds) (l : xs.length ≤ 100 := by decide) (n5 : n ≤ 50 := by decide) : Vk (n + 1) K a (.ref p) (.tuple ds) H := fun H' k => vdT (f.kb s k).sq (v.at k) l n5
theorem vkL {n : Nat} {K : PySem.W.Frag} {a : Addr} {H : Hp} {p : Addr} {xs : List V} {ds : List PyData} (h : H p = some (.lst xs)) (ne : p ≠ a) (v : VkAll n K a H xs ds) (l : xs.length ≤ 100 := by decide) (n5 : n ≤ 50 := by decide) : Vk (n + 1) K a (.ref p) (.list ds) H := fun H' k => vdL (k _ _ ne h (fun ps z => nomatch z)) (v.at k) l n5
theorem vkZ {K : PySem.W.Frag} {a : Addr} {H : Hp} {q : Addr} {ss : List Nat} (f : Fz H q (iV ss)) (s : Src H a) (l : ss.length ≤ 100) : Vk 1 K a (.ref q) (tupN ss) H := fun H' k => vdZ (f.kb s k).sq l
theorem vkLz {K : PySem.W.Frag} {a : Addr} {H : Hp} {p : Addr} {ss : List Nat} (h : H p = some (.lst (iV ss))) (ne : p ≠ a) (l : ss.length ≤ 100) : Vk 1 K a (.ref p) (.list ((nI ss).map PyData.int)) H := vkL (n := 0) h ne (vkIs ss) (by rw [iV_len]; exact l) (by decide)
/-- what may be asked whether it is a ring -/
def Od (K : PySem.W.Frag) (a : Addr) (x : V) (H : Hp) : Prop := (∀ H', KpN a H H' → NoTu K H' x) ∨ ∃ d, ∀ H', KpN a H H' → One K H' x d
theorem Od.mono {K : PySem.W.Frag} {a : Addr} {x : V} {H H1 : Hp} (h : Od K a x H) (k : KpN a H H1) : Od K a x H1 := h.imp (fun h H' k' => h H' (k.trans k')) fun ⟨d, h⟩ => ⟨d, fun H' k' => h H' (k.trans k')⟩
theorem odP {K : PySem.W.Frag} {a : Addr} {H : Hp} {T r : Addr} {v : V} {xs : List V} {ds : List PyData} {d2 : PyData} (hT : Fz H T [.ref r, v]) (f : Fz H r xs) (s : Src H a) (e : VkAll 1 K a H xs ds) (l : xs.length ≤ 100) (h2 : Vk 2 K a v d2 H) : Od K a (.ref T) H := .inr ⟨_, fun H' k => oneP (n := 1) (hT.kb s k).sq (f.kb s k) (e.at k) l (h2 H' k) (by decide)⟩
theorem odZ {K : PySem.W.Frag} {a : Addr} {H : Hp} {T r : Addr} {v : V} {ss : List Nat} {d2 : PyData} (hT : Fz H T [.ref r, v]) (f : Fz H r (iV ss)) (s : Src H a) (l : ss.length ≤ 100) (h2 : Vk 2 K a v d2 H) : Od K a (.ref T) H := odP hT f s (vkIs ss) (by rw [iV_len]; exact l) h2
theorem odI {n : Nat} {K : PySem.W.Frag} {a : Addr} {H : Hp} {x : V} {d : PyData} (h : Vk n K a x d H) (ne : ∀ ds d2, d ≠ .tuple [.tuple ds, d2]) : Od K a x H := .inr ⟨d, fun H' k => ⟨(h H' k).1, .inl ne⟩⟩
theorem odN {K : PySem.W.Frag} {a : Addr} {H : Hp} {x : V} (h : ∀ H', NoTu K H' x) : Od K a x H := .inl fun H' _ => h H'
theorem odD {K : PySem.W.Frag} {a : Addr} {H : Hp} {q : Addr} (h : H q = some (.dK [])) (ne : q ≠ a) : Od K a (.ref q) H := .inl fun H' k => ⟨_, .base (.dK (k _ _ ne h (fun ps z => nomatch z))), kit_ty (by decide +kernel)⟩
def Os (K : PySem.W.Frag) (a F : Addr) (xs : List V) (H : Hp) : Prop := H F = some (.lst xs) ∧ ∀ x ∈ xs, Od K a x H
theorem Os.same {K : PySem.W.Frag} {a F : Addr} {xs : List V} {H H' : Hp} (o : Os K a F xs H) (k : Same H H') : Os K a F xs H' := ⟨k _ _ o.1, fun x hx => (o.2 x hx).mono (KpN.same k)⟩
theorem Os.cat {K : PySem.W.Frag} {a F F2 : Addr} {xs ys : List V} {H : Hp} (o : Os K a F xs H) (e : ∀ y ∈ ys, Od K a y H) (n : H F2 = none) : Os K a F2 (xs ++ ys) (L2.upd H F2 (.lst (xs ++ ys))) := ⟨upd_same, fun y hy => by
  have k : Same H (L2.upd H F2 (.lst (xs ++ ys))) := same_new (Same.refl H) n
  rcases List.mem_append.mp hy with z | z
  · exact (o.2 y z).mono (KpN.same k)
  · exact (e y z).mono (KpN.same k)⟩
/-- a ring or states and people -/
def WyF (v : V) (H : Hp) : Prop := v = .non ∨ ∃ (T q r : Addr) (ss g : List Nat), v = .ref T ∧ Fz H T [.ref q, .ref r] ∧ Fz H q (iV ss) ∧ Fz H r (iV g) ∧ 2 ≤ ss.length ∧ ss.length ≤ 6 ∧ g.length = ss.length
structure CxO (a l q r : Addr) (ts : List Addr) (rows : List (List Int)) (ss g : List Nat) (H0 H : Hp) : Prop where
  s : Src H a
  q : Fz H q (iV ss)
  r : Fz H r (iV g)
  hl : H l = some (.lst (ts.map V.ref))
  ls : LsAll H ts rows
  k : Kp a H0 H
theorem CxO.same {a l q r : Addr} {ts : List Addr} {rows : List (List Int)} {ss g : List Nat} {H0 H H' : Hp} (c : CxO a l q r ts rows ss g H0 H) (k : Same H H') : CxO a l q r ts rows ss g H0 H' := ⟨c.s.same k, c.q.same k, c.r.same k, k _ _ c.hl, c.ls.same k, c.k.trans (Kp.of k)⟩
theorem CxO.kp {a l q r : Addr} {ts : List Addr} {rows : List (List Int)} {ss g : List Nat} {H0 H H' : Hp} (c : CxO a l q r ts rows ss g H0 H) (la : l ≠ a) (nt : ∀ t ∈ ts, t ≠ a) (k : Kp a H H') (s : Src H' a) : CxO a l q r ts rows ss g H0 H' := ⟨s, c.q.kp c.s k, c.r.kp c.s k, k _ _ la c.hl, c.ls.kpA k nt, c.k.trans k⟩
theorem iV_getN {l : List Nat} {i s : Nat} (h : l[i]? = some s) : atI (iV l) (i : Int) = some (.int (s : Nat)) := atI_nat (j := i) (by unfold iV; rw [List.getElem?_map, h]; rfl)
theorem iV_last {ss : List Nat} {at_ : Int} (l : 1 ≤ ss.length) (h0 : 0 ≤ at_) (h1 : at_ < ss.length) : ∃ s : Nat, atI (iV ss) (at_ - 1) = some (.int (s : Nat)) := by
  by_cases c : at_ = 0
  · have ne : ss ≠ [] := fun z => by rw [z] at l; simp at l
    refine ⟨ss.getLast ne, ?_⟩
    have e1 := (List.dropLast_concat_getLast ne).symm
    rw [c]
    generalize ss.dropLast = pre at e1
    generalize ss.getLast ne = u at e1
    subst e1
    rw [iV_app]
    exact atI_last _ _
  · have lt : (at_ - 1).toNat < ss.length := by omega
    refine ⟨ss[(at_ - 1).toNat], ?_⟩
    have e := iV_getN (List.getElem?_eq_getElem lt)
    rw [show (((at_ - 1).toNat : Nat) : Int) = at_ - 1 by omega] at e
    exact e
def spNearRg (K : PySem.W.Frag) : Sp := fun vs H Q _ => ∃ (a l : Addr) (ts : List Addr) (rows : List (List Int)), vs = [.ref a, .ref l] ∧ Src H a ∧ l ≠ a ∧ H l = some (.lst (ts.map V.ref)) ∧ LsAll H ts rows ∧ (∀ t ∈ ts, t ≠ a) ∧ Rows rows ∧
  ∀ (v : V) (H' : Hp), Kp a H H' → Src H' a → Od K a v H' → Q v H'
def spOddRg (K : PySem.W.Frag) : Sp := fun vs H Q _ => ∃ (a l : Addr) (v : V) (ts : List Addr) (rows : List (List Int)), vs = [.ref a, .ref l, v] ∧ Src H a ∧ l ≠ a ∧ H l = some (.lst (ts.map V.ref)) ∧ LsAll H ts rows ∧ (∀ t ∈ ts, t ≠ a) ∧ Rows rows ∧ WyF v H ∧
  ∀ (x : V) (H' : Hp), Kp a H H' → Src H' a → Od K a x H' → Q x H'
end Pl
namespace Pl
open PySem PySem.Spec PyProof.Rows L2
section
variable {P : Program} {w : World} {K : PySem.W.Frag} {mg : Str → Option Value} {base : Heap} {CShare CDivision CNoPerson : Addr}
abbrev st_l_near_ring : Stmt := top 63
theorem sc_l_near_ring : FnScope ["_law_source_here", "_law_rows_here", "_law_turn", "_law_left", "_law_states", "_law_people", "_law_place", "_law_pair", "_law_fit", "_law_who"] ["_law_source_here", "_law_rows_here"] (defScope st_l_near_ring) := ⟨rfl, rfl, rfl, by decide +kernel, rfl, by decide +kernel, by decide +kernel⟩
theorem ok_nearRg (B : Bn mg) (c_l_draw : Cal P w K mg base 2 "_law_draw" ["_law_source_here", "_law_many"] spDraw) (c_l_choose : Cal P w K mg base 3 "_law_choose" ["_law_source_here", "_law_values"] spChoose) (c_l_pairs : Cal P w K mg base 1 "_law_pairs" ["_law_states"] (spStepsF K)) (D : Df K mg "_law_near_ring" st_l_near_ring ["_law_source_here", "_law_rows_here"]) : Cal P w K mg base 4 "_law_near_ring" ["_law_source_here", "_law_rows_here"] (spNearRg K) := by
  refine D.cal sc_l_near_ring (fun vs H Q E h => ?_) (fun f cdv A out s H vs Q E hr h => ?_)
  · obtain ⟨a, l, ts, rows, rfl, _⟩ := h
    rfl
  obtain ⟨a, l, ts, rows, rfl, src, la, hl, ls, nt, rw_, k⟩ := h
  refine ⟨_, (pss_cons (ps_for PassesOwn.never rfl (pi_range1 (by rfl) B.n_range (pa_cons pe_int pa_nil)) (pg_name (i := 2) sc_l_near_ring.nd rfl (.inl rfl))
   (pss_cons (ps_par3 (i := 3) (j := 4) (l := 5) (by rfl) sc_l_near_ring.nd rfl rfl rfl (by decide) (by decide) (by decide) rfl rfl rfl (pa_cons (pe_listRg rfl (by rfl) B.n_list (prg_1 (by rfl) B.n_range (pe_callB call_len_seq (by rfl) B.n_len (by decide +kernel) (pa_cons (pe_ix ix_list (pv 1) pe_int (fun _ _ => rfl)) pa_nil)))) (pa_cons (pe_tupF pa_nil) (pa_cons (pe_tupF pa_nil) pa_nil))) (by rfl))
   (pss_cons (ps_for PassesOwn.never rfl (pi_range1 (by rfl) B.n_range (pa_cons (pe_op op_add pe_int (pe_fn c_l_draw (hr.mono (by decide)) (pa_cons (pv 0) (pa_cons (pe_callB (call_min2 rfl) (by rfl) B.n_min (by decide +kernel) (pa_cons pe_int (pa_cons (pe_op op_sub (pe_callB call_len_seq (by rfl) B.n_len (by decide +kernel) (pa_cons (pv 3) pa_nil)) pe_int) pa_nil))) pa_nil)))) pa_nil)) (pg_name (i := 6) sc_l_near_ring.nd rfl (.inl rfl))
   (pss_one (ps_set (i := 4) sc_l_near_ring.nd rfl (.inl rfl) (pe_op op_catF (pv 4) (pe_tupF (pa_cons (pe_bm PySem.F.plainAttrs_list PySem.F.slot_list_pop PySem.F.type_list_pop mt_popAt (pv 3) (pa_cons (pe_fn c_l_draw (hr.mono (by decide)) (pa_cons (pv 0) (pa_cons (pe_callB call_len_seq (by rfl) B.n_len (by decide +kernel) (pa_cons (pv 3) pa_nil)) pa_nil))) pa_nil)) pa_nil))))))
   (pss_cons (ps_for PassesOwn.never rfl (pi_list (pe_fn c_l_pairs (hr.mono (by decide)) (pa_cons (pv 4) pa_nil))) (pg_name (i := 7) sc_l_near_ring.nd rfl (.inr rfl))
   (pss_cons (ps_setLc (i := 8) (own := [("_law_who", 9)]) (g := gName 9) rfl sc_l_near_ring.nd rfl rfl (sw_true rfl rfl rfl (by decide +kernel)) (pi_range1 (by rfl) B.n_range (pa_cons (pe_callB call_len_seq (by rfl) B.n_len (by decide +kernel) (pa_cons (pv 1) pa_nil)) pa_nil)) (blkOk_by (N := ["_law_source_here", "_law_rows_here", "_law_turn", "_law_left", "_law_states", "_law_people", "_law_place", "_law_pair", "_law_fit", "_law_who"]) (sc := defScope st_l_near_ring) (by decide +kernel)) (fun _ _ _ _ _ => (pg_name (i := 9) sc_l_near_ring.nd rfl (.inl rfl))) (fun _ _ _ _ _ => (pts_one (pt_cmpR op_eq (pe_op op_sub (pe_ix (show IxR _ (rIxL K) from ix_list) (pe_ix (show IxR _ (rIxL K) from ix_list) (pv 1) (pv 9) (fun _ _ => rfl)) (pe_ix (show IxR _ (rIxT K) from ix_tup) (pv 7) pe_int (fun _ _ => rfl)) (fun _ _ => rfl)) (pe_ix (show IxR _ (rIxL K) from ix_list) (pe_ix (show IxR _ (rIxL K) from ix_list) (pv 1) (pv 9) (fun _ _ => rfl)) (pe_ix (show IxR _ (rIxT K) from ix_tup) (pv 7) pe_int (fun _ _ => rfl)) (fun _ _ => rfl))) pe_int (nomark _)))) (fun _ _ _ _ _ => (pv 9)))
   (pss_one (ps_set (i := 5) sc_l_near_ring.nd rfl (.inl rfl) (pe_op op_catF (pv 5) (pe_ifExp (pt_cmpR (op_neD hr.units) (pv 8) (pe_lst pa_nil) (nomark _)) (pe_tupF (pa_cons (pe_fn c_l_choose (hr.mono (by decide)) (pa_cons (pv 0) (pa_cons (pv 8) pa_nil))) pa_nil)) (pe_tupF pa_nil)))))))
   (pss_one (ps_if (pt_cmpR op_eq (pe_callB call_len_seq (by rfl) B.n_len (by decide +kernel) (pa_cons (pv 5) pa_nil)) (pe_callB call_len_seq (by rfl) B.n_len (by decide +kernel) (pa_cons (pv 4) pa_nil)) (nomark _)) (pss_one (ps_ret (pe_tupF (pa_cons (pv 4) (pa_cons (pv 5) pa_nil))))) pss_nil))))))
   (pss_one (ps_ret (pe_tupF (pa_cons (pe_tupF (pa_cons pe_int (pa_cons pe_int pa_nil))) (pa_cons (pe_tupF (pa_cons pe_int (pa_cons pe_int pa_nil))) pa_nil)))))), ?_⟩
  obtain ⟨w2, w6⟩ := rw_.w26
  have p2 := rw_.1
  have p4 := rw_.2.1
  have ln := ls.1
  refine ⟨6, rfl, by decide, by decide, ?_⟩
  refine for_range (lo := 0) (n := 6) (fun i σ H' => ∃ v3 v4 v5 v6 v7 v8 v9 : Option V, σ = [some (.ref a), some (.ref l), v3, v4, v5, v6, v7, v8, v9, none] ∧ Src H' a ∧ Kp a H H') ⟨none, none, none, none, none, none, none, rfl, src, Kp.refl a H⟩ ?_ ?_
  case refine_2 =>
    rintro σ H1 ⟨v3, v4, v5, v6, v7, v8, v9, rfl, s1, k1⟩
    refine ⟨(by show 2 ≤ sizeLine; decide), fun q u1 hq f1 => ?_⟩
    generalize hA : upd H1 q _ = A1
    obtain ⟨j1, e1⟩ := alloc hA hq
    clear hA
    refine ⟨(by show 2 ≤ sizeLine; decide), fun r u2 hr' f2 => ?_⟩
    generalize hA : upd A1 r _ = A2
    obtain ⟨j2, e2⟩ := alloc hA hr'
    clear hA
    refine ⟨(by show 2 ≤ sizeLine; decide), fun T u3 hT f3 => ?_⟩
    generalize hA : upd A2 T _ = A3
    obtain ⟨j3, e3⟩ := alloc hA hT
    clear hA
    have j13 := j1.trans (j2.trans j3)
    have s13 := s1.same j13
    exact k (.ref T) A3 (k1.trans (Kp.of j13)) s13 (odZ (ss := [1, 0]) (f3.fz e3) (fzO.fz (xs := iV [1, 0]) f1 ((j2.trans j3) _ _ e1)) s13 (by decide) ((vkZ (ss := [1, 1]) (fzO.fz (xs := iV [1, 1]) f2 (j3 _ _ e2)) s13 (by decide)).up (by decide)))
  rintro i σ H1 hi ⟨v3, v4, v5, v6, v7, v8, v9, rfl, s1, k1⟩
  have hl1 := k1 _ _ la hl
  have ls1 := ls.kpA k1 nt
  obtain ⟨t1, n1, t0, r0, ht0⟩ := lsAt ls1 (p := 0) (by omega)
  have ew : (n1.map V.int).length = wdt rows := by rw [List.length_map, rw_.wdt (List.mem_of_getElem? r0)]
  refine ⟨_, rfl, l, _, 0, _, rfl, rfl, SqL.of hl1, refsAt t0, t1, _, rfl, .inl (SqL.of ht0), ?_⟩
  rw [ew]
  refine ⟨_, rfl, RgOk.of_le (by omega) (by omega) (by omega) (by omega), fun Lf hLf => ?_⟩
  have Lfa : Lf ≠ a := s1.ne hLf
  have H0L : H Lf = none := k1.free Lfa hLf
  rw [rgV_iV]
  generalize hH2 : upd H1 Lf _ = H2
  obtain ⟨k2, e2⟩ := alloc hH2 hLf
  clear hH2
  refine ⟨Nat.zero_le _, fun q0 u0 hq0 f0 => ?_⟩
  generalize hH3 : upd H2 q0 _ = H3
  obtain ⟨k3, e3⟩ := alloc hH3 hq0
  clear hH3
  refine ⟨Nat.zero_le _, fun r0' u1 hr0 f1 => ?_⟩
  generalize hH4 : upd H3 r0' _ = H4
  obtain ⟨k4, e4⟩ := alloc hH4 hr0
  clear hH4
  have k24 := k2.trans (k3.trans k4)
  refine ⟨_, _, _, rfl, ?_⟩
  have s4 := s1.same k24
  have kp4 : Kp a H H4 := k1.trans (Kp.of k24)
  have eL4 := (k3.trans k4) _ _ e2
  have fq4 : Fz H4 q0 (iV []) := f0.fz (k4 _ _ e3)
  have fr4 : Fz H4 r0' (iV []) := f1.fz e4
  clear e2 e3 e4 k2 k3 k4 k24 s1 hl1 ls1 ht0 hLf hq0 hr0 k1
  refine ⟨_, rfl, _, rfl, Lf, _, rfl, .inl (SqL.of eL4), _, _, rfl, rfl, _, _, rfl, ?_⟩
  have il : ((iV (List.range (wdt rows))).length : Int) = wdt rows := by rw [iV_len, List.length_range]
  rw [il]
  refine ⟨a, _, rfl, s4, ?_, ?_, fun r H5 r0 r1 s5 k5 => ⟨_, _, rfl, rfl, ?_⟩⟩
  · split <;> omega
  · split <;> omega
  obtain ⟨lg, elg, lg2, lgn⟩ : ∃ lg : Nat, (2 : Int) + r = (lg : Int) ∧ 2 ≤ lg ∧ lg ≤ wdt rows := ⟨(2 + r).toNat, by omega, by omega, by split at r1 <;> omega⟩
  refine ⟨lg, congrArg (fun z : Int => [V.int z]) elg, by omega, by omega, for_range (lo := 0) (n := lg) (fun j σ H' => ∃ (left ss : List Nat) (q : Addr) (v7 : Option V), σ = [some (.ref a), some (.ref l), some (.int (0 + i)), some (.ref Lf), some (.ref q), some (.ref r0'), v7, v8, v9, none] ∧ Src H' a ∧ Kp a H H' ∧ H' Lf = some (.lst (iV left)) ∧ left.length + j = wdt rows ∧ (∀ s ∈ left, s < wdt rows) ∧ Fz H' q (iV ss) ∧ ss.length = j ∧ (∀ s ∈ ss, s < wdt rows) ∧ Fz H' r0' (iV []))
    ⟨List.range (wdt rows), [], q0, v7, rfl, s5, kp4.trans k5, k5 _ _ Lfa eL4, by rw [List.length_range]; rfl, fun s hs => List.mem_range.mp hs, fq4.kp s4 k5, rfl, (fun s h => nomatch h), fr4.kp s4 k5⟩ ?_ ?_⟩
  · rintro j σ H6 hj ⟨left, ss, q, v7, rfl, s6, k6, e6, ll, bl, fq, lss, bs, fr⟩
    have lV := iV_len left
    refine ⟨_, rfl, _, rfl, .inl ⟨rfl, _, SqL.of e6⟩, _, rfl, _, rfl, Lf, _, rfl, .inl (SqL.of e6), ?_⟩
    rw [lV]
    refine ⟨a, left.length, rfl, s6, by omega, by omega, fun r H7 r0 r1 s7 k7 => ?_⟩
    have e7 := k7 _ _ Lfa e6
    obtain ⟨m, rfl⟩ : ∃ m : Nat, r = (m : Int) := ⟨r.toNat, by omega⟩
    have lt : m < left.length := by omega
    have ex : left[m]? = some left[m] := List.getElem?_eq_getElem lt
    generalize left[m] = y at ex
    have by_ := bl y (List.mem_of_getElem? ex)
    refine ⟨Lf, _, (m : Int), m, .int (y : Nat), rfl, rfl, e7, by omega, by omega, by rw [lV]; exact (ixN_seq (ixN_nat lt)).1, by unfold iV; rw [List.getElem?_map, ex]; rfl, ?_⟩
    have e8 : (upd H7 Lf (.lst ((iV left).eraseIdx m))) Lf = some (.lst (iV (left.eraseIdx m))) := by
      rw [upd_same]
      unfold iV
      rw [map_erase]
    have fq8 : Fz (upd H7 Lf (.lst ((iV left).eraseIdx m))) q (iV ss) := (fq.kp s6 k7).put e7
    have fr8 : Fz (upd H7 Lf (.lst ((iV left).eraseIdx m))) r0' (iV []) := (fr.kp s6 k7).put e7
    have s8 : Src (upd H7 Lf (.lst ((iV left).eraseIdx m))) a := s7.put Lfa
    have k8 : Kp a H (upd H7 Lf (.lst ((iV left).eraseIdx m))) := (k6.trans k7).put H0L
    generalize upd H7 Lf (.lst ((iV left).eraseIdx m)) = H8 at *
    refine ⟨(by show 1 ≤ sizeLine; decide), fun z uz hz fz => ?_⟩
    generalize hH9 : upd H8 z _ = H9
    obtain ⟨k9, e9⟩ := alloc hH9 hz
    clear hH9
    obtain ⟨uq, fqo, hq⟩ := fq8.out
    refine caF (k9 _ _ hq) fqo e9 fz (by rw [iV_len]; show _ + 1 ≤ 1000; omega) fun y2 H10 u2 k10 e10 f10 => ?_
    have f10 : fzO (iV (ss ++ [y])) u2 := by
      rw [iV_app]
      exact f10
    have k9t := k9.trans k10
    exact ⟨left.eraseIdx m, ss ++ [y], y2, _, rfl, s8.same k9t, k8.trans (Kp.of k9t), k9t _ _ e8, by rw [List.length_eraseIdx, if_pos lt]; omega, fun s hs => bl s (List.mem_of_mem_eraseIdx hs), f10.fz e10, by rw [List.length_append, lss]; rfl, fun s hs => by
      rcases List.mem_append.mp hs with z | z
      · exact bs s z
      · rw [List.mem_singleton.mp z]; exact by_, fr8.same k9t⟩
  rintro σ H6 ⟨left, ss, q, v7, rfl, s6, k6, e6, ll, bl, fq, lss, bs, fr⟩
  have hl6 := k6 _ _ la hl
  have ls6 := ls.kpA k6 nt
  clear e6 ll bl s5 k5 s4 kp4 eL4 fq4 fr4
  refine ⟨_, rfl, q, ss, rfl, fq.sq, by omega, by omega, fun Lp ws H7 k7 hLp st => ?_⟩
  have s7 := s6.same k7
  have lst := stp_len (ss := ss) (by omega)
  have Lpa := stl_ne s7 hLp st (by omega)
  have lw := st.len
  refine ⟨Lp, rfl, ⟨_, SqL.of hLp⟩, for_list (K := K) (a := Lp) (xs := ws) (fun j σ H' => ∃ (g : List Nat) (r : Addr) (v8 v9 : Option V), σ = [some (.ref a), some (.ref l), some (.int (0 + i)), some (.ref Lf), some (.ref q), some (.ref r), v7, v8, v9, none] ∧ Src H' a ∧ Kp a H7 H' ∧ Fz H' r (iV g) ∧ g.length ≤ j ∧ (∀ p ∈ g, p < rows.length)) ⟨[], r0', v8, v9, rfl, s7, Kp.refl a H7, fr.same k7, Nat.le_refl _, fun p h => nomatch h⟩ (fun j σ H' _ ⟨_, _, _, _, _, _, z, _⟩ => SqL.of (z _ _ Lpa hLp)) ?_ ?_⟩
  · rintro j x σ H8 hx ⟨g, r, v8, v9, rfl, s8, k8, fr8, lg8, bg⟩
    have lj := (List.getElem?_eq_some_iff.mp hx).1
    have k68 : Kp a H6 H8 := (Kp.of k7).trans k8
    obtain ⟨u, x1, x2, rfl, hu, en⟩ := (StL.kp s7 k8 st).at hx
    have lb1 := bs x1 (stp_mem en).1
    have lb2 := bs x2 (stp_mem en).2
    have hl8 := k68 _ _ la hl6
    have ls8 := ls6.kpA k68 nt
    refine ⟨_, rfl, l, _, rfl, .inl (SqL.of hl8), ?_⟩
    rw [List.length_map, ls8.1]
    refine ⟨rows.length, rfl, by omega, by omega, fun D hD => lc_range (lo := 0) (n := rows.length) (fun m H' => Same H8 H' ∧ ∃ fs : List Nat, H' D = some (.lst (iV fs)) ∧ fs.length ≤ m ∧ ∀ p ∈ fs, p < rows.length) ⟨same_new (Same.refl _) hD, [], upd_same, Nat.le_refl _, fun p h => nomatch h⟩ (fun m H' hm z => ⟨rfl, ?_⟩) (fun H9 z => ?_)⟩
    · obtain ⟨k9, fs, h9, lf, bf⟩ := z
      have e0 : ((0 : Int) + (m : Nat)) = ((m : Nat) : Int) := by omega
      rw [e0]
      have lm : m < rows.length := hm
      have lp : m < rows.length := hm
      obtain ⟨t9, ns, e9, en9, ht9⟩ := lsAt (ls8.same k9) lp
      have lw9 := rw_.wdt (List.mem_of_getElem? en9)
      have ga : ns[x1]? = some ns[x1] := List.getElem?_eq_getElem (by omega)
      have gb : ns[x2]? = some ns[x2] := List.getElem?_eq_getElem (by omega)
      generalize ns[x1] = xa at ga
      generalize ns[x2] = xb at gb
      have hl9 := k9 _ _ hl8
      have hu9 := k9 _ _ hu
      refine ⟨_, rfl, _, rfl, l, _, _, _, rfl, rfl, SqL.of hl9, refsAt e9, _, rfl, u, _, 1, _, rfl, rfl, SqT.of hu9, rfl, t9, _, _, _, rfl, rfl, SqL.of ht9, intAt gb, ?_⟩
      refine ⟨_, rfl, _, rfl, l, _, _, _, rfl, rfl, SqL.of hl9, refsAt e9, _, rfl, u, _, 0, _, rfl, rfl, SqT.of hu9, rfl, t9, _, _, _, rfl, rfl, SqL.of ht9, intAt ga, _, _, rfl, rfl, ?_⟩
      refine ⟨rfl, _, rfl, ?_⟩
      refine ite2 (fun c => ?_) (fun c => ?_)
      · exact ⟨_, rfl, _, h9, size_lt' (by rw [iV_len]; omega), same_put k9 hD, fs ++ [m], by rw [upd_same]; unfold iV; rw [List.map_append]; rfl, by rw [List.length_append]; show fs.length + 1 ≤ m + 1; omega, fun p hp => by
          rcases List.mem_append.mp hp with z | z
          · exact bf p z
          · rw [List.mem_singleton.mp z]; exact lp⟩
      · exact ⟨k9, fs, h9, Nat.le_succ_of_le lf, bf⟩
    obtain ⟨k9, fs, h9, lf, bf⟩ := z
    have s9 := s8.same k9
    have Da := s8.ne hD
    obtain ⟨ur, fro, hr9⟩ := (fr8.same k9).out
    refine ⟨_, rfl, ?_⟩
    refine ⟨_, rfl, Nat.zero_le _, fun e0 he0 => ?_⟩
    generalize hH10 : upd H9 e0 _ = H10
    obtain ⟨k10, e10⟩ := alloc hH10 he0
    clear hH10
    rw [iV_eq] at h9
    refine ⟨.list ((nI fs).map PyData.int), .list [], .lst (SqL.of (k10 _ _ h9)) (dpInts _ _ _), .lst (SqL.of e10) .nil, shapedInts _, by decide, ?_⟩
    rw [eqv_nilJ]
    have nfs : nI fs = [] ↔ fs = [] := by unfold nI; exact List.map_eq_nil_iff
    by_cases c : fs = []
    · rw [decide_eq_true (nfs.mpr c)]
      refine ⟨_, rfl, iteF ⟨Nat.zero_le _, fun z uz hz fz => ?_⟩⟩
      generalize hH11 : upd H10 z _ = H11
      obtain ⟨k11, e11⟩ := alloc hH11 hz
      clear hH11
      refine caF ((k10.trans k11) _ _ hr9) fro e11 fz (by rw [iV_len]; show _ + 0 ≤ 1000; omega) fun y2 H12 u2 k12 e12 f12 => ?_
      rw [List.append_nil] at f12
      have kk := k9.trans (k10.trans (k11.trans k12))
      exact ⟨g, y2, _, _, rfl, s8.same kk, k8.trans (Kp.of kk), f12.fz e12, Nat.le_succ_of_le lg8, bg⟩
    · rw [decide_eq_false (fun z => c (nfs.mp z))]
      refine ⟨_, rfl, iteT ?_⟩
      have s10 := s9.same k10
      have ne0 : 0 < fs.length := List.length_pos_iff.mpr c
      refine ⟨_, rfl, _, rfl, a, D, _, rfl, s10, k10 _ _ h9, Da, by rw [List.length_map, nI_len]; exact ne0, by rw [List.length_map, nI_len]; omega, fun v H11 hv s11 k11 => ⟨(by show 1 ≤ sizeLine; decide), fun z uz hz fz => ?_⟩⟩
      obtain ⟨p1, mp, rfl⟩ : ∃ p1 ∈ fs, v = .int ((p1 : Nat) : Int) := by
        rw [← iV_eq] at hv
        obtain ⟨p1, h1, h2⟩ := List.mem_map.mp hv
        exact ⟨p1, h1, h2.symm⟩
      generalize hH12 : upd H11 z _ = H12
      obtain ⟨k12, e12⟩ := alloc hH12 hz
      clear hH12
      obtain ⟨ur2, fro2, hr11⟩ := ((fr8.same (k9.trans k10)).kp s10 k11).out
      refine caF (k12 _ _ hr11) fro2 e12 fz (by rw [iV_len]; show _ + 1 ≤ 1000; omega) fun y2 H13 u2 k13 e13 f13 => ?_
      have f13 : fzO (iV (g ++ [p1])) u2 := by
        rw [iV_app]
        exact f13
      have kk := k12.trans k13
      exact ⟨g ++ [p1], y2, _, _, rfl, s11.same kk, ((k8.trans (Kp.of (k9.trans k10))).trans k11).trans (Kp.of kk), f13.fz e13, by rw [List.length_append]; show g.length + 1 ≤ j + 1; omega, fun p hp => by
        rcases List.mem_append.mp hp with z | z
        · exact bg p z
        · rw [List.mem_singleton.mp z]; exact bf p1 mp⟩
  · rintro σ H8 ⟨g, r, v8, v9, rfl, s8, k8, fr8, lg8, bg⟩
    have k68 : Kp a H6 H8 := (Kp.of k7).trans k8
    have fq8 := (fq.same k7).kp s7 k8
    have hl8 := k68 _ _ la hl6
    have ls8 := ls6.kpA k68 nt
    have iq := iV_len ss
    have ig := iV_len g
    have kA : Kp a H H8 := k6.trans k68
    refine ⟨_, rfl, r, _, rfl, .inr fr8.sq, _, rfl, q, _, rfl, .inr fq8.sq, rfl, _, rfl, ?_⟩
    refine ite2 (fun c => ?_) (fun c => ⟨_, _, _, _, _, _, _, rfl, s8, kA⟩)
    refine ⟨_, rfl, _, rfl, (by show 2 ≤ sizeLine; decide), fun T2 u2 hT2 f2 => ?_⟩
    generalize hH11 : upd H8 T2 _ = H11
    obtain ⟨k11, e11⟩ := alloc hH11 hT2
    clear hH11
    exact k (.ref T2) H11 (kA.trans (Kp.of k11)) (s8.same k11) (odZ (f2.fz e11) (fq8.same k11) (s8.same k11) (by omega) ((vkZ (fr8.same k11) (s8.same k11) (by omega)).up (by decide)))
end
end Pl
namespace Pl
open PySem PySem.Spec PyProof.Rows L2
section
variable {P : Program} {w : World} {K : PySem.W.Frag} {mg : Str → Option Value} {base : Heap} {CShare CDivision CNoPerson : Addr}
abbrev st_l_odd_ring : Stmt := top 64
theorem sc_l_odd_ring : FnScope ["_law_source_here", "_law_rows_here", "_law_way", "_law_states", "_law_people", "_law_at", "_law_many", "_law_odd", "_law_wrong", "_law_some"] ["_law_source_here", "_law_rows_here", "_law_way"] (defScope st_l_odd_ring) := ⟨rfl, rfl, rfl, by decide +kernel, rfl, by decide +kernel, by decide +kernel⟩
theorem ok_oddRg (B : Bn mg) (c_l_draw : Cal P w K mg base 2 "_law_draw" ["_law_source_here", "_law_many"] spDraw) (c_l_choose : Cal P w K mg base 3 "_law_choose" ["_law_source_here", "_law_values"] spChoose) (c_l_near_ring : Cal P w K mg base 4 "_law_near_ring" ["_law_source_here", "_law_rows_here"] (spNearRg K)) (D : Df K mg "_law_odd_ring" st_l_odd_ring ["_law_source_here", "_law_rows_here", "_law_way"]) : Cal P w K mg base 5 "_law_odd_ring" ["_law_source_here", "_law_rows_here", "_law_way"] (spOddRg K) := by
  refine D.cal sc_l_odd_ring (fun vs H Q E h => ?_) (fun f cdv A out s H vs Q E hr h => ?_)
  · obtain ⟨a, l, v, ts, rows, rfl, _⟩ := h
    rfl
  obtain ⟨a, l, v, ts, rows, rfl, src, la, hl, ls, nt, rw_, way, k⟩ := h
  refine ⟨_, (pss_cons (ps_asg (pe_ifExp (pt_cmpR op_notN (pv 2) pe_non (nomark _)) (pv 2) (pe_tupF (pa_cons (pe_tupF (pa_cons pe_int (pa_cons pe_int pa_nil))) (pa_cons (pe_tupF (pa_cons pe_int (pa_cons pe_int pa_nil))) pa_nil)))) (pg_tup rfl (pgs_cons (pg_name (i := 3) sc_l_odd_ring.nd rfl (.inl rfl)) (pgs_cons (pg_name (i := 4) sc_l_odd_ring.nd rfl (.inl rfl)) pgs_nil))))
   (pss_cons (ps_par (i := 5) (j := 6) (by rfl) sc_l_odd_ring.nd rfl rfl (by decide) rfl rfl (pa_cons (pe_fn c_l_draw (hr.mono (by decide)) (pa_cons (pv 0) (pa_cons (pe_callB call_len_seq (by rfl) B.n_len (by decide +kernel) (pa_cons (pv 3) pa_nil)) pa_nil))) (pa_cons (pe_callB call_len_seq (by rfl) B.n_len (by decide +kernel) (pa_cons (pe_ix ix_list (pv 1) pe_int (fun _ _ => rfl)) pa_nil)) pa_nil)) (by rfl))
   (pss_cons (ps_set (i := 7) sc_l_odd_ring.nd rfl (.inl rfl) (pe_fn c_l_choose (hr.mono (by decide)) (pa_cons (pv 0) (pa_cons (pe_lst (pa_cons (pe_un un_neg pe_int) (pa_cons (pv 6) (pa_cons pe_bl (pa_cons pe_bl (pa_cons pe_non (pa_cons pe_str (pa_cons (pe_tupF (pa_cons pe_int pa_nil)) (pa_cons (pe_op op_pow pe_int pe_int) (pa_cons (pe_ix ix_tup (pv 3) (pe_op op_sub (pv 5) pe_int) (fun _ _ => rfl)) pa_nil)))))))))) pa_nil))))
   (pss_cons (ps_set (i := 8) sc_l_odd_ring.nd rfl (.inl rfl) (pe_fn c_l_choose (hr.mono (by decide)) (pa_cons (pv 0) (pa_cons (pe_lst (pa_cons (pe_un un_neg pe_int) (pa_cons (pe_callB call_len_seq (by rfl) B.n_len (by decide +kernel) (pa_cons (pv 1) pa_nil)) (pa_cons pe_bl (pa_cons pe_non (pa_cons pe_str (pa_cons (pe_lst (pa_cons pe_int pa_nil)) (pa_cons (pe_op op_pow pe_int pe_int) pa_nil)))))))) pa_nil))))
   (pss_cons (ps_set (i := 9) sc_l_odd_ring.nd rfl (.inl rfl) (pe_lst (pa_cons (pe_tupF (pa_cons (pe_op op_catF (pe_op op_catF (pe_slice sl_tupF (pv 3) po_none (po_some (pv 5))) (pe_tupF (pa_cons (pv 7) pa_nil))) (pe_slice sl_tupF (pv 3) (po_some (pe_op op_add (pv 5) pe_int)) po_none)) (pa_cons (pv 4) pa_nil))) (pa_cons (pe_tupF (pa_cons (pv 3) (pa_cons (pe_op op_catF (pe_op op_catF (pe_slice sl_tupF (pv 4) po_none (po_some (pv 5))) (pe_tupF (pa_cons (pv 8) pa_nil))) (pe_slice sl_tupF (pv 4) (po_some (pe_op op_add (pv 5) pe_int)) po_none)) pa_nil))) pa_nil))))
   (pss_cons (ps_set (i := 9) sc_l_odd_ring.nd rfl (.inl rfl) (pe_op op_cat (pv 9) (pe_lst (pa_cons (pe_tupF (pa_cons (pe_revF (pv 3)) (pa_cons (pv 4) pa_nil))) (pa_cons (pe_tupF (pa_cons (pv 3) (pa_cons (pe_slice sl_tupF (pv 4) (po_some pe_int) po_none) pa_nil))) (pa_cons (pe_tupF (pa_cons (pe_op op_catF (pv 3) (pe_slice sl_tupF (pv 3) po_none (po_some pe_int))) (pa_cons (pe_op op_catF (pv 4) (pe_slice sl_tupF (pv 4) po_none (po_some pe_int))) pa_nil))) pa_nil))))))
   (pss_cons (ps_set (i := 9) sc_l_odd_ring.nd rfl (.inl rfl) (pe_op op_cat (pv 9) (pe_lst (pa_cons (pe_lst (pa_cons (pv 3) (pa_cons (pv 4) pa_nil))) (pa_cons (pe_tupF (pa_cons (pe_callTy call_list_of (by rfl) B.n_list (by decide +kernel) (pa_cons (pv 3) pa_nil)) (pa_cons (pv 4) pa_nil))) (pa_cons (pe_tupF (pa_cons (pv 3) (pa_cons (pe_callTy call_list_of (by rfl) B.n_list (by decide +kernel) (pa_cons (pv 4) pa_nil)) pa_nil))) (pa_cons (pe_tupF (pa_cons (pv 3) (pa_cons (pv 4) (pa_cons pe_int pa_nil)))) (pa_cons (pe_tupF (pa_cons (pv 3) pa_nil)) pa_nil))))))))
   (pss_cons (ps_set (i := 9) sc_l_odd_ring.nd rfl (.inl rfl) (pe_op op_cat (pv 9) (pe_lst (pa_cons (pe_tupF (pa_cons (pe_slice sl_tupF (pv 3) po_none (po_some pe_int)) (pa_cons (pe_slice sl_tupF (pv 4) po_none (po_some pe_int)) pa_nil))) (pa_cons (pe_tupF (pa_cons (pe_tupF pa_nil) (pa_cons (pe_tupF pa_nil) pa_nil))) (pa_cons pe_non (pa_cons pe_int (pa_cons pe_str (pa_cons (pe_tupF (pa_cons pe_str (pa_cons (pe_tupF (pa_cons (pv 3) (pa_cons (pv 4) pa_nil))) pa_nil))) (pa_cons pe_dnewK (pa_cons pe_bl pa_nil)))))))))))
   (pss_cons (ps_set (i := 9) sc_l_odd_ring.nd rfl (.inl rfl) (pe_op op_cat (pv 9) (pe_lst (pa_cons (pe_tupF (pa_cons (pe_op op_catF (pe_slice sl_tupF (pv 3) (po_some pe_int) po_none) (pe_slice sl_tupF (pv 3) po_none (po_some pe_int))) (pa_cons (pv 4) pa_nil))) pa_nil))))
   (pss_one (ps_ret (pe_ifExp (pt_cmpR op_eq (pe_fn c_l_draw (hr.mono (by decide)) (pa_cons (pv 0) (pa_cons pe_int pa_nil))) pe_int (nomark _)) (pe_fn c_l_near_ring (hr.mono (by decide)) (pa_cons (pv 0) (pa_cons (pv 1) pa_nil))) (pe_fn c_l_choose (hr.mono (by decide)) (pa_cons (pv 0) (pa_cons (pv 9) pa_nil))))))))))))))), ?_⟩
  obtain ⟨w2, w6⟩ := rw_.w26
  have p2 := rw_.1
  have p4 := rw_.2.1
  show tSeq (tAsg _ _) _ _ _ _
  refine saJoin (fun v' H' => Same H H' ∧ ∃ (T q r : Addr) (ss g : List Nat), v' = .ref T ∧ Fz H' T [.ref q, .ref r] ∧ Fz H' q (iV ss) ∧ Fz H' r (iV g) ∧ 2 ≤ ss.length ∧ ss.length ≤ 6 ∧ g.length = ss.length) (fun v' H1 z => ?_) (fun N hN => ?_)
  case refine_2 =>
    rcases way with rfl | ⟨T, q, r, ss, g, rfl, hT, hq, hr', l2, l6, lg⟩
    · refine ⟨_, rfl, rfl, _, rfl, iteF ?_⟩
      refine ⟨(by show 2 ≤ sizeLine; decide), fun q u1 hq f1 => ?_⟩
      generalize hA : upd H q _ = A1
      obtain ⟨k1, e1⟩ := alloc hA hq
      clear hA
      refine ⟨(by show 2 ≤ sizeLine; decide), fun r u2 hr' f2 => ?_⟩
      generalize hA : upd A1 r _ = A2
      obtain ⟨k2, e2⟩ := alloc hA hr'
      clear hA
      refine ⟨(by show 2 ≤ sizeLine; decide), fun T u3 hT f3 => ?_⟩
      generalize hA : upd A2 T _ = A3
      obtain ⟨k3, e3⟩ := alloc hA hT
      clear hA
      exact hN _ _ ⟨k1.trans (k2.trans k3), T, q, r, [0, 1], [0, 0], rfl, f3.fz e3, fzO.fz (xs := iV [0, 1]) f1 ((k2.trans k3) _ _ e1), fzO.fz (xs := iV [0, 0]) f2 (k3 _ _ e2), by decide, by decide, rfl⟩
    · exact ⟨_, rfl, rfl, _, rfl, iteT ⟨_, rfl, hN _ _ ⟨Same.refl H, T, q, r, ss, g, rfl, hT, hq, hr', l2, l6, lg⟩⟩⟩
  obtain ⟨k1, T, q, r, ss, g, rfl, hT, hq, hr', l2, l6, lg⟩ := z
  have c1 : CxO a l q r ts rows ss g H H1 := ⟨src.same k1, hq, hr', k1 _ _ hl, ls.same k1, Kp.of k1⟩
  clear way hq hr' k1
  have il := iV_len ss
  have ig := iV_len g
  refine ⟨T, _, rfl, hT.sq, rfl, _, _, rfl, _, _, rfl, rfl, ?_⟩
  clear hT
  refine ⟨_, rfl, _, rfl, q, _, rfl, .inr c1.q.sq, a, _, rfl, c1.s, by omega, by omega, fun rt H2 t0 tlt s2 k2 => ?_⟩
  have c2 := c1.kp la nt k2 s2
  obtain ⟨t1, n1, et, en, ht⟩ := lsAt c2.ls (p := 0) (by omega)
  have ew : (n1.map V.int).length = wdt rows := by rw [List.length_map, rw_.wdt (List.mem_of_getElem? en)]
  refine ⟨_, rfl, l, _, 0, _, rfl, rfl, SqL.of c2.hl, refsAt et, t1, _, rfl, .inl (SqL.of ht), ?_⟩
  rw [ew]
  refine ⟨_, _, rfl, ?_⟩
  obtain ⟨tt, rfl, tt2⟩ : ∃ tt : Nat, rt = (tt : Int) ∧ tt < ss.length := ⟨rt.toNat, by omega, by omega⟩
  obtain ⟨sl, hsl⟩ := iV_last (ss := ss) (at_ := (tt : Int)) (by omega) (by omega) (by omega)
  clear c1 s2 k2 t0 tlt et en ht ew
  sorry
end
end Pl
namespace Pl
open PySem PySem.Spec PyProof.Rows L2
theorem PlAt.last {CP CD C p : Addr} {wo : Option Nat} {H : Hp} {cs : List (List (List Int) × Int)} {r : List (List Int)} {k : Int} (h : PlAt CP wo CD C H p (cs ++ [(r, k)])) : ∃ d t ss, DvAt CD C H d t ss r := by
  obtain ⟨dx, t, us, a1, a2, a3, _⟩ := h
  obtain ⟨pre, u, d, t1, ss, _, _, _, dv⟩ := a3.last
  exact ⟨d, t1, ss, dv⟩
def plA (nm : Str) (n : Int) : Str := Str.empty ++ nm ++ ("(" : Str) ++ toString n
def plS (nm : Str) (n m : Int) : Str := plA nm n ++ (" people, " : Str) ++ toString m ++ (" states)" : Str)
def spPlLen (CP CD C : Addr) : Sp := fun vs H Q _ => ∃ (wo : Option Nat) (p : Addr) (cs : List (List (List Int) × Int)) (r : List (List Int)) (k : Int), vs = [.ref p] ∧ PlAt CP wo CD C H p (cs ++ [(r, k)]) ∧ Q (.int (r.length : Nat)) H
def spPlRep (nm : Str) (CP CD C : Addr) : Sp := fun vs H Q _ => ∃ (wo : Option Nat) (p : Addr) (cs : List (List (List Int) × Int)) (r : List (List Int)) (k : Int), vs = [.ref p] ∧ PlAt CP wo CD C H p (cs ++ [(r, k)]) ∧ Q (.str (plS nm r.length (wdt r))) H
/-- the four names -/
def nmP : List Str := ["Pool", "Kept", "Fine", "KeptFine"]
def shortS (nm : Str) (n m : Int) : Prop := nm.length ≤ 1000 ∧ (Str.empty ++ nm).length ≤ 1000 ∧ (Str.empty ++ nm ++ ("(" : Str)).length ≤ 1000 ∧ (plA nm n).length ≤ 1000 ∧ (plA nm n ++ (" people, " : Str)).length ≤ 1000 ∧ (plA nm n ++ (" people, " : Str) ++ toString m).length ≤ 1000 ∧ (plS nm n m).length ≤ 1000
instance (nm : Str) (n m : Int) : Decidable (shortS nm n m) := by unfold shortS; infer_instance
theorem short_all : ∀ i : Fin 4, ∀ n : Fin 5, ∀ m : Fin 7, shortS (nmP[i]) (n.val : Int) (m.val : Int) := by decide +kernel
section
variable {P : Program} {w : World} {K : PySem.W.Frag} {mg : Str → Option Value} {base : Heap} {nm0 nm : Str} {CShare CDivision CPool CTrying : Addr}
abbrev st_Po_len : Stmt := inClass (top 46) 15
theorem sc_Po_len : FnScope ["self"] ["self"] (defScope st_Po_len) := ⟨rfl, rfl, rfl, by decide +kernel, rfl, by decide +kernel, by decide +kernel⟩
theorem ok_plLen (B : Bn mg) (SDivision : DvK K mg CDivision) (SPool : PlK K mg nm0 CPool) (p_division : PCal P w K mg base 1 CPool "division" ["self"] (spPlDiv CPool CDivision CShare)) (p_shares : PCal P w K mg base 2 CDivision "shares" ["self"] (getSp CDivision "by_person")) (D : Mh K CPool "__len__" "Pool.__len__" st_Po_len ["self"]) : MCal P w K mg base 4 CPool "__len__" ["self"] (spPlLen CPool CDivision CShare) := by
  refine D.cal sc_Po_len (fun vs H Q E h => ?_) (fun f cdv A out s H vs Q E hr h => ?_)
  · obtain ⟨wo, p, cs, r, k, rfl, _⟩ := h
    rfl
  obtain ⟨wo, p, cs, r, k, rfl, pl, kk⟩ := h
  obtain ⟨dp, t, hp⟩ := pl.own
  refine ⟨_, (pss_one (ps_ret (pe_callB call_len_seq (by rfl) B.n_len (by decide +kernel) (pa_cons (pe_pr p_shares SDivision.cl (hr.mono (by decide)) (pe_pr p_division SPool.cl (hr.mono (by decide)) (pv 0))) pa_nil)))), ?_⟩
  refine ⟨_, rfl, p, dp, _, rfl, hp, wo, p, cs, r, k, rfl, pl, fun d t1 ss dv => ?_⟩
  obtain ⟨⟨dx, hd⟩, ht, al, rw_⟩ := id dv
  refine ⟨d, dx, _, rfl, hd, d, dx, _, _, rfl, hd, dvF_get t1, t1, _, rfl, .inr (SqT.of ht), ?_⟩
  rw [List.length_map, al.len]
  exact kk
abbrev st_Po_repr : Stmt := inClass (top 46) 16
theorem sc_Po_repr : FnScope ["self"] ["self"] (defScope st_Po_repr) := ⟨rfl, rfl, rfl, by decide +kernel, rfl, by decide +kernel, by decide +kernel⟩
theorem ok_plRep (SDivision : DvK K mg CDivision) (SPool : PlK K mg nm0 CPool) {u : Value} (cn : Con K CPool "CALLED" (.str nm) u) {i : Fin 4} (hi : nm = nmP[i]) (p_division : PCal P w K mg base 1 CPool "division" ["self"] (spPlDiv CPool CDivision CShare)) (p_people : PCal P w K mg base 2 CDivision "people" ["self"] (spPeople CDivision CShare)) (p_states : PCal P w K mg base 4 CDivision "states" ["self"] (spStates CDivision CShare)) (D : Mh K CPool "__repr__" "Pool.__repr__" st_Po_repr ["self"]) : MCal P w K mg base 6 CPool "__repr__" ["self"] (spPlRep nm CPool CDivision CShare) := by
  refine D.cal sc_Po_repr (fun vs H Q E h => ?_) (fun f cdv A out s H vs Q E hr h => ?_)
  · obtain ⟨wo, p, cs, r, k, rfl, _⟩ := h
    rfl
  obtain ⟨wo, p, cs, r, k, rfl, pl, kk⟩ := h
  obtain ⟨dp, t, hp⟩ := pl.own
  obtain ⟨d0, t0, ss0, dv0⟩ := pl.last
  have rw_ := dv0.2.2.2
  obtain ⟨w2, w6⟩ := rw_.w26
  have p4 := rw_.2.1
  obtain ⟨z0, z1, z2, z3, z4, z5, z6⟩ := short_all i ⟨r.length, by omega⟩ ⟨wdt r, by omega⟩
  rw [← hi] at z0 z1 z2 z3 z4 z5 z6
  have lg : ∀ n : Nat, n < 7 → (n : Int).natAbs.log2 < 1920 := fun n hn => by
    have : ∀ m : Fin 7, ((m.val : Nat) : Int).natAbs.log2 < 1920 := by decide +kernel
    exact this ⟨n, hn⟩
  refine ⟨_, (pss_one (ps_ret (pe_js (.cons (pe_fmt (pe_con (pv 0) rfl)) (.cons pe_str (.cons (pe_fmt (pe_pr p_people SDivision.cl (hr.mono (by decide)) (pe_pr p_division SPool.cl (hr.mono (by decide)) (pv 0)))) (.cons pe_str (.cons (pe_fmt (pe_pr p_states SDivision.cl (hr.mono (by decide)) (pe_pr p_division SPool.cl (hr.mono (by decide)) (pv 0)))) (.cons pe_str .nil))))))))), ?_⟩
  refine ⟨_, rfl, p, CPool, dp, _, _, _, rfl, hp, SPool.cl, cn, (by cases wo <;> rfl), .inl ?_⟩
  refine ⟨_, rfl, size_of z0, _, rfl, size_of z1, _, rfl, size_of z2, ?_⟩
  refine ⟨_, rfl, p, dp, _, rfl, hp, wo, p, cs, r, k, rfl, pl, fun d t1 ss dv => ?_⟩
  obtain ⟨⟨dx, hd⟩, ht, al, _⟩ := id dv
  refine ⟨d, dx, _, rfl, hd, d, t1, ss, r, rfl, dv, .inr ⟨_, rfl, lg _ (by omega), ?_⟩⟩
  refine ⟨_, rfl, size_of z3, _, rfl, size_of z4, ?_⟩
  refine ⟨_, rfl, p, dp, _, rfl, hp, wo, p, cs, r, k, rfl, pl, fun d2 t2 ss2 dv2 => ?_⟩
  obtain ⟨⟨dx2, hd2⟩, ht2, al2, _⟩ := id dv2
  refine ⟨d2, dx2, _, rfl, hd2, d2, t2, ss2, r, rfl, dv2, fun ns hn => ?_⟩
  rw [rw_.wdt hn]
  refine .inr ⟨_, rfl, lg _ (by omega), ?_⟩
  exact ⟨_, rfl, size_of z5, _, rfl, size_of z6, kk⟩
end
end Pl
namespace Pl
open PySem PySem.Spec PyProof.Rows L2
theorem pe_if {X : Cx} {e : Expr} {c : Prop} {t : TE} (h : c → PE X e t) : PE X e (fun σ H Q => c ∧ t σ H Q) := ⟨fun pins s σ H Q I ⟨hc, ht⟩ => (h hc).run pins s σ H Q I ht⟩
/-- what a pool tells of itself -/
def seenL (kind : Fin 4) (r : List (List Int)) (ch : Nat) (u : Int) : List V := [.str (text r), .int (ch : Nat), .int (r.length : Nat), .str (plS nmP[kind] r.length (wdt r))] ++ if 2 ≤ kind.val then [.int u] else []
def spDue : Sp := fun vs H Q _ => ∃ (kind : Fin 4) (l : Addr) (ts : List Addr) (rows : List (List Int)) (ch : Nat) (u : Int), vs = [.int (kind.val : Nat), .ref l, .int (ch : Nat), .int u] ∧ H l = some (.lst (ts.map V.ref)) ∧ LsAll H ts rows ∧ Rows rows ∧ ∀ (L : Addr) (H' : Hp), Same H H' → H' L = some (.lst (seenL kind rows ch u)) → Q (.ref L) H'
def spSizes : Sp := fun vs H Q _ => ∃ (a : Addr) (lap : Nat), vs = [.ref a, .int (lap : Nat)] ∧ lap < 4 ∧ Src H a ∧ ∀ (L : Addr) (pe ma : Nat) (mo : Int) (H' : Hp), 2 ≤ pe → pe ≤ 4 → 2 ≤ ma → ma ≤ 6 → 2 ≤ mo → mo ≤ 30 → Src H' a → Kp a H H' → H' L = some (.lst [.int (pe : Nat), .int (ma : Nat), .int mo]) → Q (.ref L) H'
def dueN (n m : Int) : Str := ((("(" : Str) ++ Str.ofString (toString n)) ++ (" people, " : Str)) ++ Str.ofString (toString m) ++ (" states)" : Str)
theorem due_all : ∀ i : Fin 4, ∀ n : Fin 5, ∀ m : Fin 7, nmP[i] ++ dueN (n.val : Int) (m.val : Int) = plS nmP[i] (n.val : Int) (m.val : Int) ∧ ("(" : Str).length + (Str.ofString (toString (n.val : Int))).length ≤ 1000 ∧ (("(" : Str) ++ Str.ofString (toString (n.val : Int))).length + (" people, " : Str).length ≤ 1000 ∧
    ((("(" : Str) ++ Str.ofString (toString (n.val : Int))) ++ (" people, " : Str)).length + (Str.ofString (toString (m.val : Int))).length ≤ 1000 ∧ (((("(" : Str) ++ Str.ofString (toString (n.val : Int))) ++ (" people, " : Str)) ++ Str.ofString (toString (m.val : Int))).length + (" states)" : Str).length ≤ 1000 ∧ nmP[i].length + (dueN (n.val : Int) (m.val : Int)).length ≤ 1000 := by decide +kernel
theorem seenL_hi {kind : Fin 4} {r : List (List Int)} {ch : Nat} {u : Int} (h : 2 ≤ kind.val) : seenL kind r ch u = [.str (text r), .int (ch : Nat), .int (r.length : Nat), .str (plS nmP[kind] r.length (wdt r))] ++ [.int u] := by unfold seenL; rw [if_pos h]
theorem seenL_lo {kind : Fin 4} {r : List (List Int)} {ch : Nat} {u : Int} (h : ¬ 2 ≤ kind.val) : seenL kind r ch u = [.str (text r), .int (ch : Nat), .int (r.length : Nat), .str (plS nmP[kind] r.length (wdt r))] := by unfold seenL; rw [if_neg h, List.append_nil]
def spSeen0 (CP CD C : Addr) : Sp := fun vs H Q _ => ∃ (p : Addr) (wo : Option Nat) (cs : List (List (List Int) × Int)) (r : List (List Int)) (k : Int), vs = [.int 0, .ref p] ∧ PlAt CP wo CD C H p (cs ++ [(r, k)]) ∧ ∀ (L : Addr) (H' : Hp), Same H H' → H' L = some (.lst (seenL 0 r cs.length k)) → Q (.ref L) H'
section
variable {P : Program} {w : World} {K : PySem.W.Frag} {mg : Str → Option Value} {base : Heap} {nm0 : Str} {CShare CDivision CPool : Addr}
abbrev st_l_seen : Stmt := top 65
theorem sc_l_seen : FnScope ["_law_kind", "_law_pool", "_law_found"] ["_law_kind", "_law_pool"] (defScope st_l_seen) := ⟨rfl, rfl, rfl, by decide +kernel, rfl, by decide +kernel, by decide +kernel⟩
theorem ok_seen (B : Bn mg) (SDivision : DvK K mg CDivision) (SPool : PlK K mg nm0 CPool) (p_division : PCal P w K mg base 1 CPool "division" ["self"] (spPlDiv CPool CDivision CShare)) (p_changes : PCal P w K mg base 1 CPool "changes" ["self"] (spPlChanges CPool CDivision CShare)) (m_lenP : MCal P w K mg base 4 CPool "__len__" ["self"] (spPlLen CPool CDivision CShare)) (m_repr : MCal P w K mg base 6 CPool "__repr__" ["self"] (spPlRep nmP[(0 : Fin 4)] CPool CDivision CShare)) (m_text : MCal P w K mg base 4 CDivision "text" ["self"] (spText CDivision CShare)) (D : Df K mg "_law_seen" st_l_seen ["_law_kind", "_law_pool"]) : Cal P w K mg base 8 "_law_seen" ["_law_kind", "_law_pool"] (spSeen0 CPool CDivision CShare) := by
  refine D.cal sc_l_seen (fun vs H Q E h => ?_) (fun f cdv A out s H vs Q E hr h => ?_)
  · obtain ⟨p, wo, cs, r, k, rfl, _⟩ := h
    rfl
  obtain ⟨p, wo, cs, r, k, rfl, pl, kk⟩ := h
  refine ⟨_, (pss_cons (ps_set (i := 2) sc_l_seen.nd rfl (.inl rfl) (pe_lst (pa_cons (pe_mt0 m_text SDivision.cl (hr.mono (by decide)) (pe_pr p_division SPool.cl (hr.mono (by decide)) (pv 1))) (pa_cons (pe_pr p_changes SPool.cl (hr.mono (by decide)) (pv 1)) (pa_cons (pe_callB (call_lenM m_lenP (hr.mono (by decide))) (by rfl) B.n_len (by decide +kernel) (pa_cons (pv 1) pa_nil)) (pa_cons (pe_callB (call_reprO m_repr (hr.mono (by decide))) (by rfl) B.n_repr (by decide +kernel) (pa_cons (pv 1) pa_nil)) pa_nil))))))
   (pss_one (ps_ret (pe_ifExp (pt_cmpR op_ge (pv 0) pe_int (nomark _)) (pe_op op_cat (pv 2) (pe_lst (pa_cons (pe_if (c := False) (t := tC .non) fun hc => hc.elim) pa_nil))) (pv 2))))), ?_⟩
  obtain ⟨dp, t, hp⟩ := pl.own
  refine ⟨_, rfl, p, dp, _, rfl, hp, wo, p, cs, r, k, rfl, pl, fun d t1 ss dv => ?_⟩
  obtain ⟨⟨dx, hd⟩, ht, al, rw_⟩ := id dv
  refine ⟨d, dx, _, rfl, hd, rfl, d, t1, ss, r, rfl, dv, fun H1 k1 => ?_⟩
  have pl1 := pl.same k1
  have hp1 := k1 _ _ hp
  have p4 := rw_.2.1
  refine ⟨_, rfl, p, dp, _, rfl, hp1, wo, p, _, rfl, pl1, ?_⟩
  refine ⟨_, rfl, p, dp, _, rfl, hp1, wo, p, cs, r, k, rfl, pl1, r.length, rfl, by omega, ?_⟩
  refine ⟨_, rfl, p, dp, _, rfl, hp1, wo, p, cs, r, k, rfl, pl1, ?_⟩
  refine ⟨_, rfl, (by show 4 ≤ sizeLine; decide), fun L1 hL1 => ?_⟩
  generalize hH2 : upd H1 L1 _ = H2
  obtain ⟨k2, e2⟩ := alloc hH2 hL1
  clear hH2
  have ec : (((cs ++ [(r, k)]).length : Int) - 1) = (cs.length : Nat) := by rw [List.length_append]; show ((cs.length + 1 : Nat) : Int) - 1 = _; omega
  rw [ec] at e2
  refine ⟨_, rfl, _, _, rfl, rfl, _, rfl, ?_⟩
  refine iteF ?_
  exact ⟨_, rfl, kk L1 H2 (k1.trans k2) (by rw [seenL_lo (by decide)]; exact e2)⟩
end
end Pl
namespace Pl
open PySem PySem.Spec PyProof.Rows L2
theorem nm_at : ∀ i : Fin 4, atI [V.str "Pool", .str "Kept", .str "Fine", .str "KeptFine"] ((i.val : Nat) : Int) = some (.str nmP[i])
  | ⟨0, _⟩ => rfl
  | ⟨1, _⟩ => rfl
  | ⟨2, _⟩ => rfl
  | ⟨3, _⟩ => rfl
section
variable {P : Program} {w : World} {K : PySem.W.Frag} {mg : Str → Option Value} {base : Heap} {CShare CDivision : Addr}
abbrev st_l_due : Stmt := top 66
theorem sc_l_due : FnScope ["_law_kind", "_law_rows_here", "_law_changes", "_law_unit", "_law_name", "_law_numbers", "_law_found"] ["_law_kind", "_law_rows_here", "_law_changes", "_law_unit"] (defScope st_l_due) := ⟨rfl, rfl, rfl, by decide +kernel, rfl, by decide +kernel, by decide +kernel⟩
theorem ok_due (B : Bn mg) (c_l_text : Cal P w K mg base 2 "_law_text" ["_law_rows_here"] spTextG) (D : Df K mg "_law_due" st_l_due ["_law_kind", "_law_rows_here", "_law_changes", "_law_unit"]) : Cal P w K mg base 3 "_law_due" ["_law_kind", "_law_rows_here", "_law_changes", "_law_unit"] spDue := by
  refine D.cal sc_l_due (fun vs H Q E h => ?_) (fun f cdv A out s H vs Q E hr h => ?_)
  · obtain ⟨kind, l, ts, rows, ch, u, rfl, _⟩ := h
    rfl
  obtain ⟨kind, l, ts, rows, ch, u, rfl, hl, ls, rw_, kk⟩ := h
  refine ⟨_, (pss_cons (ps_set (i := 4) sc_l_due.nd rfl (.inl rfl) (pe_ix ix_list (pe_lst (pa_cons pe_str (pa_cons pe_str (pa_cons pe_str (pa_cons pe_str pa_nil))))) (pv 0) (fun _ _ => rfl)))
   (pss_cons (ps_set (i := 5) sc_l_due.nd rfl (.inl rfl) (pe_op op_add_str (pe_op op_add_str (pe_op op_add_str (pe_op op_add_str pe_str (pe_callTy call_str_int (by rfl) B.n_str (by decide +kernel) (pa_cons (pe_callB call_len_seq (by rfl) B.n_len (by decide +kernel) (pa_cons (pv 1) pa_nil)) pa_nil))) pe_str) (pe_callTy call_str_int (by rfl) B.n_str (by decide +kernel) (pa_cons (pe_callB call_len_seq (by rfl) B.n_len (by decide +kernel) (pa_cons (pe_ix ix_list (pv 1) pe_int (fun _ _ => rfl)) pa_nil)) pa_nil))) pe_str))
   (pss_cons (ps_set (i := 6) sc_l_due.nd rfl (.inl rfl) (pe_lst (pa_cons (pe_fn c_l_text (hr.mono (by decide)) (pa_cons (pv 1) pa_nil)) (pa_cons (pv 2) (pa_cons (pe_callB call_len_seq (by rfl) B.n_len (by decide +kernel) (pa_cons (pv 1) pa_nil)) (pa_cons (pe_op op_add_str (pv 4) (pv 5)) pa_nil))))))
   (pss_one (ps_ret (pe_ifExp (pt_cmpR op_ge (pv 0) pe_int (nomark _)) (pe_op op_cat (pv 6) (pe_lst (pa_cons (pv 3) pa_nil))) (pv 6))))))), ?_⟩
  have p4 := rw_.2.1
  obtain ⟨w2, w6⟩ := rw_.w26
  obtain ⟨z0, z1, z2, z3, z4, z5⟩ := due_all kind ⟨rows.length, by omega⟩ ⟨wdt rows, by omega⟩
  have lt := ls.1
  obtain ⟨t0, n0, et0, en0, ht0⟩ := lsAt ls (p := 0) (by have := rw_.1; omega)
  have ln0 : n0.length = wdt rows := rw_.wdt (List.mem_of_getElem? en0)
  have lg : ∀ n : Nat, n < 7 → (n : Int).natAbs.log2 < 1920 := fun n hn => by
    have : ∀ m : Fin 7, ((m.val : Nat) : Int).natAbs.log2 < 1920 := by decide +kernel
    exact this ⟨n, hn⟩
  have hnm := nm_at kind
  refine ⟨(by show 4 ≤ sizeLine; decide), fun L0 hL0 => ?_⟩
  generalize hH1 : upd H L0 _ = H1
  obtain ⟨k1, e1⟩ := alloc hH1 hL0
  clear hH1
  have hl1 := k1 _ _ hl
  have ls1 := ls.same k1
  refine ⟨_, rfl, L0, _, _, _, rfl, rfl, SqL.of e1, hnm, ?_⟩
  have sz : ∀ {n : Nat}, n ≤ 1000 → n ≤ sizeLine := fun h => Nat.le_trans h (by decide)
  refine ⟨_, rfl, l, _, rfl, .inl (SqL.of hl1), ?_⟩
  rw [List.length_map, lt]
  refine ⟨_, rfl, lg _ (by omega), _, _, rfl, rfl, sz z1, _, _, rfl, rfl, sz z2, ?_⟩
  have ht1 := k1 _ _ ht0
  have et1 := refsAt et0
  refine ⟨_, rfl, l, _, _, _, rfl, rfl, SqL.of hl1, et1, t0, _, rfl, .inl (SqL.of ht1), ?_⟩
  rw [List.length_map, ln0]
  refine ⟨_, rfl, lg _ (by omega), _, _, rfl, rfl, sz z3, _, _, rfl, rfl, sz z4, ?_⟩
  refine ⟨_, rfl, l, ts, rows, rfl, hl1, ls1, rw_, fun H2 k2 => ?_⟩
  have hl2 := k2 _ _ hl1
  refine ⟨_, rfl, _, rfl, l, _, rfl, .inl (SqL.of hl2), ?_⟩
  rw [List.length_map, lt]
  refine ⟨_, rfl, _, rfl, _, _, rfl, rfl, sz z5, (by show 4 ≤ sizeLine; decide), fun L1 hL1 => ?_⟩
  generalize hH3 : upd H2 L1 _ = H3
  obtain ⟨k3, e3⟩ := alloc hH3 hL1
  clear hH3
  have e3 := e3.trans (congrArg (fun z => some (HO.lst [V.str (text rows), .int (ch : Nat), .int (rows.length : Nat), .str z])) z0)
  have k13 := k1.trans (k2.trans k3)
  by_cases c : 2 ≤ kind.val
  · have ct : decide ((2 : Int) ≤ ((kind.val : Nat) : Int)) = true := decide_eq_true (by omega)
    refine ⟨_, rfl, _, _, rfl, rfl, _, rfl, ?_⟩
    rw [ct]
    refine iteT ?_
    refine ⟨_, rfl, _, rfl, (by show 1 ≤ sizeLine; decide), fun L2 hL2 => ?_⟩
    generalize hH4 : upd H3 L2 _ = H4
    obtain ⟨k4, e4⟩ := alloc hH4 hL2
    clear hH4
    refine ⟨L1, L2, _, _, rfl, rfl, k4 _ _ e3, e4, (by show 5 ≤ sizeLine; decide), fun L3 hL3 => ?_⟩
    generalize hH5 : upd H4 L3 _ = H5
    obtain ⟨k5, e5⟩ := alloc hH5 hL3
    clear hH5
    exact kk L3 H5 (k13.trans (k4.trans k5)) (by rw [seenL_hi c]; exact e5)
  · have ct : decide ((2 : Int) ≤ ((kind.val : Nat) : Int)) = false := decide_eq_false (by omega)
    refine ⟨_, rfl, _, _, rfl, rfl, _, rfl, ?_⟩
    rw [ct]
    refine iteF ?_
    exact ⟨_, rfl, kk L1 H3 k13 (by rw [seenL_lo c]; exact e3)⟩
end
end Pl
namespace Pl
open PySem PySem.Spec PyProof.Rows L2
section
variable {P : Program} {w : World} {K : PySem.W.Frag} {mg : Str → Option Value} {base : Heap} {CShare CDivision CNothingDone CPool CKept CFine CKeptFine : Addr}
abbrev st_l_sizes : Stmt := top 68
theorem sc_l_sizes : FnScope ["_law_source_here", "_law_lap"] ["_law_source_here", "_law_lap"] (defScope st_l_sizes) := ⟨rfl, rfl, rfl, by decide +kernel, rfl, by decide +kernel, by decide +kernel⟩
theorem ok_sizes (c_l_draw : Cal P w K mg base 2 "_law_draw" ["_law_source_here", "_law_many"] spDraw) (D : Df K mg "_law_sizes" st_l_sizes ["_law_source_here", "_law_lap"]) : Cal P w K mg base 3 "_law_sizes" ["_law_source_here", "_law_lap"] spSizes := by
  refine D.cal sc_l_sizes (fun vs H Q E h => ?_) (fun f cdv A out s H vs Q E hr h => ?_)
  · obtain ⟨a, lap, rfl, _⟩ := h
    rfl
  obtain ⟨a, lap, rfl, l4, src, kk⟩ := h
  refine ⟨_, (pss_one (ps_ret (pe_lst (pa_cons (pe_op op_add pe_int (pe_fn c_l_draw (hr.mono (by decide)) (pa_cons (pv 0) (pa_cons pe_int pa_nil)))) (pa_cons (pe_op op_add pe_int (pe_fn c_l_draw (hr.mono (by decide)) (pa_cons (pv 0) (pa_cons pe_int pa_nil)))) (pa_cons (pe_ix ix_list (pe_lst (pa_cons pe_int (pa_cons pe_int (pa_cons pe_int (pa_cons pe_int pa_nil))))) (pv 1) (fun _ _ => rfl)) pa_nil)))))), ?_⟩
  refine ⟨_, rfl, a, 3, rfl, src, by decide, by decide, fun r1 H1 r10 r11 s1 k1 => ⟨_, _, rfl, rfl, ?_⟩⟩
  refine ⟨_, rfl, a, 5, rfl, s1, by decide, by decide, fun r2 H2 r20 r21 s2 k2 => ⟨_, _, rfl, rfl, ?_⟩⟩
  refine ⟨(by show 4 ≤ sizeLine; decide), fun L0 hL0 => ?_⟩
  generalize hH3 : upd H2 L0 _ = H3
  obtain ⟨k3, e3⟩ := alloc hH3 hL0
  clear hH3
  obtain ⟨mo, hmo, mo2, mo30⟩ : ∃ mo : Int, atI [V.int 2, .int 30, .int 5, .int 15] ((lap : Nat) : Int) = some (.int mo) ∧ 2 ≤ mo ∧ mo ≤ 30 := by
    match lap, l4 with
    | 0, _ => exact ⟨2, rfl, by decide, by decide⟩
    | 1, _ => exact ⟨30, rfl, by decide, by decide⟩
    | 2, _ => exact ⟨5, rfl, by decide, by decide⟩
    | 3, _ => exact ⟨15, rfl, by decide, by decide⟩
  refine ⟨_, rfl, L0, _, _, _, rfl, rfl, SqL.of e3, hmo, (by show 3 ≤ sizeLine; decide), fun L hL => ?_⟩
  generalize hH4 : upd H3 L _ = H4
  obtain ⟨k4, e4⟩ := alloc hH4 hL
  clear hH4
  have c1 : (2 + r1 : Int) = ((2 + r1).toNat : Nat) := by rw [Int.toNat_of_nonneg (by omega)]
  have c2 : (2 + r2 : Int) = ((2 + r2).toNat : Nat) := by rw [Int.toNat_of_nonneg (by omega)]
  refine kk L (2 + r1).toNat (2 + r2).toNat mo H4 (by omega) (by omega) (by omega) (by omega) mo2 mo30 ((s2.same k3).same k4) ((k1.trans k2).trans (Kp.of (k3.trans k4))) ?_
  rw [← c1, ← c2]
  exact e4
end
end Pl
namespace Pl
open PySem PySem.Spec PyProof.Rows L2
def gI (l : List Int) (i : Nat) : Int := (l[i]?).getD 0
theorem gI_at {l : List Int} {i : Nat} (h : i < l.length) : l[i]? = some (gI l i) := by unfold gI; rw [List.getElem?_eq_getElem h]; rfl
theorem Fit.shaped {k m : Nat} {d : PyData} (f : Fit k m d) (h : k ≤ 60) : SeqAt.shaped d = true := by
  show (PyData.canLay0 d && decide (PyData.depth d ≤ 64)) = true
  rw [f.lay, decide_eq_true (Nat.le_trans f.dep (by omega))]
  rfl
end Pl
namespace Pl
open PySem PySem.Spec PyProof.Rows L2
/-- numbers from 0 to m -/
def Bd (m : Int) (ns : List Int) : Prop := ∀ r ∈ ns, 0 ≤ r ∧ r ≤ m
/-- such a list grows at D -/
def BdI (m : Int) (a D : Addr) (H1 : Hp) (i : Nat) (H : Hp) : Prop := ∃ ns : List Int, ns.length = i ∧ Bd m ns ∧ Src H a ∧ Kp a H1 H ∧ H D = some (.lst (ns.map V.int))
theorem BdI.start {m : Int} {a D : Addr} {H1 : Hp} (s : Src H1 a) (n : H1 D = none) : BdI m a D H1 0 (L2.upd H1 D (.lst [])) :=
  ⟨[], rfl, fun _ h => (nomatch h), s.upd n, (Kp.refl a H1).new n, upd_same⟩
theorem BdI.src {m : Int} {a D : Addr} {H1 H : Hp} {i : Nat} (p : BdI m a D H1 i H) : Src H a := p.elim fun _ q => q.2.2.1
theorem BdI.next {m : Int} {a D : Addr} {H1 H H' : Hp} {i : Nat} {r : Int} (p : BdI m a D H1 i H) (hi : i ≤ 100) (n : H1 D = none) (da : D ≠ a) (s : Src H' a) (k : Kp a H H') (r0 : 0 ≤ r) (r1 : r ≤ m) :
    ∃ acc, H' D = some (.lst acc) ∧ acc.length < sizeLine ∧ BdI m a D H1 (i + 1) (L2.upd H' D (.lst (acc ++ [.int r]))) := by
  obtain ⟨ns, e, am, _, kp, hd⟩ := p
  refine ⟨ns.map V.int, k _ _ da hd, size_lt (by rw [List.length_map]; omega), ns ++ [r], ?_, ?_, s.put da, (kp.trans k).put n, ?_⟩
  · rw [List.length_append, e]; rfl
  · intro x hx
    rcases List.mem_append.mp hx with h | h
    · exact am x h
    · rw [List.mem_singleton.mp h]; exact ⟨r0, r1⟩
  · rw [upd_same, List.map_append]; rfl
def spRow (K : PySem.W.Frag) : Sp := fun vs H Q _ => ∃ (a f : Addr) (way m : Int) (n : Nat) (fs : List Int), vs = [.ref a, .int way, .int (n : Nat), .int m, .ref f] ∧ Src H a ∧ 0 ≤ way ∧ way < 7 ∧ n ≤ 6 ∧ 1 ≤ m ∧ m ≤ 30 ∧ H f = some (.lst (fs.map V.int)) ∧ f ≠ a ∧ (fs = [] ∨ (fs.length = n ∧ Bd m fs)) ∧
  ∀ (L : Addr) (ns : List Int) (H' : Hp), H L = none → ns.length = n → Bd m ns → Src H' a → Kp a H H' → H' L = some (.lst (ns.map V.int)) → Q (.ref L) H'
theorem eqv_nilI (ns : List Int) : PyData.eqv (.list (ns.map PyData.int)) (.list []) = decide (ns = []) := by
  cases ns with
  | nil => rfl
  | cons x xs => simp [PyData.eqv, PyData.eqvAll]
section
variable {P : Program} {w : World} {K : PySem.W.Frag} {mg : Str → Option Value} {base : Heap} {CShare CDivision CNoPerson : Addr}
abbrev st_l_row : Stmt := top 56
theorem sc_l_row : FnScope ["_law_source_here", "_law_way", "_law_many", "_law_most", "_law_first", "_law_base", "_law_start", "_law_sign", "_law_turn", "_law_at"] ["_law_source_here", "_law_way", "_law_many", "_law_most", "_law_first"] (defScope st_l_row) := ⟨rfl, rfl, rfl, by decide +kernel, rfl, by decide +kernel, by decide +kernel⟩
theorem ok_row (B : Bn mg) (c_l_draw : Cal P w K mg base 2 "_law_draw" ["_law_source_here", "_law_many"] spDraw) (D : Df K mg "_law_row" st_l_row ["_law_source_here", "_law_way", "_law_many", "_law_most", "_law_first"]) : Cal P w K mg base 3 "_law_row" ["_law_source_here", "_law_way", "_law_many", "_law_most", "_law_first"] (spRow K) := by
  refine D.cal sc_l_row (fun vs H Q E h => ?_) (fun f cdv A out s H vs Q E hr h => ?_)
  · obtain ⟨a, f, way, m, n, fs, rfl, _⟩ := h
    rfl
  obtain ⟨a, f, way, m, n, fs, rfl, src, w0, w7, n6, m1, m30, hf, fa, hfs, k⟩ := h
  refine ⟨_, (pss_cons (ps_if (pt_cmpR op_eq (pv 1) pe_int (nomark _)) (pss_cons (ps_set (i := 5) sc_l_row.nd rfl (.inr rfl) (pe_fn c_l_draw (hr.mono (by decide)) (pa_cons (pv 0) (pa_cons (pe_callB (call_max2 rfl) (by rfl) B.n_max (by decide +kernel) (pa_cons pe_int (pa_cons (pe_op op_sub (pv 3) pe_int) pa_nil))) pa_nil))))
   (pss_one (ps_ret (pe_lc (own := [("_law_turn", 8)]) (g := gName 8) rfl sc_l_row.nd (pi_range1 (by rfl) B.n_range (pa_cons (pv 2) pa_nil)) (blkOk_by (N := ["_law_source_here", "_law_way", "_law_many", "_law_most", "_law_first", "_law_base", "_law_start", "_law_sign", "_law_turn", "_law_at"]) (sc := defScope st_l_row) (by decide +kernel)) (fun _ _ _ _ _ => (pg_name (i := 8) sc_l_row.nd rfl (.inl rfl))) (fun _ _ _ _ _ => pts_nil) (fun _ _ _ _ _ => (pe_callB (call_min2 rfl) (by rfl) B.n_min (by decide +kernel) (pa_cons (pv 3) (pa_cons (pe_op op_add (pv 5) (pe_fn c_l_draw (hr.mono (by decide)) (pa_cons (pv 0) (pa_cons pe_int pa_nil)))) pa_nil)))))))) pss_nil)
   (pss_cons (ps_if (pt_cmpR op_eq (pv 1) pe_int (nomark _)) (pss_one (ps_ret (pe_callB cr_sorted (by rfl) B.n_sorted (by decide +kernel) (pa_cons (pe_lc (own := [("_law_turn", 8)]) (g := gName 8) rfl sc_l_row.nd (pi_range1 (by rfl) B.n_range (pa_cons (pv 2) pa_nil)) (blkOk_by (N := ["_law_source_here", "_law_way", "_law_many", "_law_most", "_law_first", "_law_base", "_law_start", "_law_sign", "_law_turn", "_law_at"]) (sc := defScope st_l_row) (by decide +kernel)) (fun _ _ _ _ _ => (pg_name (i := 8) sc_l_row.nd rfl (.inl rfl))) (fun _ _ _ _ _ => pts_nil) (fun _ _ _ _ _ => (pe_fn c_l_draw (hr.mono (by decide)) (pa_cons (pv 0) (pa_cons (pe_op op_add (pv 3) pe_int) pa_nil))))) pa_nil)))) pss_nil)
   (pss_cons (ps_if (PW.pt (pw_and (pt_cmpR op_eq (pv 1) pe_int (nomark _)) (pw_and1 (pt_cmpR (op_neD hr.units) (pv 4) (pe_lst pa_nil) (nomark _))))) (pss_one (ps_ret (pe_callTy call_list_of (by rfl) B.n_list (by decide +kernel) (pa_cons (pv 4) pa_nil)))) pss_nil)
   (pss_cons (ps_if (pt_cmpR op_eq (pv 1) pe_int (nomark _)) (pss_cons (ps_asg (pe_tup (pa_cons (pe_fn c_l_draw (hr.mono (by decide)) (pa_cons (pv 0) (pa_cons pe_int pa_nil))) (pa_cons (pe_op op_add pe_int (pe_fn c_l_draw (hr.mono (by decide)) (pa_cons (pv 0) (pa_cons pe_int pa_nil)))) pa_nil))) (pg_tup rfl (pgs_cons (pg_name (i := 6) sc_l_row.nd rfl (.inr rfl)) (pgs_cons (pg_name (i := 7) sc_l_row.nd rfl (.inr rfl)) pgs_nil))))
   (pss_one (ps_ret (pe_lc (own := [("_law_at", 9)]) (g := gName 9) rfl sc_l_row.nd (pi_range1 (by rfl) B.n_range (pa_cons (pv 2) pa_nil)) (blkOk_by (N := ["_law_source_here", "_law_way", "_law_many", "_law_most", "_law_first", "_law_base", "_law_start", "_law_sign", "_law_turn", "_law_at"]) (sc := defScope st_l_row) (by decide +kernel)) (fun _ _ _ _ _ => (pg_name (i := 9) sc_l_row.nd rfl (.inl rfl))) (fun _ _ _ _ _ => pts_nil) (fun _ _ _ _ _ => (pe_callB (call_min2 rfl) (by rfl) B.n_min (by decide +kernel) (pa_cons (pv 3) (pa_cons (pe_op op_mod (pe_op op_add (pe_op op_mul (pv 7) (pv 9)) (pv 6)) pe_int) pa_nil)))))))) pss_nil)
   (pss_cons (ps_if (PW.pt (pw_and (pt_cmpR op_eq (pv 1) pe_int (nomark _)) (pw_and1 (pt_cmpR (op_neD hr.units) (pv 4) (pe_lst pa_nil) (nomark _))))) (pss_one (ps_ret (pe_op op_rep (pe_lst (pa_cons (pe_fn c_l_draw (hr.mono (by decide)) (pa_cons (pv 0) (pa_cons (pe_op op_add (pv 3) pe_int) pa_nil))) pa_nil)) (pv 2)))) pss_nil)
   (pss_one (ps_ret (pe_lc (own := [("_law_turn", 8)]) (g := gName 8) rfl sc_l_row.nd (pi_range1 (by rfl) B.n_range (pa_cons (pv 2) pa_nil)) (blkOk_by (N := ["_law_source_here", "_law_way", "_law_many", "_law_most", "_law_first", "_law_base", "_law_start", "_law_sign", "_law_turn", "_law_at"]) (sc := defScope st_l_row) (by decide +kernel)) (fun _ _ _ _ _ => (pg_name (i := 8) sc_l_row.nd rfl (.inl rfl))) (fun _ _ _ _ _ => pts_nil) (fun _ _ _ _ _ => (pe_fn c_l_draw (hr.mono (by decide)) (pa_cons (pv 0) (pa_cons (pe_op op_add (pv 3) pe_int) pa_nil)))))))))))), ?_⟩
  have shf : SeqAt.shaped (.list (fs.map PyData.int)) = true := shapedInts fs
  have cases7 : way = 0 ∨ way = 1 ∨ way = 2 ∨ way = 3 ∨ way = 4 ∨ way = 5 ∨ way = 6 := by omega
  rcases cases7 with rfl | rfl | rfl | rfl | rfl | rfl | rfl
  · refine ⟨_, rfl, rfl, _, rfl, iteF ⟨_, rfl, rfl, _, rfl, iteF ⟨_, rfl, rfl, _, rfl, iteF ⟨_, rfl, rfl, _, rfl, iteF ⟨_, rfl, rfl, _, rfl, iteF ?_⟩⟩⟩⟩⟩
    refine ⟨_, rfl, n, rfl, by omega, by omega, fun D hD => lc_range (lo := 0) (n := n) (BdI m a D H) (BdI.start src hD) (fun i H5 hi p5 => ⟨rfl, tyes ⟨_, rfl, _, rfl, _, _, rfl, rfl, a, m + 1, rfl, p5.src, by omega, by omega, fun r H7 r0 r1 s7 k7 => p5.next (by omega) hD (src.ne hD) s7 k7 r0 (by omega)⟩⟩) (fun H5 p5 => ?_)⟩
    obtain ⟨ns, ln, bn, s5, k5, h5⟩ := p5
    exact k D ns H5 hD ln bn s5 k5 h5
  · refine ⟨_, rfl, rfl, _, rfl, iteT ?_⟩
    refine ⟨_, rfl, _, rfl, _, _, rfl, rfl, _, _, rfl, a, _, rfl, src, ?_, ?_, fun b H1 b0 b1 s1 k1 => ?_⟩
    · split <;> omega
    · split <;> omega
    refine ⟨_, rfl, n, rfl, by omega, by omega, fun D hD => lc_range (lo := 0) (n := n) (BdI m a D H1) (BdI.start s1 hD) (fun i H5 hi p5 => ⟨rfl, tyes ⟨_, rfl, _, rfl, _, rfl, a, 3, rfl, p5.src, by decide, by decide, fun r H7 r0 r1 s7 k7 => ⟨_, _, rfl, rfl, _, _, rfl, p5.next (by omega) hD (s1.ne hD) s7 k7 (by split <;> omega) (by split <;> omega)⟩⟩⟩) (fun H5 p5 => ?_)⟩
    obtain ⟨ns, ln, bn, s5, k5, h5⟩ := p5
    exact k D ns H5 (k1.free (s1.ne hD) hD) ln bn s5 (k1.trans k5) h5
  · refine ⟨_, rfl, rfl, _, rfl, iteF ⟨_, rfl, rfl, _, rfl, iteT ?_⟩⟩
    refine ⟨_, rfl, n, rfl, by omega, by omega, fun D hD => lc_range (lo := 0) (n := n) (BdI m a D H) (BdI.start src hD) (fun i H5 hi p5 => ⟨rfl, tyes ⟨_, rfl, _, rfl, _, _, rfl, rfl, a, m + 1, rfl, p5.src, by omega, by omega, fun r H7 r0 r1 s7 k7 => p5.next (by omega) hD (src.ne hD) s7 k7 r0 (by omega)⟩⟩) (fun H5 p5 => ?_)⟩
    obtain ⟨ns, ln, bn, s5, k5, h5⟩ := p5
    refine ⟨D, ns, rfl, SqL.of h5, by omega, fun ns' L pm sd hL => ?_⟩
    have fr := k5.free (s5.ne hL) hL
    generalize hH6 : upd H5 L _ = H6
    obtain ⟨k6, e6⟩ := alloc hH6 hL
    clear hH6
    exact k L ns' H6 fr (by rw [pm.length_eq, ln]) (fun x hx => bn x (pm.mem_iff.mp hx)) (s5.same k6) (k5.trans (Kp.of k6)) e6
  · refine ⟨_, rfl, rfl, _, rfl, iteF ⟨_, rfl, rfl, _, rfl, iteF ⟨_, rfl, rfl, _, rfl, iteT ?_⟩⟩⟩
    refine ⟨_, rfl, (by show 0 ≤ sizeLine; decide), fun e hE => ?_⟩
    generalize hH1 : upd H e _ = H1
    obtain ⟨k1, e1⟩ := alloc hH1 hE
    clear hH1
    have hf1 := k1 _ _ hf
    refine ⟨.list (fs.map PyData.int), .list [], .lst (SqL.of hf1) (dpInts _ _ _), .lst (SqL.of e1) .nil, shf, by decide, ?_⟩
    rw [eqv_nilI]
    by_cases c : fs = []
    · rw [decide_eq_true c]
      refine ⟨_, rfl, iteF ⟨_, rfl, rfl, _, rfl, iteF ⟨_, rfl, rfl, _, rfl, iteF ?_⟩⟩⟩
      refine ⟨_, rfl, n, rfl, by omega, by omega, fun D hD => lc_range (lo := 0) (n := n) (BdI m a D H1) (BdI.start (src.same k1) hD) (fun i H5 hi p5 => ⟨rfl, tyes ⟨_, rfl, _, rfl, _, _, rfl, rfl, a, m + 1, rfl, p5.src, by omega, by omega, fun r H7 r0 r1 s7 k7 => p5.next (by omega) hD ((src.same k1).ne hD) s7 k7 r0 (by omega)⟩⟩) (fun H5 p5 => ?_)⟩
      obtain ⟨ns, ln, bn, s5, k5, h5⟩ := p5
      exact k D ns H5 ((Kp.of (a := a) k1).free ((src.same k1).ne hD) hD) ln bn s5 ((Kp.of k1).trans k5) h5
    · rw [decide_eq_false c]
      refine ⟨_, rfl, iteT ⟨_, rfl, f, _, rfl, .inl (SqL.of hf1), fun L hL => ?_⟩⟩
      have fr := (Kp.of (a := a) k1).free ((src.same k1).ne hL) hL
      generalize hH6 : upd H1 L _ = H6
      obtain ⟨k6, e6⟩ := alloc hH6 hL
      clear hH6
      obtain ⟨l1, b1⟩ := hfs.resolve_left c
      exact k L fs H6 fr l1 b1 (src.same (k1.trans k6)) (Kp.of (k1.trans k6)) e6
  · refine ⟨_, rfl, rfl, _, rfl, iteF ⟨_, rfl, rfl, _, rfl, iteF ⟨_, rfl, rfl, _, rfl, iteF ⟨_, rfl, rfl, _, rfl, iteT ?_⟩⟩⟩⟩
    refine ⟨_, rfl, a, 3, rfl, src, by decide, by decide, fun r1 H1 r10 r11 s1 k1 => ⟨_, rfl, a, 2, rfl, s1, by decide, by decide, fun r2 H2 r20 r21 s2 k2 => ⟨_, _, rfl, rfl, (by show 2 ≤ sizeLine; decide), fun T hT => ?_⟩⟩⟩
    generalize hu : ((fun i j : Int => V.int (i + j)) 1 r2) = uv
    obtain ⟨sg, rfl, hs⟩ : ∃ sg : Int, uv = .int sg ∧ sg = 1 + r2 := ⟨_, hu.symm, rfl⟩
    clear hu
    generalize hH3 : upd H2 T _ = H3
    obtain ⟨k3, e3⟩ := alloc hH3 hT
    clear hH3
    refine ⟨T, _, rfl, SqT.of e3, rfl, _, _, rfl, _, _, rfl, rfl, ?_⟩
    have s3 := s2.same k3
    have k13 := (k1.trans k2).trans (Kp.of k3)
    refine ⟨_, rfl, n, rfl, by omega, by omega, fun D hD => lc_range (lo := 0) (n := n) (BdI m a D H3) (BdI.start s3 hD) (fun i H5 hi p5 => ⟨rfl, tyes ⟨_, rfl, _, rfl, _, rfl, _, _, rfl, rfl, .inl ⟨by omega, by omega⟩, _, rfl, _, _, rfl, rfl, _, _, rfl, rfl, (by show (0 : Int) < 3; decide), _, _, rfl, ?_⟩⟩) (fun H5 p5 => ?_)⟩
    · have a1 := Int.emod_nonneg (sg * (0 + (i : Nat)) + r1) (show (3 : Int) ≠ 0 by decide)
      exact p5.next (by omega) hD (s3.ne hD) p5.src (Kp.refl _ _) (by split <;> omega) (by split <;> omega)
    · obtain ⟨ns, ln, bn, s5, k5, h5⟩ := p5
      exact k D ns H5 (k13.free (s3.ne hD) hD) ln bn s5 (k13.trans k5) h5
  · refine ⟨_, rfl, rfl, _, rfl, iteF ⟨_, rfl, rfl, _, rfl, iteF ⟨_, rfl, rfl, _, rfl, iteF ⟨_, rfl, rfl, _, rfl, iteF ⟨_, rfl, rfl, _, rfl, iteT ?_⟩⟩⟩⟩⟩
    refine ⟨_, rfl, (by show 0 ≤ sizeLine; decide), fun e hE => ?_⟩
    generalize hH1 : upd H e _ = H1
    obtain ⟨k1, e1⟩ := alloc hH1 hE
    clear hH1
    have hf1 := k1 _ _ hf
    refine ⟨.list (fs.map PyData.int), .list [], .lst (SqL.of hf1) (dpInts _ _ _), .lst (SqL.of e1) .nil, shf, by decide, ?_⟩
    rw [eqv_nilI]
    by_cases c : fs = []
    · rw [decide_eq_true c]
      refine ⟨_, rfl, iteF ?_⟩
      refine ⟨_, rfl, n, rfl, by omega, by omega, fun D hD => lc_range (lo := 0) (n := n) (BdI m a D H1) (BdI.start (src.same k1) hD) (fun i H5 hi p5 => ⟨rfl, tyes ⟨_, rfl, _, rfl, _, _, rfl, rfl, a, m + 1, rfl, p5.src, by omega, by omega, fun r H7 r0 r1 s7 k7 => p5.next (by omega) hD ((src.same k1).ne hD) s7 k7 r0 (by omega)⟩⟩) (fun H5 p5 => ?_)⟩
      obtain ⟨ns, ln, bn, s5, k5, h5⟩ := p5
      exact k D ns H5 ((Kp.of (a := a) k1).free ((src.same k1).ne hD) hD) ln bn s5 ((Kp.of k1).trans k5) h5
    · rw [decide_eq_false c]
      have s1 := src.same k1
      refine ⟨_, rfl, iteT ⟨_, rfl, _, rfl, _, _, rfl, rfl, a, m + 1, rfl, s1, by omega, by omega, fun r H2 r0 r1 s2 k2 => ⟨(by show 1 ≤ sizeLine; decide), fun l hl => ?_⟩⟩⟩
      generalize hH3 : upd H2 l _ = H3
      obtain ⟨k3, e3⟩ := alloc hH3 hl
      clear hH3
      refine ⟨_, rfl, l, (n : Nat), [.int r], rfl, rfl, e3, by omega, by omega, size_of (by show 1 * ((n : Nat) : Int).toNat ≤ 1000; omega), fun L hL => ?_⟩
      have k03 := ((Kp.of (a := a) k1).trans k2).trans (Kp.of k3)
      have s3 := s2.same k3
      have fr := k03.free (s3.ne hL) hL
      generalize hH4 : upd H3 L _ = H4
      obtain ⟨k4, e4⟩ := alloc hH4 hL
      clear hH4
      have er : (List.replicate ((n : Nat) : Int).toNat [V.int r]).flatten = (List.replicate n r).map V.int := by
        rw [show ((n : Nat) : Int).toNat = n by omega, List.map_replicate, rep_flat]
      rw [er] at e4
      exact k L _ H4 fr (by rw [List.length_replicate]) (fun x hx => by rw [(List.mem_replicate.mp hx).2]; exact ⟨r0, by omega⟩) (s3.same k4) (k03.trans (Kp.of k4)) e4
  · refine ⟨_, rfl, rfl, _, rfl, iteF ⟨_, rfl, rfl, _, rfl, iteF ⟨_, rfl, rfl, _, rfl, iteF ⟨_, rfl, rfl, _, rfl, iteF ⟨_, rfl, rfl, _, rfl, iteF ?_⟩⟩⟩⟩⟩
    refine ⟨_, rfl, n, rfl, by omega, by omega, fun D hD => lc_range (lo := 0) (n := n) (BdI m a D H) (BdI.start src hD) (fun i H5 hi p5 => ⟨rfl, tyes ⟨_, rfl, _, rfl, _, _, rfl, rfl, a, m + 1, rfl, p5.src, by omega, by omega, fun r H7 r0 r1 s7 k7 => p5.next (by omega) hD (src.ne hD) s7 k7 r0 (by omega)⟩⟩) (fun H5 p5 => ?_)⟩
    obtain ⟨ns, ln, bn, s5, k5, h5⟩ := p5
    exact k D ns H5 hD ln bn s5 k5 h5
end
end Pl
namespace Pl
open PySem PySem.Spec PyProof.Rows L2
def spRowsT : Sp := fun vs H Q _ => ∃ (a : Addr) (p n : Nat) (m : Int), vs = [.ref a, .int (p : Nat), .int (n : Nat), .int m] ∧ Src H a ∧ 2 ≤ p ∧ p ≤ 4 ∧ 2 ≤ n ∧ n ≤ 6 ∧ 1 ≤ m ∧ m ≤ 30 ∧
  ∀ (l : Addr) (ts : List Addr) (rows : List (List Int)) (H' : Hp), Rows rows → rows.length = p → wdt rows = n → (∀ ns ∈ rows, Bd m ns) → LsAll H' ts rows → (∀ t ∈ ts, t ≠ a) → H' l = some (.lst (ts.map V.ref)) → Src H' a → Kp a H H' → Q (.ref l) H'
def lenAt (L : Addr) (H : Hp) : Nat := match H L with
  | some (.lst r) => r.length
  | _ => 0
def lstD (ns : List Int) : PyData := .list (ns.map PyData.int)
theorem dpLss {K : PySem.W.Frag} {H : Hp} : ∀ {ts : List Addr} {rows : List (List Int)}, LsAll H ts rows → DpAll K H (ts.map V.ref) (rows.map lstD)
  | [], [], _ => .nil
  | t :: ts, ns :: rows, h => .cons (.lst (SqL.of (h.2 0 t ns rfl rfl)) (dpInts _ _ _)) (dpLss (ts := ts) (rows := rows) ⟨by simpa using h.1, fun j u ms a b => h.2 (j + 1) u ms a b⟩)
  | [], _ :: _, h => absurd h.1 (by simp)
  | _ :: _, [], h => absurd h.1 (by simp)
theorem fitLss {n : Nat} {m : Int} : ∀ {rows : List (List Int)}, n ≤ 6 → m ≤ 30 → (∀ ns ∈ rows, ns.length = n ∧ Bd m ns) → ∃ w, FitAll 1 w (rows.map lstD)
  | [], _, _, _ => ⟨_, FitAll.nil⟩
  | ns :: rows, n6, m30, h => by
    obtain ⟨w, f⟩ := fitLss n6 m30 fun ms hm => h ms (List.mem_cons_of_mem _ hm)
    obtain ⟨l, b⟩ := h ns List.mem_cons_self
    exact ⟨_, FitAll.cons (Fit.list (FitAll.ints (k := 0) fun x hx => by have := b x hx; omega)) f⟩
theorem eqv_nilL (rows : List (List Int)) : PyData.eqv (.list (rows.map lstD)) (.list []) = decide (rows = []) := by
  cases rows with
  | nil => rfl
  | cons x xs => simp [PyData.eqv, PyData.eqvAll]
theorem LsAll.kp {a : Addr} {H H' : Hp} {ts : List Addr} {rows : List (List Int)} (h : LsAll H ts rows) (k : Kp a H H') (n : ∀ u ∈ ts, u ≠ a) : LsAll H' ts rows := ⟨h.1, fun j t ns x y => k _ _ (n t (List.mem_of_getElem? x)) (h.2 j t ns x y)⟩
theorem LsAll.put2 {H : Hp} {ts : List Addr} {rows : List (List Int)} {l : Addr} {o : HO} (h : LsAll H ts rows) (n : ∀ u ∈ ts, u ≠ l) : LsAll (L2.upd H l o) ts rows := ⟨h.1, fun j u ns a b => by rw [upd_ne (n u (List.mem_of_getElem? a))]; exact h.2 j u ns a b⟩
theorem LsAll.snoc2 {H : Hp} {ts : List Addr} {rows : List (List Int)} {t : Addr} {ns : List Int} (h : LsAll H ts rows) (e : H t = some (.lst (ns.map V.int))) : LsAll H (ts ++ [t]) (rows ++ [ns]) := by
  refine ⟨by simp [h.1], fun j u ms a b => ?_⟩
  by_cases q : j < ts.length
  · rw [List.getElem?_append_left q] at a
    rw [List.getElem?_append_left (by rw [← h.1]; exact q)] at b
    exact h.2 j u ms a b
  · have lj := (List.getElem?_eq_some_iff.mp a).1
    rw [List.length_append] at lj
    have lj : j < ts.length + 1 := lj
    have ej : j = ts.length := by omega
    subst ej
    rw [List.getElem?_append_right (Nat.le_refl _), Nat.sub_self] at a
    rw [List.getElem?_append_right (by rw [h.1]; exact Nat.le_refl _), h.1, Nat.sub_self] at b
    cases a
    cases b
    exact e
theorem mem_eraseI {xs : List Int} {i : Nat} {x : Int} (h : x ∈ xs.eraseIdx i) : x ∈ xs := List.mem_of_mem_eraseIdx h
/-- a row with its states in another order -/
def mix (ms ns : List Int) : List Int := ms.map fun x => gI ns x.toNat
section
variable {P : Program} {w : World} {K : PySem.W.Frag} {mg : Str → Option Value} {base : Heap} {CShare CDivision CNoPerson : Addr}
abbrev st_l_rows : Stmt := top 57
theorem sc_l_rows : FnScope ["_law_source_here", "_law_people", "_law_many", "_law_most", "_law_way", "_law_found", "_law_left", "_law_mixed", "_law_turn", "_law_row_here", "_law_at"] ["_law_source_here", "_law_people", "_law_many", "_law_most"] (defScope st_l_rows) := ⟨rfl, rfl, rfl, by decide +kernel, rfl, by decide +kernel, by decide +kernel⟩
theorem ok_rowsT (B : Bn mg) (c_l_draw : Cal P w K mg base 2 "_law_draw" ["_law_source_here", "_law_many"] spDraw) (c_l_row : Cal P w K mg base 3 "_law_row" ["_law_source_here", "_law_way", "_law_many", "_law_most", "_law_first"] (spRow K)) (D : Df K mg "_law_rows" st_l_rows ["_law_source_here", "_law_people", "_law_many", "_law_most"]) : Cal P w K mg base 4 "_law_rows" ["_law_source_here", "_law_people", "_law_many", "_law_most"] spRowsT := by
  refine D.cal sc_l_rows (fun vs H Q E h => ?_) (fun f cdv A out s H vs Q E hr h => ?_)
  · obtain ⟨a, p, n, m, rfl, _⟩ := h
    rfl
  obtain ⟨a, p, n, m, rfl, src, p2, p4, n2, n6, m1, m30, k⟩ := h
  refine ⟨_, (pss_cons (ps_asg (pe_tup (pa_cons (pe_fn c_l_draw (hr.mono (by decide)) (pa_cons (pv 0) (pa_cons pe_int pa_nil))) (pa_cons (pe_lst pa_nil) (pa_cons (pe_listRg rfl (by rfl) B.n_list (prg_1 (by rfl) B.n_range (pv 2))) (pa_cons (pe_lst pa_nil) pa_nil))))) (pg_tup rfl (pgs_cons (pg_name (i := 4) sc_l_rows.nd rfl (.inl rfl)) (pgs_cons (pg_name (i := 5) sc_l_rows.nd rfl (.inl rfl)) (pgs_cons (pg_name (i := 6) sc_l_rows.nd rfl (.inl rfl)) (pgs_cons (pg_name (i := 7) sc_l_rows.nd rfl (.inr rfl)) pgs_nil))))))
   (pss_cons (ps_for PassesOwn.never rfl (pi_range1 (by rfl) B.n_range (pa_cons (pv 1) pa_nil)) (pg_name (i := 8) sc_l_rows.nd rfl (.inl rfl))
   (pss_one (ps_expr (pe_bm PySem.F.plainAttrs_list PySem.F.slot_list_append PySem.F.type_list_append mt_append (pv 5) (pa_cons (pe_fn c_l_row (hr.mono (by decide)) (pa_cons (pv 0) (pa_cons (pv 4) (pa_cons (pv 2) (pa_cons (pv 3) (pa_cons (pe_ifExp (pt_cmpR (op_neD hr.units) (pv 5) (pe_lst pa_nil) (nomark _)) (pe_ix ix_list (pv 5) pe_int (fun _ _ => rfl)) (pe_lst pa_nil)) pa_nil)))))) pa_nil)))))
   (pss_cons (ps_while PassesOwn.never (pt_cmpR (op_neD hr.units) (pv 6) (pe_lst pa_nil) (nomark _)) (pss_one (ps_expr (pe_bm PySem.F.plainAttrs_list PySem.F.slot_list_append PySem.F.type_list_append mt_append (pv 7) (pa_cons (pe_bm PySem.F.plainAttrs_list PySem.F.slot_list_pop PySem.F.type_list_pop mt_popAt (pv 6) (pa_cons (pe_fn c_l_draw (hr.mono (by decide)) (pa_cons (pv 0) (pa_cons (pe_callB call_len_seq (by rfl) B.n_len (by decide +kernel) (pa_cons (pv 6) pa_nil)) pa_nil))) pa_nil)) pa_nil)))))
   (pss_one (ps_ret (pe_lc (own := [("_law_row_here", 9)]) (g := gName 9) rfl sc_l_rows.nd (pi_list (pv 5)) (blkOk_by (N := ["_law_source_here", "_law_people", "_law_many", "_law_most", "_law_way", "_law_found", "_law_left", "_law_mixed", "_law_turn", "_law_row_here", "_law_at"]) (sc := defScope st_l_rows) (by decide +kernel)) (fun _ _ _ _ _ => (pg_name (i := 9) sc_l_rows.nd rfl (.inr rfl))) (fun _ _ _ _ _ => pts_nil) (fun _ _ _ _ _ => (pe_lc (own := [("_law_at", 10)]) (g := gName 10) rfl sc_l_rows.nd (pi_listK (K := K) (pv 7)) (blkOk_in (N := ["_law_source_here", "_law_people", "_law_many", "_law_most", "_law_way", "_law_found", "_law_left", "_law_mixed", "_law_turn", "_law_row_here", "_law_at"]) (defScope st_l_rows) rfl (by decide +kernel)) (fun _ _ _ _ _ => (pg_name (i := 10) sc_l_rows.nd rfl (.inl rfl))) (fun _ _ _ _ _ => pts_nil) (fun _ _ _ _ _ => (pe_ix (show IxR _ (rIxL K) from ix_list) (pv 9) (pv 10) (fun _ _ => rfl))))))))))), ?_⟩
  refine ⟨_, rfl, a, 7, rfl, src, by decide, by decide, fun way H1 w0 w7 s1 k1 => ⟨(by show 0 ≤ sizeLine; decide), fun F hF => ?_⟩⟩
  generalize hH2 : upd H1 F _ = H2
  obtain ⟨k2, e2⟩ := alloc hH2 hF
  clear hH2
  have s2 := s1.same k2
  have Fa : F ≠ a := s1.ne hF
  have F0 : H F = none := k1.free Fa hF
  refine ⟨_, rfl, _, rfl, RgOk.of_le (by omega) (by omega) (by omega) (by omega), fun L hL => ?_⟩
  have La : L ≠ a := s2.ne hL
  have LF : L ≠ F := fun z => by rw [z, e2] at hL; cases hL
  have L0 : H L = none := (k1.trans (Kp.of k2)).free La hL
  generalize hH3 : upd H2 L _ = H3
  obtain ⟨k3, e3⟩ := alloc hH3 hL
  clear hH3
  rw [rgV_iV] at e3
  have s3 := s2.same k3
  refine ⟨(by show 0 ≤ sizeLine; decide), fun M hM => ?_⟩
  have Ma : M ≠ a := s3.ne hM
  have MF : M ≠ F := fun z => by rw [z, k3 _ _ e2] at hM; cases hM
  have ML : M ≠ L := fun z => by rw [z, e3] at hM; cases hM
  have M0 : H M = none := ((k1.trans (Kp.of k2)).trans (Kp.of k3)).free Ma hM
  generalize hH4 : upd H3 M _ = H4
  obtain ⟨k4, e4⟩ := alloc hH4 hM
  clear hH4
  refine ⟨(by show 4 ≤ sizeLine; decide), fun T hT => ?_⟩
  generalize hH5 : upd H4 T _ = H5
  obtain ⟨k5, e5⟩ := alloc hH5 hT
  clear hH5
  refine ⟨T, _, rfl, SqT.of e5, rfl, _, _, rfl, _, _, rfl, _, _, rfl, _, _, rfl, rfl, ?_⟩
  have k25 := k2.trans (k3.trans (k4.trans k5))
  have s5 := s1.same k25
  have kH5 : Kp a H H5 := k1.trans (Kp.of k25)
  have f5 := (k3.trans (k4.trans k5)) _ _ e2
  have l5 := (k4.trans k5) _ _ e3
  have m5 := k5 _ _ e4
  rw [iV_eq] at l5
  have bl : ∀ x ∈ nI (List.range n), 0 ≤ x ∧ x < n := fun x hx => by
    unfold nI at hx
    obtain ⟨y, hy, rfl⟩ := List.mem_map.mp hx
    have := List.mem_range.mp hy
    omega
  have ll : (nI (List.range n)).length = n := by unfold nI; rw [List.length_map, List.length_range]
  generalize nI (List.range n) = ls0 at l5 bl ll
  clear e2 e3 e4 e5 k2 k3 k4 k5 k25 s2 s3 s1 k1 hF hL hM hT
  refine ⟨_, rfl, p, rfl, by omega, by omega, for_range (lo := 0) (n := p) (fun i σ H' => ∃ (ts : List Addr) (rows : List (List Int)) (v8 v9 v10 : Option V), σ = [some (.ref a), some (.int (p : Nat)), some (.int (n : Nat)), some (.int m), some (.int way), some (.ref F), some (.ref L), some (.ref M), v8, v9, v10] ∧ Src H' a ∧ Kp a H H' ∧ rows.length = i ∧ (∀ ns ∈ rows, ns.length = n ∧ Bd m ns) ∧ LsAll H' ts rows ∧ (∀ u ∈ ts, u ≠ a ∧ u ≠ F ∧ u ≠ L ∧ u ≠ M) ∧ H' F = some (.lst (ts.map V.ref)) ∧ H' L = some (.lst (ls0.map V.int)) ∧ H' M = some (.lst []))
    ⟨[], [], none, none, none, rfl, s5, kH5, rfl, fun _ h => (nomatch h), ⟨rfl, fun j t ns x => by simp at x⟩, fun _ h => (nomatch h), f5, l5, m5⟩ ?_ ?_⟩
  · rintro i σ H6 hi ⟨ts, rows, v8, v9, v10, rfl, s6, k6, lr, br, ls, nt, f6, l6, m6⟩
    have lt := ls.1
    obtain ⟨wf, fl⟩ := fitLss n6 m30 br
    have shp : SeqAt.shaped (.list (rows.map lstD)) = true := (Fit.list fl).shaped (by decide)
    have fin : ∀ (H7 H8 : Hp) (R : Addr) (ns : List Int), Same H6 H7 → H7 R = none → ns.length = n → Bd m ns → Src H8 a → Kp a H7 H8 → H8 R = some (.lst (ns.map V.int)) →
        H8 F = some (.lst (ts.map V.ref)) ∧ Src (upd H8 F (.lst (ts.map V.ref ++ [.ref R]))) a ∧ Kp a H (upd H8 F (.lst (ts.map V.ref ++ [.ref R]))) ∧ LsAll (upd H8 F (.lst (ts.map V.ref ++ [.ref R]))) (ts ++ [R]) (rows ++ [ns]) ∧ (∀ u ∈ ts ++ [R], u ≠ a ∧ u ≠ F ∧ u ≠ L ∧ u ≠ M) ∧
          (upd H8 F (.lst (ts.map V.ref ++ [.ref R]))) F = some (.lst ((ts ++ [R]).map V.ref)) ∧ (upd H8 F (.lst (ts.map V.ref ++ [.ref R]))) L = some (.lst (ls0.map V.int)) ∧ (upd H8 F (.lst (ts.map V.ref ++ [.ref R]))) M = some (.lst []) := fun H7 H8 R ns k67 nR l b s8 k78 e8 => by
      have f7 := k67 _ _ f6
      have l7 := k67 _ _ l6
      have m7 := k67 _ _ m6
      have Ra : R ≠ a := (s6.same k67).ne nR
      have RF : R ≠ F := fun z => by rw [z, f7] at nR; cases nR
      have RL : R ≠ L := fun z => by rw [z, l7] at nR; cases nR
      have RM : R ≠ M := fun z => by rw [z, m7] at nR; cases nR
      have all : ∀ u ∈ ts ++ [R], u ≠ a ∧ u ≠ F ∧ u ≠ L ∧ u ≠ M := fun u hu => by
        rcases List.mem_append.mp hu with hu | hu
        · exact nt u hu
        · rw [List.mem_singleton.mp hu]
          exact ⟨Ra, RF, RL, RM⟩
      refine ⟨k78 _ _ Fa f7, s8.put Fa, ((k6.trans (Kp.of k67)).trans k78).put F0, ?_, all, by rw [upd_same, List.map_append]; rfl, by rw [upd_ne LF]; exact k78 _ _ La l7, by rw [upd_ne MF]; exact k78 _ _ Ma m7⟩
      exact ((((ls.same k67).kp k78 fun u hu => (nt u hu).1).snoc2 e8)).put2 fun u hu => (all u hu).2.1
    have lts : (ts.map V.ref).length < sizeLine := size_lt (by rw [List.length_map]; omega)
    refine ⟨_, rfl, .inl ⟨rfl, _, SqL.of f6⟩, _, rfl, _, rfl, _, rfl, _, rfl, _, rfl, (by show 0 ≤ sizeLine; decide), fun e hE => ?_⟩
    generalize hH7 : upd H6 e _ = H7
    obtain ⟨k67, e7⟩ := alloc hH7 hE
    clear hH7
    have s7 := s6.same k67
    refine ⟨.list (rows.map lstD), .list [], .lst (SqL.of (k67 _ _ f6)) (dpLss (ls.same k67)), .lst (SqL.of e7) .nil, shp, by decide, ?_⟩
    rw [eqv_nilL]
    cases rows with
    | nil =>
      rw [decide_eq_true rfl]
      refine ⟨_, rfl, iteF ⟨(by show 0 ≤ sizeLine; decide), fun e2 hE2 => ?_⟩⟩
      have ea : e2 ≠ a := s7.ne hE2
      generalize hH8 : upd H7 e2 _ = H8
      obtain ⟨k78, e8⟩ := alloc hH8 hE2
      clear hH8
      refine ⟨a, e2, way, m, n, [], rfl, s7.same k78, w0, w7, n6, m1, m30, e8, ea, .inl rfl, fun R ns H9 hR l b s9 k9 e9 => ?_⟩
      obtain ⟨g1, g2, g3, g4, g5, g6, g7, g8⟩ := fin H8 H9 R ns (k67.trans k78) hR l b s9 k9 e9
      exact ⟨F, _, _, rfl, rfl, g1, lts, ts ++ [R], [] ++ [ns], _, _, _, rfl, g2, g3, by rw [List.length_append, lr]; rfl, fun zs hz => by
        rw [List.mem_singleton.mp hz]
        exact ⟨l, b⟩, g4, g5, g6, g7, g8⟩
    | cons r0 rows =>
      rw [decide_eq_false (fun z => nomatch z)]
      cases ts with
      | nil => exact absurd lt (by simp)
      | cons t0 ts =>
      have h0 : H6 t0 = some (.lst (r0.map V.int)) := ls.2 0 _ _ rfl rfl
      refine ⟨_, rfl, iteT ⟨_, rfl, F, _, _, _, rfl, rfl, SqL.of (k67 _ _ f6), atI_nat (j := 0) rfl, ?_⟩⟩
      refine ⟨a, t0, way, m, n, r0, rfl, s7, w0, w7, n6, m1, m30, k67 _ _ h0, (nt t0 List.mem_cons_self).1, .inr (br r0 List.mem_cons_self), fun R ns H9 hR l b s9 k9 e9 => ?_⟩
      obtain ⟨g1, g2, g3, g4, g5, g6, g7, g8⟩ := fin H7 H9 R ns k67 hR l b s9 k9 e9
      exact ⟨F, _, _, rfl, rfl, g1, lts, t0 :: ts ++ [R], r0 :: rows ++ [ns], _, _, _, rfl, g2, g3, by rw [List.length_append, lr]; rfl, fun zs hz => by
        rcases List.mem_append.mp hz with hz | hz
        · exact br zs hz
        · rw [List.mem_singleton.mp hz]
          exact ⟨l, b⟩, g4, g5, g6, g7, g8⟩
  · rintro σ H6 ⟨ts, rows, v8, v9, v10, rfl, s6, k6, lr, br, ls, nt, f6, l6, m6⟩
    have lt := ls.1
    refine while_by (fun σ H' => ∃ (ms rest : List Int), σ = [some (.ref a), some (.int (p : Nat)), some (.int (n : Nat)), some (.int m), some (.int way), some (.ref F), some (.ref L), some (.ref M), v8, v9, v10] ∧ Src H' a ∧ Kp a H H' ∧ ms.length + rest.length = n ∧ (∀ x ∈ ms ++ rest, 0 ≤ x ∧ x < n) ∧ LsAll H' ts rows ∧ H' F = some (.lst (ts.map V.ref)) ∧ H' L = some (.lst (rest.map V.int)) ∧ H' M = some (.lst (ms.map V.int))) (fun _ H' => lenAt L H') ⟨[], ls0, rfl, s6, k6, by rw [ll]; exact Nat.zero_add n, bl, ls, f6, l6, m6⟩ ?_ ?_
    · rintro σ H7 ⟨ms, rest, rfl, s7, k7, len, bd, ls7, f7, l7, m7⟩
      refine ⟨_, rfl, Nat.zero_le _, fun N hN => ?_⟩
      generalize hH8 : upd H7 N _ = H8
      obtain ⟨k78, e8⟩ := alloc hH8 hN
      clear hH8
      have s8 := s7.same k78
      refine ⟨.list (rest.map PyData.int), .list [], .lst (SqL.of (k78 _ _ l7)) (dpInts _ _ _), .lst (SqL.of e8) .nil, shapedInts rest, by decide, _, rfl, ?_⟩
      rw [eqv_nilI]
      cases rest with
      | nil =>
        rw [decide_eq_true rfl]
        refine iteF ?_
        have lm : ms.length = n := by simpa using len
        rw [List.append_nil] at bd
        have ls8 := ls7.same k78
        have f8 := k78 _ _ f7
        have m8 := k78 _ _ m7
        clear bl ll l6 m6 f6
        have lmx : ∀ ns : List Int, (mix ms ns).length = n := fun ns => by unfold mix; rw [List.length_map, lm]
        refine ⟨_, rfl, F, rfl, ⟨_, SqL.of f8⟩, fun D hD => lc_list (K := K) (a := F) (xs := ts.map V.ref) (fun j H' => Same H8 H' ∧ ∃ us : List Addr, H' D = some (.lst (us.map V.ref)) ∧ LsAll H' us ((rows.map (mix ms)).take j) ∧ ∀ u ∈ us, u ≠ D ∧ u ≠ a) ⟨same_new (Same.refl _) hD, [], upd_same, ⟨rfl, fun j t ns x => by simp at x⟩, fun u hu => nomatch hu⟩ (fun j H' _ z => SqL.of (z.1 _ _ f8)) (fun j z H9 hz ⟨k9, us, h9, t9, nd⟩ => ⟨rfl, tyes ?_⟩) (fun H9 ⟨k9, us, h9, t9, nd⟩ => ?_)⟩
        · obtain ⟨t1, rfl, et⟩ := refAt hz
          have lj : j < rows.length := by
            rw [← lt]
            exact (List.getElem?_eq_some_iff.mp et).1
          have en : rows[j]? = some rows[j] := List.getElem?_eq_getElem lj
          generalize rows[j] = ns at en
          have ln := (br ns (List.mem_of_getElem? en)).1
          have ht := k9 _ _ (ls8.2 j t1 ns et en)
          have hm9 := k9 _ _ m8
          refine ⟨_, rfl, M, rfl, ⟨_, SqL.of hm9⟩, fun D2 hD2 => lc_list (K := K) (a := M) (xs := ms.map V.int) (fun c H' => Same H9 H' ∧ H' D2 = some (.lst (((mix ms ns).take c).map V.int))) ⟨same_new (Same.refl _) hD2, upd_same⟩ (fun c H' _ z => SqL.of (z.1 _ _ hm9)) (fun c z Ha hz ⟨ka, ha⟩ => ⟨rfl, tyes ?_⟩) (fun Ha ⟨ka, ha⟩ => ?_)⟩
          · rw [List.getElem?_map] at hz
            cases ey : ms[c]? with
            | none => rw [ey] at hz; cases hz
            | some y =>
              rw [ey] at hz
              obtain rfl : V.int y = z := Option.some.inj hz
              have by' := bd y (List.mem_of_getElem? ey)
              have ey2 : atI (ns.map V.int) y = some (.int (gI ns y.toNat)) := by
                have q := atI_nat (xs := ns.map V.int) (j := y.toNat) (v := V.int (gI ns y.toNat)) (by rw [List.getElem?_map, gI_at (by omega)]; rfl)
                rw [Int.toNat_of_nonneg by'.1] at q
                exact q
              refine ⟨_, rfl, _, rfl, t1, _, _, _, rfl, rfl, SqL.of (ka _ _ ht), ey2, ?_⟩
              refine ⟨_, ha, size_lt (by rw [List.length_map, List.length_take, lmx]; omega), same_put ka hD2, ?_⟩
              have ei : (mix ms ns)[c]? = some (gI ns y.toNat) := by
                unfold mix
                rw [List.getElem?_map, ey]
                rfl
              rw [upd_same, List.take_add_one, ei, List.map_append]
              rfl
          · have ll2 : (ms.map V.int).length = (mix ms ns).length := by rw [List.length_map, lmx, lm]
            rw [ll2, List.take_length] at ha
            have ha9 := ka _ _ h9
            have lu : us.length ≤ 4 := by
              rw [t9.1, List.length_take, List.length_map]
              omega
            have nn : ∀ u ∈ us ++ [D2], u ≠ D ∧ u ≠ a := fun u hu => by
              rcases List.mem_append.mp hu with hu | hu
              · exact nd u hu
              · rw [List.mem_singleton.mp hu]
                exact ⟨(fun e => by (rw [e, h9] at hD2; cases hD2)), (s8.same k9).ne hD2⟩
            refine ⟨_, ha9, size_lt (by rw [List.length_map]; omega), same_put (k9.trans ka) hD, us ++ [D2], by rw [upd_same, List.map_append]; rfl, ?_, nn⟩
            have ei : (rows.map (mix ms))[j]? = some (mix ms ns) := by rw [List.getElem?_map, en]; rfl
            rw [List.take_add_one, ei]
            exact ((t9.same ka).snoc2 ha).put2 fun u hu => (nn u hu).1
        · have ll2 : (ts.map V.ref).length = (rows.map (mix ms)).length := by rw [List.length_map, List.length_map, lt]
          rw [ll2, List.take_length] at t9
          have bdx : ∀ ns ∈ rows.map (mix ms), ns.length = n ∧ Bd m ns := fun ns hn => by
            obtain ⟨zs, hz, rfl⟩ := List.mem_map.mp hn
            refine ⟨lmx zs, fun r hr => ?_⟩
            unfold mix at hr
            obtain ⟨y, hy, rfl⟩ := List.mem_map.mp hr
            obtain ⟨l1, b1⟩ := br zs hz
            have := bd y hy
            exact b1 _ (List.mem_of_getElem? (gI_at (show y.toNat < zs.length by omega)))
          have R : Rows (rows.map (mix ms)) := ⟨by rw [List.length_map]; omega, by rw [List.length_map]; omega, n, n2, n6, fun ns hn => ⟨(bdx ns hn).1, fun x hx => by have := (bdx ns hn).2 x hx; omega⟩⟩
          have wn : wdt (rows.map (mix ms)) = n := by
            have z0 : 0 < (rows.map (mix ms)).length := by rw [List.length_map]; omega
            have mm := List.getElem_mem z0
            rw [← R.wdt mm, (bdx _ mm).1]
          exact k D us _ H9 R (by rw [List.length_map, lr]) wn (fun ns hn => (bdx ns hn).2) t9 (fun t ht => (nd t ht).2) h9 (s8.same k9) ((k7.trans (Kp.of k78)).trans (Kp.of k9))
      | cons x rest =>
        rw [decide_eq_false (fun z => nomatch z)]
        refine iteT ?_
        have l8 := k78 _ _ l7
        have m8 := k78 _ _ m7
        refine ⟨_, rfl, .inl ⟨rfl, _, SqL.of m8⟩, _, rfl, .inl ⟨rfl, _, SqL.of l8⟩, _, rfl, _, rfl, L, _, rfl, .inl (SqL.of l8), ?_⟩
        have lx : (((x :: rest).map V.int).length : Int) = rest.length + 1 := by simp
        refine ⟨a, _, rfl, s8, by omega, by rw [lx]; simp at len; omega, fun r H9 r0 r1 s9 k9 => ?_⟩
        rw [lx] at r1
        have l9 := k9 _ _ La l8
        have m9 := k9 _ _ Ma m8
        have f9 := k9 _ _ Fa (k78 _ _ f7)
        have lt9 : r.toNat < (x :: rest).length := by rw [List.length_cons]; omega
        have ex : (x :: rest)[r.toNat]? = some (x :: rest)[r.toNat] := List.getElem?_eq_getElem lt9
        have mx := List.getElem_mem lt9
        generalize (x :: rest)[r.toNat] = y at ex mx
        have exV : ((x :: rest).map V.int)[r.toNat]? = some (V.int y) := by rw [List.getElem?_map, ex]; rfl
        refine ⟨L, _, r, r.toNat, .int y, rfl, rfl, l9, by omega, by omega, ?_, exV, ?_⟩
        · exact (ixN_seq (n := ((x :: rest).map V.int).length) (i := r) (j := r.toNat) (by unfold ixN; rw [if_pos r0, if_pos (by rw [lx]; exact r1)])).1
        · have q5 : (upd H9 L (.lst (((x :: rest).map V.int).eraseIdx r.toNat))) M = some (.lst (ms.map V.int)) := by rw [upd_ne ML]; exact m9
          refine ⟨M, _, _, rfl, rfl, q5, size_lt (by rw [List.length_map]; simp at len; omega), ?_⟩
          have le : ((x :: rest).eraseIdx r.toNat).length = rest.length := by rw [List.length_eraseIdx, if_pos lt9]; rfl
          have em : ((x :: rest).map V.int).eraseIdx r.toNat = ((x :: rest).eraseIdx r.toNat).map V.int := map_erase V.int (x :: rest) r.toNat
          rw [em]
          have kk := (k7.trans (Kp.of k78)).trans k9
          refine ⟨⟨ms ++ [y], (x :: rest).eraseIdx r.toNat, rfl, (s9.put La).put Ma, (kk.put L0).put M0, ?_, fun z hz => ?_, ?_, ?_, ?_, by rw [upd_same, List.map_append]; rfl⟩, ?_⟩
          · rw [List.length_append, le]
            simp at len ⊢
            omega
          · rcases List.mem_append.mp hz with hz | hz
            · rcases List.mem_append.mp hz with hz | hz
              · exact bd z (List.mem_append_left _ hz)
              · rw [List.mem_singleton.mp hz]
                exact bd y (List.mem_append_right _ mx)
            · exact bd z (List.mem_append_right _ (mem_eraseI hz))
          · exact ((((ls7.same k78).kp k9 fun u hu => (nt u hu).1).put2 fun u hu => (nt u hu).2.2.1)).put2 fun u hu => (nt u hu).2.2.2
          · rw [upd_ne (fun z => MF z.symm), upd_ne (fun z => LF z.symm)]
            exact f9
          · rw [upd_ne (fun z => ML z.symm), upd_same]
          · show lenAt L _ < lenAt L H7
            unfold lenAt
            rw [l7, upd_ne (fun z => ML z.symm), upd_same]
            show (((x :: rest).eraseIdx r.toNat).map V.int).length < ((x :: rest).map V.int).length
            rw [List.length_map, List.length_map, le]
            exact Nat.lt_succ_self _
    · rintro σ H7 Q1 Q2 hq ⟨v, e, hz, f⟩
      exact ⟨v, e, hz, fun p hp => by
        obtain ⟨d, e, h1, h2, h3, h4, b, eb, q⟩ := f p hp
        exact ⟨d, e, h1, h2, h3, h4, b, eb, hq _ _ q⟩⟩
end
end Pl
namespace Pl
open PySem PySem.Spec PyProof.Rows L2
def spDivL (CD C : Addr) : Sp := fun vs H Q _ => ∃ (p : Addr) (ts : List Addr) (rows : List (List Int)), vs = [.ref p] ∧ H p = some (.lst (ts.map V.ref)) ∧ LsAll H ts rows ∧ Rows rows ∧ ∀ (d t : Addr) (ss : List Addr) (H' : Hp), Same H H' → DvAt CD C H' d t ss rows → Q (.ref d) H'
section
variable {P : Program} {w : World} {K : PySem.W.Frag} {mg : Str → Option Value} {base : Heap} {CShare CDivision CPool CNoPerson : Addr}
abbrev st_l_division : Stmt := top 55
theorem sc_l_division : FnScope ["_law_rows_here"] ["_law_rows_here"] (defScope st_l_division) := ⟨rfl, rfl, rfl, by decide +kernel, rfl, by decide +kernel, by decide +kernel⟩
theorem ok_ldivL (B : Bn mg) (SDivision : DvK K mg CDivision) (cm_read : CmCal P w K mg base CX0 7 CDivision "read" (spRead CDivision CShare)) (c_l_text : Cal P w K mg base 2 "_law_text" ["_law_rows_here"] spTextG) (D : Df K mg "_law_division" st_l_division ["_law_rows_here"]) : Cal P w K mg base 8 "_law_division" ["_law_rows_here"] (spDivL CDivision CShare) := by
  refine D.cal sc_l_division (fun vs H Q E h => ?_) (fun f cdv A out s H vs Q E hr h => ?_)
  · obtain ⟨p, ts, rows, rfl, _⟩ := h
    rfl
  obtain ⟨p, ts, rows, rfl, hp, ls, rw_, k⟩ := h
  refine ⟨_, (pss_one (ps_ret (pe_cm cm_read pass0 (hr.mono (by decide)) (pe_glob (v := .ref CDivision) rfl SDivision.mgC rfl) (pa_cons (pe_fn c_l_text (hr.mono (by decide)) (pa_cons (pv 0) pa_nil)) pa_nil)))), ?_⟩
  exact ⟨rfl, _, rfl, p, ts, rows, rfl, hp, ls, rw_, fun H1 k1 => ⟨_, rfl, rw_, fun d t ss H2 k2 dv => k d t ss H2 (k1.trans k2) dv⟩⟩
end
end Pl
namespace Pl
open PySem PySem.Spec PyProof.Rows L2
theorem text_ok {rows : List (List Int)} (rw_ : Rows rows) : PyData.strOk (text rows) = true := by
  have all : ∀ c ∈ TL.tl (text rows), c < 128 := by
    intro c hc
    rw [tl_text] at hc
    obtain ⟨l, hl, hc⟩ := List.mem_flatten.mp hc
    obtain ⟨ns, hn, rfl⟩ := List.mem_map.mp hl
    rcases List.mem_append.mp hc with hc | hc
    · rw [tl_line] at hc
      rcases joinL_mem hc with hc | ⟨q, hq, hc⟩
      · have : ∀ c ∈ [32], c < 128 := by decide
        exact this c hc
      · obtain ⟨n, hm, rfl⟩ := List.mem_map.mp hq
        have : ∀ i : Fin 31, ∀ c ∈ TL.tl (wd (i.val : Int)), c < 128 := by decide +kernel
        have a := rw_.am ns hn n hm
        have e : ((n.toNat : Nat) : Int) = n := by omega
        have z := this ⟨n.toNat, by omega⟩ c
        simp only [e] at z
        exact z hc
    · have : ∀ c ∈ [10], c < 128 := by decide
      exact this c hc
  show (text rows).cps.all _ = true
  rw [← Array.all_toList]
  exact List.all_eq_true.mpr fun c hc => decide_eq_true (Nat.lt_trans (all c hc) (by decide))
def seenDt (kind : Fin 4) (r : List (List Int)) (ch : Nat) (u : Int) : List PyData := [.str (text r), .int (ch : Nat), .int (r.length : Nat), .str (plS nmP[kind] r.length (wdt r))] ++ if 2 ≤ kind.val then [.int u] else []
theorem dp_seen {K : PySem.W.Frag} {H : Hp} (kind : Fin 4) (r : List (List Int)) (ch : Nat) (u : Int) : DpAll K H (seenL kind r ch u) (seenDt kind r ch u) := by
  unfold seenL seenDt
  split
  · exact .cons (.str _) (.cons (.int _) (.cons (.int _) (.cons (.str _) (.cons (.int _) .nil))))
  · exact .cons (.str _) (.cons (.int _) (.cons (.int _) (.cons (.str _) .nil)))
theorem name_ok : ∀ i : Fin 4, ∀ n : Fin 5, ∀ m : Fin 7, PyData.strOk (plS (nmP[i]) (n.val : Int) (m.val : Int)) = true ∧ (plS (nmP[i]) (n.val : Int) (m.val : Int)).cps.size ≤ 1000 := by decide +kernel
theorem fit_seen {kind : Fin 4} {r : List (List Int)} {ch : Nat} {u : Int} (rw_ : Rows r) (hc : ch ≤ 100000) (hu : u.natAbs < 2 ^ 30) : Shw (.list (seenDt kind r ch u)) := by
  have p4 := rw_.2.1
  obtain ⟨w2, w6⟩ := rw_.w26
  obtain ⟨z1, z2⟩ := name_ok kind ⟨r.length, by omega⟩ ⟨wdt r, by omega⟩
  have f1 : Fit 1 100 (.str (text r)) := (Fit.str (text_ok rw_)).mono (Nat.le_refl _) (Nat.le_trans (show (text r).length ≤ 76 from rw_.tlen) (by decide))
  have f4 : Fit 1 1000 (.str (plS nmP[kind] r.length (wdt r))) := (Fit.str z1).mono (Nat.le_refl _) z2
  have f2 : Fit 1 31 (.int (ch : Nat)) := Fit.int (by omega)
  have f3 : Fit 1 31 (.int (r.length : Nat)) := Fit.int (by omega)
  have f5 : Fit 1 31 (.int u) := Fit.int hu
  unfold seenDt
  split
  · exact (Fit.list (FitAll.cons f1 (FitAll.cons f2 (FitAll.cons f3 (FitAll.cons f4 (FitAll.cons f5 FitAll.nil)))))).shw (by decide) (by decide)
  · exact (Fit.list (FitAll.cons f1 (FitAll.cons f2 (FitAll.cons f3 (FitAll.cons f4 FitAll.nil))))).shw (by decide) (by decide)
end Pl
namespace Pl
open PySem PySem.Spec PyProof.Rows L2
theorem lst_ne {a l : Addr} {H : Hp} {ts : List Addr} (s : Src H a) (hl : H l = some (.lst (ts.map V.ref))) : l ≠ a := fun z => by
  obtain ⟨x, y, u, e, _⟩ := s
  rw [← z, hl] at e
  have e2 := HO.lst.inj (Option.some.inj e)
  cases ts with
  | nil => cases e2
  | cons x xs => cases e2
/-- rows in lists, none of them at a -/
def LLA (a : Addr) (H : Hp) (l : Addr) (rows : List (List Int)) : Prop := ∃ ts : List Addr, H l = some (.lst (ts.map V.ref)) ∧ LsAll H ts rows ∧ ∀ t ∈ ts, t ≠ a
theorem LLA.kp {a l : Addr} {H H' : Hp} {rows : List (List Int)} (h : LLA a H l rows) (s : Src H a) (k : Kp a H H') : LLA a H' l rows := by
  obtain ⟨ts, h1, h2, h3⟩ := h
  exact ⟨ts, k _ _ (lst_ne s h1) h1, h2.kp k h3, h3⟩
theorem LLA.same {a l : Addr} {H H' : Hp} {rows : List (List Int)} (h : LLA a H l rows) (k : Same H H') : LLA a H' l rows := by
  obtain ⟨ts, h1, h2, h3⟩ := h
  exact ⟨ts, k _ _ h1, h2.same k, h3⟩
theorem Src.ext {a : Addr} {H H1 : Hp} (s : Src H a) (k : LamX.ExtN H H1) : Src H1 a := by
  obtain ⟨x, y, z, h, r⟩ := s
  exact ⟨x, y, z, k _ _ h (fun ps z => nomatch z), r⟩
theorem ShAll.ext {C : Addr} {H H' : Hp} (k : LamX.ExtN H H') : ∀ {ss : List Addr} {rows : List (List Int)}, ShAll C H ss rows → ShAll C H' ss rows
  | _, _, .nil => .nil
  | _, _, .cons ⟨⟨dx, h1⟩, h2, q⟩ r => .cons ⟨⟨dx, k _ _ h1 (fun ps z => nomatch z)⟩, k _ _ h2 (fun ps z => nomatch z), q⟩ (r.ext k)
theorem DvAt.ext {CD C d t : Addr} {H H' : Hp} {ss : List Addr} {rows : List (List Int)} (h : DvAt CD C H d t ss rows) (k : LamX.ExtN H H') : DvAt CD C H' d t ss rows := by
  obtain ⟨⟨dx, h1⟩, h2, h3, h4⟩ := h
  exact ⟨⟨dx, k _ _ h1 (fun ps z => nomatch z)⟩, k _ _ h2 (fun ps z => nomatch z), h3.ext k, h4⟩
theorem LsAll.ext {H H' : Hp} {ts : List Addr} {rows : List (List Int)} (h : LsAll H ts rows) (k : LamX.ExtN H H') : LsAll H' ts rows := ⟨h.1, fun j u ns a b => k _ _ (h.2 j u ns a b) (fun ps z => nomatch z)⟩
theorem ShAll.knS {C p : Addr} {H H' : Hp} (s : Src H p) (k : KpN p H H') : ∀ {ss : List Addr} {rows : List (List Int)}, ShAll C H ss rows → ShAll C H' ss rows
  | _, _, .nil => .nil
  | _, _, .cons ⟨⟨dx, h1⟩, h2, q⟩ r => by
    obtain ⟨x, y, z, e, _⟩ := id s
    exact .cons ⟨⟨dx, k _ _ (fun z => by rw [z, e] at h1; cases h1) h1 (fun ps z => nomatch z)⟩, k _ _ (fun z => by rw [z, e] at h2; cases h2) h2 (fun ps z => nomatch z), q⟩ (r.knS s k)
theorem DvAt.knS {CD C p : Addr} {H H' : Hp} {d t : Addr} {ss : List Addr} {rows : List (List Int)} (h : DvAt CD C H d t ss rows) (s : Src H p) (k : KpN p H H') : DvAt CD C H' d t ss rows := by
  obtain ⟨⟨dx, h1⟩, h2, h3, h4⟩ := h
  obtain ⟨x, y, z, e, _⟩ := id s
  exact ⟨⟨dx, k _ _ (fun z => by rw [z, e] at h1; cases h1) h1 (fun ps z => nomatch z)⟩, k _ _ (fun z => by rw [z, e] at h2; cases h2) h2 (fun ps z => nomatch z), h3.knS s k, h4⟩
theorem LLA.ext {a l : Addr} {H H' : Hp} {rows : List (List Int)} (h : LLA a H l rows) (k : LamX.ExtN H H') : LLA a H' l rows := by
  obtain ⟨ts, h1, h2, h3⟩ := h
  exact ⟨ts, k _ _ h1 (fun ps z => nomatch z), h2.ext k, h3⟩
/-- a source does not touch a pool -/
theorem PlAt.knS {CP CD C p a : Addr} {wo : Option Nat} {H H' : Hp} {cs : List (List (List Int) × Int)} (h : PlAt CP wo CD C H p cs) (s : Src H a) (k : KpN a H H') : PlAt CP wo CD C H' p cs := by
  obtain ⟨dx, t, us, h1, h2, h3, h4⟩ := h
  obtain ⟨x, y, z, e, _⟩ := id s
  have q : ∀ b u, H b = some u → (∀ ys, u ≠ .lst ys) → (∀ ps, u ≠ .tbl ps) → H' b = some u := fun b u e' n1 n2 => k b u (fun z' => by rw [z', e] at e'; exact n1 _ (Option.some.inj e').symm) e' n2
  refine ⟨dx, t, us, q _ _ h1 (fun ys z => nomatch z) (fun ps z => nomatch z), q _ _ h2 (fun ys z => nomatch z) (fun ps z => nomatch z), ⟨h3.1, fun j u r k' a' b' => ?_⟩, h4⟩
  obtain ⟨d, t1, ss, c1, c2⟩ := h3.2 j u r k' a' b'
  exact ⟨d, t1, ss, q _ _ c1 (fun ys z => nomatch z) (fun ps z => nomatch z), c2.knS s k⟩
/-- a pool does not touch rows -/
theorem LLA.kpI {a l p CP dx : Addr} {fs : List (Str × V)} {H H' : Hp} {rows : List (List Int)} (h : LLA a H l rows) (e : H p = some (.ins CP dx fs)) (k : Kp p H H') : LLA a H' l rows := by
  obtain ⟨ts, h1, h2, h3⟩ := h
  have n : ∀ {b : Addr} {xs : List V}, H b = some (.lst xs) → b ≠ p := fun e' z => by rw [z, e] at e'; cases e'
  exact ⟨ts, k _ _ (n h1) h1, ⟨h2.1, fun j u ns a' b' => k _ _ (n (h2.2 j u ns a' b')) (h2.2 j u ns a' b')⟩, h3⟩
theorem Src.kpI {a p CP dx : Addr} {fs : List (Str × V)} {H H' : Hp} (s : Src H a) (e : H p = some (.ins CP dx fs)) (k : Kp p H H') : Src H' a := by
  obtain ⟨x, y, z, h, r⟩ := s
  exact ⟨x, y, z, k _ _ (fun z' => by rw [z', e] at h; cases h) h, r⟩
theorem gNameI {i : Nat} {v : V} {σ : L2.St} {H : Hp} {Q : L2.St → Hp → Prop} (h : Q (σ.set i (some v)) H) : gName i v σ H Q := h
theorem gNameE {i : Nat} {v : V} {σ : L2.St} {H : Hp} {Q : L2.St → Hp → Prop} : gName i v σ H Q = Q (σ.set i (some v)) H := rfl
theorem join {c : TT} {t e r : TS} {D : Ends} {σ : L2.St} {H : Hp} (R : L2.St → Hp → Prop) (h1 : ∀ σ' H', R σ' H' → r D σ' H') (h2 : ∀ N : L2.St → Hp → Prop, (∀ σ' H', R σ' H' → N σ' H') → tIfS c t e { D with nx := N } σ H) : tSeq (tIfS c t e) r D σ H := h2 (r D) h1
theorem WayR.kn {rows : List (List Int)} {v : V} {a : Addr} {H H' : Hp} (h : WayR rows v H) (s : Src H a) (k : KpN a H H') : WayR rows v H' := by
  rcases h with h | ⟨T, q, r, ss, g, e, hT, hq, hr, ir⟩
  · exact .inl h
  · exact .inr ⟨T, q, r, ss, g, e, hT.kb s k, hq.kb s k, hr.kb s k, ir⟩
end Pl
namespace Pl
open PySem PySem.Spec PyProof.Rows L2
theorem codeO_ne' {c : Addr} {q : Str} {CP dx : Addr} {fs : List (Str × V)} : LamX.CodeO c q ≠ .ins CP dx fs := fun z => by
  unfold LamX.CodeO at z
  cases z
theorem Tabs.kp {T : List (Addr × Str)} {p : Addr} {H H' : Hp} (t : LamX.Tabs T H) (k : Kp p H H') (hp : ∃ CP dx wo t, H p = some (.ins CP dx (plF wo t))) : LamX.Tabs T H' := fun q hq => by
  obtain ⟨ps, h1, h2, h3⟩ := t q hq
  obtain ⟨CP, dx, wo, t2, e⟩ := hp
  refine ⟨ps, k _ _ (fun z => by rw [z, e] at h1; cases h1) h1, h2, fun pos cv hc => ?_⟩
  obtain ⟨c, e1, e2⟩ := h3 pos cv hc
  refine ⟨c, e1, k _ _ (fun z => ?_) e2⟩
  rw [z, e] at e2
  exact codeO_ne' (Option.some.inj e2).symm
theorem codeO_nl {c : Addr} {q : Str} {xs : List V} : LamX.CodeO c q ≠ .lst xs := fun z => by
  unfold LamX.CodeO at z
  cases z
/-- a list may be written -/
theorem Tabs.put {T : List (Addr × Str)} {l : Addr} {H : Hp} {xs : List V} {o : HO} (t : LamX.Tabs T H) (hl : H l = some (.lst xs)) : LamX.Tabs T (L2.upd H l o) := fun q hq => by
  obtain ⟨ps, h1, h2, h3⟩ := t q hq
  refine ⟨ps, by rw [upd_ne (ne_of h1 hl (by intro z; cases z))]; exact h1, h2, fun pos cv hc => ?_⟩
  obtain ⟨c, e1, e2⟩ := h3 pos cv hc
  exact ⟨c, e1, by rw [upd_ne (ne_of e2 hl codeO_nl)]; exact e2⟩
theorem Tabs.same {T : List (Addr × Str)} {H H' : Hp} (t : LamX.Tabs T H) (k : Same H H') : LamX.Tabs T H' := t.ext k
theorem Tabs.kpl {T : List (Addr × Str)} {p : Addr} {H H' : Hp} (t : LamX.Tabs T H) (k : Kp p H H') (s : Src H p) : LamX.Tabs T H' := fun q hq => by
  obtain ⟨ps, h1, h2, h3⟩ := t q hq
  obtain ⟨x, y, z, e, _⟩ := s
  refine ⟨ps, k _ _ (fun z => by rw [z, e] at h1; cases h1) h1, h2, fun pos cv hc => ?_⟩
  obtain ⟨c, e1, e2⟩ := h3 pos cv hc
  refine ⟨c, e1, k _ _ (fun z => ?_) e2⟩
  rw [z, e] at e2
  exact codeO_nl (Option.some.inj e2).symm
theorem Src.kn {a p : Addr} {H H' : Hp} (s : Src H a) (k : KpN p H H') (n : a ≠ p) : Src H' a := by
  obtain ⟨x, y, z, h, r⟩ := s
  exact ⟨x, y, z, k _ _ n h (fun ps z => nomatch z), r⟩
theorem SqL.ext {K : PySem.W.Frag} {H H' : Hp} {a : Addr} {xs : List V} (h : SqL K H a xs) (k : LamX.ExtN H H') : SqL K H' a xs := by
  rcases h with (h | ⟨ob, h⟩) | h
  · exact .inl (.inl (k _ _ h (fun ps z => nomatch z)))
  · exact .inl (.inr ⟨ob, k _ _ h (fun ps z => nomatch z)⟩)
  · exact .inr h
end Pl
namespace Pl
open PySem PySem.Spec PyProof.Rows L2 GenZ
def spLaw (K : PySem.W.Frag) : Sp := fun vs H Q _ => ∃ (a : Addr) (ns : List Int), vs = [.ref a] ∧ SqL K H a (ns.map V.int) ∧ ns.length ≤ 63 ∧ (∀ y ∈ [("law" : Str)], ∀ c T : Addr, PySem.W.tabIn K y = some (c, T) → H T = some (.tbl #[])) ∧ ∀ H', Q (.bl true) H'
theorem wayF {rows : List (List Int)} {v : V} {H : Hp} (h : WayR rows v H) (rw_ : Rows rows) : WyF v H := by
  rcases h with h | ⟨T, q, r, ss, g, e, hT, hq, hr, ir⟩
  · exact .inl h
  · have := nodup_le ir.1 ir.2.1
    have := rw_.w26
    exact .inr ⟨T, q, r, ss, g, e, hT, hq, hr, no_one ir, by omega, ir.2.2.2.1⟩
/-- within a turn -/
structure Tn (P1 : Addr) (CP CD C : Addr) (p x : Addr) (pe ma : Nat) (H1 : Hp) (l : Addr) (rows : List (List Int)) (cs : List (List (List Int) × Int)) (H : Hp) : Prop where
  rw_ : Rows rows
  lr : rows.length = pe
  wn : wdt rows = ma
  A : LLA p H l rows
  s : Src H p
  pl : PlAt CP none CD C H x (cs ++ [(rows, 1)])
  ex : LamX.ExtN H1 H
  tb : LamX.Tabs [(P1, qLam "law")] H
theorem Tn.same {P1 CP CD C p x l : Addr} {pe ma : Nat} {H1 H H' : Hp} {rows : List (List Int)} {cs : List (List (List Int) × Int)} (t : Tn P1 CP CD C p x pe ma H1 l rows cs H) (k : Same H H') : Tn P1 CP CD C p x pe ma H1 l rows cs H' :=
  ⟨t.rw_, t.lr, t.wn, t.A.same k, t.s.same k, t.pl.same k, fun b o e n => k _ _ (t.ex b o e n), Tabs.same t.tb k⟩
theorem Tn.kp {P1 CP CD C p x l : Addr} {pe ma : Nat} {H1 H H' : Hp} {rows : List (List Int)} {cs : List (List (List Int) × Int)} (t : Tn P1 CP CD C p x pe ma H1 l rows cs H) (np : H1 p = none) (k : Kp p H H') (s : Src H' p) : Tn P1 CP CD C p x pe ma H1 l rows cs H' :=
  ⟨t.rw_, t.lr, t.wn, t.A.kp t.s k, s, t.pl.knS t.s (KpN.of k), fun b o e n => k b o (ne_of_none e np) (t.ex b o e n), Tabs.kpl t.tb k t.s⟩
theorem Tn.ext {P1 CP CD C p x l : Addr} {pe ma : Nat} {H1 H H' : Hp} {rows : List (List Int)} {cs : List (List (List Int) × Int)} (t : Tn P1 CP CD C p x pe ma H1 l rows cs H) (k : LamX.ExtN H H') (tb : LamX.Tabs [(P1, qLam "law")] H') : Tn P1 CP CD C p x pe ma H1 l rows cs H' :=
  ⟨t.rw_, t.lr, t.wn, t.A.ext k, t.s.ext k, t.pl.ext k, fun b o e n => k _ _ (t.ex b o e n) n, tb⟩
section
variable {P : Program} {w : World} {K : PySem.W.Frag} {mg : Str → Option Value} {base : Heap} {CShare CDivision CPool CNoDivision CNoPerson CNoRing CNothingBetter CNothingDone : Addr} {c1 P1 : Addr}
abbrev st_law : Stmt := top 69
theorem sc_law : FnScope ["_law_script", "_law_k", "_law_source_here", "_law_lap", "_law_people", "_law_many", "_law_most", "_law_rows_here", "_law_changes", "_law_pool", "_law_turn", "_law_way", "_law_call", "_law_told", "_law_odd"] ["_law_script"] (defScope st_law) := ⟨rfl, rfl, rfl, by decide +kernel, rfl, by decide +kernel, by decide +kernel⟩
theorem ok_law (B : Bn mg) (e_NoDivision : ExK K mg "NoDivision" CNoDivision) (e_NoPerson : ExK K mg "NoPerson" CNoPerson) (e_NoRing : ExK K mg "NoRing" CNoRing) (e_NothingBetter : ExK K mg "NothingBetter" CNothingBetter) (e_NothingDone : ExK K mg "NothingDone" CNothingDone)
    (o1 : PySem.W.exmOne K (.ref CNoRing) (.ref CNoDivision) = some false) (o2 : PySem.W.exmOne K (.ref CNoRing) (.ref CNoPerson) = some false)
    (SPool : PlK K mg "Pool" CPool) (k_Pool : MCal P w K mg base 2 CPool "__init__" ["self", "division"] (spPlInit CPool CDivision CShare)) (m_exchange : MCalX P w K mg base 9 CPool "exchange" ["self", "ring"] (spPlExch K CPool CDivision CShare CNoRing)) (m_call : MCalX P w K mg base 10 CPool "__call__" ["self", "ring"] (spPlExch K CPool CDivision CShare CNoRing)) (fiP : ∀ f, PySem.W.findIn K (.ref CPool) "__call__" = some (some (.ref f)) → PySem.W.fnIn K f = true)
    (h1 : PySem.W.tabIn K "law" = some (c1, P1)) (TB : LamX.TabB base mg c1 P1) (c_l_cell : Cal P w K mg base 2 "_law_cell" ["_law_script", "_law_index"] (spCell K)) (c_l_source : Cal P w K mg base 2 "_law_source" ["_law_cell_here"] spSource) (c_l_draw : Cal P w K mg base 2 "_law_draw" ["_law_source_here", "_law_many"] spDraw) (c_l_choose : Cal P w K mg base 3 "_law_choose" ["_law_source_here", "_law_values"] spChoose) (c_l_rows : Cal P w K mg base 4 "_law_rows" ["_law_source_here", "_law_people", "_law_many", "_law_most"] spRowsT) (c_l_division : Cal P w K mg base 8 "_law_division" ["_law_rows_here"] (spDivL CDivision CShare)) (c_l_sizes : Cal P w K mg base 3 "_law_sizes" ["_law_source_here", "_law_lap"] spSizes)
    (c_l_after : Cal P w K mg base 2 "_law_after" ["_law_rows_here", "_law_way"] (spAfter K)) (c_l_is_ring : Cal P w K mg base 2 "_law_is_ring" ["_law_rows_here", "_law_thing"] (spIsRgL K)) (c_l_some_ring : Cal P w K mg base 4 "_law_some_ring" ["_law_source_here", "_law_rows_here", "_law_some"] (spSomeRg K)) (c_l_odd_ring : Cal P w K mg base 5 "_law_odd_ring" ["_law_source_here", "_law_rows_here", "_law_way"] (spOddRg K)) (c_l_seen : Cal P w K mg base 8 "_law_seen" ["_law_kind", "_law_pool"] (spSeen0 CPool CDivision CShare)) (c_l_due : Cal P w K mg base 3 "_law_due" ["_law_kind", "_law_rows_here", "_law_changes", "_law_unit"] spDue) (c_l_is_equal : CalG P w K mg base 2 "_law_is_equal" ["_law_actual", "_law_expected"] (spEqual K))
    (DS : Df K mg "_law_said" st_l_said ["_law_call"]) {f : Addr} {fd : FuncData} (D : LawT K st_law f fd c1) : FnG P w K mg base 16 f fd ["_law_script"] (spLaw K) := by
  obtain ⟨gS, fdS, Fg, hmS, hbS⟩ := DS.ex
  obtain ⟨oc, od, kV, doc, pm, an, cdS, ct, osl, rfl, lkS, hcS⟩ := Fg.ex
  refine D.okG sc_law (fun vs H Q E h => ?_) (fun A out s H vs Q E gd hr h => ?_)
  · obtain ⟨a, ns, rfl, _⟩ := h
    rfl
  obtain ⟨a, ns, rfl, sq, l63, hT, k⟩ := h
  have hmT : (P1, qLam "law") ∈ [(P1, qLam "law")] := by simp
  have huT : ∀ p ∈ [(P1, qLam "law")], p.1 = P1 → p.2 = qLam "law" := fun p hp _ => by
    rw [List.mem_singleton.mp hp]
  refine ⟨_, (pss_one (ps_try_thru0 (pss_cons (ps_for PassesOwn.never rfl (pi_range1 (by rfl) B.n_range (pa_cons (pe_callB (call_max2 rfl) (by rfl) B.n_max (by decide +kernel) (pa_cons pe_int (pa_cons (pe_callB (call_min2 rfl) (by rfl) B.n_min (by decide +kernel) (pa_cons (pe_callB call_len_seq (by rfl) B.n_len (by decide +kernel) (pa_cons (pv 0) pa_nil)) (pa_cons pe_int pa_nil))) pa_nil))) pa_nil)) (pg_name (i := 1) sc_law.nd rfl (by first | exact .inl rfl | exact .inr rfl))
   (pss_cons (ps_set (i := 2) sc_law.nd rfl (by first | exact .inl rfl | exact .inr rfl) (pe_fn c_l_source (hr.mono (by decide)) (pa_cons (pe_fn c_l_cell (hr.mono (by decide)) (pa_cons (pv 0) (pa_cons (pv 1) pa_nil))) pa_nil)))
   (pss_one (ps_for PassesOwn.never rfl (pi_range1 (by rfl) B.n_range (pa_cons pe_int pa_nil)) (pg_name (i := 3) sc_law.nd rfl (by first | exact .inl rfl | exact .inr rfl))
   (pss_cons (ps_asg (pe_fn c_l_sizes (hr.mono (by decide)) (pa_cons (pv 2) (pa_cons (pv 3) pa_nil))) (pg_lst rfl (pgs_cons (pg_name (i := 4) sc_law.nd rfl (by first | exact .inl rfl | exact .inr rfl)) (pgs_cons (pg_name (i := 5) sc_law.nd rfl (by first | exact .inl rfl | exact .inr rfl)) (pgs_cons (pg_name (i := 6) sc_law.nd rfl (by first | exact .inl rfl | exact .inr rfl)) pgs_nil)))))
   (pss_cons (ps_par (i := 7) (j := 8) (by rfl) sc_law.nd rfl rfl (by decide) rfl rfl (pa_cons (pe_fn c_l_rows (hr.mono (by decide)) (pa_cons (pv 2) (pa_cons (pv 4) (pa_cons (pv 5) (pa_cons (pv 6) pa_nil))))) (pa_cons pe_int pa_nil)) (by rfl))
   (pss_cons (ps_set (i := 9) sc_law.nd rfl (by first | exact .inl rfl | exact .inr rfl) (pe_mk k_Pool SPool.mks SPool.kc SPool.mgC (hr.mono (by decide)) (pa_cons (pe_fn c_l_division (hr.mono (by decide)) (pa_cons (pv 7) pa_nil)) pa_nil)))
   (pss_one (ps_for PassesOwn.never rfl (pi_range1 (by rfl) B.n_range (pa_cons pe_int pa_nil)) (pg_name (i := 10) sc_law.nd rfl (by first | exact .inl rfl | exact .inr rfl))
   (pss_cons (ps_set (i := 11) sc_law.nd rfl (by first | exact .inl rfl | exact .inr rfl) (pe_fn c_l_some_ring (hr.mono (by decide)) (pa_cons (pv 2) (pa_cons (pv 7) (pa_cons (pe_listRg rfl (by rfl) B.n_list (prg_1 (by rfl) B.n_range (pv 4))) pa_nil)))))
   (pss_cons (ps_if (pt_cmpR op_notN (pv 11) pe_non (nomark _)) (pss_cons (ps_set (i := 12) sc_law.nd rfl (by first | exact .inl rfl | exact .inr rfl) (pe_fn c_l_choose (hr.mono (by decide)) (pa_cons (pv 2) (pa_cons (pe_lst (pa_cons pe_int (pa_cons pe_int pa_nil))) pa_nil))))
   (pss_cons (ps_if (pt_cmpR op_eq (pv 12) pe_int (nomark _)) (pss_one (ps_set (i := 13) sc_law.nd rfl (by first | exact .inl rfl | exact .inr rfl) (LamX.pe_lamcall (T := [(P1, qLam "law")]) (c := c1) (P := P1) (k := 13) (Ng := ["_law_call"]) (a := "_law_call") rfl hmS Fg.kp lkS hcS hbS sc_l_said rfl (by first | exact .inl rfl | exact .inr rfl) (said_gives e_NoDivision e_NoPerson e_NoRing e_NothingBetter e_NothingDone) TB rfl hmT huT (hr.mono (by decide)) (LamX.lamS_by (sc := defScope st_law) (by decide +kernel)) rfl (fun _ _ _ _ _ => rfl) (fun A outer s H E f c' hr2 => pe_callX m_call (passW (takes_of rfl rfl rfl rfl)) fiP (hr2.mono (by decide)) (pv 9) (pa_cons (pv 11) pa_nil))))) (pss_one (ps_set (i := 13) sc_law.nd rfl (by first | exact .inl rfl | exact .inr rfl) (LamX.pe_lamcall (T := [(P1, qLam "law")]) (c := c1) (P := P1) (k := 13) (Ng := ["_law_call"]) (a := "_law_call") rfl hmS Fg.kp lkS hcS hbS sc_l_said rfl (by first | exact .inl rfl | exact .inr rfl) (said_gives e_NoDivision e_NoPerson e_NoRing e_NothingBetter e_NothingDone) TB rfl hmT huT (hr.mono (by decide)) (LamX.lamS_by (sc := defScope st_law) (by decide +kernel)) rfl (fun _ _ _ _ _ => rfl) (fun A outer s H E f c' hr2 => pe_mtNX m_exchange (passW (takes_of rfl rfl rfl rfl)) SPool.cl (hr2.mono (by decide)) (pv 9) (pa_cons (pv 11) pa_nil))))))
   (pss_cons (ps_if (pt_cmpR (op_neD hr.units) (pv 13) (pe_lst (pa_cons pe_str (pa_cons pe_non pa_nil))) (nomark _)) (pss_one (ps_ret pe_bl)) pss_nil)
   (pss_one (ps_par (i := 7) (j := 8) (by rfl) sc_law.nd rfl rfl (by decide) rfl rfl (pa_cons (pe_fn c_l_after (hr.mono (by decide)) (pa_cons (pv 7) (pa_cons (pv 11) pa_nil))) (pa_cons (pe_op op_add (pv 8) pe_int) pa_nil)) (by rfl)))))) pss_nil)
   (pss_cons (ps_set (i := 14) sc_law.nd rfl (by first | exact .inl rfl | exact .inr rfl) (pe_fn c_l_odd_ring (hr.mono (by decide)) (pa_cons (pv 2) (pa_cons (pv 7) (pa_cons (pv 11) pa_nil)))))
   (pss_cons (ps_if (PW.pt (pw_and (pt_not (pt_val (pe_fn c_l_is_ring (hr.mono (by decide)) (pa_cons (pv 7) (pa_cons (pv 14) pa_nil))))) (pw_and1 (pt_cmpR (op_neD hr.units) (LamX.pe_lamcall (T := [(P1, qLam "law")]) (c := c1) (P := P1) (k := 13) (Ng := ["_law_call"]) (a := "_law_call") rfl hmS Fg.kp lkS hcS hbS sc_l_said rfl (by first | exact .inl rfl | exact .inr rfl) (said_gives e_NoDivision e_NoPerson e_NoRing e_NothingBetter e_NothingDone) TB rfl hmT huT (hr.mono (by decide)) (LamX.lamS_by (sc := defScope st_law) (by decide +kernel)) rfl (fun _ _ _ _ _ => rfl) (fun A outer s H E f c' hr2 => pe_mtNX m_exchange (passW (takes_of rfl rfl rfl rfl)) SPool.cl (hr2.mono (by decide)) (pv 9) (pa_cons (pv 14) pa_nil))) (pe_lst (pa_cons pe_str pa_nil)) (nomark _))))) (pss_one (ps_ret pe_bl)) pss_nil)
   (pss_one (ps_if (pt_not (pt_val (pe_fnG c_l_is_equal gd (hr.mono (by decide)) (pa_cons (pe_fn c_l_seen (hr.mono (by decide)) (pa_cons pe_int (pa_cons (pv 9) pa_nil))) (pa_cons (pe_fn c_l_due (hr.mono (by decide)) (pa_cons pe_int (pa_cons (pv 7) (pa_cons (pv 8) (pa_cons pe_int pa_nil))))) pa_nil))))) (pss_one (ps_ret pe_bl)) pss_nil)))))))))))))))
   (pss_one (ps_ret pe_bl))))), ?_⟩
  have tb0 : LamX.Tabs [(P1, qLam "law")] H := fun q hq => by
    rw [List.mem_singleton.mp hq]
    exact LamX.TabS.nil (hT _ (by simp) _ _ h1)
  refine ⟨_, rfl, a, _, rfl, .inl sq, _, _, rfl, _, _, rfl, _, rfl, ?_, ?_, ?_⟩
  · split <;> split <;> omega
  · split <;> split <;> omega
  generalize (Int.toNat _) = n
  refine for_range (lo := 0) (n := n) (fun i σ H' => ∃ v1 v2 v3 v4 v5 v6 v7 v8 v9 v10 v11 v12 v13 v14 : Option V, σ = [some (.ref a), v1, v2, v3, v4, v5, v6, v7, v8, v9, v10, v11, v12, v13, v14] ∧ LamX.ExtN H H' ∧ LamX.Tabs [(P1, qLam "law")] H') ⟨none, none, none, none, none, none, none, none, none, none, none, none, none, none, rfl, LamX.ExtN.refl H, tb0⟩ ?_ (fun σ H' _ => k H')
  rintro i σ H1 _ ⟨v1, v2, v3, v4, v5, v6, v7, v8, v9, v10, v11, v12, v13, v14, rfl, k1, tb1⟩
  refine ⟨_, rfl, _, rfl, a, ns, _, rfl, SqL.ext sq k1, by omega, fun c => ⟨c, rfl, fun p H2 np src k2 => ?_⟩⟩
  refine ⟨4, rfl, by decide, by decide, ?_⟩
  refine for_range (lo := 0) (n := 4) (fun j σ H' => ∃ v3 v4 v5 v6 v7 v8 v9 v10 v11 v12 v13 v14 : Option V, σ = [some (.ref a), some (.int (0 + i)), some (.ref p), v3, v4, v5, v6, v7, v8, v9, v10, v11, v12, v13, v14] ∧ Src H' p ∧ LamX.ExtN H1 H' ∧ LamX.Tabs [(P1, qLam "law")] H') ⟨v3, v4, v5, v6, v7, v8, v9, v10, v11, v12, v13, v14, rfl, src, LamX.ExtN.of k2, Tabs.same tb1 k2⟩ ?_ (fun σ H' ⟨v3, v4, v5, v6, v7, v8, v9, v10, v11, v12, v13, v14, e, _, k3, tb3⟩ => ⟨_, _, _, _, _, _, _, _, _, _, _, _, _, _, e, k1.trans k3, tb3⟩)
  rintro j σ H3 hj ⟨v3, v4, v5, v6, v7, v8, v9, v10, v11, v12, v13, v14, rfl, s3, k3, tb3⟩
  have ej : (0 + (j : Nat) : Int) = ((j : Nat) : Int) := by omega
  rw [ej]
  refine ⟨_, rfl, _, rfl, p, j, rfl, hj, s3, fun L pe ma mo H4 p2 p4 m2 m6 o2' o30 s4 k4 hL => ?_⟩
  refine ⟨L, _, rfl, SqL.of hL, rfl, _, _, rfl, _, _, rfl, _, _, rfl, rfl, ?_⟩
  refine ⟨_, rfl, _, rfl, _, rfl, _, rfl, p, pe, ma, mo, rfl, s4, p2, p4, m2, m6, by omega, o30, fun l ts rows H5 rw_ lr wn _ ls nt hl s5 k5 => ?_⟩
  refine ⟨_, _, rfl, ?_⟩
  refine ⟨_, rfl, l, ts, rows, rfl, hl, ls, rw_, fun d t ss H7 k7 dv => ?_⟩
  have k35 := k4.trans k5
  have s7 := s5.same k7
  have A7 : LLA p H7 l rows := LLA.same ⟨ts, hl, ls, nt⟩ k7
  have tb7 : LamX.Tabs [(P1, qLam "law")] H7 := Tabs.same (Tabs.kpl tb3 k35 s3) k7
  have ex7 : LamX.ExtN H1 H7 := fun b o e n => k7 _ _ (k35 b o (ne_of_none e np) (k3 b o e n))
  clear k3 k35 k4 k5 k7 hl ls nt tb3 s3 s4 s5
  refine fun x dx nx ndx ne => ?_
  have kx : Same H7 (upd (upd H7 dx (.own x)) x (.ins CPool dx [])) := same_put (same_put (Same.refl _) ndx) nx
  refine ⟨x, d, dx, t, ss, rows, rfl, upd_same, dv.same kx, fun H8 kp8 pl => ⟨rfl, ?_⟩⟩
  have k78 : Same H7 H8 := fun b o e => kp8 _ _ (fun z => by rw [z, nx] at e; cases e) (kx _ _ e)
  have T8 : Tn P1 CPool CDivision CShare p x pe ma H1 l rows [] H8 := ⟨rw_, lr, wn, A7.same k78, s7.same k78, pl, fun b o e n => k78 _ _ (ex7 b o e n), Tabs.same tb7 k78⟩
  have nx1 : ∀ b o, H1 b = some o → (∀ ps, o ≠ .tbl ps) → b ≠ x := fun b o e n z => by
    have q := ex7 b o e n
    rw [z, nx] at q
    cases q
  clear rw_ lr wn A7 s7 pl ex7 tb7 k78 kp8 kx dv nx ndx
  refine ⟨6, rfl, by decide, by decide, ?_⟩
  refine for_range (lo := 0) (n := 6) (fun m σ H' => ∃ (l : Addr) (rows : List (List Int)) (cs : List (List (List Int) × Int)) (ch : Nat) (v10 v11 v12 v13 v14 : Option V), σ = [some (.ref a), some (.int (0 + i)), some (.ref p), some (.int (j : Nat)), some (.int (pe : Nat)), some (.int (ma : Nat)), some (.int mo), some (.ref l), some (.int (ch : Nat)), some (.ref x), v10, v11, v12, v13, v14] ∧ Tn P1 CPool CDivision CShare p x pe ma H1 l rows cs H' ∧ cs.length = ch ∧ ch ≤ m)
    ⟨l, rows, [], 0, v10, v11, v12, v13, v14, rfl, T8, rfl, Nat.le_refl _⟩ ?_ (fun σ H' ⟨l', rows', cs', ch', w10, w11, w12, w13, w14, e, T', _, _⟩ => ⟨_, _, _, _, _, _, _, _, _, _, _, _, e, T'.s, T'.ex, T'.tb⟩)
  clear T8
  rintro m σ H9 hm ⟨l, rows, cs, ch, w10, w11, w12, w13, w14, rfl, T9, lc, cm⟩
  obtain ⟨ts, hl, ls, nt⟩ := id T9.A
  have pe4 : rows.length ≤ 4 := by rw [T9.lr]; exact p4
  refine ⟨_, rfl, _, rfl, _, rfl, _, rfl, RgOk.of_le (by omega) (by omega) (by omega) (by omega), fun sm hsm => ?_⟩
  rw [rgV_iV]
  have smp := T9.s.ne hsm
  generalize hA : upd H9 sm _ = HA
  obtain ⟨kA, eA⟩ := alloc hA hsm
  clear hA
  have TA := T9.same kA
  refine ⟨p, l, sm, ts, rows, List.range pe, rfl, TA.s, lst_ne TA.s (kA _ _ hl), kA _ _ hl, ls.same kA, nt, TA.rw_, smp, eA, by rw [List.length_range]; exact p4, fun q hq => by rw [TA.lr]; exact List.mem_range.mp hq, fun wv HB kB sB way => ?_⟩
  have TB' := TA.kp np kB sB
  clear hl ls nt T9 TA kA eA hsm smp kB
  refine gNameI ?_
  dsimp only
  refine join (fun σ' H' => ∃ (l3 : Addr) (rows3 : List (List Int)) (cs3 : List (List (List Int) × Int)) (ch3 : Nat) (w12 w13 : Option V), σ' = [some (.ref a), some (.int (0 + i)), some (.ref p), some (.int (j : Nat)), some (.int (pe : Nat)), some (.int (ma : Nat)), some (.int mo), some (.ref l3), some (.int (ch3 : Nat)), some (.ref x), some (.int (0 + m)), some wv, w12, w13, w14] ∧ Tn P1 CPool CDivision CShare p x pe ma H1 l3 rows3 cs3 H' ∧ cs3.length = ch3 ∧ ch3 ≤ m + 1 ∧ WyF wv H') ?_ (fun N hN => ?_)
  case refine_1 =>
    rintro σ' HC ⟨l3, rows3, cs3, ch3, w12, w13, rfl, T3, lc3, cm3, wy⟩
    obtain ⟨ts, hl, ls, nt⟩ := id T3.A
    have p43 : rows3.length ≤ 4 := by rw [T3.lr]; exact p4
    refine ⟨_, rfl, _, rfl, _, rfl, p, l3, wv, ts, rows3, rfl, T3.s, lst_ne T3.s hl, hl, ls, nt, T3.rw_, wy, fun xo HD kD sD od => ?_⟩
    have T4 := T3.kp np kD sD
    clear T3 hl ls nt kD wy
    obtain ⟨ts, hl, ls, nt⟩ := id T4.A
    refine gNameI ?_
    dsimp only
    refine join (fun σ' H' => σ' = [some (.ref a), some (.int (0 + i)), some (.ref p), some (.int (j : Nat)), some (.int (pe : Nat)), some (.int (ma : Nat)), some (.int mo), some (.ref l3), some (.int (ch3 : Nat)), some (.ref x), some (.int (0 + m)), some wv, w12, w13, some xo] ∧ Tn P1 CPool CDivision CShare p x pe ma H1 l3 rows3 cs3 H') ?_ (fun N2 hN2 => ?_)
    · rintro σ' HE ⟨rfl, T5⟩
      obtain ⟨us, gl, gs, gn⟩ := id T5.A
      refine ⟨_, rfl, x, none, cs3, rows3, 1, rfl, T5.pl, fun L8 H19 k19 e19 => ?_⟩
      rw [lc3] at e19
      refine ⟨_, rfl, _, rfl, 0, l3, us, rows3, ch3, 1, rfl, k19 _ _ gl, gs.same k19, T5.rw_, fun L9 H20 k20 e20 => ?_⟩
      have sh := fit_seen (kind := 0) (ch := ch3) (u := 1) T5.rw_ (by omega) (by decide)
      refine ⟨L8, L9, _, _, rfl, .lst (SqL.of (k20 _ _ e19)) (dp_seen _ rows3 ch3 1), .lst (SqL.of e20) (dp_seen _ rows3 ch3 1), sh, sh, ?_⟩
      rw [decide_eq_true rfl]
      exact ⟨_, rfl, iteF ⟨l3, rows3, cs3, ch3, _, _, _, _, _, rfl, T5.same (k19.trans k20), lc3, cm3⟩⟩
    refine ⟨_, rfl, _, rfl, l3, ts, rows3, xo, rfl, hl, ls, T4.rw_, ?_⟩
    rcases od with nt_ | ⟨dx, one⟩
    · refine .inl ⟨nt_ HD (KpN.same (Same.refl _)), _, rfl, iteT ?_⟩
      refine ⟨T4.tb, fun HF exF tbF => ?_⟩
      have TF := T4.ext exF tbF
      obtain ⟨dxq, tq, hpF⟩ := TF.pl.own
      refine ⟨_, rfl, x, dxq, _, rfl, hpF, rfl, _, rfl, none, x, xo, cs3, rows3, 1, rfl, TF.pl, by omega, by decide, ?_⟩
      refine .inl ⟨nt_ HF (KpN.ext exF), fun σ' => ⟨false, o1, fun z => (nomatch z), fun _ => ⟨false, o2, fun z => (nomatch z), fun _ => ⟨true, e_NoRing.me, fun _ q hq => ?_, fun z => (nomatch z)⟩⟩⟩⟩
      generalize hG1 : upd HF q _ = HG
      obtain ⟨kG, eG⟩ := alloc hG1 hq
      clear hG1
      refine ⟨(by show 1 ≤ sizeLine; decide), fun q2 hq2 => ?_⟩
      generalize hG2 : upd HG q2 _ = HJ
      obtain ⟨kJ, eJ⟩ := alloc hG2 hq2
      clear hG2
      refine ⟨.list [.str "NoRing"], .list [.str "NoRing"], .lst (SqL.of (kJ _ _ eG)) (.cons (.str _) .nil), .lst (SqL.of eJ) (.cons (.str _) .nil), by decide +kernel, by decide +kernel, ?_⟩
      rw [show PyData.eqv (.list [.str "NoRing"]) (.list [.str "NoRing"]) = true from by decide +kernel]
      exact ⟨_, rfl, iteF (hN2 _ _ ⟨rfl, TF.same (kG.trans kJ)⟩)⟩
    · refine .inr ⟨dx, one HD (KpN.same (Same.refl _)), fun b HE kE hb => ?_⟩
      have T5 := T4.same kE
      cases b with
      | true => exact ⟨_, rfl, iteF (hN2 _ _ ⟨rfl, T5⟩)⟩
      | false =>
        refine ⟨_, rfl, iteT ?_⟩
        have nrg : ¬ RgD rows3 dx := fun z => nomatch hb.mpr z
        refine ⟨T5.tb, fun HF exF tbF => ?_⟩
        have TF := T5.ext exF tbF
        obtain ⟨dxq, tq, hpF⟩ := TF.pl.own
        refine ⟨_, rfl, x, dxq, _, rfl, hpF, rfl, _, rfl, none, x, xo, cs3, rows3, 1, rfl, TF.pl, by omega, by decide, ?_⟩
        refine .inr ⟨dx, (one HF ((KpN.same kE).trans (KpN.ext exF))).vl, fun ss g e ir => absurd (by rw [e]; exact rg_at.mpr ir) nrg, fun _ HK kK σ' => ⟨false, o1, fun z => (nomatch z), fun _ => ⟨false, o2, fun z => (nomatch z), fun _ => ⟨true, e_NoRing.me, fun _ q hq => ?_, fun z => (nomatch z)⟩⟩⟩⟩
        generalize hG1 : upd HK q _ = HG
        obtain ⟨kG, eG⟩ := alloc hG1 hq
        clear hG1
        refine ⟨(by show 1 ≤ sizeLine; decide), fun q2 hq2 => ?_⟩
        generalize hG2 : upd HG q2 _ = HJ
        obtain ⟨kJ, eJ⟩ := alloc hG2 hq2
        clear hG2
        refine ⟨.list [.str "NoRing"], .list [.str "NoRing"], .lst (SqL.of (kJ _ _ eG)) (.cons (.str _) .nil), .lst (SqL.of eJ) (.cons (.str _) .nil), by decide +kernel, by decide +kernel, ?_⟩
        rw [show PyData.eqv (.list [.str "NoRing"]) (.list [.str "NoRing"]) = true from by decide +kernel]
        exact ⟨_, rfl, iteF (hN2 _ _ ⟨rfl, TF.same (kK.trans (kG.trans kJ))⟩)⟩
  have wy := wayF way TB'.rw_
  rcases way with rfl | ⟨T, q, r, ss, g, rfl, hT, hq, hr', ir⟩
  · exact ⟨_, rfl, rfl, _, rfl, iteF (hN _ _ ⟨l, rows, cs, ch, _, _, rfl, TB', lc, by omega, wy⟩)⟩
  refine ⟨_, rfl, rfl, _, rfl, iteT ?_⟩
  refine ⟨_, rfl, (by show 2 ≤ sizeLine; decide), fun M hM => ?_⟩
  have Mp := TB'.s.ne hM
  generalize hA : upd HB M _ = HC
  obtain ⟨kC, eM⟩ := alloc hA hM
  clear hA
  have TC := TB'.same kC
  refine ⟨p, M, _, rfl, TC.s, eM, Mp, (by show 0 < 2; decide), (by show 2 ≤ 1000; decide), fun v HD hv sD kD => ?_⟩
  have TD := TC.kp np kD sD
  have hT := (hT.same kC).kp TC.s kD
  have hq := (hq.same kC).kp TC.s kD
  have hr' := (hr'.same kC).kp TC.s kD
  clear TB' TC kC eM hM Mp sB
  have l100 : ss.length ≤ 100 := by
    have := nodup_le ir.1 ir.2.1
    have := TD.rw_.w26
    omega
  have lg := ir.2.2.2.1
  have fin : ∀ (HE HF HG : Hp) (tq : Addr), LamX.ExtN HD HE → LamX.Tabs [(P1, qLam "law")] HE → Kp x HE HF → PlAt CPool none CDivision CShare HF x (cs ++ [(rows, 1), (exs rows (g.zip (stp ss)), 1 * 1)]) → Same HF HG → LLA p HG l rows ∧ Src HG p ∧ PlAt CPool none CDivision CShare HG x ((cs ++ [(rows, 1)]) ++ [(exs rows (g.zip (stp ss)), 1)]) ∧ LamX.ExtN H1 HG ∧ LamX.Tabs [(P1, qLam "law")] HG ∧ Fz HG T [.ref q, .ref r] ∧ Fz HG q (iV ss) ∧ Fz HG r (iV g) := fun HE HF HG tq exE tbE kF plF kG => by
    have TE := TD.ext exE tbE
    obtain ⟨dxq, tq, hpE⟩ := TE.pl.own
    have fz : ∀ {b : Addr} {xs : List V}, Fz HD b xs → Fz HG b xs := fun {b xs} f => by
      obtain ⟨o, e, h⟩ := f
      have h1 := exE _ _ h (fun ps z => nomatch z)
      exact ⟨o, e, kG _ _ (kF _ _ (fun z => by rw [z, hpE] at h1; cases h1) h1)⟩
    refine ⟨(TE.A.kpI hpE kF).same kG, (TE.s.kpI hpE kF).same kG, ?_, fun b o e n => kG _ _ (kF _ _ (nx1 b o e n) (TE.ex b o e n)), Tabs.same (Tabs.kp TE.tb kF ⟨_, _, _, _, hpE⟩) kG, fz hT, fz hq, fz hr'⟩
    rw [List.append_assoc]
    exact plF.same kG
  refine gNameI ?_
  dsimp only
  refine join (fun σ' H' => ∃ tq : Addr, σ' = [some (.ref a), some (.int (0 + i)), some (.ref p), some (.int (j : Nat)), some (.int (pe : Nat)), some (.int (ma : Nat)), some (.int mo), some (.ref l), some (.int (ch : Nat)), some (.ref x), some (.int (0 + m)), some (.ref T), some v, some (.ref tq), w14] ∧ H' tq = some (.lst [.str "told", .non]) ∧ LLA p H' l rows ∧ Src H' p ∧ PlAt CPool none CDivision CShare H' x ((cs ++ [(rows, 1)]) ++ [(exs rows (g.zip (stp ss)), 1)]) ∧ LamX.ExtN H1 H' ∧ LamX.Tabs [(P1, qLam "law")] H' ∧ Fz H' T [.ref q, .ref r] ∧ Fz H' q (iV ss) ∧ Fz H' r (iV g)) ?_ (fun N2 hN2 => ?_)
  · rintro σ' HE ⟨tq, rfl, etq, A, sE, pl, ex, tb, fT, fq, fr⟩
    refine ⟨_, rfl, (by show 2 ≤ sizeLine; decide), fun q2 hq2 => ?_⟩
    generalize hA : upd HE q2 _ = HF
    obtain ⟨kF, eF⟩ := alloc hA hq2
    clear hA
    refine ⟨.list [.str "told", .none], .list [.str "told", .none], .lst (SqL.of (kF _ _ etq)) (.cons (.str _) (.cons .non .nil)), .lst (SqL.of eF) (.cons (.str _) (.cons .non .nil)), by decide +kernel, by decide +kernel, ?_⟩
    rw [show PyData.eqv (.list [.str "told", .none]) (.list [.str "told", .none]) = true from by decide +kernel]
    refine ⟨_, rfl, iteF ?_⟩
    obtain ⟨us, gl, gs, gn⟩ := A.same kF
    have sF := sE.same kF
    refine ⟨_, rfl, _, rfl, l, T, q, r, us, rows, ss, g, rfl, gl, gs, TD.rw_, (fT.same kF).sq, (fq.same kF).sq, (fr.same kF).sq, ir, fun F us2 HG kG hF ls2 nw => ?_⟩
    refine ⟨_, rfl, _, _, rfl, rfl, _, _, rfl, ?_⟩
    have kk := kF.trans kG
    exact hN _ _ ⟨F, exs rows (g.zip (stp ss)), cs ++ [(rows, 1)], ch + 1, _, _, rfl, ⟨ex_rows TD.rw_ ir, by rw [exs_len]; exact TD.lr, by rw [ex_wdt TD.rw_ ir]; exact TD.wn, ⟨us2, hF, ls2, fun t ht => sF.ne (nw t ht)⟩, sE.same kk, pl.same kk, fun b o e n => kk _ _ (ex b o e n), Tabs.same tb kk⟩, by rw [List.length_append, lc]; rfl, by omega, .inr ⟨T, q, r, ss, g, rfl, fT.same kk, fq.same kk, fr.same kk, no_one ir, by have := nodup_le ir.1 ir.2.1; have := TD.rw_.w26; omega, lg⟩⟩
  have e2 : ∀ {ss' g' : List Nat}, PyData.tuple [tupN ss, tupN g] = .tuple [tupN ss', tupN g'] → ss' = ss ∧ g' = g := fun {ss' g'} e => by
    injection e with e
    injection e with ea e
    injection e with eb _
    exact ⟨(tupN_inj ea).symm, (tupN_inj eb).symm⟩
  have vv : v = .int 0 ∨ v = .int 1 := by
    simp only [List.mem_cons, List.not_mem_nil, or_false] at hv
    exact hv
  rcases vv with rfl | rfl
  · refine ⟨_, rfl, rfl, _, rfl, iteT ?_⟩
    refine ⟨TD.tb, fun HE exE tbE => ?_⟩
    have TE := TD.ext exE tbE
    obtain ⟨dxq, tq, hpE⟩ := TE.pl.own
    refine ⟨_, rfl, x, rfl, _, rfl, .inr ⟨dxq, _, hpE⟩, none, x, .ref T, cs, rows, 1, rfl, TE.pl, by omega, by decide, .inr ⟨_, (oneW (hT.kb TD.s (KpN.ext exE)).sq (hq.kb TD.s (KpN.ext exE)) (hr'.kb TD.s (KpN.ext exE)) l100 (by omega)).vl, fun ss' g' e ir' HF kF plF => ?_, fun n => absurd (rg_at.mpr ir) n⟩⟩
    obtain ⟨rfl, rfl⟩ := e2 e
    refine ⟨(by show 2 ≤ sizeLine; decide), fun tq htq => ?_⟩
    generalize hA : upd HF tq _ = HG
    obtain ⟨kG, eG⟩ := alloc hA htq
    clear hA
    exact hN2 _ _ ⟨tq, rfl, eG, fin HE HF HG tq exE tbE kF plF kG⟩
  · refine ⟨_, rfl, rfl, _, rfl, iteF ?_⟩
    refine ⟨TD.tb, fun HE exE tbE => ?_⟩
    have TE := TD.ext exE tbE
    obtain ⟨dxq, tq, hpE⟩ := TE.pl.own
    refine ⟨_, rfl, x, dxq, _, rfl, hpE, rfl, _, rfl, none, x, .ref T, cs, rows, 1, rfl, TE.pl, by omega, by decide, .inr ⟨_, (oneW (hT.kb TD.s (KpN.ext exE)).sq (hq.kb TD.s (KpN.ext exE)) (hr'.kb TD.s (KpN.ext exE)) l100 (by omega)).vl, fun ss' g' e ir' HF kF plF => ?_, fun n => absurd (rg_at.mpr ir) n⟩⟩
    obtain ⟨rfl, rfl⟩ := e2 e
    refine ⟨(by show 2 ≤ sizeLine; decide), fun tq htq => ?_⟩
    generalize hA : upd HF tq _ = HG
    obtain ⟨kG, eG⟩ := alloc hA htq
    clear hA
    exact hN2 _ _ ⟨tq, rfl, eG, fin HE HF HG tq exE tbE kF plF kG⟩
end
end Pl
namespace Pl
open PySem PySem.Spec PyProof.Rows L2
section
variable {P : Program} {w : World} {K : PySem.W.Frag} {mg : Str → Option Value} {base : Heap}
abbrev st_l_choose : Stmt := top 52
theorem sc_l_choose : FnScope ["_law_source_here", "_law_values"] ["_law_source_here", "_law_values"] (defScope st_l_choose) := ⟨rfl, rfl, rfl, by decide +kernel, rfl, by decide +kernel, by decide +kernel⟩
theorem ok_choose (B : Bn mg) (c_l_draw : Cal P w K mg base 2 "_law_draw" ["_law_source_here", "_law_many"] spDraw) (D : Df K mg "_law_choose" st_l_choose ["_law_source_here", "_law_values"]) : Cal P w K mg base 3 "_law_choose" ["_law_source_here", "_law_values"] spChoose := by
  refine D.cal sc_l_choose (fun vs H Q E h => ?_) (fun f cdv A out s H vs Q E hr h => ?_)
  · obtain ⟨a, l, xs, rfl, _⟩ := h
    rfl
  obtain ⟨a, l, xs, rfl, src, hl, la, n0, n1, k⟩ := h
  refine ⟨_, (pss_one (ps_ret (pe_ix ix_list (pv 1) (pe_fn c_l_draw (hr.mono (by decide)) (pa_cons (pv 0) (pa_cons (pe_callB call_len_seq (by rfl) B.n_len (by decide +kernel) (pa_cons (pv 1) pa_nil)) pa_nil))) (fun _ _ => rfl)))), ?_⟩
  refine ⟨_, rfl, _, rfl, _, rfl, l, _, rfl, .inl (SqL.of hl), ?_⟩
  refine ⟨a, xs.length, rfl, src, by omega, by omega, fun r H' r0 r1 s' kp => ?_⟩
  obtain ⟨v, hv, _, e⟩ := at_of_lt r0 r1
  exact ⟨l, _, _, _, rfl, rfl, SqL.of (kp _ _ la hl), e, k v _ hv s' kp⟩
end
end Pl
namespace Pl
open PySem PySem.Spec PyProof.Rows L2
theorem fi_of {K : PySem.W.Frag} {C : Addr} {m : Str} {g : Addr} (a : PySem.W.findIn K (.ref C) m = some (some (.ref g))) (i : PySem.W.fnIn K g = true) : ∀ f, PySem.W.findIn K (.ref C) m = some (some (.ref f)) → PySem.W.fnIn K f = true := fun f h => by
  rw [a] at h
  injection h with h
  injection h with h
  injection h with h
  rw [← h]
  exact i
end Pl
namespace Pl
open PySem PySem.Spec PyProof.Rows L2
theorem all_ok {P : Program} {w : World} {K : PySem.W.Frag} {mg : Str → Option Value} {h base : Heap} {CShare CDivision CPool CNoPerson CNoDivision CNoRing CNothingBetter CNothingDone : Addr} (X : K.In h) (G : h.Ns mainGlobals mg) (aShare : PySem.W.nsIn K mainGlobals "Share" = some (some (.ref CShare))) (sShare : ShF K CShare) (fShare : CallF K CShare) (mShare_init : MhK K CShare "__init__" "Share.__init__" st_ShInit) (mShare_len : MhK K CShare "__len__" "Share.__len__" st_Sh_len) (aDivision : PySem.W.nsIn K mainGlobals "Division" = some (some (.ref CDivision))) (sDivision : DvF K CDivision) (mDivision_init : MhK K CDivision "__init__" "Division.__init__" st_DvInit) (mDivision_getitem : MhK K CDivision "__getitem__" "Division.__getitem__" st_Di_getitem) (mDivision_text : MhK K CDivision "text" "Division.text" st_Di_text) (pShare_amounts : PhK K CShare "amounts" "Share.amounts" st_Sh_amounts) (pDivision_shares : PhK K CDivision "shares" "Division.shares" st_Di_shares) (pDivision_people : PhK K CDivision "people" "Division.people" st_Di_people) (pDivision_states : PhK K CDivision "states" "Division.states" st_Di_states) (d_is_integer : DfK K "is_integer" st_is_integer) (d_is_integer_to : DfK K "is_integer_to" st_is_integer_to) (d_is_amounts : DfK K "is_amounts" st_is_amounts) (d_spaced : DfK K "spaced" st_spaced) (d_check_pair : DfK K "check_pair" st_check_pair) (d_check_division : DfK K "check_division" st_check_division) (d_read_share : DfK K "read_share" st_read_share) (d_read_amount : DfK K "read_amount" st_read_amount) (d_rise : DfK K "rise" st_rise) (d_steps_around : DfK K "steps_around" st_steps_around) (d_is_pair : DfK K "is_pair" st_is_pair) (d_is_numbers : DfK K "is_numbers" st_is_numbers) (d_shows_ring : DfK K "shows_ring" st_shows_ring) (d_exchanged : DfK K "exchanged" st_exchanged) (d_l_cell : DfK K "_law_cell" st_l_cell) (d_l_source : DfK K "_law_source" st_l_source) (d_l_draw : DfK K "_law_draw" st_l_draw) (d_l_choose : DfK K "_law_choose" st_l_choose) (d_l_is_equal : DfK K "_law_is_equal" st_l_is_equal) (d_l_text : DfK K "_law_text" st_l_text) (d_l_division : DfK K "_law_division" st_l_division) (d_l_row : DfK K "_law_row" st_l_row) (d_l_rows : DfK K "_law_rows" st_l_rows) (d_l_sizes : DfK K "_law_sizes" st_l_sizes) (d_l_pairs : DfK K "_law_pairs" st_l_pairs) (d_l_are_below : DfK K "_law_are_below" st_l_are_below) (d_l_after : DfK K "_law_after" st_l_after) (d_l_is_ring : DfK K "_law_is_ring" st_l_is_ring) (d_l_some_ring : DfK K "_law_some_ring" st_l_some_ring) (d_l_near_ring : DfK K "_law_near_ring" st_l_near_ring) (d_l_odd_ring : DfK K "_law_odd_ring" st_l_odd_ring) (d_l_seen : DfK K "_law_seen" st_l_seen) (d_l_due : DfK K "_law_due" st_l_due) (d_l_said : DfK K "_law_said" st_l_said) (n_len : PySem.W.nsIn K mainGlobals "len" = some none) (n_range : PySem.W.nsIn K mainGlobals "range" = some none) (n_max : PySem.W.nsIn K mainGlobals "max" = some none) (n_min : PySem.W.nsIn K mainGlobals "min" = some none) (n_sum : PySem.W.nsIn K mainGlobals "sum" = some none) (n_sorted : PySem.W.nsIn K mainGlobals "sorted" = some none) (n_all : PySem.W.nsIn K mainGlobals "all" = some none) (n_isinstance : PySem.W.nsIn K mainGlobals "isinstance" = some none) (n_repr : PySem.W.nsIn K mainGlobals "repr" = some none) (n_tuple : PySem.W.nsIn K mainGlobals "tuple" = some none) (n_list : PySem.W.nsIn K mainGlobals "list" = some none) (n_int : PySem.W.nsIn K mainGlobals "int" = some none) (n_bool : PySem.W.nsIn K mainGlobals "bool" = some none) (n_zip : PySem.W.nsIn K mainGlobals "zip" = some none) (n_str : PySem.W.nsIn K mainGlobals "str" = some none) (n_set : PySem.W.nsIn K mainGlobals "set" = some none) (c_FEWEST_STATES : ConI K "FEWEST_STATES" 2) (c_MOST_STATES : ConI K "MOST_STATES" 6) (c_MOST_IN_A_STATE : ConI K "MOST_IN_A_STATE" 30) (c_FEWEST_PEOPLE : ConI K "FEWEST_PEOPLE" 2) (c_MOST_PEOPLE : ConI K "MOST_PEOPLE" 4) (c_SHORTEST_RING : ConI K "SHORTEST_RING" 2) (x_NoPerson : ExF K "NoPerson" CNoPerson) (x_NoDivision : ExF K "NoDivision" CNoDivision) (x_NoRing : ExF K "NoRing" CNoRing) (x_NothingBetter : ExF K "NothingBetter" CNothingBetter) (x_NothingDone : ExF K "NothingDone" CNothingDone) (cmR : CmK K CDivision "read" "Division.read" st_Di_read) (cvM : CvK K CDivision "MOST" 30) (aPool : PySem.W.nsIn K mainGlobals "Pool" = some (some (.ref CPool))) (sPool : PlF K CPool) (mPool_init : MhK K CPool "__init__" "Pool.__init__" st_Po_init) (mPool_exchange : MhK K CPool "exchange" "Pool.exchange" st_Po_exchange) (mPool_call : MhK K CPool "__call__" "Pool.__call__" st_Po_call) (mPool_change : MhK K CPool "change" "Pool.change" st_Po_change) (mPool_len : MhK K CPool "__len__" "Pool.__len__" st_Po_len) (mPool_repr : MhK K CPool "__repr__" "Pool.__repr__" st_Po_repr) (pPool_division : PhK K CPool "division" "Pool.division" st_Po_division) (pPool_changes : PhK K CPool "changes" "Pool.changes" st_Po_changes) (o_NoRing_NoDivision : PySem.W.exmOne K (.ref CNoRing) (.ref CNoDivision) = some false) (o_NoRing_NoPerson : PySem.W.exmOne K (.ref CNoRing) (.ref CNoPerson) = some false) (gD : ItemF K CDivision) (cnPool : ∃ u, Con K CPool "CALLED" (.str "Pool") u) (fiP : ∀ f, PySem.W.findIn K (.ref CPool) "__call__" = some (some (.ref f)) → PySem.W.fnIn K f = true) {c1 P1 : Addr} (h1 : PySem.W.tabIn K "law" = some (c1, P1)) (TB1 : LamX.TabB base mg c1 P1)  {f : Addr} {fd : FuncData} (Dl : LawT K st_law f fd c1) :
    FnG P w K mg base 16 f fd ["_law_script"] (spLaw K) := by
  have B : Bn mg := ⟨PySem.W.mg_none_of X G n_len, PySem.W.mg_none_of X G n_range, PySem.W.mg_none_of X G n_max, PySem.W.mg_none_of X G n_min, PySem.W.mg_none_of X G n_sum, PySem.W.mg_none_of X G n_sorted, PySem.W.mg_none_of X G n_all, PySem.W.mg_none_of X G n_isinstance, PySem.W.mg_none_of X G n_repr, PySem.W.mg_none_of X G n_tuple, PySem.W.mg_none_of X G n_list, PySem.W.mg_none_of X G n_int, PySem.W.mg_none_of X G n_bool, PySem.W.mg_none_of X G n_zip, PySem.W.mg_none_of X G n_str⟩
  have Cc : Cn mg := ⟨c_FEWEST_STATES.mg X G, c_MOST_STATES.mg X G, c_MOST_IN_A_STATE.mg X G⟩
  have S : ShK K mg CShare := sShare.k fShare (PySem.W.mg_of X G aShare)
  have Cdd : Cd mg := ⟨c_FEWEST_PEOPLE.mg X G, c_MOST_PEOPLE.mg X G⟩
  have SD : DvK K mg CDivision := sDivision.k (PySem.W.mg_of X G aDivision)
  have SPool : PlK K mg "Pool" CPool := sPool.k (PySem.W.mg_of X G aPool)
  have e_NoPerson := x_NoPerson.k X G
  have e_NoDivision := x_NoDivision.k X G
  have e_NoRing := x_NoRing.k X G
  have e_NothingBetter := x_NothingBetter.k X G
  have e_NothingDone := x_NothingDone.k X G
  have hm1 : (P1, qLam "law") ∈ [(P1, qLam "law")] := by simp
  have hu1 : ∀ p ∈ [(P1, qLam "law")], p.1 = P1 → p.2 = qLam "law" := by
    intro p hp e
    simp only [List.mem_cons, List.not_mem_nil, or_false] at hp
    rcases hp with rfl
    · rfl
  have c_isi := ok_isi (P := P) (w := w) (base := base) B (d_is_integer.df X G (fun _ _ _ _ _ _ us hl => match us, hl with | [_], _ => rfl))
  have c_isint := ok_isint c_isi (d_is_integer_to.df X G (fun _ _ _ _ _ _ us hl => match us, hl with | [_, _], _ => rfl))
  have c_isam := ok_isam B Cc c_isint (d_is_amounts.df X G (fun _ _ _ _ _ _ us hl => match us, hl with | [_], _ => rfl))
  have m_init := ok_init S c_isam (mShare_init.mh (fun _ _ _ _ _ _ us hl => match us, hl with | [_, _], _ => rfl))
  have p_amounts := ok_pamounts (P := P) (w := w) (base := base) S (pShare_amounts.ph (fun _ _ _ _ _ _ us hl => match us, hl with | [_], _ => rfl))
  have m_len := ok_len (P := P) (w := w) (base := base) B S (mShare_len.mh (fun _ _ _ _ _ _ us hl => match us, hl with | [_], _ => rfl))
  have c_pair := ok_pair B S m_len (d_check_pair.df X G (fun _ _ _ _ _ _ us hl => match us, hl with | [_, _], _ => rfl))
  have c_spaced := ok_spaced (P := P) (w := w) (base := base) B (d_spaced.df X G (fun _ _ _ _ _ _ us hl => match us, hl with | [_], _ => rfl))
  have c_rdA := ok_readAmount (P := P) (w := w) (base := base) B SD cvM (d_read_amount.df X G (fun _ _ _ _ _ _ us hl => match us, hl with | [_], _ => rfl))
  have c_rdS := ok_readShare B S m_init c_rdA (d_read_share.df X G (fun _ _ _ _ _ _ us hl => match us, hl with | [_], _ => rfl))
  have m_dinit := ok_dvInit B Cdd SD c_pair mDivision_init
  have c_read := ok_read B SD c_rdS m_dinit cmR
  have p_shares := ok_pshares (P := P) (w := w) (base := base) SD (pDivision_shares.ph (fun _ _ _ _ _ _ us hl => match us, hl with | [_], _ => rfl))
  have p_people := ok_people (P := P) (w := w) (base := base) (CShare:=CShare) B SD (pDivision_people.ph (fun _ _ _ _ _ _ us hl => match us, hl with | [_], _ => rfl))
  have p_states := ok_states B SD m_len (pDivision_states.ph (fun _ _ _ _ _ _ us hl => match us, hl with | [_], _ => rfl))
  have m_text := ok_text B S SD p_amounts c_spaced (mDivision_text.mh (fun _ _ _ _ _ _ us hl => match us, hl with | [_], _ => rfl))
  have m_item := ok_dvItem (CShare:=CShare) B SD e_NoPerson c_isint (mDivision_getitem.mh (fun _ _ _ _ _ _ us hl => match us, hl with | [_, _], _ => rfl))
  have c_chk := ok_checkD (P := P) (w := w) (base := base) (CShare:=CShare) B SD (d_check_division.df X G (fun _ _ _ _ _ _ us hl => match us, hl with | [_], _ => rfl))
  have c_rise := ok_rise S SD gD.fi p_amounts m_item (d_rise.df X G (fun _ _ _ _ _ _ us hl => match us, hl with | [_, _, _, _], _ => rfl))
  have c_steps := ok_stepsF (P := P) (w := w) (base := base) B (d_steps_around.df X G (fun _ _ _ _ _ _ us hl => match us, hl with | [_], _ => rfl))
  have c_isPair := ok_isPairF (P := P) (w := w) (base := base) B (d_is_pair.df X G (fun _ _ _ _ _ _ us hl => match us, hl with | [_], _ => rfl))
  have c_nums := ok_numsF B c_isint (d_is_numbers.df X G (fun _ _ _ _ _ _ us hl => match us, hl with | [_, _], _ => rfl))
  have c_showR := ok_showRF B (PySem.W.mg_none_of X G n_set) (c_SHORTEST_RING.mg X G) SD p_people p_states c_chk c_isPair c_nums c_steps c_rise (d_shows_ring.df X G (fun _ _ _ _ _ _ us hl => match us, hl with | [_, _], _ => rfl))
  have c_exch := ok_exchD e_NoRing B S SD p_amounts p_shares m_init m_dinit c_showR c_steps (d_exchanged.df X G (fun _ _ _ _ _ _ us hl => match us, hl with | [_, _], _ => rfl))
  have m_plInit := ok_plInit SPool c_chk (mPool_init.mh (fun _ _ _ _ _ _ us hl => match us, hl with | [_, _], _ => rfl))
  have p_div := ok_plDiv (P := P) (w := w) (base := base) (CDivision:=CDivision) (CShare:=CShare) SPool (pPool_division.ph (fun _ _ _ _ _ _ us hl => match us, hl with | [_], _ => rfl))
  have p_chg := ok_plChanges (P := P) (w := w) (base := base) (CDivision:=CDivision) (CShare:=CShare) B SPool (pPool_changes.ph (fun _ _ _ _ _ _ us hl => match us, hl with | [_], _ => rfl))
  have m_chg := ok_plChange (P := P) (w := w) (base := base) (CDivision:=CDivision) (CShare:=CShare) SPool (mPool_change.mh (fun _ _ _ _ _ _ us hl => match us, hl with | [_, _, _], _ => rfl))
  have m_exch := ok_plExch SPool p_div c_exch m_chg (mPool_exchange.mh (fun _ _ _ _ _ _ us hl => match us, hl with | [_, _], _ => rfl))
  have m_call := ok_plCall SPool m_exch (mPool_call.mh (fun _ _ _ _ _ _ us hl => match us, hl with | [_, _], _ => rfl))
  have m_lenP := ok_plLen B SD SPool p_div p_shares (mPool_len.mh (fun _ _ _ _ _ _ us hl => match us, hl with | [_], _ => rfl))
  have m_rep := ok_plRep (nm:=nmP[(0:Fin 4)]) (i:=0) SD SPool cnPool.choose_spec rfl p_div p_people p_states (mPool_repr.mh (fun _ _ _ _ _ _ us hl => match us, hl with | [_], _ => rfl))
  have c_cell := ok_cell (P := P) (w := w) (base := base) B (d_l_cell.df X G (fun _ _ _ _ _ _ us hl => match us, hl with | [_, _], _ => rfl))
  have c_source := ok_source (P := P) (w := w) (base := base) B (d_l_source.df X G (fun _ _ _ _ _ _ us hl => match us, hl with | [_], _ => rfl))
  have c_draw := ok_draw (P := P) (w := w) (base := base) (d_l_draw.df X G (fun _ _ _ _ _ _ us hl => match us, hl with | [_, _], _ => rfl))
  have c_choose := ok_choose B c_draw (d_l_choose.df X G (fun _ _ _ _ _ _ us hl => match us, hl with | [_, _], _ => rfl))
  have c_equal := ok_equal (P := P) (w := w) (base := base) B (d_l_is_equal.df X G (fun _ _ _ _ _ _ us hl => match us, hl with | [_, _], _ => rfl))
  have c_text := ok_textG (P := P) (w := w) (base := base) B (d_l_text.df X G (fun _ _ _ _ _ _ us hl => match us, hl with | [_], _ => rfl))
  have c_row := ok_row B c_draw (d_l_row.df X G (fun _ _ _ _ _ _ us hl => match us, hl with | [_, _, _, _, _], _ => rfl))
  have c_rows := ok_rowsT B c_draw c_row (d_l_rows.df X G (fun _ _ _ _ _ _ us hl => match us, hl with | [_, _, _, _], _ => rfl))
  have c_div := ok_ldivL B SD c_read c_text (d_l_division.df X G (fun _ _ _ _ _ _ us hl => match us, hl with | [_], _ => rfl))
  have c_sizes := ok_sizes c_draw (d_l_sizes.df X G (fun _ _ _ _ _ _ us hl => match us, hl with | [_, _], _ => rfl))
  have c_pairs := ok_pairs (P := P) (w := w) (base := base) B (d_l_pairs.df X G (fun _ _ _ _ _ _ us hl => match us, hl with | [_], _ => rfl))
  have c_below := ok_below (P := P) (w := w) (base := base) B (d_l_are_below.df X G (fun _ _ _ _ _ _ us hl => match us, hl with | [_, _], _ => rfl))
  have c_after := ok_after B c_pairs (d_l_after.df X G (fun _ _ _ _ _ _ us hl => match us, hl with | [_, _], _ => rfl))
  have c_isRg := ok_isRgL B c_below c_pairs (d_l_is_ring.df X G (fun _ _ _ _ _ _ us hl => match us, hl with | [_, _], _ => rfl))
  have c_some := ok_someRg B c_draw c_choose c_pairs c_isRg (d_l_some_ring.df X G (fun _ _ _ _ _ _ us hl => match us, hl with | [_, _, _], _ => rfl))
  have c_near := ok_nearRg B c_draw c_choose c_pairs (d_l_near_ring.df X G (fun _ _ _ _ _ _ us hl => match us, hl with | [_, _], _ => rfl))
  have c_odd := ok_oddRg B c_draw c_choose c_near (d_l_odd_ring.df X G (fun _ _ _ _ _ _ us hl => match us, hl with | [_, _, _], _ => rfl))
  have c_seen := ok_seen B SD SPool p_div p_chg m_lenP m_rep m_text (d_l_seen.df X G (fun _ _ _ _ _ _ us hl => match us, hl with | [_, _], _ => rfl))
  have c_due := ok_due B c_text (d_l_due.df X G (fun _ _ _ _ _ _ us hl => match us, hl with | [_, _, _, _], _ => rfl))
  exact ok_law B e_NoDivision e_NoPerson e_NoRing e_NothingBetter e_NothingDone o_NoRing_NoDivision o_NoRing_NoPerson SPool m_plInit m_exch m_call fiP h1 TB1 c_cell c_source c_draw c_choose c_rows c_div c_sizes c_after c_isRg c_some c_odd c_seen c_due c_equal (d_l_said.df X G (fun _ _ _ _ _ _ us hl => match us, hl with | [_], _ => rfl)) Dl
end Pl
namespace Pl
open PySem PySem.W PySem.Calls PyProof.Rows HandSHeadRun
abbrev RH : OpenRow := OpenLaw.row PySem.Challenge.rw_poolshares_k20_rings_are_exchanged
abbrev qH : Program := view RH.prog [69]
def lsH0 : List PySem.Str := ["_wall", "is_integer", "is_integer_to", "is_pair", "PoolError", "NoAmounts", "NoState", "NoNumber", "NoShare", "NoPeople", "NoPerson", "NoText", "NoDivision", "NoRing", "NothingBetter", "NothingDone", "FEWEST_STATES", "MOST_STATES", "MOST_IN_A_STATE", "Share"]
def lsH1 : List PySem.Str := ["is_amounts", "spaced", "check_pair", "FEWEST_PEOPLE", "MOST_PEOPLE", "Division", "check_division", "read_share", "read_amount", "SHORTEST_RING", "shows_ring", "exchanged", "rise", "is_numbers", "steps_around", "first_ring", "first_risers", "first_riser", "longer_chains", "first_people"]
def lsH2 : List PySem.Str := ["Pool", "check_alike", "_law_cell", "_law_source", "_law_draw", "_law_choose", "_law_is_equal", "_law_text", "_law_division", "_law_row", "_law_rows", "_law_pairs", "_law_after", "_law_are_below", "_law_is_ring", "_law_some_ring", "_law_near_ring", "_law_odd_ring", "_law_seen", "_law_due"]
def lsH3 : List PySem.Str := ["_law_said", "_law_sizes"]
def lsH : List PySem.Str := lsH0 ++ lsH1 ++ lsH2 ++ lsH3
end Pl
set_option hygiene false in
local macro_rules
  | `(tactic| o_head $H:term) => `(tactic| refine Pl.head_km (r := Pl.RH) (q := Pl.qH) (M := 12000) (loose := Pl.lsH) (d := HandSHeadRun.topDef Pl.RH.prog 69) (kwd := []) $H rfl (by kernel_rfl) (fun s => by kernel_rfl) (fun w os => by kernel_rfl) (by kernel_rfl) (by kernel_rfl) (by kernel_rfl) (by rfl) (by first | assumption | decide +kernel) (by decide +kernel) ⟨rfl, rfl, rfl, rfl, rfl, by decide +kernel⟩ ?hw ?hc)
open PySem PySem.W PyProof.Rows in
set_option maxRecDepth 100000 in
set_option maxHeartbeats 0 in
theorem PySem.Challenge.cw_poolshares_k20_rings_are_exchanged_holds : PySem.Challenge.rw_poolshares_k20_rings_are_exchanged.Holds := by
  w_on; o_law; k_head; (case hw => w_witness2)
  k_fill
  refine Pl.walkTL (l := PySem.Challenge.rw_poolshares_k20_rings_are_exchanged) (n := 63) (k := 16) (x := "_law_script") (sp := Pl.spLaw) (st := Pl.st_law) ([("law" : PySem.Str)]) (by simp) rfl (by decide) (by kernel_rfl) ⟨rfl, by decide, by decide⟩ (fun w h Y => PySem.W.km_in_of Y) ?R ?T ?nt ?dis (by kernel_rfl) ?D (fun _ _ _ _ _ _ us hl => match us, hl with | [_], _ => rfl) ?F (fun K H a ns hl hT hS => ⟨a, ns, rfl, hS, hl, hT, fun _ => rfl⟩)
  case R =>
    intro y hy
    simp only [List.mem_cons, List.not_mem_nil, or_false] at hy
    rcases hy with rfl <;> kernel_rfl
  case T =>
    intro w y hy
    simp only [List.mem_cons, List.not_mem_nil, or_false] at hy
    rcases hy with rfl <;> kernel_rfl
  case nt => exact fun w => by kernel_rfl
  case dis => exact fun w => by kernel_rfl
  case D =>
    intro w
    refine' Pl.DfK.of ?a ?l ?c ?k; (case a => k_is); (case l => k_is); (case c => k_is); (case k => k_is)
  case F =>
    intro w mg h KX G base kb nb tb ne f fd cL TL hL Df
    obtain ⟨c1, P1, h1, TB1⟩ := tb "law" (by simp)
    have eL := hL.symm.trans h1
    cases eL
    refine' Pl.all_ok KX G ?aShare ?sShare ?fShare ?mShare_init ?mShare_len ?aDivision ?sDivision ?mDivision_init ?mDivision_getitem ?mDivision_text ?pShare_amounts ?pDivision_shares ?pDivision_people ?pDivision_states ?d_is_integer ?d_is_integer_to ?d_is_amounts ?d_spaced ?d_check_pair ?d_check_division ?d_read_share ?d_read_amount ?d_rise ?d_steps_around ?d_is_pair ?d_is_numbers ?d_shows_ring ?d_exchanged ?d_l_cell ?d_l_source ?d_l_draw ?d_l_choose ?d_l_is_equal ?d_l_text ?d_l_division ?d_l_row ?d_l_rows ?d_l_sizes ?d_l_pairs ?d_l_are_below ?d_l_after ?d_l_is_ring ?d_l_some_ring ?d_l_near_ring ?d_l_odd_ring ?d_l_seen ?d_l_due ?d_l_said ?n_len ?n_range ?n_max ?n_min ?n_sum ?n_sorted ?n_all ?n_isinstance ?n_repr ?n_tuple ?n_list ?n_int ?n_bool ?n_zip ?n_str ?n_set ?c_FEWEST_STATES ?c_MOST_STATES ?c_MOST_IN_A_STATE ?c_FEWEST_PEOPLE ?c_MOST_PEOPLE ?c_SHORTEST_RING ?x_NoPerson ?x_NoDivision ?x_NoRing ?x_NothingBetter ?x_NothingDone ?cmR ?cvM ?aPool ?sPool ?mPool_init ?mPool_exchange ?mPool_call ?mPool_change ?mPool_len ?mPool_repr ?pPool_division ?pPool_changes ?o_NoRing_NoDivision ?o_NoRing_NoPerson ?gD ?cnPool ?fiP h1 TB1  Df
    (case aShare => k_is)
    (case sShare => refine' ⟨?pg, ?hd, ?po, ?sa, ?nB, ?mks, ?kc, ?ca, ?cg, ?ct, ?mro, ?kit⟩; (case pg => k_is); (case hd => k_is); (case po => k_is); (case sa => k_is); (case nB => k_is); (case mks => k_is); (case kc => k_is); (case ca => k_is); (case cg => k_is); (case ct => k_is); (case mro => k_is); (case kit => first | rfl | k_is))
    (case fShare => refine' Pl.CallF.of ?a ?i; (case a => k_is); (case i => k_is))
    (case mShare_init => refine' Pl.MhK.of ?a ?i ?l ?c ?k; (case a => k_is); (case i => k_is); (case l => k_is); (case c => k_is); (case k => k_is))
    (case mShare_len => refine' Pl.MhK.of ?a ?i ?l ?c ?k; (case a => k_is); (case i => k_is); (case l => k_is); (case c => k_is); (case k => k_is))
    (case aDivision => k_is)
    (case sDivision => refine' ⟨?pg, ?hd, ?po, ?sa, ?nP, ?mks, ?kc, ?ca, ?cg, ?ct, ?mro, ?kit⟩; (case pg => k_is); (case hd => k_is); (case po => k_is); (case sa => k_is); (case nP => k_is); (case mks => k_is); (case kc => k_is); (case ca => k_is); (case cg => k_is); (case ct => k_is); (case mro => k_is); (case kit => first | rfl | k_is))
    (case mDivision_init => refine' Pl.MhK.of ?a ?i ?l ?c ?k; (case a => k_is); (case i => k_is); (case l => k_is); (case c => k_is); (case k => k_is))
    (case mDivision_getitem => refine' Pl.MhK.of ?a ?i ?l ?c ?k; (case a => k_is); (case i => k_is); (case l => k_is); (case c => k_is); (case k => k_is))
    (case mDivision_text => refine' Pl.MhK.of ?a ?i ?l ?c ?k; (case a => k_is); (case i => k_is); (case l => k_is); (case c => k_is); (case k => k_is))
    (case pShare_amounts => refine' Pl.PhK.of ?a ?g ?t ?r ?l ?c ?k; (case a => k_is); (case g => k_is); (case t => k_is); (case r => k_is); (case l => k_is); (case c => k_is); (case k => k_is))
    (case pDivision_shares => refine' Pl.PhK.of ?a ?g ?t ?r ?l ?c ?k; (case a => k_is); (case g => k_is); (case t => k_is); (case r => k_is); (case l => k_is); (case c => k_is); (case k => k_is))
    (case pDivision_people => refine' Pl.PhK.of ?a ?g ?t ?r ?l ?c ?k; (case a => k_is); (case g => k_is); (case t => k_is); (case r => k_is); (case l => k_is); (case c => k_is); (case k => k_is))
    (case pDivision_states => refine' Pl.PhK.of ?a ?g ?t ?r ?l ?c ?k; (case a => k_is); (case g => k_is); (case t => k_is); (case r => k_is); (case l => k_is); (case c => k_is); (case k => k_is))
    (case d_is_integer => refine' Pl.DfK.of ?a ?l ?c ?k; (case a => k_is); (case l => k_is); (case c => k_is); (case k => k_is))
    (case d_is_integer_to => refine' Pl.DfK.of ?a ?l ?c ?k; (case a => k_is); (case l => k_is); (case c => k_is); (case k => k_is))
    (case d_is_amounts => refine' Pl.DfK.of ?a ?l ?c ?k; (case a => k_is); (case l => k_is); (case c => k_is); (case k => k_is))
    (case d_spaced => refine' Pl.DfK.of ?a ?l ?c ?k; (case a => k_is); (case l => k_is); (case c => k_is); (case k => k_is))
    (case d_check_pair => refine' Pl.DfK.of ?a ?l ?c ?k; (case a => k_is); (case l => k_is); (case c => k_is); (case k => k_is))
    (case d_check_division => refine' Pl.DfK.of ?a ?l ?c ?k; (case a => k_is); (case l => k_is); (case c => k_is); (case k => k_is))
    (case d_read_share => refine' Pl.DfK.of ?a ?l ?c ?k; (case a => k_is); (case l => k_is); (case c => k_is); (case k => k_is))
    (case d_read_amount => refine' Pl.DfK.of ?a ?l ?c ?k; (case a => k_is); (case l => k_is); (case c => k_is); (case k => k_is))
    (case d_rise => refine' Pl.DfK.of ?a ?l ?c ?k; (case a => k_is); (case l => k_is); (case c => k_is); (case k => k_is))
    (case d_steps_around => refine' Pl.DfK.of ?a ?l ?c ?k; (case a => k_is); (case l => k_is); (case c => k_is); (case k => k_is))
    (case d_is_pair => refine' Pl.DfK.of ?a ?l ?c ?k; (case a => k_is); (case l => k_is); (case c => k_is); (case k => k_is))
    (case d_is_numbers => refine' Pl.DfK.of ?a ?l ?c ?k; (case a => k_is); (case l => k_is); (case c => k_is); (case k => k_is))
    (case d_shows_ring => refine' Pl.DfK.of ?a ?l ?c ?k; (case a => k_is); (case l => k_is); (case c => k_is); (case k => k_is))
    (case d_exchanged => refine' Pl.DfK.of ?a ?l ?c ?k; (case a => k_is); (case l => k_is); (case c => k_is); (case k => k_is))
    (case d_l_cell => refine' Pl.DfK.of ?a ?l ?c ?k; (case a => k_is); (case l => k_is); (case c => k_is); (case k => k_is))
    (case d_l_source => refine' Pl.DfK.of ?a ?l ?c ?k; (case a => k_is); (case l => k_is); (case c => k_is); (case k => k_is))
    (case d_l_draw => refine' Pl.DfK.of ?a ?l ?c ?k; (case a => k_is); (case l => k_is); (case c => k_is); (case k => k_is))
    (case d_l_choose => refine' Pl.DfK.of ?a ?l ?c ?k; (case a => k_is); (case l => k_is); (case c => k_is); (case k => k_is))
    (case d_l_is_equal => refine' Pl.DfK.of ?a ?l ?c ?k; (case a => k_is); (case l => k_is); (case c => k_is); (case k => k_is))
    (case d_l_text => refine' Pl.DfK.of ?a ?l ?c ?k; (case a => k_is); (case l => k_is); (case c => k_is); (case k => k_is))
    (case d_l_division => refine' Pl.DfK.of ?a ?l ?c ?k; (case a => k_is); (case l => k_is); (case c => k_is); (case k => k_is))
    (case d_l_row => refine' Pl.DfK.of ?a ?l ?c ?k; (case a => k_is); (case l => k_is); (case c => k_is); (case k => k_is))
    (case d_l_rows => refine' Pl.DfK.of ?a ?l ?c ?k; (case a => k_is); (case l => k_is); (case c => k_is); (case k => k_is))
    (case d_l_sizes => refine' Pl.DfK.of ?a ?l ?c ?k; (case a => k_is); (case l => k_is); (case c => k_is); (case k => k_is))
    (case d_l_pairs => refine' Pl.DfK.of ?a ?l ?c ?k; (case a => k_is); (case l => k_is); (case c => k_is); (case k => k_is))
    (case d_l_are_below => refine' Pl.DfK.of ?a ?l ?c ?k; (case a => k_is); (case l => k_is); (case c => k_is); (case k => k_is))
    (case d_l_after => refine' Pl.DfK.of ?a ?l ?c ?k; (case a => k_is); (case l => k_is); (case c => k_is); (case k => k_is))
    (case d_l_is_ring => refine' Pl.DfK.of ?a ?l ?c ?k; (case a => k_is); (case l => k_is); (case c => k_is); (case k => k_is))
    (case d_l_some_ring => refine' Pl.DfK.of ?a ?l ?c ?k; (case a => k_is); (case l => k_is); (case c => k_is); (case k => k_is))
    (case d_l_near_ring => refine' Pl.DfK.of ?a ?l ?c ?k; (case a => k_is); (case l => k_is); (case c => k_is); (case k => k_is))
    (case d_l_odd_ring => refine' Pl.DfK.of ?a ?l ?c ?k; (case a => k_is); (case l => k_is); (case c => k_is); (case k => k_is))
    (case d_l_seen => refine' Pl.DfK.of ?a ?l ?c ?k; (case a => k_is); (case l => k_is); (case c => k_is); (case k => k_is))
    (case d_l_due => refine' Pl.DfK.of ?a ?l ?c ?k; (case a => k_is); (case l => k_is); (case c => k_is); (case k => k_is))
    (case d_l_said => refine' Pl.DfK.of ?a ?l ?c ?k; (case a => k_is); (case l => k_is); (case c => k_is); (case k => k_is))
    (case n_len => k_is)
    (case n_range => k_is)
    (case n_max => k_is)
    (case n_min => k_is)
    (case n_sum => k_is)
    (case n_sorted => k_is)
    (case n_all => k_is)
    (case n_isinstance => k_is)
    (case n_repr => k_is)
    (case n_tuple => k_is)
    (case n_list => k_is)
    (case n_int => k_is)
    (case n_bool => k_is)
    (case n_zip => k_is)
    (case n_str => k_is)
    (case n_set => k_is)
    (case c_FEWEST_STATES => refine' Pl.ConI.of ?a; (case a => k_is))
    (case c_MOST_STATES => refine' Pl.ConI.of ?a; (case a => k_is))
    (case c_MOST_IN_A_STATE => refine' Pl.ConI.of ?a; (case a => k_is))
    (case c_FEWEST_PEOPLE => refine' Pl.ConI.of ?a; (case a => k_is))
    (case c_MOST_PEOPLE => refine' Pl.ConI.of ?a; (case a => k_is))
    (case c_SHORTEST_RING => refine' Pl.ConI.of ?a; (case a => k_is))
    (case x_NoPerson => refine' ⟨?a, ?xn, ?kp, ?ba, ?ty, ?cl, ?su⟩; (case a => k_is); (case xn => k_exc); (case kp => k_is); (case ba => k_is); (case ty => k_is); (case cl => k_is); (case su => first | rfl | k_is))
    (case x_NoDivision => refine' ⟨?a, ?xn, ?kp, ?ba, ?ty, ?cl, ?su⟩; (case a => k_is); (case xn => k_exc); (case kp => k_is); (case ba => k_is); (case ty => k_is); (case cl => k_is); (case su => first | rfl | k_is))
    (case x_NoRing => refine' ⟨?a, ?xn, ?kp, ?ba, ?ty, ?cl, ?su⟩; (case a => k_is); (case xn => k_exc); (case kp => k_is); (case ba => k_is); (case ty => k_is); (case cl => k_is); (case su => first | rfl | k_is))
    (case x_NothingBetter => refine' ⟨?a, ?xn, ?kp, ?ba, ?ty, ?cl, ?su⟩; (case a => k_is); (case xn => k_exc); (case kp => k_is); (case ba => k_is); (case ty => k_is); (case cl => k_is); (case su => first | rfl | k_is))
    (case x_NothingDone => refine' ⟨?a, ?xn, ?kp, ?ba, ?ty, ?cl, ?su⟩; (case a => k_is); (case xn => k_exc); (case kp => k_is); (case ba => k_is); (case ty => k_is); (case cl => k_is); (case su => first | rfl | k_is))
    (case cmR => refine' Pl.CmK.of (mc := .type "type") ?rd ?ga ?ax ?rc ?fi ?l ?c ?k; (case rd => k_is); (case ga => k_is); (case ax => k_is); (case rc => k_is); (case fi => k_is); (case l => k_is); (case c => k_is); (case k => k_is))
    (case cvM => refine' Pl.CvK.of (mc := .type "type") ?rd ?ga ?ax; (case rd => k_is); (case ga => k_is); (case ax => k_is))
    (case aPool => k_is)
    (case sPool => refine' ⟨?pg, ?hd, ?po, ?sa, ?nC, ?nP, ?mks, ?kc⟩; (case pg => k_is); (case hd => k_is); (case po => k_is); (case sa => k_is); (case nC => k_is); (case nP => k_is); (case mks => k_is); (case kc => k_is))
    (case mPool_init => refine' Pl.MhK.of ?a ?i ?l ?c ?k; (case a => k_is); (case i => k_is); (case l => k_is); (case c => k_is); (case k => k_is))
    (case mPool_exchange => refine' Pl.MhK.of ?a ?i ?l ?c ?k; (case a => k_is); (case i => k_is); (case l => k_is); (case c => k_is); (case k => k_is))
    (case mPool_call => refine' Pl.MhK.of ?a ?i ?l ?c ?k; (case a => k_is); (case i => k_is); (case l => k_is); (case c => k_is); (case k => k_is))
    (case mPool_change => refine' Pl.MhK.of ?a ?i ?l ?c ?k; (case a => k_is); (case i => k_is); (case l => k_is); (case c => k_is); (case k => k_is))
    (case mPool_len => refine' Pl.MhK.of ?a ?i ?l ?c ?k; (case a => k_is); (case i => k_is); (case l => k_is); (case c => k_is); (case k => k_is))
    (case mPool_repr => refine' Pl.MhK.of ?a ?i ?l ?c ?k; (case a => k_is); (case i => k_is); (case l => k_is); (case c => k_is); (case k => k_is))
    (case pPool_division => refine' Pl.PhK.of ?a ?g ?t ?r ?l ?c ?k; (case a => k_is); (case g => k_is); (case t => k_is); (case r => k_is); (case l => k_is); (case c => k_is); (case k => k_is))
    (case pPool_changes => refine' Pl.PhK.of ?a ?g ?t ?r ?l ?c ?k; (case a => k_is); (case g => k_is); (case t => k_is); (case r => k_is); (case l => k_is); (case c => k_is); (case k => k_is))
    (case o_NoRing_NoDivision => refine' Pl.exm_at ?ba ?cl ?ty ?su; (case ba => k_is); (case cl => k_is); (case ty => k_is); (case su => k_is))
    (case o_NoRing_NoPerson => refine' Pl.exm_at ?ba ?cl ?ty ?su; (case ba => k_is); (case cl => k_is); (case ty => k_is); (case su => k_is))
    (case gD => refine' Pl.ItemF.of ?a ?i; (case a => k_is); (case i => k_is))
    (case cnPool => refine' ⟨_, ⟨?at_, ?rel, ?get, ?cp⟩⟩; (case at_ => k_is); (case rel => exact ⟨_, rfl⟩); (case get => first | rfl | k_is); (case cp => decide))
    (case fiP => refine' Pl.fi_of ?a ?i; (case a => k_is); (case i => k_is))
#print axioms PySem.Challenge.cw_poolshares_k20_rings_are_exchanged_holds
