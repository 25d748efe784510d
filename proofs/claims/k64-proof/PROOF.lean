import PyProof.Rows.All
import Wide.All
import OpenK.AllK
import Wide.FinOn
import HandS.ForMost
import HandS.ForExc
import HandS.IsInst
import HandS.Star
import HandS.Property
import HandS.Walk
import HandS.Style
import HandS.Zip
import PyProof.ReprRoads
import KE.KTupSum
import KE.KOpsOwn
import KE.DataMinMax
import HandS.TryMany
import HandS.Flow
import HandS.Conv
import HandS.Deep
import KE.KEqDeep
import KE.KRevSl
import HandS.TupAny
import HandS.FStr
import HandS.OwnEq
import HandS.Dict
import HandS.ClsMeth
import KE.KDictZip
import KE.GoesMore
import HandS.TupMul
import HandS.SortRule
import HandS.DictComp
import PyProof.StrOps2
import HandS.Zip0
import HandS.Exc
import HandS.ExcValue
import KE.KDictList
import KE.KTurns
import HandS.SortKw
import HandS.SetFor
import PyProof.EnumIter
import PyProof.ZipIter
import HandS.TupLe
import HandS.ExcIs
import KE.KStateDown
import HandS.Head0
import HandS.Head1
import HandS.Head2
import KE.KNestM
import PySem.Challenge.RW_poolshares_k64_any_value_as_a_verdict
set_option Elab.async false
set_option linter.all false
set_option maxRecDepth 100000
set_option maxHeartbeats 2000000
/-! Own words over the hand layer: calls where nothing is being shown (guards empty), so that repr may be asked. -/
namespace Pl
open PySem PySem.Spec PyProof.Rows L2

/-- a def that keeps its promise wherever no repr is under way -/
structure FnG (P : Program) (w : World) (K : PySem.W.Frag) (mg : Str → Option Value) (base : Heap) (k : Nat) (f : Addr)
    (fd : FuncData) (ps : List Str) (sp : Sp) : Prop where
  lng : ∀ vs H Q E, sp vs H Q E → vs.length = ps.length
  go : ∀ (A : Around) (out : List Env) (s : Shared) (H : Hp) (ar : Args) (us : List Value) (vs : List V) (Q : VK) (E : XK),
    A.guards = some [] → Room k A → Env0 P w K mg base A out s H → BindsTo s fd ar (ps.zip us) → Vals vs us → sp vs H Q E →
    codeAny (model P w) A (.call (.ref f) ar) (CR CX0 out P w H s Q E) s

section
variable {P : Program} {w : World} {K : PySem.W.Frag} {mg : Str → Option Value} {base : Heap}
theorem okG {x qual : Str} {st : Stmt} {f : Addr} {fd : FuncData} {N ps : List Str} {k : Nat} {sp : Sp}
    (D : Fun K x qual st f fd) (S : FnScope N ps (defScope st)) (lng : ∀ vs H Q E, sp vs H Q E → vs.length = ps.length)
    (bod : ∀ (cdv : Value) (A : Around) (out : List Env) (s : Shared) (H : Hp) (vs : List V) (Q : VK) (E : XK),
      A.guards = some [] → Room k (A.deeper (envOfC qual (defScope st) s.heap.objs.size f cdv)) → sp vs H Q E →
      ∃ t, PSs (cxOf CX0 P w K mg base N qual (defScope st) f cdv A out s H E).nox (defBody st) t ∧
        t { nx := fun _ H' => Q .non H', rt := Q } (start N vs) H) :
    FnG P w K mg base (k + 1) f fd ps sp := by
  obtain ⟨oc, od, kV, doc, pm, an, cdv, ct, osl, rfl, lk, hcd⟩ := D.ex
  refine ⟨lng, fun A out s H ar us vs Q E gd rm e0 bt rv hs => ?_⟩
  have inK : K.In s.heap := e0.mod.kin.keeps fun b o q => (e0.bs b o q).1
  have nl : s.heap.NoLimit := e0.mod.nolimit.keeps fun b o q => (e0.bs b o q).1
  have kinds : ∀ y ∈ ps.zip us, (defScope st).names.lookup y.1 = some .local ∨
      ((defScope st).names.lookup y.1 = some .cell ∧
        ((cellsFrom (s.heap.objs.size + 1) (defScope st).names []).lookup y.1).isSome = true) := by
    rintro ⟨n, v⟩ hy
    rcases S.par n (List.of_mem_zip hy).1 with c | c
    · exact .inl c
    · exact .inr ⟨c, PySem.W.cellsFrom_some _ _ _ (.inl c)⟩
  refine codeAny_call_function rm.depth (inK _ _ lk) rfl S.co S.gen rfl (PySem.W.codeRec_of inK hcd) (bt _ _ _ _ ?_)
  refine wpAny_newFunctionEnv_cells S.kind kinds fun env he s1 ic => ?_
  subst he
  refine ⟨nl.keeps ic.toInCall.keep, codeAny_func ?_⟩
  obtain ⟨t, ht0, hq⟩ := bod cdv A out s H vs Q E gd (rm.deeper _) hs
  have ht := ht0.nox
  have I : Inv (cxOf CX0 P w K mg base N qual (defScope st) f cdv A out s H E) [] (start N vs) H s1 :=
    inv_start S rm.hd e0 (lng _ _ _ _ hs) rv ic
  refine wpAny_mono (ht.run [] s1 (start N vs) H _ I hq) (fun fl s' z => ?_) fun e s' z => z
  cases fl with
  | ret u =>
    obtain ⟨v, σ', H', J, r, q⟩ := z
    exact ⟨v, H', J.os, J.bare, J.base, J.hok, r, q⟩
  | next =>
    obtain ⟨σ', H', J, q⟩ := z
    exact ⟨V.non, H', J.os, J.bare, J.base, J.hok, rfl, q⟩
  | brk =>
    obtain ⟨σ', H', J, q⟩ := z
    exact False.elim q
  | cont =>
    obtain ⟨σ', H', J, q⟩ := z
    exact False.elim q
end

/-- a def of the module by its name, as the top has left it -/
structure Df (K : PySem.W.Frag) (mg : Str → Option Value) (x : Str) (st : Stmt) (ps : List Str) : Prop where
  ex : ∃ f fd, Fun K x x st f fd ∧ mg x = some (.ref f) ∧ Binds K fd ps []
/-- a def by its name and its promise -/
structure Cal (P : Program) (w : World) (K : PySem.W.Frag) (mg : Str → Option Value) (base : Heap) (k : Nat) (x : Str) (ps : List Str) (sp : Sp) : Prop where
  ex : ∃ f fd, FnOk P w K mg base CX0 k f fd ps sp ∧ mg x = some (.ref f) ∧ PySem.W.keepIn K (.ref f) = true ∧ Binds K fd ps []
structure CalG (P : Program) (w : World) (K : PySem.W.Frag) (mg : Str → Option Value) (base : Heap) (k : Nat) (x : Str) (ps : List Str) (sp : Sp) : Prop where
  ex : ∃ f fd, FnG P w K mg base k f fd ps sp ∧ mg x = some (.ref f) ∧ PySem.W.keepIn K (.ref f) = true ∧ Binds K fd ps []
section
variable {P : Program} {w : World} {K : PySem.W.Frag} {mg : Str → Option Value} {base : Heap} {x : Str} {st : Stmt} {N ps : List Str} {k : Nat} {sp : Sp}
theorem Df.cal (D : Df K mg x st ps) (S : FnScope N ps (defScope st)) (lng : ∀ vs H Q E, sp vs H Q E → vs.length = ps.length)
    (bod : ∀ (f : Addr) (cdv : Value) (A : Around) (out : List Env) (s : Shared) (H : Hp) (vs : List V) (Q : VK) (E : XK),
      Room k (A.deeper (envOfC x (defScope st) s.heap.objs.size f cdv)) → sp vs H Q E →
      ∃ t, PSs (cxOf CX0 P w K mg base N x (defScope st) f cdv A out s H E).nox (defBody st) t ∧
        t { nx := fun _ H' => Q .non H', rt := Q } (start N vs) H) : Cal P w K mg base (k + 1) x ps sp := by
  obtain ⟨f, fd, F, hm, hb⟩ := D.ex
  exact ⟨f, fd, F.ok S lng (bod f), hm, F.kp, hb⟩
theorem Df.calG (D : Df K mg x st ps) (S : FnScope N ps (defScope st)) (lng : ∀ vs H Q E, sp vs H Q E → vs.length = ps.length)
    (bod : ∀ (f : Addr) (cdv : Value) (A : Around) (out : List Env) (s : Shared) (H : Hp) (vs : List V) (Q : VK) (E : XK),
      A.guards = some [] → Room k (A.deeper (envOfC x (defScope st) s.heap.objs.size f cdv)) → sp vs H Q E →
      ∃ t, PSs (cxOf CX0 P w K mg base N x (defScope st) f cdv A out s H E).nox (defBody st) t ∧
        t { nx := fun _ H' => Q .non H', rt := Q } (start N vs) H) : CalG P w K mg base (k + 1) x ps sp := by
  obtain ⟨f, fd, F, hm, hb⟩ := D.ex
  exact ⟨f, fd, okG F S lng (bod f), hm, F.kp, hb⟩
end
section
variable {X : Cx} {k : Nat} {x : Str} {ps : List Str} {sp : Sp} {p pos : Pos} {e : Expr} {es : List Expr} {t : TA}
/-- x(e, ..) -/
theorem pe_fn (c : Cal X.prog X.w X.K X.mg X.base k x ps sp) (hr : Room k X.A) (ha : PA X (e :: es) t) (hg : Gl X x := by rfl) (hdb : (x == ("__debug__" : Str)) = false := by decide)
    (he : starEach (e :: es) X.env = (false, eval e X.env) :: starEach es X.env := by rfl) (hpl : (backTo pos (starEach es X.env)).any (·.1) = false := by rfl) :
    PE X (.Call (.Name x p) (e :: es) [] pos) (tCall sp [] E0 t) := by
  obtain ⟨f, fd, F, hm, kp, hb⟩ := c.ex
  exact pe_call F hr hg hm kp hb .nil pass0 ha hdb he hpl
/-- the same where a repr may be asked within -/
theorem pe_fnG (c : CalG X.prog X.w X.K X.mg X.base k x ps sp) (gd : X.A.guards = some []) (hr : Room k X.A) (ha : PA X (e :: es) t) (hg : Gl X x := by rfl) (hdb : (x == ("__debug__" : Str)) = false := by decide)
    (he : starEach (e :: es) X.env = (false, eval e X.env) :: starEach es X.env := by rfl) (hpl : (backTo pos (starEach es X.env)).any (·.1) = false := by rfl) :
    PE X (.Call (.Name x p) (e :: es) [] pos) (tCall sp [] E0 t) := by
  obtain ⟨f, fd, F, hm, kp, hb⟩ := c.ex
  refine ⟨fun pins s σ H Q I h => wpAny_Call_Name_kw (ld_glob I hg hm ?_ hdb)⟩
  refine PySem.W.callWith_K (h₀ := X.base) I.ok.mod.kin kp (thn (ha.run pos pins s σ H _ I h) ?_) he hpl
  rintro us s1 ⟨vs, H1, J, r, q⟩
  refine ⟨J.kIn, ?_⟩
  have q2 : sp vs H1 Q E0 := by simpa using q
  have hl : us.length = ps.length := by rw [← r.length]; exact F.lng _ _ _ _ q2
  have bt : BindsTo s1 fd ⟨us, []⟩ (ps.zip us) := by simpa using hb s1 us J.kIn (by simpa using hl)
  refine wpAny_call (codeAny_mono (F.go X.A X.stack s1 H1 ⟨us, []⟩ us vs Q E0 gd hr J.env0 bt r q2) ?_)
  intro res s' z
  match res, z with
  | .ok (.ret u), z => exact J.after z
  | .ok .next, z => exact False.elim z
  | .ok .brk, z => exact False.elim z
  | .ok .cont, z => exact False.elim z
  | .error e, z => exact False.elim z
end

theorem un66 {k : Nat} {A : Around} (hr : Room k A) : A.units + 66 < cLine := by
  have := hr.un
  omega
/-! repr of data -/
section
variable {X : Cx}
theorem call_reprD (gd : X.A.guards = some []) (hu : X.A.units + 66 < cLine) :
    CallR X (.builtin "repr") (fun xs H Q => ∃ (a : Addr) (d : PyData), xs = [.ref a] ∧ Dp X.K H (.ref a) d ∧ d.showable = true ∧ d.hasDict = false ∧ d.depth ≤ 60 ∧ d.shown.length ≤ sizeLine ∧ Q (.str d.shown) H) := by
  intro pins s σ H xs us Q I r h
  obtain ⟨a, d, rfl, dp, sh, nd, dep, sz, q⟩ := h
  obtain ⟨u, rfl, ru⟩ := vals1 r
  obtain rfl : u = Value.ref a := ru
  obtain ⟨as, rd⟩ := Dp.reads I d _ _ dp rfl
  refine repr_of_reads' rd sh (PyData.noDict_hsm nd) gd (by omega) (fun _ _ e => e) (fun h' v tk hk => ?_) sz
  exact ⟨.str d.shown, H, I.kept hk, ⟨_, rfl⟩, q⟩

/-- len(o), o an instance whose class has its own __len__ -/
theorem call_lenO {k : Nat} {C f : Addr} {fd : FuncData} {ps : List Str} {sp : Sp} (hs : PySem.W.findIn X.K (.ref C) "__len__" = some (some (.ref f))) (hf : PySem.W.isFn X.K (.ref f) = true)
    (F : FnOk X.prog X.w X.K X.mg X.base CX0 k f fd ps sp) (hr : Room (k + 1) X.A) (hb : Binds X.K fd ps []) :
    CallR X (.builtin "len") (fun xs H Q => ∃ (a dx : Addr) (fs : List (Str × V)), xs = [.ref a] ∧ H a = some (.ins C dx fs) ∧
      sp [.ref a] H (fun v H' => ∃ n : Nat, v = .int n ∧ n ≤ 1000 ∧ Q (.int n) H') E0) := by
  intro pins s σ H xs us Q I r h
  obtain ⟨a, dx, fs, rfl, ea, h⟩ := h
  obtain ⟨u, rfl, ru⟩ := vals1 r
  obtain rfl : u = Value.ref a := ru
  obtain ⟨mA, O, _⟩ := ins_get I.hok ea
  obtain ⟨od, J, _⟩ := O.look
  obtain ⟨m, fr⟩ := I.fr
  refine PySem.W.len_K fr I.ok.mod.kin J hs hf ?_
  have hl : [V.ref a].length = ps.length := F.len _ _ _ _ h
  have bt : BindsTo s fd ⟨[.ref a], []⟩ (ps.zip [Value.ref a]) := by simpa using hb s [.ref a] I.kIn (by simpa using hl)
  refine wpAny_call (codeAny_mono (F.run X.A.in1 X.stack s H ⟨[.ref a], []⟩ [.ref a] [.ref a] _ E0 hr.in1 I.env0.in1 bt (.cons rfl .nil) h) ?_)
  intro res s' z
  match res, z with
  | .ok (.ret u), z =>
    obtain ⟨v, H', J2, rv, n, rfl, hn, q⟩ := I.after z
    obtain ⟨t, rfl⟩ := (show ∃ t, u = Value.int n t from rv)
    refine ⟨⟨by omega, by omega⟩, ⟨.int n, H', J2.tok _, ⟨_, rfl⟩, q⟩⟩
  | .ok .next, z => exact False.elim z
  | .ok .brk, z => exact False.elim z
  | .ok .cont, z => exact False.elim z
  | .error e, z => exact False.elim z
end

/-! sum and sorted of a tuple of ints -/
section
variable {prog : Program} {w : World} {A : Around} {E : Value → Shared → Prop} {s : Shared}
theorem collT {t : Addr} {us : List Value} {Q : List Value → Shared → Prop} (ht : s.heap.IsTuple t us.toArray) (hz : us.length ≤ sizeLine)
    (fin : ∀ h' : Heap, (∀ b o, s.heap.get? b = some o → h'.get? b = some o) → Q us { s with heap := h' }) :
    wpAny (model prog w) A (collect (.ref t)) Q E s := by
  obtain ⟨o, ho, hc, n, hd⟩ := ht
  have new : (s.heap.push (seqObj "list" #[] 0)).get? s.heap.objs.size = some (seqObj "list" #[] 0) := Heap.get?_push_size _ rfl
  unfold collect
  refine wpAny_bind (wpAny_runValue (codeAny_builtin entry_proto_collect' ?_))
  show wpAny _ _ (newList [] >>= fun l => again (.builtin "list.__iadd__" ⟨[l, .ref t], []⟩)) _ _ s
  refine wpAny_bind (wpAny_newList (wpAny_pure ⟨Code.quiet_builtin _ (by decide +kernel), codeAny_builtin entry_list_iadd' ?_⟩))
  have old : (s.heap.push (seqObj "list" #[] 0)).get? t = some o := Heap.get?_push_of_some _ ho
  show wpAny _ _ (Builtin.List.listExtendWith (.ref s.heap.objs.size) (.ref t) _) _ _ _
  unfold Builtin.List.listExtendWith; refine wpAny_bind (wpAny_typeOf (T := "tuple") ⟨o, old, hc⟩ ?_); rw [if_pos (by simp)]
  refine wpAny_bind (listItems_at old hd (wpAny_bind (listItems_at (xs := #[]) (n := 0) new rfl ?_)))
  rw [if_neg (by simp)]; refine wpAny_bind (listUpdate_at (xs := #[]) (n := 0) new rfl ?_ (Nat.zero_le _) (by simp; omega))
  refine wpAny_pure ?_; show wpAny (model prog w) A (load s.heap.objs.size >>= _) Q E _
  refine wpAny_bind (wpAny_load (get?_update_seq new _) ?_)
  have e : ((#[] : Array Value) ++ us.toArray).toList = us := by simp
  show wpAny _ _ (pure ((#[] : Array Value) ++ us.toArray).toList) Q E _
  rw [e]
  refine wpAny_pure (fin _ fun b o q => ?_)
  rw [Heap.get?_update_other _ _ (Nat.ne_of_gt (Heap.lt_size q))]
  exact Heap.get?_push_of_some _ q
end
section
variable {X : Cx}
theorem call_sumT (calm : X.calm = true) : CallR X (.builtin "sum") (fun vs H Q => ∃ (a : Addr) (ns : List Int), vs = [V.ref a] ∧ SqT X.K H a (ns.map V.int) ∧ Q (.int ns.sum) H) := by
  intro pins s σ H vs us Q I r h
  obtain ⟨a, ns, rfl, sq, q⟩ := h
  obtain ⟨its, rv, tp, _⟩ := I.tuple sq
  rw [Vals.ref1 r]
  have hi := rv.ints
  obtain ⟨xs, ex⟩ := hi.allInts.items
  have nn : numsOf (intItems xs).toList = ns := by rw [← ex]; exact hi.numsOf
  rw [nums_intItems] at nn
  have tp2 : s.heap.IsTuple a its.toArray := tp
  rw [ex] at tp2
  refine PySem.W.ktm_sumG (I.ok.hd calm) tp2 fun h' tk t' hk => ?_
  rw [preSum_eq, List.take_of_length_le (by simp), nn]
  exact ⟨.int _, H, I.kept hk, ⟨_, rfl⟩, q⟩
theorem call_sortedT : CallR X (.builtin "sorted") (fun vs H Q => ∃ (a : Addr) (ns : List Int), vs = [V.ref a] ∧ SqT X.K H a (ns.map V.int) ∧ ns.length < 64 ∧
    ∀ (ns' : List Int) (p : Addr), ns'.Perm ns → ns'.Pairwise (· ≤ ·) → H p = none → Q (.ref p) (upd H p (.lst (ns'.map V.int)))) := by
  intro pins s σ H vs us Q I r h
  obtain ⟨a, ns, rfl, sq, few, q⟩ := h
  obtain ⟨its, rv, tp, hz⟩ := I.tuple sq
  rw [Vals.ref1 r]
  have hi := rv.ints
  have len : its.length = ns.length := hi.length
  have small : its.length ≤ sizeLine := by rw [len]; exact Nat.le_of_lt (Nat.lt_of_lt_of_le few (by decide))
  refine Calls.call_function_entry kind_sorted plain_sorted entry_sorted (args_sorted1 _) ?_
  unfold Builtin.«sorted»
  refine wpAny_bind (m := checkCount "sorted" 1 1 _) (wpAny_pure ?_)
  refine wpAny_bind (collT (A := X.A.in1) tp small fun h1 kp => ?_)
  have I1 : Inv X pins σ H { s with heap := h1, toks := s.toks } := I.kept kp
  refine wpAny_bind (wpAny_newList ?_ small)
  have at1 : (h1.push (seqObj "list" its.toArray 0)).get? h1.objs.size = some (seqObj "list" its.toArray 0) := Heap.get?_push_size _ rfl
  refine wpAny_bind (wpAny_holding (wpAny_call_entry slot_list_sort ⟨_, at1, rfl⟩ entry_list_sort
    (list_sort_tree (s := { s with heap := h1.push (seqObj "list" its.toArray 0) }) at1 hi (by rw [len]; exact few) ?_) (args_list_sort _)))
  intro out ys g1 g2 g3
  refine ⟨_, rfl, ?_⟩
  obtain ⟨ep, at2⟩ := sortedHeap_at (vs := its) (out := out) at1
  have lens : (ys.map V.int).length ≤ sizeLine := by
    rw [List.length_map, g2.length_eq, ← len]
    exact small
  refine wpAny_pure ⟨_, rfl, .ref h1.objs.size, L2.upd H h1.objs.size (.lst (ys.map V.int)), I1.laid (t' := s.toks) (fun b u e => ?_) (Nat.le_refl _) ?_, rfl, q ys _ g2 g3 (I1.hok.fresh (Nat.le_refl _))⟩
  · have lt : b < h1.objs.size := Heap.lt_size e
    rw [sortedHeap_old (Nat.ne_of_lt lt) (by rw [size_push']; exact Nat.lt_succ_of_lt lt)]
    exact Heap.get?_push_of_some _ e
  · exact (show ObjOk X.prog X.w _ _ _ (.lst (ys.map V.int)) from ⟨lens, out.toList, ep, vals_of_ints g1, by rw [Array.toArray_toList]; exact at2⟩)
end

/-! the end of a law whose call shows data -/
theorem lawG {P : Program} {w : World} {K : PySem.W.Frag} {mg mb : Str → Option Value} {k : Nat} {fa a : Addr} {x : Str} {sp : Sp} {s1 : Shared} {vs : List Value} {ns : List Int}
    (KX : K.In s1.heap) (gns : s1.heap.Ns mainGlobals mg) (bns : s1.heap.Ns builtinsNs mb) (boot : ∀ x : Str, x ≠ "__name__" → mb x = bootBuiltins x) (nl : s1.heap.NoLimit) (gn : s1.gens = #[])
    (ha : s1.heap.get? a = some { cls := .type "list", data := .seq vs.toArray }) (hi : IntsAre vs ns) (hl : ns.length ≤ sizeLine) (hr : Room k callerA)
    (F : ∀ base : Heap, K.In base → base.Ns mainGlobals mg → ∃ fd : FuncData, FnG P w K mg base k fa fd [x] sp ∧ Binds K fd [x] [])
    (prom : ∀ H : Hp, Only H → SqL K H a (ns.map V.int) → sp [.ref a] H (fun v _ => v = .bl true) fun _ _ _ => False) :
    codeAny (model P w) callerA (.call (.ref fa) ⟨[.ref a], []⟩) (fun r s' => r = .ok (.ret (.bool true)) ∧ OldK s1.heap s'.heap ∧ s'.os = s1.os ∧ AllBare s'.gens) s1 := by
  suffices main : ∀ H : Hp, Only H → SqL K H a (ns.map V.int) → HOk P w H s1.heap → (∀ b u, H b = some u → b = a ∧ K.lookup a = none) →
      codeAny (model P w) callerA (.call (.ref fa) ⟨[.ref a], []⟩) (fun r s' => r = .ok (.ret (.bool true)) ∧ OldK s1.heap s'.heap ∧ s'.os = s1.os ∧ AllBare s'.gens) s1 by
    cases lk : K.lookup a with
    | some o =>
      have same := (KX a o lk).symm.trans ha
      cases same
      refine main (fun _ => none) (fun _ => .inl rfl) (.inr ⟨_, vs.toArray, _, lk, rfl, rfl, rfl, ?_, ?_⟩) (fun b u z => nomatch z) (fun b u z => nomatch z)
      · rw [List.size_toArray, hi.length]
        exact hl
      · simpa using vals_ints hi
    | none =>
      refine main (fun b => if b = a then some (.frz { cls := .type "list", data := .seq vs.toArray } (.lst (ns.map V.int))) else none) ?_ (.inl (.inr ⟨_, if_pos rfl⟩)) ?_ ?_
      · intro b
        by_cases q : b = a
        · exact .inr ⟨_, _, if_pos q⟩
        · exact .inl (if_neg q)
      · intro b u z
        by_cases q : b = a
        · subst q
          have z2 := (if_pos rfl).symm.trans z
          cases z2
          exact ⟨ha, by rw [List.length_map]; exact hl, vs, _, vals_ints hi, ha⟩
        · have z2 := (if_neg q).symm.trans z
          cases z2
      · intro b u z
        by_cases q : b = a
        · exact ⟨q, lk⟩
        · have z2 := (if_neg q).symm.trans z
          cases z2
  intro H hO hS hok only
  have seen : ∀ {b : Addr} {o : Obj} {es : Array DictEntry} {ep : Nat}, s1.heap.get? b = some o → o.data = .dict es ep → H b = none := by
    intro b o es ep e d
    cases q : H b with
    | none => rfl
    | some u =>
      obtain ⟨rfl, _⟩ := only b u q
      rw [ha] at e
      cases e
      cases (show Data.seq vs.toArray _ = Data.dict es ep from d)
  have ns_of : ∀ {b : Addr} {m : Str → Option Value}, s1.heap.Ns b m → (hidT s1.heap H).Ns b m := by
    rintro b m ⟨o, es, ep, e, d, r⟩
    exact ⟨o, es, ep, hidT_get e (seen e d), d, r⟩
  have kb : K.In (hidT s1.heap H) := by
    intro b o e
    refine hidT_get (KX b o e) ?_
    cases q : H b with
    | none => rfl
    | some u =>
      obtain ⟨rfl, z⟩ := only b u q
      rw [z] at e
      cases e
  have md : Mod K mg (hidT s1.heap H) := ⟨kb, ns_of gns, ⟨mb, ns_of bns, boot⟩, let ⟨mc, p, q⟩ := nl; ⟨mc, ns_of p, q⟩⟩
  have e0 : Env0 P w K mg (hidT s1.heap H) callerA [] s1 H := by
    refine ⟨rfl, md, fun b o e => of_hidT e, Nat.le_of_eq (hidT_size _ _), trivial, fun b z => ?_, hok, .of_eq gn⟩
    exact absurd (show b ∈ ([] : List Addr) from z) (by simp)
  obtain ⟨fd, Fg, bnd⟩ := F _ kb (ns_of gns)
  refine codeAny_mono (Fg.go callerA [] s1 H _ [.ref a] [.ref a] _ _ rfl hr e0 (bnd s1 [.ref a] KX rfl) (.cons rfl .nil) (prom H hO hS)) ?_
  intro r s' z
  match r, z with
  | .ok (.ret u), z =>
    obtain ⟨v, H', os, bare, un, hok', rv, q⟩ := z
    obtain rfl : v = .bl true := q
    obtain rfl : u = Value.bool true := rv
    refine ⟨rfl, OldK.of_keep fun b o e => ?_, os, bare⟩
    cases q : H b with
    | none => exact un.keep b o e q (fun z => absurd (show b ∈ ([] : List Addr) from z) (by simp)) (by simp)
    | some u =>
      rcases hO b with z | ⟨ob, xs, z⟩
      · rw [q] at z
        cases z
      · obtain ⟨p1, _⟩ := hok b _ z
        obtain ⟨p2, _⟩ := hok' b _ (un.frzs b ob _ z)
        rw [e] at p1
        cases p1
        exact p2
  | .ok .next, z => exact False.elim z
  | .ok .brk, z => exact False.elim z
  | .ok .cont, z => exact False.elim z
  | .error e, z => exact False.elim z

theorem walkG {l : PySem.W.OpenLaw} {n k : Nat} {q : Program} {loose : List Str} {XP : (Str → Option Value) → Heap → Prop} {YP : World → Heap → Prop} {d : DefRec} {K : Params → PySem.W.Frag} {sp : PySem.W.Frag → Sp} {x : Str}
    (hn : l.most = some n) (small : n ≤ sizeLine) (hdf : d.params.defaults = []) (hr : Room k callerA) (hY : ∀ (w : World) (h : Heap), YP w h → (K w.params).In h)
    (F : ∀ (w : World) (mg : Str → Option Value) (fa : Addr) (h : Heap), (K w.params).In h → h.Ns mainGlobals mg → mg d.name = some (.ref fa) →
      ∀ base : Heap, (K w.params).In base → base.Ns mainGlobals mg → ∃ fd : FuncData, FnG l.prog w (K w.params) mg base k fa fd [x] (sp (K w.params)) ∧ Binds (K w.params) fd [x] [])
    (prom : ∀ (K : PySem.W.Frag) (H : Hp) (a : Addr) (ns : List Int), ns.length ≤ n → Only H → SqL K H a (ns.map V.int) → sp K [.ref a] H (fun v _ => v = .bl true) fun _ _ _ => False) :
    PySem.W.WalkO q loose XP YP l.row.toRowW d [] (fun f vs => PySem.call f vs) := by
  refine Att.attach_call hn hdf ?_
  intro w s0 s1 mg mb fa o pm cd doc a vs ns G Y ho hd hcd hmg hobj hints hlen hg
  exact lawG (hY w _ Y) G.T.g G.T.b G.T.builtins G.T.nolimit hg hobj hints (Nat.le_trans hlen small) hr (F w mg fa _ (hY w _ Y) G.T.g hmg) fun H hO hS => prom _ H a ns hlen hO hS
theorem CalG.at {P : Program} {w : World} {K : PySem.W.Frag} {mg : Str → Option Value} {base : Heap} {k : Nat} {x : Str} {ps : List Str} {sp : Sp} {fa : Addr} (c : CalG P w K mg base k x ps sp) (h : mg x = some (.ref fa)) :
    ∃ fd : FuncData, FnG P w K mg base k fa fd ps sp ∧ Binds K fd ps [] := by
  obtain ⟨f, fd, F, hm, _, hb⟩ := c.ex
  rw [hm] at h
  cases h
  exact ⟨fd, F, hb⟩
end Pl
namespace Pl
open PySem PySem.Spec PyProof.Rows L2
/-- a method of the class at C, as the top has left it -/
structure Mh (K : PySem.W.Frag) (C : Addr) (m qual : Str) (st : Stmt) (ps : List Str) : Prop where
  ex : ∃ f fd, Fun K m qual st f fd ∧ PySem.W.findIn K (.ref C) m = some (some (.ref f)) ∧ PySem.W.isFn K (.ref f) = true ∧ Binds K fd ps []
structure MCal (P : Program) (w : World) (K : PySem.W.Frag) (mg : Str → Option Value) (base : Heap) (k : Nat) (C : Addr) (m : Str) (ps : List Str) (sp : Sp) : Prop where
  ex : ∃ f fd, FnOk P w K mg base CX0 k f fd ps sp ∧ PySem.W.findIn K (.ref C) m = some (some (.ref f)) ∧ PySem.W.isFn K (.ref f) = true ∧ PySem.W.keepIn K (.ref f) = true ∧ Binds K fd ps []
/-- a property's getter -/
structure Ph (K : PySem.W.Frag) (C : Addr) (m qual : Str) (st : Stmt) (ps : List Str) : Prop where
  ex : ∃ p f fd, Fun K m qual st f fd ∧ PropOf K C m p f ∧ Binds K fd ps []
structure PCal (P : Program) (w : World) (K : PySem.W.Frag) (mg : Str → Option Value) (base : Heap) (k : Nat) (C : Addr) (m : Str) (ps : List Str) (sp : Sp) : Prop where
  ex : ∃ p f fd, FnOk P w K mg base CX0 k f fd ps sp ∧ PropOf K C m p f ∧ Binds K fd ps []
section
variable {P : Program} {w : World} {K : PySem.W.Frag} {mg : Str → Option Value} {base : Heap} {C : Addr} {x qual : Str} {st : Stmt} {N ps : List Str} {k : Nat} {sp : Sp}
theorem Mh.cal (D : Mh K C x qual st ps) (S : FnScope N ps (defScope st)) (lng : ∀ vs H Q E, sp vs H Q E → vs.length = ps.length)
    (bod : ∀ (f : Addr) (cdv : Value) (A : Around) (out : List Env) (s : Shared) (H : Hp) (vs : List V) (Q : VK) (E : XK),
      Room k (A.deeper (envOfC qual (defScope st) s.heap.objs.size f cdv)) → sp vs H Q E →
      ∃ t, PSs (cxOf CX0 P w K mg base N qual (defScope st) f cdv A out s H E).nox (defBody st) t ∧
        t { nx := fun _ H' => Q .non H', rt := Q } (start N vs) H) : MCal P w K mg base (k + 1) C x ps sp := by
  obtain ⟨f, fd, F, h1, h2, hb⟩ := D.ex
  exact ⟨f, fd, F.ok S lng (bod f), h1, h2, F.kp, hb⟩
theorem Ph.cal (D : Ph K C x qual st ps) (S : FnScope N ps (defScope st)) (lng : ∀ vs H Q E, sp vs H Q E → vs.length = ps.length)
    (bod : ∀ (f : Addr) (cdv : Value) (A : Around) (out : List Env) (s : Shared) (H : Hp) (vs : List V) (Q : VK) (E : XK),
      Room k (A.deeper (envOfC qual (defScope st) s.heap.objs.size f cdv)) → sp vs H Q E →
      ∃ t, PSs (cxOf CX0 P w K mg base N qual (defScope st) f cdv A out s H E).nox (defBody st) t ∧
        t { nx := fun _ H' => Q .non H', rt := Q } (start N vs) H) : PCal P w K mg base (k + 1) C x ps sp := by
  obtain ⟨p, f, fd, F, h1, hb⟩ := D.ex
  exact ⟨p, f, fd, F.ok S lng (bod f), h1, hb⟩
end
section
variable {X : Cx} {k : Nat} {C : Addr} {ps : List Str} {sp : Sp} {p pos : Pos} {x : Str} {e : Expr} {es : List Expr} {t : TA} {te ta : TE}
/-- C(e, ..) -/
theorem pe_mk (c : MCal X.prog X.w X.K X.mg X.base k C "__init__" ps sp) (mk : PySem.W.makesIn X.K C = true) (kc : PySem.W.keepIn X.K (.ref C) = true) (hm : X.mg x = some (.ref C)) (hr : Room (k + 1) X.A) (ha : PA X (e :: es) t)
    (hg : Gl X x := by rfl) (hdb : (x == ("__debug__" : Str)) = false := by decide)
    (he : starEach (e :: es) X.env = (false, eval e X.env) :: starEach es X.env := by rfl) (hpl : (backTo pos (starEach es X.env)).any (·.1) = false := by rfl) :
    PE X (.Call (.Name x p) (e :: es) [] pos) (tMake C sp [] E0 t) := by
  obtain ⟨f, fd, F, h1, h2, kp, hb⟩ := c.ex
  exact pe_make ⟨mk, h1, h2, kc⟩ F hr hg hm hb .nil pass0 ha hdb he hpl
/-- o.f, a property -/
theorem pe_pr {f : Str} (c : PCal X.prog X.w X.K X.mg X.base k C f ps sp) (cl : Cls X.K C) (hr : Room (k + 1) X.A) (he : PE X e te)
    (hab : attributeBase e f X.env (eval e X.env) = eval e X.env := by rfl) : PE X (.Attribute e f pos) (tProp C sp [] E0 te) := by
  obtain ⟨q, f', fd, F, h1, hb⟩ := c.ex
  exact pe_prop he cl h1 F hr hb .nil pass0 hab
/-- len(o) -/
theorem call_lenM (c : MCal X.prog X.w X.K X.mg X.base k C "__len__" ps sp) (hr : Room (k + 1) X.A) :
    CallR X (.builtin "len") (fun xs H Q => ∃ (a dx : Addr) (fs : List (Str × V)), xs = [.ref a] ∧ H a = some (.ins C dx fs) ∧
      sp [.ref a] H (fun v H' => ∃ n : Nat, v = .int n ∧ n ≤ 1000 ∧ Q (.int n) H') E0) := by
  obtain ⟨f, fd, F, h1, h2, kp, hb⟩ := c.ex
  exact call_lenO h1 h2 F hr hb
/-- o(e, ..), an instance of C called -/
def tCallP (C : Addr) (sp : Sp) (tf : TE) (t : TA) : TE := fun σ H Q => tf σ H fun y H1 => ∃ a, y = V.ref a ∧ t σ H1 fun vs H2 =>
  ((∃ dx vs, SlX.Slt H2 a C dx vs) ∨ ∃ dx fs, H2 a = some (.ins C dx fs)) ∧ sp (V.ref a :: vs) H2 Q E0
/-- o(e, ..) -/
theorem pe_callM {fe : Expr} {tf : TE} (c : MCal X.prog X.w X.K X.mg X.base k C "__call__" ps sp) (fi : ∀ f, PySem.W.findIn X.K (.ref C) "__call__" = some (some (.ref f)) → PySem.W.fnIn X.K f = true) (hr : Room k X.A) (hf : PE X fe tf) (ha : PA X (e :: es) t)
    (ht : eval (.Call fe (e :: es) [] pos) X.env = (do callWith pos (← eval fe X.env) [] (backTo pos (starEach (e :: es) X.env)) (backToKw pos (keywordEach [] X.env))) := by rfl)
    (he : starEach (e :: es) X.env = (false, eval e X.env) :: starEach es X.env := by rfl) (hpl : (backTo pos (starEach es X.env)).any (·.1) = false := by rfl) :
    PE X (.Call fe (e :: es) [] pos) (tCallP C sp tf t) := by
  obtain ⟨f, fd, F, h1, h2, kp, hb⟩ := c.ex
  have R : FnR X.prog X.w X.K X.mg X.base CX0 k f sp := (F.raw hb .nil).imp fun vs H Q E h => by simpa using h
  show PE X (.Call fe (e :: es) [] pos) (StX.tCallO X C sp E0 tf t)
  exact StX.pe_callO hf ⟨h1, h2, fi f h1⟩ R hr pass0 ha ht he hpl
end
/-! what the head shows of each def -/
def FnAt (K : PySem.W.Frag) (f : Addr) (x qual : Str) (st : Stmt) : Prop := ∃ (od an : Option Addr) (sl : Array (Option Value)) (oc kV dc pm cd ct : Value),
  K.lookup f = some ⟨oc, od, .func (PySem.W.fnOf x qual (defArgs st) (defBody st) (defScope st) .none kV dc pm an cd ct), sl⟩ ∧ PySem.W.codeIn K cd qual = true ∧ PySem.W.keepIn K (.ref f) = true
/-- the parameters, all given -/
def BindOk (x qual : Str) (st : Stmt) (ps : List Str) : Prop := ∀ (kV doc pm : Value) (an : Option Addr) (cdv ct : Value) (us : List Value), us.length = ps.length →
  bindArgs (PySem.W.fnOf x qual (defArgs st) (defBody st) (defScope st) .none kV doc pm an cdv ct) ⟨us, []⟩ = pure (ps.zip us)
structure DfK (K : PySem.W.Frag) (x : Str) (st : Stmt) : Prop where
  ex : ∃ f, PySem.W.nsIn K mainGlobals x = some (some (.ref f)) ∧ FnAt K f x x st
theorem DfK.df {K : PySem.W.Frag} {h : Heap} {mg : Str → Option Value} {x : Str} {st : Stmt} {ps : List Str} (d : DfK K x st) (X : K.In h) (G : h.Ns mainGlobals mg) (b : BindOk x x st ps) : Df K mg x st ps := by
  obtain ⟨f, a, od, an, sl, oc, kV, dc, pm, cd, ct, l, c, k⟩ := d.ex
  have F := fun_mk (st := st) l c k
  exact ⟨f, _, F, PySem.W.mg_of X G a, F.binds b⟩
structure MhK (K : PySem.W.Frag) (C : Addr) (x qual : Str) (st : Stmt) : Prop where
  ex : ∃ f, PySem.W.findIn K (.ref C) x = some (some (.ref f)) ∧ PySem.W.isFn K (.ref f) = true ∧ FnAt K f x qual st
theorem MhK.mh {K : PySem.W.Frag} {C : Addr} {x qual : Str} {st : Stmt} {ps : List Str} (d : MhK K C x qual st) (b : BindOk x qual st ps) : Mh K C x qual st ps := by
  obtain ⟨f, a, i, od, an, sl, oc, kV, dc, pm, cd, ct, l, c, k⟩ := d.ex
  have F := fun_mk (st := st) l c k
  exact ⟨f, _, F, a, i, F.binds b⟩
structure PhK (K : PySem.W.Frag) (C : Addr) (x qual : Str) (st : Stmt) : Prop where
  ex : ∃ p f, PySem.W.findIn K (.ref C) x = some (some (.ref p)) ∧ PySem.W.specialIn K (.ref p) "__get__" = some (some (.builtin "property.__get__")) ∧ PySem.W.takesIn K (.ref p) = some true ∧
    (∃ rest, PySem.W.recIn K p "property" = some (.ref f :: rest)) ∧ FnAt K f x qual st
theorem PhK.ph {K : PySem.W.Frag} {C : Addr} {x qual : Str} {st : Stmt} {ps : List Str} (d : PhK K C x qual st) (b : BindOk x qual st ps) : Ph K C x qual st ps := by
  obtain ⟨p, f, a, g, t, r, od, an, sl, oc, kV, dc, pm, cd, ct, l, c, k⟩ := d.ex
  have F := fun_mk (st := st) l c k
  exact ⟨p, f, _, F, ⟨a, g, t, r⟩, F.binds b⟩
theorem DfK.of {K : PySem.W.Frag} {x : Str} {st : Stmt} {f : Addr} {od an : Option Addr} {sl : Array (Option Value)} {oc kV dc pm cd ct : Value}
    (a : PySem.W.nsIn K mainGlobals x = some (some (.ref f))) (l : K.lookup f = some ⟨oc, od, .func (PySem.W.fnOf x x (defArgs st) (defBody st) (defScope st) .none kV dc pm an cd ct), sl⟩) (c : PySem.W.codeIn K cd x = true) (k : PySem.W.keepIn K (.ref f) = true) : DfK K x st := ⟨⟨f, a, od, an, sl, oc, kV, dc, pm, cd, ct, l, c, k⟩⟩
theorem MhK.of {K : PySem.W.Frag} {C : Addr} {x qual : Str} {st : Stmt} {f : Addr} {od an : Option Addr} {sl : Array (Option Value)} {oc kV dc pm cd ct : Value}
    (a : PySem.W.findIn K (.ref C) x = some (some (.ref f))) (i : PySem.W.isFn K (.ref f) = true) (l : K.lookup f = some ⟨oc, od, .func (PySem.W.fnOf x qual (defArgs st) (defBody st) (defScope st) .none kV dc pm an cd ct), sl⟩) (c : PySem.W.codeIn K cd qual = true) (k : PySem.W.keepIn K (.ref f) = true) : MhK K C x qual st := ⟨⟨f, a, i, od, an, sl, oc, kV, dc, pm, cd, ct, l, c, k⟩⟩
theorem PhK.of {K : PySem.W.Frag} {C p : Addr} {x qual : Str} {st : Stmt} {f : Addr} {rest : List Value} {od an : Option Addr} {sl : Array (Option Value)} {oc kV dc pm cd ct : Value}
    (a : PySem.W.findIn K (.ref C) x = some (some (.ref p))) (g : PySem.W.specialIn K (.ref p) "__get__" = some (some (.builtin "property.__get__"))) (t : PySem.W.takesIn K (.ref p) = some true)
    (r : PySem.W.recIn K p "property" = some (.ref f :: rest)) (l : K.lookup f = some ⟨oc, od, .func (PySem.W.fnOf x qual (defArgs st) (defBody st) (defScope st) .none kV dc pm an cd ct), sl⟩) (c : PySem.W.codeIn K cd qual = true) (k : PySem.W.keepIn K (.ref f) = true) : PhK K C x qual st := ⟨⟨p, f, a, g, t, ⟨rest, r⟩, od, an, sl, oc, kV, dc, pm, cd, ct, l, c, k⟩⟩
structure CallF (K : PySem.W.Frag) (C : Addr) : Prop where
  ex : ∃ f, PySem.W.findIn K (.ref C) "__call__" = some (some (.ref f)) ∧ PySem.W.fnIn K f = true
theorem CallF.of {K : PySem.W.Frag} {C f : Addr} (a : PySem.W.findIn K (.ref C) "__call__" = some (some (.ref f))) (i : PySem.W.fnIn K f = true) : CallF K C := ⟨⟨f, a, i⟩⟩
structure ConI (K : PySem.W.Frag) (x : Str) (n : Int) : Prop where
  ex : ∃ t, PySem.W.nsIn K mainGlobals x = some (some (.int n t))
theorem ConI.of {K : PySem.W.Frag} {x : Str} {n : Int} {t : Tok} (a : PySem.W.nsIn K mainGlobals x = some (some (.int n t))) : ConI K x n := ⟨⟨t, a⟩⟩
theorem ConI.mg {K : PySem.W.Frag} {h : Heap} {mg : Str → Option Value} {x : Str} {n : Int} (c : ConI K x n) (X : K.In h) (G : h.Ns mainGlobals mg) : ∃ t, mg x = some (.int n t) := by
  obtain ⟨t, e⟩ := c.ex
  exact ⟨t, PySem.W.mg_of X G e⟩
end Pl
namespace Pl
open PySem PySem.Spec PyProof.Rows L2
/-! what raises -/
/-- an own error class over ValueError, as the top has left it -/
structure ExK (K : PySem.W.Frag) (mg : Str → Option Value) (x : Str) (C : Addr) : Prop where
  g : mg x = some (.ref C)
  xn : PySem.W.excIn K C [.type "ValueError", .type "Exception", .type "BaseException", .type "object"] "ValueError.__new__" = true
  kp : PySem.W.keepIn K (.ref C) = true
  ba : PySem.W.subIn K (.ref C) (.type "BaseException") = some true
  ty : PySem.W.typeIn K (.ref C) = some (.type "type")
  me : PySem.W.exmOne K (.ref C) (.ref C) = some true
structure ExF (K : PySem.W.Frag) (x : Str) (C : Addr) : Prop where
  a : PySem.W.nsIn K mainGlobals x = some (some (.ref C))
  xn : PySem.W.excIn K C [.type "ValueError", .type "Exception", .type "BaseException", .type "object"] "ValueError.__new__" = true
  kp : PySem.W.keepIn K (.ref C) = true
  ba : PySem.W.subIn K (.ref C) (.type "BaseException") = some true
  ty : PySem.W.typeIn K (.ref C) = some (.type "type")
  cl : PySem.W.isClsIn K C = true
  su : PySem.W.subIn K (.ref C) (.ref C) = some true
theorem exm_at {K : PySem.W.Frag} {S : Addr} {cls : Value} {b : Bool} (ba : PySem.W.subIn K (.ref S) (.type "BaseException") = some true) (cl : PySem.W.isClsIn K S = true)
    (ty : PySem.W.typeIn K (.ref S) = some (.type "type")) (su : PySem.W.subIn K cls (.ref S) = some b) : PySem.W.exmOne K cls (.ref S) = some b := by
  have cl2 : (PySem.W.clsIn K S).isSome = true := cl
  unfold PySem.W.exmOne PySem.W.kitCls
  simp [ba, ty, su, cl, cl2, PySem.W.isClsIn]
theorem ExF.k {K : PySem.W.Frag} {h : Heap} {mg : Str → Option Value} {x : Str} {C : Addr} (e : ExF K x C) (X : K.In h) (G : h.Ns mainGlobals mg) : ExK K mg x C :=
  ⟨PySem.W.mg_of X G e.a, e.xn, e.kp, e.ba, e.ty, exm_at e.ba e.cl e.ty e.su⟩
/-- whatever the slots are, the error is wished for -/
abbrev AnyS (W : WX) : XK := fun cls d H => ∀ σ, W cls d σ H
theorem passW {X : Cx} {W : WX} (tk : Takes X W) : Passes (L2.CX X.prog X.w) X (AnyS W) := fun _ σ _ _ e s' I c => tk e s' (XE.of_call I (fun _ _ _ h => h σ) c)
section
variable {X : Cx} {x m : Str} {j : Nat} {p p2 pos pos2 : Pos} {C : Addr} {W : WX}
/-- raise x('..') -/
theorem ps_err (e : ExK X.K X.mg x C) (tk : Takes X W) (hc : X.calm = true := by rfl) (hg : Gl X x := by rfl) (hdb : (x == ("__debug__" : Str)) = false := by decide) :
    PS X (.Raise (some (.Call (.Name x p) [.Constant (.str m) j p2] [] pos)) none pos2) (fun _ σ H => W (.ref C) none σ H) :=
  ps_raise hc tk (pmk_own PySem.F.excBase_ValueError e.xn e.g e.kp (raises_own e.ba e.ty) hg hdb)
end
structure MCalX (P : Program) (w : World) (K : PySem.W.Frag) (mg : Str → Option Value) (base : Heap) (k : Nat) (C : Addr) (m : Str) (ps : List Str) (sp : Sp) : Prop where
  ex : ∃ f fd, FnOk P w K mg base (L2.CX P w) k f fd ps sp ∧ PySem.W.findIn K (.ref C) m = some (some (.ref f)) ∧ PySem.W.isFn K (.ref f) = true ∧ PySem.W.keepIn K (.ref f) = true ∧ Binds K fd ps []
structure CalX (P : Program) (w : World) (K : PySem.W.Frag) (mg : Str → Option Value) (base : Heap) (k : Nat) (x : Str) (ps : List Str) (sp : Sp) : Prop where
  ex : ∃ f fd, FnOk P w K mg base (L2.CX P w) k f fd ps sp ∧ mg x = some (.ref f) ∧ PySem.W.keepIn K (.ref f) = true ∧ Binds K fd ps []
section
variable {P : Program} {w : World} {K : PySem.W.Frag} {mg : Str → Option Value} {base : Heap} {C : Addr} {x qual : Str} {st : Stmt} {N ps : List Str} {k : Nat} {sp : Sp}
theorem Mh.calX (D : Mh K C x qual st ps) (S : FnScope N ps (defScope st)) (lng : ∀ vs H Q E, sp vs H Q E → vs.length = ps.length)
    (bod : ∀ (f : Addr) (cdv : Value) (A : Around) (out : List Env) (s : Shared) (H : Hp) (vs : List V) (Q : VK) (E : XK),
      Room k (A.deeper (envOfC qual (defScope st) s.heap.objs.size f cdv)) → sp vs H Q E →
      ∃ t, PSs (cxOf (L2.CX P w) P w K mg base N qual (defScope st) f cdv A out s H E) (defBody st) t ∧
        t { nx := fun _ H' => Q .non H', rt := Q } (start N vs) H) : MCalX P w K mg base (k + 1) C x ps sp := by
  obtain ⟨f, fd, F, h1, h2, hb⟩ := D.ex
  exact ⟨f, fd, F.okX S lng (bod f), h1, h2, F.kp, hb⟩
theorem Df.calX (D : Df K mg x st ps) (S : FnScope N ps (defScope st)) (lng : ∀ vs H Q E, sp vs H Q E → vs.length = ps.length)
    (bod : ∀ (f : Addr) (cdv : Value) (A : Around) (out : List Env) (s : Shared) (H : Hp) (vs : List V) (Q : VK) (E : XK),
      Room k (A.deeper (envOfC x (defScope st) s.heap.objs.size f cdv)) → sp vs H Q E →
      ∃ t, PSs (cxOf (L2.CX P w) P w K mg base N x (defScope st) f cdv A out s H E) (defBody st) t ∧
        t { nx := fun _ H' => Q .non H', rt := Q } (start N vs) H) : CalX P w K mg base (k + 1) x ps sp := by
  obtain ⟨f, fd, F, hm, hb⟩ := D.ex
  exact ⟨f, fd, F.okX S lng (bod f), hm, F.kp, hb⟩
end
section
variable {X : Cx} {k : Nat} {C : Addr} {ps : List Str} {sp : Sp} {E : XK} {p pos : Pos} {x : Str} {e fe : Expr} {es : List Expr} {t : TA} {te ti tf : TE}
theorem pe_fnX (c : CalX X.prog X.w X.K X.mg X.base k x ps sp) (hx : Passes (L2.CX X.prog X.w) X E) (hr : Room k X.A) (ha : PA X (e :: es) t) (hg : Gl X x := by rfl) (hdb : (x == ("__debug__" : Str)) = false := by decide)
    (he : starEach (e :: es) X.env = (false, eval e X.env) :: starEach es X.env := by rfl) (hpl : (backTo pos (starEach es X.env)).any (·.1) = false := by rfl) :
    PE X (.Call (.Name x p) (e :: es) [] pos) (tCall sp [] E t) := by
  obtain ⟨f, fd, F, hm, kp, hb⟩ := c.ex
  exact pe_call F hr hg hm kp hb .nil hx ha hdb he hpl
theorem pe_mkX (c : MCalX X.prog X.w X.K X.mg X.base k C "__init__" ps sp) (hx : Passes (L2.CX X.prog X.w) X E) (mk : PySem.W.makesIn X.K C = true) (kc : PySem.W.keepIn X.K (.ref C) = true) (hm : X.mg x = some (.ref C)) (hr : Room (k + 1) X.A) (ha : PA X (e :: es) t)
    (hg : Gl X x := by rfl) (hdb : (x == ("__debug__" : Str)) = false := by decide)
    (he : starEach (e :: es) X.env = (false, eval e X.env) :: starEach es X.env := by rfl) (hpl : (backTo pos (starEach es X.env)).any (·.1) = false := by rfl) :
    PE X (.Call (.Name x p) (e :: es) [] pos) (tMake C sp [] E t) := by
  obtain ⟨f, fd, F, h1, h2, kp, hb⟩ := c.ex
  exact pe_make ⟨mk, h1, h2, kc⟩ F hr hg hm hb .nil hx ha hdb he hpl
/-- an instance of C called, which may raise -/
def tCallX (C : Addr) (sp : Sp) (E : XK) (tf : TE) (t : TA) : TE := fun σ H Q => tf σ H fun y H1 => ∃ a, y = V.ref a ∧ t σ H1 fun vs H2 =>
  ((∃ dx vs, SlX.Slt H2 a C dx vs) ∨ ∃ dx fs, H2 a = some (.ins C dx fs)) ∧ sp (V.ref a :: vs) H2 Q E
theorem pe_callX (c : MCalX X.prog X.w X.K X.mg X.base k C "__call__" ps sp) (hx : Passes (L2.CX X.prog X.w) X E) (fi : ∀ f, PySem.W.findIn X.K (.ref C) "__call__" = some (some (.ref f)) → PySem.W.fnIn X.K f = true) (hr : Room k X.A) (hf : PE X fe tf) (ha : PA X (e :: es) t)
    (ht : eval (.Call fe (e :: es) [] pos) X.env = (do callWith pos (← eval fe X.env) [] (backTo pos (starEach (e :: es) X.env)) (backToKw pos (keywordEach [] X.env))) := by rfl)
    (he : starEach (e :: es) X.env = (false, eval e X.env) :: starEach es X.env := by rfl) (hpl : (backTo pos (starEach es X.env)).any (·.1) = false := by rfl) :
    PE X (.Call fe (e :: es) [] pos) (tCallX C sp E tf t) := by
  obtain ⟨f, fd, F, h1, h2, kp, hb⟩ := c.ex
  have R : FnR X.prog X.w X.K X.mg X.base (L2.CX X.prog X.w) k f sp := (F.raw hb .nil).imp fun vs H Q E h => by simpa using h
  show PE X (.Call fe (e :: es) [] pos) (StX.tCallO X C sp E tf t)
  exact StX.pe_callO hf ⟨h1, h2, fi f h1⟩ R hr hx ha ht he hpl
/-- o[i] by the class's own __getitem__, which may raise -/
def tSub (C : Addr) (sp : Sp) (E : XK) (te ti : TE) : TE := fun σ H Q => te σ H fun x H1 => ti σ H1 fun y H2 => ∃ a dx fs, x = V.ref a ∧ H2 a = some (.ins C dx fs) ∧ sp [.ref a, y] H2 Q E
theorem pe_subX {i : Expr} (c : MCalX X.prog X.w X.K X.mg X.base k C "__getitem__" ps sp) (hx : Passes (L2.CX X.prog X.w) X E) (fi : ∀ f, PySem.W.findIn X.K (.ref C) "__getitem__" = some (some (.ref f)) → PySem.W.fnIn X.K f = true) (hr : Room (k + 1) X.A)
    (he : PE X e te) (hi : PE X i ti) (hs : ∀ o u, subscripted i true o u = runValue (.builtin "lifetime.subscript" ⟨[o, u], []⟩) := by intro o u; with_unfolding_all rfl) : PE X (.Subscript e i pos) (tSub C sp E te ti) := by
  obtain ⟨f, fd, F, h1, h2, kp, hb⟩ := c.ex
  refine ⟨fun pins s σ H Q I h => ?_⟩
  refine Subscript_ (binT he hi I h fun v u s2 x y H2 I2 rx ry q => ?_)
  obtain ⟨a, dx, fs, rfl, ea, q⟩ := q
  obtain rfl : v = Value.ref a := rx
  obtain ⟨mA, O, _⟩ := ins_get I2.hok ea
  obtain ⟨od, J, _⟩ := O.look
  obtain ⟨m, fr⟩ := I2.fr
  have hl : [V.ref a, y].length = ps.length := F.len _ _ _ _ q
  have bt : BindsTo s2 fd ⟨[.ref a, u], []⟩ (ps.zip [Value.ref a, u]) := by simpa using hb s2 [.ref a, u] I2.kIn (by simpa using hl)
  refine PySem.W.sub_K fr I2.ok.mod.kin J h1 (fi f h1) h2 (wpAny_call (codeAny_mono (F.run X.A.in1 X.stack s2 H2 ⟨[.ref a, u], []⟩ [.ref a, u] [.ref a, y] Q E hr.in1 I2.env0.in1 bt (.cons rfl (.cons ry .nil)) q) ?_)) (hs _ _)
  intro res s' z
  match res, z with
  | .ok (.ret u), z => exact I2.after z
  | .ok .next, z => exact False.elim z
  | .ok .brk, z => exact False.elim z
  | .ok .cont, z => exact False.elim z
  | .error er, z => exact hx pins σ H2 s2 er s' I2 z
end
structure ItemF (K : PySem.W.Frag) (C : Addr) : Prop where
  ex : ∃ f, PySem.W.findIn K (.ref C) "__getitem__" = some (some (.ref f)) ∧ PySem.W.fnIn K f = true
theorem ItemF.of {K : PySem.W.Frag} {C f : Addr} (a : PySem.W.findIn K (.ref C) "__getitem__" = some (some (.ref f))) (i : PySem.W.fnIn K f = true) : ItemF K C := ⟨⟨f, a, i⟩⟩
theorem ItemF.fi {K : PySem.W.Frag} {C : Addr} (c : ItemF K C) : ∀ f, PySem.W.findIn K (.ref C) "__getitem__" = some (some (.ref f)) → PySem.W.fnIn K f = true := fun f h => by
  obtain ⟨g, a, b⟩ := c.ex
  rw [a] at h
  cases h
  exact b
end Pl
namespace Pl
open PySem PySem.Spec PyProof.Rows L2
section
open PySem.W
variable {prog : Program} {w : World} {A : Around} {E : Value → Shared → Prop} {s : Shared} {K : Frag} {x C f : Addr} {ox : Obj} {od : Option Obj} {T : String}
/-- x op b, x an instance whose class has the operator, b of a built-in type -/
theorem binL {op : Operator} {b : Value} {fo ro rc : Option Value} {Q : Value → Shared → Prop} (inK : K.In s.heap) (ia : InstAt s.heap x ox C od) (tb : Looks (model prog w) s.heap (typeOf b) (.type T)) (sf : selfFirst K C = true)
    (fa : findIn K (.ref C) (PySem.dunder op.info.2) = some (some (.ref f))) (fn : isFn K (.ref f) = true) (fr : findIn K (.ref C) (dunderR op.info.2) = some rc) (pr : rc = none ∨ ∃ g : Addr, rc = some (.ref g))
    (t1 : findIn K (.type T) (PySem.dunder op.info.2) = some fo) (t2 : findIn K (.type T) (dunderR op.info.2) = some ro) (no : subIn K (.type T) (.ref C) = some false)
    (go : wpAny (model prog w) A (call (.ref f) [.ref x, b]) (PySem.W.CmpBack Q) E s) : wpAny (model prog w) A (binaryOp op (.ref x) b) Q E s := by
  obtain ⟨cd, rest, c1, c2⟩ := ksp_first sf
  rcases oi : op.info with ⟨sg, nm⟩
  rw [oi] at fa fr t1 t2; dsimp only at fa fr t1 t2
  have step := ksp_try inK ia fa fn go
  obtain ⟨hp, gs, dr, tk, os⟩ := s
  have l1 : Looks (model prog w) hp (typeOf (.ref x)) (.ref C) := ia.type
  have l2 : Looks (model prog w) hp (typeOf b) (.type T) := tb
  have l3 : Looks (model prog w) hp (fillsNumberSlot (.ref C) nm) true := fills_K inK c1 c2 fa
  have l4 := ksp_fillsT (M := model prog w) (nm := nm) (T := T) (h := hp) inK t1 t2
  have l5 : Looks (model prog w) hp (isSubtype (.type T) (.ref C)) false := looks_subIn inK no
  have l6 : Looks (model prog w) hp (numberSlotInPython (.ref C) nm) true := ksp_inPy inK fa fr pr
  have l7 : Looks (model prog w) hp (numberSlotInPython (.type T) nm) false := Looks.of_pure rfl
  have l8 : Looks (model prog w) hp (typeLookup (.type T) (dunderR nm)) ro := looks_findIn inK t2
  generalize ((fo.isSome && !isSeqSlot fo) || (ro.isSome && !isSeqSlot ro)) = rt at l4
  have ne : (Value.ref C == Value.type T) = false := Bool.eq_false_iff.mpr fun q => by cases beq_iff_eq.mp q
  simp only [binaryOp, oi]
  refine wpAny_holding (wpAny_bind ?_); unfold binaryOp1
  refine wpAny_bind (l1.at (wpAny_bind (l2.at (wpAny_bind (l3.at ?_))))); simp only [ne, Bool.false_eq_true, if_false]
  cases rt <;> (ksp_lk; refine wpAny_mono step (fun r s' hr => ?_) fun _ _ e => e; obtain ⟨v, rfl, hq⟩ := hr; ksp_lk; exact hq)
end
/-- the built-in type of a value -/
inductive TyS (H : Hp) : V → String → Prop where
  | non : TyS H .non "NoneType"
  | bl (b : Bool) : TyS H (.bl b) "bool"
  | int (i : Int) : TyS H (.int i) "int"
  | str (z : Str) : TyS H (.str z) "str"
  | lst {a : Addr} {xs : List V} (e : H a = some (.lst xs)) : TyS H (.ref a) "list"
  | tup {a : Addr} {xs : List V} (e : H a = some (.tup xs)) : TyS H (.ref a) "tuple"
  | dK {a : Addr} {xs : List (Key × V)} (e : H a = some (.dK xs)) : TyS H (.ref a) "dict"
theorem TyS.tyX {K : PySem.W.Frag} {H : Hp} {x : V} {T : String} (t : TyS H x T) : TyX K H x (.type T) := by
  cases t with
  | non => exact .base .non
  | bl b => exact .base (.bl b)
  | int i => exact .base (.int i)
  | str z => exact .base (.str z)
  | lst e => exact .base (.lst e)
  | tup e => exact .base (.tup e)
  | dK e => exact .base (.dK e)
theorem TyS.same {H H' : Hp} {x : V} {T : String} (k : Same H H') (t : TyS H x T) : TyS H' x T := by
  cases t with
  | non => exact .non
  | bl b => exact .bl b
  | int i => exact .int i
  | str z => exact .str z
  | lst e => exact .lst (k _ _ e)
  | tup e => exact .tup (k _ _ e)
  | dK e => exact .dK (k _ _ e)
theorem TyS.looks {X : Cx} {pins : List (Addr × Obj)} {σ : L2.St} {H : Hp} {s : Shared} {x : V} {u : Value} {T : String} (I : Inv X pins σ H s) (r : RelV x u) (t : TyS H x T) : PySem.W.Looks (model X.prog X.w) s.heap (typeOf u) (.type T) := by
  cases t with
  | non => cases (show u = Value.none from r); exact PySem.W.Looks.of_pure rfl
  | bl b => cases (show u = Value.bool b from r); exact PySem.W.Looks.of_pure rfl
  | int i => obtain ⟨t, q⟩ := (show ∃ t, u = Value.int i t from r); cases q; exact PySem.W.Looks.of_pure rfl
  | str z => obtain ⟨t, q⟩ := (show ∃ t, u = Value.str z t from r); cases q; exact PySem.W.Looks.of_pure rfl
  | @lst a xs e =>
    cases (show u = Value.ref a from r)
    obtain ⟨_, _, n, _, h1⟩ := (show ObjOk X.prog X.w H s.heap a (.lst xs) from I.hok a _ e)
    exact fun A Q E s' k q => wpAny_typeOf_ref (k _ _ h1) q
  | @tup a xs e =>
    cases (show u = Value.ref a from r)
    obtain ⟨_, _, _, o, h1, h2, _⟩ := (show ObjOk X.prog X.w H s.heap a (.tup xs) from I.hok a _ e)
    exact fun A Q E s' k q => wpAny_typeOf_ref (k _ _ h1) (by rw [h2]; exact q)
  | @dK a xs e =>
    cases (show u = Value.ref a from r)
    obtain ⟨_, _, vs, _, o, es, ep, h1, h2, _⟩ := (show ObjOk X.prog X.w H s.heap a (.dK xs) from I.hok a _ e)
    exact fun A Q E s' k q => wpAny_typeOf_ref (k _ _ h1) (by rw [h2.1]; exact q)
/-- what the written part says of C + T -/
def AddT (K : PySem.W.Frag) (C : Addr) (T : String) : Prop := ∃ fo ro, PySem.W.findIn K (.type T) "__add__" = some fo ∧ PySem.W.findIn K (.type T) "__radd__" = some ro ∧ PySem.W.subIn K (.type T) (.ref C) = some false
theorem AddT.of {K : PySem.W.Frag} {C : Addr} {T : String} {fo ro : Option Value} (a : PySem.W.findIn K (.type T) "__add__" = some fo) (b : PySem.W.findIn K (.type T) "__radd__" = some ro) (c : PySem.W.subIn K (.type T) (.ref C) = some false) : AddT K C T := ⟨fo, ro, a, b, c⟩
structure AddC (K : PySem.W.Frag) (C : Addr) : Prop where
  sf : PySem.W.selfFirst K C = true
  rd : ∃ g : Addr, PySem.W.findIn K (.ref C) "__radd__" = some (some (.ref g))
theorem AddC.of {K : PySem.W.Frag} {C g : Addr} (a : PySem.W.selfFirst K C = true) (b : PySem.W.findIn K (.ref C) "__radd__" = some (some (.ref g))) : AddC K C := ⟨a, g, b⟩
theorem dpI (K : PySem.W.Frag) (H : Hp) : ∀ ns : List Int, DpAll K H (ns.map V.int) (ns.map PyData.int)
  | [] => .nil
  | n :: ns => .cons (.int n) (dpI K H ns)
theorem depI : ∀ ns : List Int, PyData.depthAll (ns.map PyData.int) = 0
  | [] => rfl
  | n :: ns => by
    show max 0 (PyData.depthAll (ns.map PyData.int)) = 0
    rw [depI ns]; rfl
section
variable {X : Cx} {k : Nat} {C : Addr} {ps : List Str} {sp : Sp} {E : XK}
/-- a + b by the class's own __add__, which may raise; what it returns is an object -/
def rAddO (K : PySem.W.Frag) (C : Addr) (sp : Sp) (E : XK) : R2 := fun x y H Q => ∃ (a dx : Addr) (fs : List (Str × V)), x = .ref a ∧ H a = some (.ins C dx fs) ∧
  ((∃ (b db : Addr) (fb : List (Str × V)), y = .ref b ∧ H b = some (.ins C db fb)) ∨ (∃ T, TyS H y T ∧ AddT K C T)) ∧ sp [.ref a, y] H (fun v H' => ∃ p, v = .ref p ∧ Q (.ref p) H') E
theorem op_addO (c : MCalX X.prog X.w X.K X.mg X.base k C "__add__" ps sp) (ac : AddC X.K C) (hx : Passes (L2.CX X.prog X.w) X E) (hr : Room k X.A) : OpR X (binaryOp .Add) (rAddO X.K C sp E) := by
  obtain ⟨f, fd, F, h1, h2, kp, hb⟩ := c.ex
  obtain ⟨g, h3⟩ := ac.rd
  intro pins s σ H x y v u Q I rx ry h
  obtain ⟨a, dx, fs, rfl, ea, oy, q⟩ := h
  obtain rfl : v = Value.ref a := rx
  obtain ⟨mA, O, _⟩ := ins_get I.hok ea
  obtain ⟨od, J, _⟩ := O.look
  have go : wpAny (model X.prog X.w) X.A (call (.ref f) [.ref a, u]) (PySem.W.CmpBack (EP X pins σ Q)) X.xe s := by
    have hl : [V.ref a, y].length = ps.length := F.len _ _ _ _ q
    have bt : BindsTo s fd ⟨[.ref a, u], []⟩ (ps.zip [Value.ref a, u]) := by simpa using hb s [.ref a, u] I.kIn (by simpa using hl)
    refine wpAny_call (codeAny_mono (F.run X.A X.stack s H ⟨[.ref a, u], []⟩ [.ref a, u] [.ref a, y] _ E hr I.env0 bt (.cons rfl (.cons ry .nil)) q) ?_)
    intro res s' z
    match res, z with
    | .ok (.ret u'), z =>
      obtain ⟨v', H', J2, rv, p, rfl, q2⟩ := I.after z
      obtain rfl : u' = Value.ref p := rv
      exact ⟨.ref p, H', J2, rfl, q2⟩
    | .ok .next, z => exact False.elim z
    | .ok .brk, z => exact False.elim z
    | .ok .cont, z => exact False.elim z
    | .error er, z => exact hx pins σ H s er s' I z
  rcases oy with ⟨b, db, fb, rfl, eb⟩ | ⟨T, ty, fo, ro, t1, t2, no⟩
  · obtain rfl : u = Value.ref b := ry
    obtain ⟨mB, O2, _⟩ := ins_get I.hok eb
    obtain ⟨od2, J2, _⟩ := O2.look
    obtain ⟨m, fr⟩ := I.fr
    exact PySem.W.binop_K fr I.ok.mod.kin J J2.type ac.sf h1 h2 go
  · exact binL (op := .Add) I.kIn J (ty.looks I ry) ac.sf h1 h2 h3 (.inr ⟨g, rfl⟩) t1 t2 no go
/-- max of a tuple of ints -/
theorem call_maxT (calm : X.calm = true) (hu : X.A.units + 66 < cLine) : CallR X (.builtin "max") (fun vs H Q => ∃ (a : Addr) (n : Int) (ns : List Int), vs = [V.ref a] ∧ SqT X.K H a ((n :: ns).map V.int) ∧ Q (.int (ns.foldl max n)) H) := by
  intro pins s σ H vs us Q I r h
  obtain ⟨a, n, ns, rfl, sq, q⟩ := h
  obtain ⟨its, rv, tp, _⟩ := I.tuple sq
  rw [Vals.ref1 r]
  obtain ⟨as, rd⟩ := Dp.readsAll I _ _ its (dpI X.K H (n :: ns)) rv
  have dp : PyData.depthAll ((n :: ns).map PyData.int) = 0 := depI _
  refine PySem.W.max_tuple_data (x := .int n) (xs := ns.map PyData.int) (I.ok.hd calm) tp (by simpa using rd) ⟨?_, ?_⟩ ?_ fun i v h' tk bs hv rv' hk => ?_
  · intro x hx y hy
    obtain ⟨i, _, rfl⟩ := List.mem_map.mp (show x ∈ (n :: ns).map PyData.int from hx)
    obtain ⟨j, _, rfl⟩ := List.mem_map.mp (show y ∈ (n :: ns).map PyData.int from hy)
    rfl
  · intro x hx
    obtain ⟨i, _, rfl⟩ := List.mem_map.mp (show x ∈ (n :: ns).map PyData.int from hx)
    exact fun z => nomatch z
  · have e : PyData.depthAll (.int n :: ns.map PyData.int) = 0 := dp
    rw [e]; omega
  · rw [PySem.W.maxD_ints] at rv'
    cases rv'
    exact ⟨.int _, H, I.kept hk, ⟨_, rfl⟩, q⟩
end
end Pl
namespace Pl
open PySem PySem.Spec PyProof.Rows L2
/-! what some built-ins do, over the written part alone -/
def rTupleOf (K : PySem.W.Frag) : List V → Hp → VK → Prop := fun xs H Q => ∃ p ys, xs = [.ref p] ∧ ((SqL K H p ys ∧ ∀ l, H l = none → Q (.ref l) (upd H l (.tup ys))) ∨ (SqT K H p ys ∧ Q (.ref p) H))
def rListOf (K : PySem.W.Frag) : List V → Hp → VK → Prop := fun xs H Q => ∃ p ys, xs = [.ref p] ∧ (SqL K H p ys ∨ SqT K H p ys) ∧ ∀ l, H l = none → Q (.ref l) (upd H l (.lst ys))
def rLenSq (K : PySem.W.Frag) : List V → Hp → VK → Prop := fun xs H Q => ∃ p ys, xs = [.ref p] ∧ (SqL K H p ys ∨ SqT K H p ys) ∧ Q (.int ys.length) H
def rSortedT (K : PySem.W.Frag) : List V → Hp → VK → Prop := fun vs H Q => ∃ (a : Addr) (ns : List Int), vs = [V.ref a] ∧ SqT K H a (ns.map V.int) ∧ ns.length < 64 ∧
    ∀ (ns' : List Int) (p : Addr), ns'.Perm ns → ns'.Pairwise (· ≤ ·) → H p = none → Q (.ref p) (upd H p (.lst (ns'.map V.int)))
section
variable {X : Cx}
/-- xs[i] by values, 0 ≤ i, for xs[i] op= e -/
theorem get_list : PGet X (fun x y H Q => ∃ (p : Addr) (xs : List V) (i : Int) (v : V), x = .ref p ∧ y = .int i ∧ SqL X.K H p xs ∧ 0 ≤ i ∧ xs[i.toNat]? = some v ∧ Q v H) := by
  intro pins s σ H o i ov iv Q I ro ri h
  obtain ⟨p, xs, n, v, rfl, rfl, sq, n0, e, q⟩ := h
  obtain rfl : ov = Value.ref p := ro
  obtain ⟨t, rfl⟩ := (show ∃ t, iv = Value.int n t from ri)
  obtain ⟨its, rv, pl, hz⟩ := I.list sq
  obtain ⟨u, eu, ru⟩ := rv.get e
  have l1 := (List.getElem?_eq_some_iff.mp e).1
  have l2 : (sizeLine : Nat) = 16777216 := sizeLine_eq
  exact wpAny_getItem_list pl.isList n0 (by omega) (by simpa using eu) ⟨v, H, I, ru, q⟩
/-- a call that is shown not to raise -/
theorem passF : Passes (L2.CX X.prog X.w) X (fun _ _ _ => False) := fun _ _ _ _ _ _ _ c => by
  obtain ⟨_, _, _, _, _, _, _, _, _, _, _, _, z⟩ := c
  exact z.elim
end
end Pl
namespace Pl
open PySem PySem.Spec PyProof.Rows L2
section
open PySem.W
variable {prog : Program} {w : World} {A : Around} {E : Value → Shared → Prop} {s : Shared} {K : Frag} {x C L f : Addr} {h₀ : Heap} {m : Str → Option Value} {ox : Obj} {od : Option Obj} {b tb : Value}
theorem special_ne {Q : Option Value → Shared → Prop} (X : K.In s.heap) (I : InstAt s.heap x ox C od) (hne : findIn K (.ref C) "__ne__" = some (some (.builtin "object.__ne__")))
    (h : wpAny (model prog w) A (call (.builtin "object.__ne__") [.ref x, b]) (fun v => Q (some v)) E s) : wpAny (model prog w) A (callSpecialIfBound? (.ref x) "__ne__" [b]) Q E s := by
  simp only [callSpecialIfBound?, bindSpecialIfBound?]
  refine wpAny_holding (wpAny_bind (wpAny_bind (wpAny_bind (I.type.here ((looks_findIn X hne).here ?_)))))
  refine wpAny_bind (wpAny_askSetting (wpAny_ite ?_))
  simp only [PySem.F.cmp_object.ne.bind]
  have fin : wpAny (model prog w) A (call (.builtin "object.__ne__") ([.ref x] ++ [b]) >>= fun v => pure (some v)) Q E s := wpAny_bind (wpAny_mono h (fun v s' h' => wpAny_pure h') fun _ _ h' => h')
  split
  · exact wpAny_bind (wpAny_pure (wpAny_pure fin))
  · exact wpAny_tryCatch (wpAny_bind (wpAny_pure (wpAny_pure fin)))
theorem ne_entry {Q : PySem.Fin → Shared → Prop} (hu : A.units < cLine) (X : K.In s.heap) (I : InstAt s.heap x ox C od) (hs : findIn K (.ref C) "__eq__" = some (some (.ref f))) (hf : isFn K (.ref f) = true)
    (h : wpAny (model prog w) A (call (.ref f) [.ref x, b]) (fun v s' => ∃ r, v = .bool r ∧ Q (.done (.ret (.bool (!r)))) s') E s) : wpAny (model prog w) A (Builtin.«object.__ne__» ⟨[.ref x, b], []⟩) Q E s := by
  unfold Builtin.«object.__ne__»
  refine wpAny_bind (wpAny_pure ?_)
  refine wpAny_bind (wpAny_cRoomFor hu ?_)
  refine wpAny_bind (ifBound_K X I hs hf (wpAny_mono h (fun v s' hv => ?_) fun _ _ e => e))
  obtain ⟨r, rfl, q⟩ := hv
  exact wpAny_bind (wpAny_pure (wpAny_pure q))
theorem ne_K {Q : Value → Shared → Prop} (hu : A.units + 1 < cLine) (F : Fr h₀ L s.heap m) (X₀ : K.In h₀) (I : InstAt s.heap x ox C od) (hb : Looks (model prog w) s.heap (typeOf b) tb) (hn : notFirst K C tb = true)
    (hne : findIn K (.ref C) "__ne__" = some (some (.builtin "object.__ne__"))) (hm : mroIn K C (.type "object") = some true)
    (hs : findIn K (.ref C) "__eq__" = some (some (.ref f))) (hf : isFn K (.ref f) = true)
    (h : wpAny (model prog w) A.in1 (call (.ref f) [.ref x, b]) (fun v s' => ∃ r, v = .bool r ∧ Q (.bool (!r)) s') E s) : wpAny (model prog w) A (richCompare .NotEq (.ref x) b) Q E s := by
  have X := X₀.keeps F.keep
  have one : wpAny (model prog w) A (tryCompare (.ref x) "__ne__" b) (fun r s' => ∃ v, r = some v ∧ Q v s') E s := by
    unfold tryCompare
    refine wpAny_bind (special_ne X I hne (wpAny_call (codeAny_call_builtin PySem.F.cmp_object.ne.plain PySem.F.cmpEntry_ne
      (check_slot PySem.F.cmpKind_ne PySem.F.cmpSplit_ne (I.type.andThen (looks_mroIn X hm)) (PySem.F.cmpArgs_ne _ _) (ne_entry (A := A.in1) hu X I hs hf ?_)))))
    refine wpAny_mono h (fun v s' hv => ?_) fun _ _ e => e
    obtain ⟨r, rfl, q⟩ := hv
    exact ⟨r, rfl, wpAny_pure ⟨_, rfl, q⟩⟩
  unfold richCompare
  simp only [oneThing_ref]
  refine wpAny_holding (wpAny_bind (wpAny_cRoomFor (by omega) ?_))
  refine wpAny_bind (I.type.here (wpAny_bind (hb.here ?_)))
  split
  · rename_i q
    have e : subIn K tb (.ref C) = some false := by
      rcases Bool.or_eq_true_iff.mp hn with e | e
      · rw [beq_iff_eq.mp e] at q; simp at q
      · exact beq_iff_eq.mp e
    refine wpAny_bind ((looks_subIn X e).here ?_)
    simp only [Bool.false_eq_true, if_false]
    refine wpAny_bind (wpAny_mono one (fun r s' z => ?_) fun _ _ e => e)
    obtain ⟨v, rfl, hq⟩ := z
    exact wpAny_pure hq
  · refine wpAny_bind (wpAny_pure ?_)
    simp only [Bool.false_eq_true, if_false]
    refine wpAny_bind (wpAny_mono one (fun r s' z => ?_) fun _ _ e => e)
    obtain ⟨v, rfl, hq⟩ := z
    exact wpAny_pure hq
end
/-- what the written part says of == and != of C -/
structure EqC (K : PySem.W.Frag) (C : Addr) : Prop where
  ne : PySem.W.findIn K (.ref C) "__ne__" = some (some (.builtin "object.__ne__"))
  mro : PySem.W.mroIn K C (.type "object") = some true
/-- the second operand: of the class, or of a built-in type that is not below it -/
def EqY (K : PySem.W.Frag) (C : Addr) (H : Hp) (y : V) : Prop := (∃ (b db : Addr) (fb : List (Str × V)), y = .ref b ∧ H b = some (.ins C db fb)) ∨ (∃ T, TyS H y T ∧ PySem.W.subIn K (.type T) (.ref C) = some false)
def rEqO (K : PySem.W.Frag) (C : Addr) (sp : Sp) : R2 := fun x y H Q => ∃ (a dx : Addr) (fs : List (Str × V)), x = .ref a ∧ H a = some (.ins C dx fs) ∧ EqY K C H y ∧ sp [.ref a, y] H (fun v H' => ∃ r, v = .bl r ∧ Q (.bl r) H') E0
def rNeO (K : PySem.W.Frag) (C : Addr) (sp : Sp) : R2 := fun x y H Q => ∃ (a dx : Addr) (fs : List (Str × V)), x = .ref a ∧ H a = some (.ins C dx fs) ∧ EqY K C H y ∧ sp [.ref a, y] H (fun v H' => ∃ r, v = .bl r ∧ Q (.bl (!r)) H') E0
section
variable {X : Cx} {k : Nat} {C : Addr} {ps : List Str} {sp : Sp}
theorem EqY.looks {pins : List (Addr × Obj)} {σ : L2.St} {H : Hp} {s : Shared} {y : V} {u : Value} (I : Inv X pins σ H s) (r : RelV y u) (e : EqY X.K C H y) :
    ∃ tb, PySem.W.Looks (model X.prog X.w) s.heap (typeOf u) tb ∧ PySem.W.notFirst X.K C tb = true := by
  rcases e with ⟨b, db, fb, rfl, eb⟩ | ⟨T, ty, no⟩
  · obtain rfl : u = Value.ref b := r
    obtain ⟨mB, O, _⟩ := ins_get I.hok eb
    obtain ⟨od, J, _⟩ := O.look
    exact ⟨_, J.type, by simp [PySem.W.notFirst]⟩
  · exact ⟨_, ty.looks I r, by simp [PySem.W.notFirst, no]⟩
theorem op_eqO (c : MCal X.prog X.w X.K X.mg X.base k C "__eq__" ps sp) (hr : Room k X.A) : OpR X (compareOp .Eq) (rEqO X.K C sp) := by
  obtain ⟨f, fd, F, h1, h2, kp, hb⟩ := c.ex
  intro pins s σ H x y v u Q I rx ry h
  obtain ⟨a, dx, fs, rfl, ea, ey, q⟩ := h
  obtain rfl : v = Value.ref a := rx
  obtain ⟨tb, lk, nf⟩ := ey.looks I ry
  obtain ⟨mA, O, _⟩ := ins_get I.hok ea
  obtain ⟨od, J, _⟩ := O.look
  obtain ⟨m, fr⟩ := I.fr
  show wpAny (model X.prog X.w) X.A (richCompare .Eq (.ref a) u) (EP X pins σ Q) X.xe s
  refine PySem.W.cmp_K (op := .Eq) hr.units0 fr I.ok.mod.kin J lk nf h1 h2 ?_
  have hl : [V.ref a, y].length = ps.length := F.len _ _ _ _ q
  have bt : BindsTo s fd ⟨[.ref a, u], []⟩ (ps.zip [Value.ref a, u]) := by simpa using hb s [.ref a, u] I.kIn (by simpa using hl)
  refine wpAny_call (codeAny_mono (F.run X.A X.stack s H ⟨[.ref a, u], []⟩ [.ref a, u] [.ref a, y] _ E0 hr I.env0 bt (.cons rfl (.cons ry .nil)) q) ?_)
  intro res s' z
  match res, z with
  | .ok (.ret u'), z =>
    obtain ⟨v', H', J2, rv, r, rfl, q2⟩ := I.after z
    obtain rfl : u' = Value.bool r := rv
    exact ⟨.bl r, H', J2, rfl, q2⟩
  | .ok .next, z => exact False.elim z
  | .ok .brk, z => exact False.elim z
  | .ok .cont, z => exact False.elim z
  | .error er, z => exact False.elim z
theorem op_neO (c : MCal X.prog X.w X.K X.mg X.base k C "__eq__" ps sp) (ec : EqC X.K C) (hr : Room (k + 1) X.A) : OpR X (compareOp .NotEq) (rNeO X.K C sp) := by
  obtain ⟨f, fd, F, h1, h2, kp, hb⟩ := c.ex
  intro pins s σ H x y v u Q I rx ry h
  obtain ⟨a, dx, fs, rfl, ea, ey, q⟩ := h
  obtain rfl : v = Value.ref a := rx
  obtain ⟨tb, lk, nf⟩ := ey.looks I ry
  obtain ⟨mA, O, _⟩ := ins_get I.hok ea
  obtain ⟨od, J, _⟩ := O.look
  obtain ⟨m, fr⟩ := I.fr
  show wpAny (model X.prog X.w) X.A (richCompare .NotEq (.ref a) u) (EP X pins σ Q) X.xe s
  refine ne_K (by have := hr.un; omega) fr I.ok.mod.kin J lk nf ec.ne ec.mro h1 h2 ?_
  have hl : [V.ref a, y].length = ps.length := F.len _ _ _ _ q
  have bt : BindsTo s fd ⟨[.ref a, u], []⟩ (ps.zip [Value.ref a, u]) := by simpa using hb s [.ref a, u] I.kIn (by simpa using hl)
  refine wpAny_call (codeAny_mono (F.run X.A.in1 X.stack s H ⟨[.ref a, u], []⟩ [.ref a, u] [.ref a, y] _ E0 hr.in1 I.env0.in1 bt (.cons rfl (.cons ry .nil)) q) ?_)
  intro res s' z
  match res, z with
  | .ok (.ret u'), z =>
    obtain ⟨v', H', J2, rv, r, rfl, q2⟩ := I.after z
    obtain rfl : u' = Value.bool r := rv
    exact ⟨r, rfl, .bl (!r), H', J2, rfl, q2⟩
  | .ok .next, z => exact False.elim z
  | .ok .brk, z => exact False.elim z
  | .ok .cont, z => exact False.elim z
  | .error er, z => exact False.elim z
/-- repr(o), o an instance whose class has its own __repr__ -/
theorem call_reprO (c : MCal X.prog X.w X.K X.mg X.base k C "__repr__" ps sp) (hr : Room (k + 1) X.A) :
    CallR X (.builtin "repr") (fun xs H Q => ∃ (a dx : Addr) (fs : List (Str × V)), xs = [.ref a] ∧ H a = some (.ins C dx fs) ∧ sp [.ref a] H (fun v H' => ∃ z, v = .str z ∧ Q (.str z) H') E0) := by
  obtain ⟨f, fd, F, h1, h2, kp, hb⟩ := c.ex
  intro pins s σ H xs us Q I r h
  obtain ⟨a, dx, fs, rfl, ea, h⟩ := h
  obtain ⟨u, rfl, ru⟩ := vals1 r
  obtain rfl : u = Value.ref a := ru
  obtain ⟨mA, O, _⟩ := ins_get I.hok ea
  obtain ⟨od, J, _⟩ := O.look
  obtain ⟨m, fr⟩ := I.fr
  refine PySem.W.repr_K hr.in1.units0 fr I.ok.mod.kin J h1 h2 ?_
  have hl : [V.ref a].length = ps.length := F.len _ _ _ _ h
  have bt : BindsTo s fd ⟨[.ref a], []⟩ (ps.zip [Value.ref a]) := by simpa using hb s [.ref a] I.kIn (by simpa using hl)
  refine wpAny_call (codeAny_mono (F.run X.A.in1 X.stack s H ⟨[.ref a], []⟩ [.ref a] [.ref a] _ E0 hr.in1 I.env0.in1 bt (.cons rfl .nil) h) ?_)
  intro res s' z
  match res, z with
  | .ok (.ret u), z =>
    obtain ⟨v, H', J2, rv, n, rfl, q⟩ := I.after z
    obtain ⟨t, rfl⟩ := (show ∃ t, u = Value.str n t from rv)
    exact ⟨.str n, H', J2, ⟨_, rfl⟩, q⟩
  | .ok .next, z => exact False.elim z
  | .ok .brk, z => exact False.elim z
  | .ok .cont, z => exact False.elim z
  | .error er, z => exact False.elim z
end
end Pl
namespace Pl
open PySem PySem.Spec PyProof.Rows L2
/-! a list comprehension out of which an error may come -/
theorem note_eq {v : Value} {a b : Env} (h : a.frame = b.frame) : noteFrame v a = noteFrame v b := by
  unfold noteFrame PySem.frameOf
  rw [h]
theorem fly_of_call {X : Cx} {pins : List (Addr × Obj)} {σ : L2.St} {H : Hp} {s s' : Shared} {E : XK} {u : Value} (I : Inv X pins σ H s) (c : L2.CX X.prog X.w X.stack H s E u s') :
    ∃ (a : Addr) (B : Heap) (sI : Shared) (ps : List (Addr × Obj)) (σ1 : L2.St) (H1 : Hp) (cls : Value) (d : Option Addr), u = .ref a ∧ Inv X ps σ1 H1 sI ∧ (∀ b o, sI.heap.get? b = some o → b ∉ frs X.stack → B.get? b = some o) ∧
      sI.heap.UpToSlots s'.heap ∧ HandSPX.FlyingZ B X.stack a (Zc cls d) s'.heap ∧ H1 a = none ∧ s'.os = sI.os ∧ AllBare s'.gens ∧ E cls d H1 := by
  obtain ⟨a0, ⟨vs0, T0, oT0, ts0, oe0, q1, q2, q3, q4, q5, q6⟩⟩ : ∃ a0 : Addr, ∃ vs0 T0 oT0 ts0 oe0, u = .ref a0 ∧ s'.heap.get? a0 = some oe0 ∧ oe0.data = .fields vs0 ∧ vs0[1]? = some (.ref T0) ∧ s'.heap.get? T0 = some oT0 ∧ (oT0.data = .fields ts0 ∧ ts0[3]? = some Value.none) := by
    obtain ⟨a, B, H', cls, d, rfl, ⟨_, _, _, oe, vs, T, oT, ts, he, hz, hd, h1, hnT, hTe, hT, hdT, h3⟩, _⟩ := c
    exact ⟨a, vs, T, oT, ts, oe, rfl, he, hd, h1, hT, hdT, h3⟩
  obtain ⟨a, B, sI, ps, σ1, H1, cls, d, e, J, nb, up, sky, na, os, ag, w⟩ := XE.of_call (W := fun cls d _ H => E cls d H) I (fun _ _ _ h => h) c
  rw [e] at q1
  cases q1
  refine ⟨_, B, sI, ps, σ1, H1, cls, d, e, J, nb, up, ?_, na, os, ag, w⟩
  rcases sky with ⟨_, _, _, oe, vs, he, _, hd, h1⟩ | fl | ⟨_, _, _, oe, vs, T, oT, ts, he, _, hd, h1, _, _, hT, hdT, h3⟩
  · rw [q2] at he
    cases he
    rw [q3] at hd
    cases hd
    rw [q4] at h1
    cases h1
  · exact fl
  · rw [q2] at he
    cases he
    rw [q3] at hd
    cases hd
    rw [q4] at h1
    cases h1
    rw [q5] at hT
    cases hT
    rw [q6.1] at hdT
    cases hdT
    rw [q6.2] at h3
    cases h3
/-- what a comprehension's block comes to -/
def cPost (M : Model) (A : Around) (E : Value → Shared → Prop) (use : Option (Value → Sem Unit)) (Q : Value → Shared → Prop) (acc : Value) (C : Addr) (fr : Option Addr) : Result → Shared → Prop
  | .ok f, s' => compPost M A E use Q acc C (.ok f) s'
  | .error x, s' => ∃ m, s'.heap.Ns C m ∧ ∀ h2, Heap.SameBut C s'.heap h2 → ∀ ce : Env, ce.frame = fr → wpAny M A (passOn "comprehension.variables-let-go" x ce : Sem Value) (fun _ _ => False) E { s' with heap := h2 }
section
variable {M : Model} {A : Around} {E : Value → Shared → Prop} {s : Shared} {env : Env}
theorem compX {e : Expr} {scope : Scope} {pos : Pos} {mk first : Sem Value} {g : Comprehension} {gs : List Comprehension} {cl : List (Str × Addr)} {use : Option (Value → Sem Unit)} {Q : Value → Shared → Prop}
    (hcl : clausesOf e = g :: gs) (hs : ∀ x, foldedSetIterable g.iter env x = pure x) (hclos : closureFor scope env = pure cl) (hkind : scope.kind = .function) (hnames : ∀ x ∈ scope.names, x.2 = .local → scope.names.lookup x.1 = some .local)
    (h : wpAny M A first (fun x s1 => wpAny M A (pyIter x) (fun it s2 => wpAny M A mk (fun acc s3 => wpAny M A (newFunctionEnv scope env.globals cl [] env.qual none .none (some env)) (fun ce s4 =>
        codeAny M A (.compStart e 0 it acc { ce with scope := relabel scope env }) (cPost M A E use Q acc ce.locals ce.frame) s4) E s3) E s2) E s1) E s) :
    wpAny M A (comprehension e scope env pos mk false first use) Q E s := by
  have same : ∀ {α : Type} {t : Sem α} {P R : α → Shared → Prop} {z : Shared}, wpAny M A t P E z → (∀ a z, P a z → R a z) → wpAny M A t R E z := fun a b => wpAny_mono a b fun _ _ y => y
  unfold comprehension
  rw [hclos, hcl]
  refine wpAny_bind (same h fun x s1 h1 => wpAny_bind (wpAny_standAt (wpAny_bind (wpAny_of_eq (hs x) (wpAny_bind (wpAny_holding (same h1 fun it s2 h2 => ?_)))))))
  refine wpAny_standIf (wpAny_bind (same h2 fun acc s3 h3 => wpAny_bind (wpAny_pure (wpAny_bind (same h3 fun ce s4 h4 => ?_)))))
  dsimp only
  have hv : ∀ x ∈ (scope.names.filter fun x => (x.2 == .local || x.2 == .cell) && x.1 != (".0" : Str)).reverse, x.2 = .local → Env.kindOf { ce with scope := relabel scope env } x.1 = some .local :=
    fun x hx hl => lookup_relabel_local (hnames x (List.mem_filter.mp (List.mem_reverse.mp hx)).1 hl)
  refine wpAny_holding (wpAny_bind (wpAny_attempt (wpAny_holding (wpAny_run (codeAny_mono h4 fun r s5 hr => ?_)))))
  cases r with
  | ok f =>
    cases use with
    | none =>
      obtain ⟨m, hn, hr⟩ := hr
      exact wpAny_bind (wpAny_holding (wpAny_comp_letGo (cenv := { ce with scope := relabel scope env }) hkind _ s5 m hv hn fun h5 m5 _ sb => wpAny_pure (hr h5 sb)))
    | some u =>
      refine wpAny_bind (wpAny_rule (wpAny_bind (wpAny_holding (same hr fun _ s6 hr6 => ?_))))
      obtain ⟨m, hn, hr6⟩ := hr6
      refine wpAny_bind (wpAny_comp_letGo (cenv := { ce with scope := relabel scope env }) hkind _ s6 m (fun x hx hl => ?_) hn fun h6 m6 _ sb => wpAny_pure (hr6 h6 sb))
      rcases List.mem_append.mp hx with k | k
      · exact hv x (List.mem_of_mem_drop k) hl
      · exact hv x (List.mem_of_mem_take k) hl
  | error x =>
    obtain ⟨m, hn, hr⟩ : ∃ m, s5.heap.Ns ce.locals m ∧ ∀ h2, Heap.SameBut ce.locals s5.heap h2 → ∀ c2 : Env, c2.frame = ce.frame → wpAny M A (passOn "comprehension.variables-let-go" x c2 : Sem Value) (fun _ _ => False) E { s5 with heap := h2 } := hr
    exact wpAny_bind (wpAny_holding (wpAny_comp_letGo (cenv := { ce with scope := relabel scope env }) hkind _ s5 m hv hn fun h5 m5 _ sb => wpAny_mono (hr h5 sb _ rfl) (fun _ _ z => z.elim) fun _ _ y => y))
end
/-- the block's context, with its own wish of errors -/
abbrev blkE (X : Cx) (s : Shared) (H : Hp) (scope : Scope) (ce : Env) (fp : List Addr) (z : Value → Shared → Prop) : Cx := { X.blk s H scope ce fp with xe := z }
theorem inv_xe {X : Cx} {pins : List (Addr × Obj)} {σ : L2.St} {H : Hp} {s : Shared} {z : Value → Shared → Prop} (I : Inv X pins σ H s) : Inv { X with xe := z } pins σ H s := by
  obtain ⟨⟨a1, a2, a3, a4, a5, a6, a7, a8, a9, a10, a11, a12, a13, a14, a15, a16, a17, a18⟩, b1, b2, b3, b4, b5, b6, b7, b8, b9, b10⟩ := I
  exact ⟨⟨a1, a2, a3, a4, a5, a6, a7, a8, a9, a10, a11, a12, a13, a14, a15, a16, a17, a18⟩, b1, b2, b3, b4, b5, b6, b7, b8, b9, b10⟩
/-- an error out of the block is in the def's own air -/
theorem out_of_blk {X : Cx} {pins ps : List (Addr × Obj)} {σ σ1 : L2.St} {H3 H : Hp} {s3 s s' : Shared} {W : WX} {scope : Scope} {ce : Env} {fp : List Addr} {z : Value → Shared → Prop} {use : Option (Value → Sem Unit)} {Qf : Value → Shared → Prop} {acc u : Value}
    (tk : Takes X W) (hst : X.stack = X.env :: X.outer) (hfr : X.env.frame = some X.env.locals) (I3 : Inv X pins σ H3 s3) (cL : ce.locals = s3.heap.objs.size) (cF : ce.frame = X.env.frame)
    (f3 : ∀ b ∈ fp, (b ∈ X.ex ∨ X.s_0.heap.objs.size ≤ b) ∧ b ≠ X.env.locals ∧ (∀ x c, X.env.cells.lookup x = some c → c ≠ b) ∧ ∀ p ∈ X.pn ++ pins, p.1 ≠ b)
    (I : Inv (blkE X s3 H3 scope ce fp z) ps σ1 H s) (c : L2.CX X.prog X.w X.stack H s (AnyS W) u s') :
    notedBy (model X.prog X.w) X.A ce (fun x s2 => cPost (model X.prog X.w) X.A X.xe use Qf acc ce.locals X.env.frame (.error x) s2) u s' := by
  obtain ⟨a, B, sI, p1, σ2, H1, cls, d, rfl, J, nb, up, fl, na, os, ag, w⟩ := fly_of_call (X := blkE X s3 H3 scope ce fp z) I c
  have nfr : ce.locals ∉ frs X.stack := fun hb => by
    obtain ⟨_, o, e, _⟩ := J.ok.funs.mem hb
    have l := Heap.lt_size e
    rw [cL] at l
    exact absurd l (Nat.lt_irrefl _)
  obtain ⟨m, ⟨oC, es, ep, eC, dC, kC⟩, _⟩ := J.loc
  have eC : sI.heap.get? ce.locals = some oC := eC
  have bC : B.get? ce.locals = some oC := nb _ _ eC nfr
  have hfr2 : X.A.frames = some (X.env :: X.outer) := by rw [← hst]; exact J.ok.frames
  have fl2 : HandSPX.FlyingZ B (X.env :: X.outer) a (Zc cls d) s'.heap := by rw [← hst]; exact fl
  show wpAny _ _ (noteFrame (.ref a) ce) _ _ s'
  rw [note_eq cF]
  refine HandSPX.looks_onZ Zc.steady hfr2 hfr fl2 fun h1 held up1 => ?_
  obtain ⟨g1, g2, g3, oe, vs, T, oT, ts, he, hz, hd, hv1, hnT, hTe, hT, hdT, h3⟩ := held
  have c1 : h1.get? ce.locals = some oC := g1 _ _ bC
  refine ⟨m, ⟨oC, es, ep, c1, dC, kC⟩, fun h2 sb c2 hc2 => ?_⟩
  have off : ∀ b o, h1.get? b = some o → (∀ es ep, o.data ≠ .dict es ep) → b ≠ ce.locals := fun b o e k q => by
    rw [q, c1] at e
    cases e
    exact k _ _ dC
  have aC : a ≠ ce.locals := off _ _ he fun _ _ q => by rw [hd] at q; cases q
  have tC : T ≠ ce.locals := off _ _ hT fun _ _ q => by rw [hdT] at q; cases q
  have st2 : ∀ b o, b ≠ ce.locals → h1.get? b = some o → h2.get? b = some o := fun b o n e => (sb.2 b n).trans e
  have hide : ∀ {h : Heap} {b : Addr} {o : Obj}, (PySem.W.hideAll h [ce.locals]).get? b = some o → b ≠ ce.locals ∧ h.get? b = some o := fun {h b o} e => by
    refine ⟨fun q => ?_, PySem.W.of_hideAll _ e⟩
    rw [q, PySem.W.hideAll_none _ List.mem_cons_self] at e
    cases e
  have hid2 : ∀ {h : Heap} {b : Addr}, h.get? b = none → (PySem.W.hideAll h [ce.locals]).get? b = none := fun {h b} e => by
    cases q : (PySem.W.hideAll h [ce.locals]).get? b with
    | none => rfl
    | some o => rw [(hide q).2] at e; cases e
  have hid3 : ∀ {h : Heap} {b : Addr} {o : Obj}, h.get? b = some o → b ≠ ce.locals → (PySem.W.hideAll h [ce.locals]).get? b = some o := fun e n => PySem.W.hideAll_get _ e (by simpa using n)
  have tr2 : HandSPX.TracedZ h2 (PySem.W.hideAll B [ce.locals]) a (Zc cls d) (rawInt X.env.locals) := ⟨oe, vs, T, oT, ts, st2 _ _ aC he, hz, hd, hv1, hid2 hnT, hTe, st2 _ _ tC hT, hdT, h3⟩
  have sB : (PySem.W.hideAll B [ce.locals]).StaysIn h2 := fun b o e => st2 b o (hide e).1 (g1 b o (hide e).2)
  have ff0 : h1.FunFrames (PySem.W.hideAll B [ce.locals]) (X.env :: X.outer) := funFrames_none g3 fun L hL => hid2 (g3.mem hL).1
  have ff : ∀ {l : List Env}, h1.FunFrames (PySem.W.hideAll B [ce.locals]) l → (∀ L ∈ frs l, L ≠ ce.locals) → h2.FunFrames (PySem.W.hideAll B [ce.locals]) l := by
    intro l
    induction l with
    | nil => exact fun _ _ => trivial
    | cons e r ih =>
      rintro ⟨k1, ⟨L, o, k2, k3, k4, k5⟩, k6⟩ n
      exact ⟨k1, ⟨L, o, k2, k3, st2 L o (n L (List.mem_filterMap.mpr ⟨e, List.mem_cons_self, k2⟩)) k4, k5⟩, ih k6 fun b hb => n b (by
        obtain ⟨x, hx, q⟩ := List.mem_filterMap.mp hb
        exact List.mem_filterMap.mpr ⟨x, List.mem_cons_of_mem _ hx, q⟩)⟩
  have ff2 := ff ff0 fun L hL q => nfr (by rw [hst, ← q]; exact hL)
  show wpAny _ _ (PySem.passOn _ (.ref a) c2) _ _ _
  unfold PySem.passOn
  refine wpAny_bind (wpAny_field (s := { s' with heap := h2 }) (st2 _ _ aC he) hd hv1 ?_)
  rw [if_neg (by simp)]
  first
  | refine wpAny_bind (wpAny_pure ?_)
  | skip
  refine wpAny_bind ?_
  rw [hc2, hfr]
  refine HandSPX.setFlight_anyZ (s := { s' with heap := h2 }) sB ff2 tr2 fun h4 k1 k2 k3 k4 => wpAny_throw ?_
  have Jn : H1 ce.locals = none := J.free
  refine tk _ _ ⟨a, PySem.W.hideAll B [ce.locals], { sI with heap := PySem.W.hideAll sI.heap [ce.locals] }, pins, σ, H1, cls, d, rfl, ?_, fun b o e n => hid3 (nb b o (hide e).2 n) (hide e).1, ?_, .inr (.inr ⟨k1, hid2 g2, by rw [hst]; exact k2, k3⟩), na, os, ag, w σ⟩
  · have hn3 : ∀ b o, s3.heap.get? b = some o → b ≠ ce.locals := fun b o e q => by
      have l := Heap.lt_size e
      rw [q, cL] at l
      exact absurd l (Nat.lt_irrefl _)
    have U : Un (frs X.stack) fp H3 H1 s3.heap sI.heap := J.base
    refine I3.call' (ch := fp) J.os ⟨fun b o e n q r => hid3 (U.keep b o e n q r) (hn3 b o e), fun b o e n q r => ?_, U.free, fun b o e q => ?_, U.tups, U.frzs, U.tbls⟩ (fun b o e => ?_) J.bare f3
    · obtain ⟨sl, k⟩ := U.slot b o e n q r
      exact ⟨sl, hid3 k (hn3 b o e)⟩
    · obtain ⟨o', k⟩ := U.there b o e q
      exact ⟨o', hid3 k (hn3 b o e)⟩
    · refine (J.hok b o e).stay (fun c o2 hc r => hid3 r fun q => ?_) (fun _ r => r) fun _ _ r => r
      rcases hc with hc | hc
      · rw [hc] at q
        rw [q, Jn] at e
        cases e
      · rw [q, Jn] at hc
        cases hc
  · intro b o e k
    obtain ⟨n, e⟩ := hide e
    obtain ⟨sl, e1⟩ := up b o e k
    obtain ⟨sl2, e2⟩ := up1 b _ e1 k
    obtain ⟨sl3, e3⟩ := k4 b _ (st2 b _ n e2) k
    exact ⟨sl3, e3⟩
section
variable {X : Cx}
/-- the context of a comprehension's block whose errors are taken -/
abbrev Blk (X : Cx) (scope : Scope) (W : WX) (R : Cx → Prop) : Prop := ∀ (s : Shared) (H : Hp) (C : Addr) (cl : List (Str × Addr)) (fp : List Addr) (z : Value → Shared → Prop),
  Passes (L2.CX X.prog X.w) (blkE X s H scope (compEnvC scope cl C X.env) fp z) (AnyS W) → R (blkE X s H scope (compEnvC scope cl C X.env) fp z)
theorem lcX_core {pins : List (Addr × Obj)} {s : Shared} {σ : L2.St} {H : Hp} {Q : VK} {elt tg iter : Expr} {ifs : List Expr} {scope : Scope} {own : List (Str × Nat)} {pos pos' : Pos} {wi : TI} {g : TG} {tt : TT} {te : TE} {use : Option (Value → Sem Unit)} {Qf : Value → Shared → Prop} {W : WX}
    (hc : X.calm = true) (hN : X.N.Nodup) (tk : Takes X W) (hst : X.stack = X.env :: X.outer) (hfr : X.env.frame = some X.env.locals) (I : Inv X pins σ H s) (hi : PI X tg iter wi) (ok : BlkOk X.N X.env.scope scope own)
    (hg : Blk X scope W fun Y => PG Y tg g) (ht : Blk X scope W fun Y => PTs Y ifs tt) (he : Blk X scope W fun Y => PE Y elt te) (hs : ∀ x, foldedSetIterable iter X.env x = pure x) (h : tLc wi g tt te (own.map (·.2)) σ H Q)
    (fin : ∀ D C s' m H', Inv X pins σ H' s' → Q (.ref D) H' → s'.heap.Ns C m → FpOk X pins H' C → compPost (model X.prog X.w) X.A X.xe use Qf (.ref D) C (.ok .next) s') :
    wpAny (model X.prog X.w) X.A (comprehension (.ListComp elt [⟨tg, iter, ifs, 0⟩] scope pos) scope X.env pos' (newList []) false (eval iter X.env) use) Qf X.xe s := by
  refine compX (use := use) rfl hs (closure_ok fun y hy e => (ok.free y hy e).elim (fun k => I.ok.has _ (.inl k)) fun k => I.ok.has _ (.inr k)) ok.kind (fun y hy e => by rw [ok.uniq y hy, e]) ?_
  refine thn (hi.run pins s σ H _ I h) fun xv s1 hx => thn hx fun itv s2 h2 => ?_
  obtain ⟨it, fp, tn, J, H2, rfl, I2, T, st2, f2, q⟩ := h2
  refine wpAny_newObj_type (newEnv_comp ?_) (Nat.zero_le _)
  generalize hD : s2.heap.objs.size = D
  obtain ⟨Wv, ⟨m0, w0⟩, turn⟩ := q D (I2.hok.fresh (Nat.le_of_eq hD))
  generalize hs3 : ({ s2 with heap := s2.heap.push { cls := .type "list", data := .seq ([] : List Value).toArray } } : Shared) = s3
  have h3 : s3.heap = s2.heap.push { cls := .type "list", data := .seq ([] : List Value).toArray } := by rw [← hs3]
  have I3 : Inv X pins σ (upd H2 D (.lst [])) s3 := by
    rw [← hs3]
    exact I2.laid (t' := s2.toks) (fun _ _ e => Heap.get?_push_of_some _ e) (Nat.le_of_eq hD) ⟨Nat.zero_le _, [], 0, .nil, by rw [← hD]; exact Heap.get?_push_size _ rfl⟩
  have lt2 : ∀ b ∈ fp, b < s2.heap.objs.size := fun b hb => let ⟨_, e, _⟩ := T.obj _ _ st2 b hb; Heap.lt_size e
  have f3 : ∀ b ∈ fp, FpOk X pins (upd H2 D (.lst [])) b ∧ b < s3.heap.objs.size := fun b hb => by
    refine ⟨⟨?_, (f2 b hb).2⟩, by rw [h3, Heap.size_push]; exact Nat.lt_succ_of_lt (lt2 b hb)⟩
    rw [upd_ne (by rw [← hD]; exact Nat.ne_of_lt (lt2 b hb)), (f2 b hb).1]
  have f3' : ∀ b ∈ fp, (b ∈ X.ex ∨ X.s_0.heap.objs.size ≤ b) ∧ b ≠ X.env.locals ∧ (∀ x c, X.env.cells.lookup x = some c → c ≠ b) ∧ ∀ p ∈ X.pn ++ pins, p.1 ≠ b := fun b hb =>
    ⟨(f3 b hb).1.2.2.2.1, (f3 b hb).1.2.1, (f3 b hb).1.2.2.2.2.1, (f3 b hb).1.2.2.2.2.2⟩
  have st3 : tn 0 s3.heap := T.keep _ _ _ st2 fun _ _ _ e => by rw [h3]; exact Heap.get?_push_of_some _ e
  have I4 := block_start I3 ok hN f3
  show codeAny _ _ (.compStart _ 0 (.ref it) (.ref D) (compEnvC scope (cellsFrom (s3.heap.objs.size + 1) scope.names (cloFrom X.env.cells scope.names [])) s3.heap.objs.size X.env)) (cPost (model X.prog X.w) X.A X.xe use Qf (.ref D) s3.heap.objs.size X.env.frame) { s3 with heap := pushCells (s3.heap.push { cls := .type "dict", data := .dict #[] }) scope.names }
  have nfp : ∀ b ∈ fp, (upd H2 D (.lst [])) b = none := fun b hb => (f3 b hb).1.1
  have ps := fun (z : Value → Shared → Prop) (p : Passes (L2.CX X.prog X.w) (blkE X s3 (upd H2 D (.lst [])) scope (compEnvC scope (cellsFrom (s3.heap.objs.size + 1) scope.names (cloFrom X.env.cells scope.names [])) s3.heap.objs.size X.env) fp z) (AnyS W)) =>
    And.intro (hg _ _ _ _ _ z p) (And.intro (ht _ _ _ _ _ z p) (he _ _ _ _ _ z p))
  generalize hce : compEnvC scope (cellsFrom (s3.heap.objs.size + 1) scope.names (cloFrom X.env.cells scope.names [])) s3.heap.objs.size X.env = ce at I4 ps ⊢
  have cL : ce.locals = s3.heap.objs.size := by subst hce; rfl
  have cF : ce.frame = X.env.frame := by subst hce; rfl
  generalize hH3 : upd H2 D (.lst []) = H3 at I3 I4 ps w0 nfp f3
  generalize hs4 : ({ s3 with heap := pushCells (s3.heap.push { cls := .type "dict", data := .dict #[] }) scope.names } : Shared) = s4 at I4 ⊢
  have st4 : tn 0 s4.heap := T.keep _ _ _ st3 fun _ _ _ e => by rw [← hs4]; exact pushCells_keeps _ _ _ _ (Heap.get?_push_of_some _ e)
  obtain ⟨z, hz⟩ : ∃ z : Value → Shared → Prop, z = notedBy (model X.prog X.w) X.A ce (fun x s2 => cPost (model X.prog X.w) X.A X.xe use Qf (.ref D) s3.heap.objs.size X.env.frame (.error x) s2) := ⟨_, rfl⟩
  obtain ⟨Y, hY⟩ : ∃ Y : Cx, Y = blkE X s3 H3 scope ce fp z := ⟨_, rfl⟩
  have pas : Passes (L2.CX X.prog X.w) (blkE X s3 H3 scope ce fp z) (AnyS W) := fun ps' σ' H' s5 e s6 I5 c5 => by
    show z e s6
    rw [hz, ← cL]
    exact out_of_blk tk hst hfr I3 cL cF f3' I5 c5
  obtain ⟨pg, pt, pe⟩ := ps z pas
  have I4' : Inv (blkE X s3 H3 scope ce fp z) [] (wipe σ (own.map (·.2))) H3 s4 := inv_xe I4
  rw [← hY] at pg pt pe I4'
  have yp : Y.prog = X.prog := by rw [hY]
  have stat : ∀ {σ' : L2.St} {H' : Hp} {s' : Shared}, Inv Y [] σ' H' s' → (∀ b ∈ fp, H' b = none) → ∀ b ∈ fp, FpOk Y [] H' b := fun {σ' H' s'} I' hn b hb => by
    subst hY
    exact ⟨hn b hb, (I'.ok.exf b hb).1, I'.ok.exfs b hb, .inl hb, fun x c e => (I'.ok.exf b hb).2 x c e, fun p hp => absurd (show p ∈ ([] : List (Addr × Obj)) ++ [] from hp) (by simp)⟩
  have loop : codeAny (model X.prog X.w) X.A (.compLoop (.ListComp elt [⟨tg, iter, ifs, 0⟩] scope pos) 0 (.ref it) (.ref D) ce) (cPost (model X.prog X.w) X.A X.xe use Qf (.ref D) s3.heap.objs.size X.env.frame) s4 := by
    subst hY
    refine compLoop_any (fun n s' => ∃ i H', Inv (blkE X s3 H3 scope ce fp z) [] (wipe σ (own.map (·.2))) H' s' ∧ tn i s'.heap ∧ (∀ b ∈ fp, H' b = none) ∧ Wv i n H') ?_ m0 ⟨0, H3, I4', st4, nfp, w0⟩
    rw [← hz]
    rintro n s5 ⟨i, H5, I5, st5, n5, w5⟩
    rcases turn i n H5 w5 with ⟨stop, qq⟩ | ⟨go, Nx, hNx, step⟩
    · refine thnF (T.done (blkE X s3 H3 scope ce fp z) rfl rfl rfl hc i [] s5 _ H5 (fun _ _ => False) I5 (stat I5 n5) st5 stop) fun r s6 ⟨hr, I6⟩ => ?_
      subst hr
      have I7 : Inv X pins σ H5 s6 := I3.call' (ch := fp) I6.os I6.base I6.hok I6.bare f3'
      have nC : H5 s3.heap.objs.size = none := by rw [← cL]; exact I6.free
      obtain ⟨m, hn, _⟩ := I6.loc
      have hn : s6.heap.Ns ce.locals m := hn
      rw [cL] at hn
      exact fin D _ s6 m H5 I7 qq hn (I3.fpOk (Nat.le_refl _) nC)
    · refine thnF (T.item (blkE X s3 H3 scope ce fp z) rfl rfl rfl hc i [] s5 _ H5 (fun _ _ => False) I5 (stat I5 n5) st5 go) fun r s6 ⟨u, hr, h6⟩ => ?_
      subst hr
      refine thnF h6 fun _ s7 ⟨x, H7, I7, r7, y7, st7, n7⟩ => ?_
      have I7' := I7.pinned (stat I7 n7) (T.obj _ _ st7)
      refine thn (pg.run _ s7 _ H7 x u _ I7' r7 (step x H7 y7)) fun _ s8 ⟨σ8, H8, I8, hw8, q8⟩ => ?_
      refine thn (pt.run _ s8 σ8 H8 _ I8 q8) fun b s9 ⟨H9, I9, q9⟩ => ?_
      have again : ∀ {s' : Shared} {H' : Hp}, Inv (blkE X s3 H3 scope ce fp z) ([] ++ pinsAt fp s7.heap) σ8 H' s' → Nx H' → ∃ m, m < n ∧ ∃ i H', Inv (blkE X s3 H3 scope ce fp z) [] (wipe σ (own.map (·.2))) H' s' ∧ tn i s'.heap ∧ (∀ b ∈ fp, H' b = none) ∧ Wv i m H' := fun {s' H'} I' nx => by
        obtain ⟨m', hm, w'⟩ := hNx H' nx
        have pin' : ∀ b ∈ fp, ∀ o, s7.heap.get? b = some o → s'.heap.get? b = some o ∧ H' b = none := fun b hb o e =>
          let y := I'.pin (b, o) (List.mem_append_right _ (List.mem_append_right _ (mem_pinsAt hb e)))
          ⟨y.1, y.2.1⟩
        refine ⟨m', hm, i + 1, H', (I'.unpinned (pins := [])).weak (by rw [← hw8, wipe_length]) (fun j v e => ?_), T.keep _ _ _ st7 fun b hb o e => (pin' b hb o e).1, fun b hb => ?_, w'⟩
        · rw [← hw8] at e
          exact (wipe_some e).1
        · obtain ⟨o, e, _⟩ := T.obj _ _ st7 b hb
          exact (pin' b hb o e).2
      cases b with
      | false =>
        rw [if_neg Bool.false_ne_true] at q9 ⊢
        exact again I9 q9
      | true =>
        rw [if_pos rfl] at q9 ⊢
        refine thn (pe.run _ s9 σ8 H9 _ I9 q9) fun v s10 ⟨yv, H10, I10, r10, acc, hD10, hz10, nx⟩ => ?_
        exact app_ok (X := blkE X s3 H3 scope ce fp z) I10 hD10 hz10 r10 fun s11 I11 => again I11 nx
  exact codeAny_compStart_list loop (T.self X.A 0 _ _ _ st4 loop)
variable {elt tg iter : Expr} {ifs : List Expr} {scope : Scope} {own : List (Str × Nat)} {pos : Pos} {wi : TI} {g : TG} {tt : TT} {te : TE} {W : WX}
/-- as a value -/
theorem pe_lcX (tk : Takes X W) (hc : X.calm = true) (hN : X.N.Nodup) (hi : PI X tg iter wi) (ok : BlkOk X.N X.env.scope scope own)
    (hg : Blk X scope W fun Y => PG Y tg g) (ht : Blk X scope W fun Y => PTs Y ifs tt) (he : Blk X scope W fun Y => PE Y elt te) (hs : ∀ x, foldedSetIterable iter X.env x = pure x := by intro _; rfl)
    (hst : X.stack = X.env :: X.outer := by rfl) (hfr : X.env.frame = some X.env.locals := by rfl) :
    PE X (.ListComp elt [⟨tg, iter, ifs, 0⟩] scope pos) (tLc wi g tt te (own.map (·.2))) := by
  refine ⟨fun pins s σ H Q I h => ?_⟩
  rw [eval_ListComp]
  refine lcX_core hc hN tk hst hfr I hi ok hg ht he hs h fun D C s' m H' I' q hn f => ⟨m, hn, fun h2 sb => ?_⟩
  obtain ⟨f0, f1, f2, f3, f4, f5⟩ := f
  exact ⟨.ref D, H', I'.turned (t' := s'.toks) (fun b o hb e => (sb.2 b hb).trans e) f0 f1 f3 f4 f5, rfl, q⟩
/-- name = [..], a local -/
theorem ps_setLcX {i : Nat} {y : Str} {py spos : Pos} (tk : Takes X W) (hc : X.calm = true) (hN : X.N.Nodup) (hy : X.N[i]? = some y) (hyl : X.env.scope.names.lookup y = some .local)
    (hsw : swapsWith (.ListComp elt [⟨tg, iter, ifs, 0⟩] scope pos) (some (.Name y py)) spos.line X.env = pure true) (hi : PI X tg iter wi) (ok : BlkOk X.N X.env.scope scope own)
    (hg : Blk X scope W fun Y => PG Y tg g) (ht : Blk X scope W fun Y => PTs Y ifs tt) (he : Blk X scope W fun Y => PE Y elt te) (hs : ∀ x, foldedSetIterable iter X.env x = pure x := by intro _; rfl)
    (hst : X.stack = X.env :: X.outer := by rfl) (hfr : X.env.frame = some X.env.locals := by rfl) :
    PS X (.Assign [.Name y py] (.ListComp elt [⟨tg, iter, ifs, 0⟩] scope pos) spos) (tAsg (tLc wi g tt te (own.map (·.2))) (gName i)) := by
  refine ⟨fun pins s σ H D I h => ?_⟩
  rw [exec_Assign_Name_used _ _ _ _ hsw]
  refine wpAny_bind (wpAny_standAt (wpAny_bind ?_))
  show wpAny _ X.A (do let _ ← comprehension _ scope X.env (firstIterPos [⟨tg, iter, ifs, 0⟩] pos) (newList []) false (eval iter X.env) (some (assign (.Name y py) X.env))) _ _ s
  have h : tLc wi g tt te (own.map (·.2)) σ H (fun x H1 => gName i x σ H1 D.nx) := h
  refine wpAny_bind (thn (lcX_core (Qf := fun _ s' => SP X pins D .next s') hc hN tk hst hfr I hi ok hg ht he hs h fun L C s' m H' I' q hn f => ?_) fun _ s' hq => wpAny_pure (wpAny_pure hq))
  show wpAny _ _ (assign (.Name y py) X.env (.ref L)) _ _ _
  refine wpAny_assign_Name (store_ok2 (v := V.ref L) I' hN hy (.inl hyl) rfl (fun s2 I2 ⟨a, sb, ha⟩ => ?_) (.inr hyl))
  obtain ⟨f0, f1, f2, f3, f4, f5⟩ := f
  have haC : C ≠ a := ha.elim (fun k => by rw [k]; exact f1) fun k e => f4 y a k e.symm
  refine ⟨m, hn.sameBut sb haC, fun h3 sb3 => ?_⟩
  exact ⟨_, H', I2.turned (t' := s2.toks) (fun b o hb e => (sb3.2 b hb).trans e) f0 f1 f3 f4 f5, q⟩
end
end Pl
namespace Pl
open PySem PySem.Spec PyProof.Rows L2
/-! defs with a star parameter, objects made of a starred list, class methods, constants of a class -/
/-- a method by its raw promise -/
structure MCalR (P : Program) (w : World) (K : PySem.W.Frag) (mg : Str → Option Value) (base : Heap) (CX : CXT) (k : Nat) (C : Addr) (m : Str) (sp : Sp) : Prop where
  ex : ∃ f, FnR P w K mg base CX k f sp ∧ PySem.W.findIn K (.ref C) m = some (some (.ref f)) ∧ PySem.W.isFn K (.ref f) = true
theorem MCal.raw {P : Program} {w : World} {K : PySem.W.Frag} {mg : Str → Option Value} {base : Heap} {k : Nat} {C : Addr} {m : Str} {ps : List Str} {sp : Sp} (c : MCal P w K mg base k C m ps sp) : MCalR P w K mg base CX0 k C m sp := by
  obtain ⟨f, fd, F, h1, h2, kp, hb⟩ := c.ex
  exact ⟨f, (F.raw hb .nil).imp fun vs H Q E h => by simpa using h, h1, h2⟩
theorem MCalX.raw {P : Program} {w : World} {K : PySem.W.Frag} {mg : Str → Option Value} {base : Heap} {k : Nat} {C : Addr} {m : Str} {ps : List Str} {sp : Sp} (c : MCalX P w K mg base k C m ps sp) : MCalR P w K mg base (L2.CX P w) k C m sp := by
  obtain ⟨f, fd, F, h1, h2, kp, hb⟩ := c.ex
  exact ⟨f, (F.raw hb .nil).imp fun vs H Q E h => by simpa using h, h1, h2⟩
/-- what is left over stands in a new tuple -/
def spStar (sp : Sp) : Sp := fun vs H Q E => ∃ (a : V) (rest : List V), vs = a :: rest ∧ rest.length ≤ sizeLine ∧ ∀ p, H p = none → sp [a, .ref p] (upd H p (.tup rest)) Q E
def BindStar (x qual : Str) (st : Stmt) (p1 pv : Str) : Prop := ∀ (kV doc pm : Value) (an : Option Addr) (cdv ct : Value) (us rest : List Value), us.length = [p1].length →
  bindArgs (PySem.W.fnOf x qual (defArgs st) (defBody st) (defScope st) .none kV doc pm an cdv ct) ⟨us ++ rest, []⟩ = (newTuple rest >>= fun t => pure ([p1].zip us ++ [(pv, t)]))
section
variable {P : Program} {w : World} {K : PySem.W.Frag} {mg : Str → Option Value} {base : Heap} {C : Addr} {x qual : Str} {st : Stmt} {N : List Str} {p1 pv : Str} {k : Nat} {sp : Sp}
theorem MhK.star (D : MhK K C x qual st) (S : FnScope N [p1, pv] (defScope st)) (hb : BindStar x qual st p1 pv)
    (bod : ∀ (f : Addr) (cdv : Value) (A : Around) (out : List Env) (s : Shared) (H : Hp) (vs : List V) (Q : VK) (E : XK),
      Room k (A.deeper (envOfC qual (defScope st) s.heap.objs.size f cdv)) → sp vs H Q E →
      ∃ t, PSs (cxOf CX0 P w K mg base N qual (defScope st) f cdv A out s H E).nox (defBody st) t ∧ t { nx := fun _ H' => Q .non H', rt := Q } (start N vs) H) : MCalR P w K mg base CX0 (k + 1) C x (spStar sp) := by
  obtain ⟨f, a, i, od, an, sl, oc, kV, dc, pm, cd, ct, l, c, kp⟩ := D.ex
  refine ⟨f, (StX.fn_star (ps := [p1]) (pv := pv) (sp := sp) (k := k) l c S StX.cxUp_none (hb kV dc pm an cd ct) fun A out s H vs Q E hr h => ?_).imp fun vs H Q E h => ?_, a, i⟩
  · obtain ⟨t, h1, h2⟩ := bod f cd A out s H vs Q E hr h
    exact ⟨t, h1.nox, h2⟩
  · obtain ⟨v, rest, rfl, hl, q⟩ := h
    exact ⟨[v], rest, rfl, rfl, hl, q⟩
theorem MhK.starX (D : MhK K C x qual st) (S : FnScope N [p1, pv] (defScope st)) (hb : BindStar x qual st p1 pv)
    (bod : ∀ (f : Addr) (cdv : Value) (A : Around) (out : List Env) (s : Shared) (H : Hp) (vs : List V) (Q : VK) (E : XK),
      Room k (A.deeper (envOfC qual (defScope st) s.heap.objs.size f cdv)) → sp vs H Q E →
      ∃ t, PSs (cxOf (L2.CX P w) P w K mg base N qual (defScope st) f cdv A out s H E) (defBody st) t ∧ t { nx := fun _ H' => Q .non H', rt := Q } (start N vs) H) : MCalR P w K mg base (L2.CX P w) (k + 1) C x (spStar sp) := by
  obtain ⟨f, a, i, od, an, sl, oc, kV, dc, pm, cd, ct, l, c, kp⟩ := D.ex
  refine ⟨f, (StX.fn_star (ps := [p1]) (pv := pv) (sp := sp) (k := k) l c S StX.cxUp (hb kV dc pm an cd ct) fun A out s H vs Q E hr h => ?_).imp fun vs H Q E h => ?_, a, i⟩
  · exact bod f cd A out s H vs Q E hr h
  · obtain ⟨v, rest, rfl, hl, q⟩ := h
    exact ⟨[v], rest, rfl, rfl, hl, q⟩
end
/-- C(*e) -/
def tMkS (K : PySem.W.Frag) (C : Addr) (sp : Sp) (E : XK) (te : TE) : TE := fun σ H Q => te σ H fun y H1 => ∃ a xs, y = V.ref a ∧ (SqT K H1 a xs ∨ SqL K H1 a xs) ∧
  ∀ x dx, H1 x = none → H1 dx = none → dx ≠ x → sp (V.ref x :: xs) (upd (upd H1 dx (.own x)) x (.ins C dx [])) (fun v H2 => v = .non ∧ Q (.ref x) H2) E
section
variable {X : Cx} {CX : CXT} {k : Nat} {C : Addr} {sp : Sp} {E : XK} {p pos sps : Pos} {x : Str} {e fe : Expr} {es : List Expr} {te tf : TE} {t : TA}
theorem pe_mkS (c : MCalR X.prog X.w X.K X.mg X.base CX k C "__init__" sp) (hx : Passes CX X E) (mk : PySem.W.makesIn X.K C = true) (kc : PySem.W.keepIn X.K (.ref C) = true) (hm : X.mg x = some (.ref C)) (hr : Room (k + 1) X.A) (he : PE X e te)
    (hg : Gl X x := by rfl) (hdb : (x == ("__debug__" : Str)) = false := by decide) (hst : starEach [.Starred e sps] X.env = [(true, eval e X.env)] := by rfl) :
    PE X (.Call (.Name x p) [.Starred e sps] [] pos) (tMkS X.K C sp E te) := by
  obtain ⟨f, F, h1, h2⟩ := c.ex
  refine ⟨fun pins s σ H Q I h => wpAny_Call_Name_kw (ld_glob I hg hm ?_ hdb)⟩
  refine PySem.W.callWith_S (h₀ := X.base) I.ok.mod.kin kc (thn (he.run pins s σ H _ I h) fun v s1 ⟨y, H1, I1, ry, a, xs, ey, hxs, q⟩ => ?_) hst
  subst ey
  obtain rfl : v = Value.ref a := ry
  exact StX.star_any I1 hxs fun us s2 I2 rv => ⟨I2.kIn, StX.run_makeR ⟨mk, h1, h2, kc⟩ F hr hx I2 rv q⟩
/-- v(*e), v a variable that holds the class -/
def tMkV (K : PySem.W.Frag) (C : Addr) (sp : Sp) (E : XK) (tf te : TE) : TE := fun σ H Q => tf σ H fun z H0 => z = .ref C ∧ tMkS K C sp E te σ H0 Q
theorem pe_mkV (c : MCalR X.prog X.w X.K X.mg X.base CX k C "__init__" sp) (hx : Passes CX X E) (mk : PySem.W.makesIn X.K C = true) (kc : PySem.W.keepIn X.K (.ref C) = true) (hr : Room (k + 1) X.A) (hf : PE X fe tf) (he : PE X e te)
    (ht : eval (.Call fe [.Starred e sps] [] pos) X.env = (do callWith pos (← eval fe X.env) [] (backTo pos (starEach [.Starred e sps] X.env)) (backToKw pos (keywordEach [] X.env))) := by rfl)
    (hst : starEach [.Starred e sps] X.env = [(true, eval e X.env)] := by rfl) : PE X (.Call fe [.Starred e sps] [] pos) (tMkV X.K C sp E tf te) := by
  obtain ⟨f, F, h1, h2⟩ := c.ex
  refine ⟨fun pins s σ H Q I h => ?_⟩
  refine Call_ (thn (hf.run pins s σ H _ I h) fun u s0 ⟨z, H0, I0, rz, ez, h0⟩ => ?_) ht
  subst ez
  obtain rfl : u = Value.ref C := rz
  refine PySem.W.callWith_S (h₀ := X.base) I0.ok.mod.kin kc (thn (he.run pins s0 σ H0 _ I0 h0) fun v s1 ⟨y, H1, I1, ry, a, xs, ey, hxs, q⟩ => ?_) hst
  subst ey
  obtain rfl : v = Value.ref a := ry
  exact StX.star_any I1 hxs fun us s2 I2 rv => ⟨I2.kIn, StX.run_makeR ⟨mk, h1, h2, kc⟩ F hr hx I2 rv q⟩
/-- C(e, ..) by a raw promise -/
theorem pe_mkR (c : MCalR X.prog X.w X.K X.mg X.base CX k C "__init__" sp) (hx : Passes CX X E) (mk : PySem.W.makesIn X.K C = true) (kc : PySem.W.keepIn X.K (.ref C) = true) (hm : X.mg x = some (.ref C)) (hr : Room (k + 1) X.A) (ha : PA X (e :: es) t)
    (hg : Gl X x := by rfl) (hdb : (x == ("__debug__" : Str)) = false := by decide)
    (he : starEach (e :: es) X.env = (false, eval e X.env) :: starEach es X.env := by rfl) (hpl : (backTo pos (starEach es X.env)).any (·.1) = false := by rfl) :
    PE X (.Call (.Name x p) (e :: es) [] pos) (StX.tMakeR C sp E t) := by
  obtain ⟨f, F, h1, h2⟩ := c.ex
  exact StX.pe_makeR ⟨mk, h1, h2, kc⟩ F hr hg hm hx ha hdb he hpl
end
/-! class methods -/
structure CmK (K : PySem.W.Frag) (C : Addr) (m qual : Str) (st : Stmt) : Prop where
  ex : ∃ (mc : Value) (p g : Addr), ClX.CRead K C mc ∧ ClX.CMet K C mc m p g ∧ FnAt K g m qual st
theorem CmK.of {K : PySem.W.Frag} {C p g : Addr} {mc : Value} {m qual : Str} {st : Stmt} {rest : List Value} {od an : Option Addr} {sl : Array (Option Value)} {oc kV dc pm cd ct : Value}
    (rd : PySem.W.readsIn K C mc = true) (ga : PySem.W.specialIn K (.ref C) "__getattribute__" = some (some (.builtin "type.__getattribute__")))
    (at_ : PySem.W.findCls K (.ref C) mc m = some (.get (.builtin "classmethod.__get__") (.ref p) .none (.ref C))) (rc : PySem.W.recIn K p "classmethod" = some (.ref g :: rest)) (fi : PySem.W.fnIn K g = true)
    (l : K.lookup g = some ⟨oc, od, .func (PySem.W.fnOf m qual (defArgs st) (defBody st) (defScope st) .none kV dc pm an cd ct), sl⟩) (c : PySem.W.codeIn K cd qual = true) (k : PySem.W.keepIn K (.ref g) = true) : CmK K C m qual st :=
  ⟨⟨mc, p, g, ⟨rd, ga⟩, ⟨at_, ⟨rest, rc⟩, fi⟩, od, an, sl, oc, kV, dc, pm, cd, ct, l, c, k⟩⟩
structure CmCal (P : Program) (w : World) (K : PySem.W.Frag) (mg : Str → Option Value) (base : Heap) (CX : CXT) (k : Nat) (C : Addr) (m : Str) (sp : Sp) : Prop where
  ex : ∃ (mc : Value) (p g : Addr), ClX.CRead K C mc ∧ ClX.CMet K C mc m p g ∧ FnR P w K mg base CX k g sp
section
variable {P : Program} {w : World} {K : PySem.W.Frag} {mg : Str → Option Value} {base : Heap} {C : Addr} {x qual : Str} {st : Stmt} {N ps : List Str} {k : Nat} {sp : Sp}
theorem CmK.cal (D : CmK K C x qual st) (b : BindOk x qual st ps) (S : FnScope N ps (defScope st)) (lng : ∀ vs H Q E, sp vs H Q E → vs.length = ps.length)
    (bod : ∀ (f : Addr) (cdv : Value) (A : Around) (out : List Env) (s : Shared) (H : Hp) (vs : List V) (Q : VK) (E : XK),
      Room k (A.deeper (envOfC qual (defScope st) s.heap.objs.size f cdv)) → sp vs H Q E →
      ∃ t, PSs (cxOf CX0 P w K mg base N qual (defScope st) f cdv A out s H E).nox (defBody st) t ∧ t { nx := fun _ H' => Q .non H', rt := Q } (start N vs) H) : CmCal P w K mg base CX0 (k + 1) C x sp := by
  obtain ⟨mc, p, g, h1, h2, od, an, sl, oc, kV, dc, pm, cd, ct, l, c, kp⟩ := D.ex
  have F := fun_mk (st := st) l c kp
  exact ⟨mc, p, g, h1, h2, ((F.ok S lng (bod g)).raw (F.binds b) .nil).imp fun vs H Q E h => by simpa using h⟩
end
/-- a constant of a class -/
structure CvK (K : PySem.W.Frag) (C : Addr) (f : Str) (n : Int) : Prop where
  ex : ∃ (mc : Value) (t : Tok), ClX.CRead K C mc ∧ ClX.CVal K C mc f (.int n) (.int n t)
theorem CvK.of {K : PySem.W.Frag} {C : Addr} {mc : Value} {f : Str} {n : Int} {t : Tok} (rd : PySem.W.readsIn K C mc = true) (ga : PySem.W.specialIn K (.ref C) "__getattribute__" = some (some (.builtin "type.__getattribute__")))
    (at_ : PySem.W.findCls K (.ref C) mc f = some (.val (.int n t))) : CvK K C f n := ⟨⟨mc, t, ⟨rd, ga⟩, at_, ⟨t, rfl⟩⟩⟩
section
variable {X : Cx} {CX : CXT} {k : Nat} {C : Addr} {sp : Sp} {E : XK} {pos apos : Pos} {f m : Str} {e o : Expr} {es : List Expr} {te ta : TE} {t : TA} {n : Int} {pl : Sem Bool}
theorem pe_cv (c : CvK X.K C f n) (he : PE X e te) (hb : attributeBase e f X.env (eval e X.env) = eval e X.env := by rfl) : PE X (.Attribute e f pos) (fun σ H Q => te σ H fun x H1 => x = .ref C ∧ Q (.int n) H1) := by
  obtain ⟨mc, t, r, v⟩ := c.ex
  refine ⟨fun pins s σ H Q I h => ?_⟩
  refine attr_of hb (thn (he.run pins s σ H _ I h) fun u s1 ⟨x, H1, I1, rx, ex, q⟩ => ?_)
  subst ex
  obtain rfl : u = Value.ref C := rx
  exact ClX.getcval_ok I1 r v fun s2 I2 => ⟨.int n, H1, I2, v.rel, q⟩
theorem pe_cm (c : CmCal X.prog X.w X.K X.mg X.base CX k C m sp) (hx : Passes CX X E) (hr : Room k X.A) (he : PE X o ta) (ha : PA X (e :: es) t)
    (hst : starEach (e :: es) X.env = (false, eval e X.env) :: starEach es X.env := by rfl) (hpl : (backTo pos (starEach es X.env)).any (·.1) = false := by rfl)
    (ht : eval (.Call (.Attribute o m apos) (e :: es) [] pos) X.env = (do
      let ov ← eval o X.env
      standAt apos.atName
      let (f, first) ← holding [ov] (getMethod ov m pl)
      callWith pos f first (backTo pos (starEach (e :: es) X.env)) (backToKw pos (keywordEach [] X.env))) := by rfl) :
    PE X (.Call (.Attribute o m apos) (e :: es) [] pos) (ClX.tCMeth C sp E ta t) := by
  obtain ⟨mc, p, g, h1, h2, F⟩ := c.ex
  exact ClX.pe_cmeth he h1 h2 F hr hx ha hst hpl ht
end
end Pl
namespace Pl
open PySem PySem.Spec PyProof.Rows L2 TL
/-! the texts of amounts, lines, divisions -/
abbrev wd (n : Int) : Str := toString n
theorem wd_all : ∀ i : Fin 31, (decide (10 ∉ tl (wd (i.val : Int))) && decide (32 ∉ tl (wd (i.val : Int))) && decide ((tl (wd (i.val : Int))).length ≤ 2)) = true := by decide +kernel
theorem wd_inj31 : ∀ i j : Fin 31, wd (i.val : Int) = wd (j.val : Int) → i = j := by decide +kernel
theorem wd_ok {n : Int} (h0 : 0 ≤ n) (h1 : n ≤ 30) : 10 ∉ tl (wd n) ∧ 32 ∉ tl (wd n) ∧ (tl (wd n)).length ≤ 2 := by
  have e : ((n.toNat : Nat) : Int) = n := by omega
  have h := wd_all ⟨n.toNat, by omega⟩
  simp only [e, Bool.and_eq_true, decide_eq_true_eq] at h
  exact ⟨h.1.1, h.1.2, h.2⟩
theorem wd_inj {n m : Int} (h0 : 0 ≤ n) (h1 : n ≤ 30) (k0 : 0 ≤ m) (k1 : m ≤ 30) (h : wd n = wd m) : n = m := by
  have e : ((n.toNat : Nat) : Int) = n := by omega
  have e2 : ((m.toNat : Nat) : Int) = m := by omega
  have q := wd_inj31 ⟨n.toNat, by omega⟩ ⟨m.toNat, by omega⟩ (by simpa only [e, e2] using h)
  have := congrArg Fin.val q
  simp only at this
  omega
def line (ns : List Int) : Str := Str.join " " (ns.map wd)
def text (rows : List (List Int)) : Str := Str.join "" (rows.map fun ns => line ns ++ "\n")
theorem joinL_mem {S : List Nat} {c : Nat} : ∀ {ps : List (List Nat)}, c ∈ joinL S ps → c ∈ S ∨ ∃ p ∈ ps, c ∈ p
  | [], h => by simp [joinL] at h
  | [p], h => .inr ⟨p, List.mem_singleton.mpr rfl, h⟩
  | p :: q :: r, h => by
    unfold joinL at h
    rcases List.mem_append.mp h with h | h
    · exact .inr ⟨p, List.mem_cons_self, h⟩
    · rcases List.mem_append.mp h with h | h
      · exact .inl h
      · rcases joinL_mem h with h | ⟨z, hz, h⟩
        · exact .inl h
        · exact .inr ⟨z, List.mem_cons_of_mem _ hz, h⟩
theorem joinL_len {S : List Nat} {k : Nat} : ∀ {ps : List (List Nat)}, (∀ p ∈ ps, p.length ≤ k) → (joinL S ps).length ≤ (k + S.length) * ps.length
  | [], _ => Nat.zero_le _
  | [p], h => by
    have := h p (List.mem_singleton.mpr rfl)
    show p.length ≤ (k + S.length) * 1
    omega
  | p :: q :: r, h => by
    have h1 := h p List.mem_cons_self
    have h2 := joinL_len (S := S) (ps := q :: r) fun z hz => h z (List.mem_cons_of_mem _ hz)
    show (p ++ (S ++ joinL S (q :: r))).length ≤ (k + S.length) * ((q :: r).length + 1)
    rw [List.length_append, List.length_append, Nat.mul_add, Nat.mul_one]
    omega
theorem tl_line (ns : List Int) : tl (line ns) = joinL [32] (ns.map fun n => tl (wd n)) := by
  unfold line
  rw [tl_join, List.map_map]
  rfl
theorem line_free {ns : List Int} (am : ∀ r ∈ ns, 0 ≤ r ∧ r ≤ 30) : 10 ∉ tl (line ns) := fun h => by
  rw [tl_line] at h
  rcases joinL_mem h with h | ⟨p, hp, h⟩
  · exact absurd h (by decide)
  · obtain ⟨n, hn, rfl⟩ := List.mem_map.mp hp
    exact (wd_ok (am n hn).1 (am n hn).2).1 h
theorem line_len {ns : List Int} (am : ∀ r ∈ ns, 0 ≤ r ∧ r ≤ 30) : (line ns).length ≤ 3 * ns.length := by
  have h : (tl (line ns)).length ≤ 3 * ns.length := by
    rw [tl_line]
    have := joinL_len (S := [32]) (k := 2) (ps := ns.map fun n => tl (wd n)) fun p hp => by
      obtain ⟨n, hn, rfl⟩ := List.mem_map.mp hp
      exact (wd_ok (am n hn).1 (am n hn).2).2.2
    simpa using this
  rw [len_tl]; exact h
theorem split_line {ns : List Int} (ne : ns ≠ []) (am : ∀ r ∈ ns, 0 ≤ r ∧ r ≤ 30) : Txt.split (line ns) " " = ns.map wd := by
  have e : line ns = Txt.join " " (ns.map wd) := (join_eq _ _).symm
  rw [e]
  refine split_join (s := 32) (S := []) rfl (by decide +kernel) (by simpa using ne) fun p hp => ?_
  obtain ⟨n, hn, rfl⟩ := List.mem_map.mp hp
  exact (wd_ok (am n hn).1 (am n hn).2).2.1
theorem tl_text (rows : List (List Int)) : tl (text rows) = (rows.map fun ns => tl (line ns) ++ [10]).flatten := by
  unfold text
  rw [tl_join]
  have e : ∀ ps : List (List Nat), joinL [] ps = ps.flatten := by
    intro ps
    induction ps with
    | nil => rfl
    | cons p r ih =>
      cases r with
      | nil => simp [joinL]
      | cons q r => 
        show p ++ ([] ++ joinL [] (q :: r)) = _
        rw [ih]
        simp
  have z : tl ("" : Str) = [] := rfl
  rw [z, e, List.map_map]
  refine congrArg List.flatten (List.map_congr_left fun ns _ => ?_)
  show tl (line ns ++ "\n") = _
  rw [tl_append]
  rfl
theorem body_tl : ∀ {rows : List (List Int)}, rows ≠ [] → (rows.map fun ns => tl (line ns) ++ [10]).flatten = joinL [10] (rows.map fun ns => tl (line ns)) ++ [10]
  | [], h => absurd rfl h
  | [r], _ => by simp [joinL]
  | r :: q :: rs, _ => by
    have ih := body_tl (rows := q :: rs) (by simp)
    rw [List.map_cons, List.flatten_cons, ih]
    show (tl (line r) ++ [10]) ++ _ = (tl (line r) ++ ([10] ++ joinL [10] ((q :: rs).map fun ns => tl (line ns)))) ++ [10]
    simp
def body (rows : List (List Int)) : Str := Str.join "\n" (rows.map line)
theorem tl_body (rows : List (List Int)) : tl (body rows) = joinL [10] (rows.map fun ns => tl (line ns)) := by
  unfold body
  rw [tl_join, List.map_map]
  rfl
theorem text_tl {rows : List (List Int)} (h : rows ≠ []) : tl (text rows) = tl (body rows) ++ [10] := by rw [tl_text, body_tl h, tl_body]
theorem text_ends {rows : List (List Int)} (h : rows ≠ []) : Txt.endswith (text rows) "\n" = true := by
  have e := text_tl h
  have l : (text rows).length = (tl (body rows)).length + 1 := by rw [len_tl, e]; simp
  unfold Txt.endswith
  have y1 : ("\n" : Str).length = 1 := rfl
  rw [y1, StrLaws.subAt_eq, l, Nat.add_sub_cancel]
  show (decide (0 + 1 ≤ (tl (body rows)).length + 1) && ((tl (text rows)).drop (tl (body rows)).length).take 1 == [10]) = true
  rw [e, List.drop_left]
  simp
theorem text_cut {rows : List (List Int)} (h : rows ≠ []) : cutS (text rows) none (some (-1)) = body rows := by
  refine ext_tl ?_
  have e := text_tl h
  have l : (text rows).length = (tl (body rows)).length + 1 := by rw [len_tl, e]; simp
  have i1 : HT.sIx (text rows).length 0 none = 0 := HT.sIx_none _ _
  have i2 : HT.sIx (text rows).length (text rows).length (some (-1)) = (tl (body rows)).length := by
    rw [l]
    unfold HT.sIx
    simp
    try omega
  unfold cutS
  show (((tl (text rows)).drop _).take _) = _
  rw [i1, i2, e, List.drop_zero, Nat.sub_zero, List.take_left]
theorem body_split {rows : List (List Int)} (h : rows ≠ []) (am : ∀ ns ∈ rows, ∀ r ∈ ns, 0 ≤ r ∧ r ≤ 30) : Txt.split (body rows) "\n" = rows.map line := by
  have e : body rows = Txt.join "\n" (rows.map line) := (join_eq _ _).symm
  rw [e]
  refine split_join (s := 10) (S := []) rfl (by decide +kernel) (by simpa using h) fun p hp => ?_
  obtain ⟨n, hn, rfl⟩ := List.mem_map.mp hp
  exact line_free (am n hn)
theorem text_len {rows : List (List Int)} {m k : Nat} (hk : rows.length ≤ k) (hm : ∀ ns ∈ rows, ns.length ≤ m) (am : ∀ ns ∈ rows, ∀ r ∈ ns, 0 ≤ r ∧ r ≤ 30) : (text rows).length ≤ (3 * m + 1) * k := by
  have h : (tl (text rows)).length ≤ (3 * m + 1) * rows.length := by
    rw [tl_text]
    induction rows with
    | nil => simp
    | cons r rs ih =>
      have h1 := line_len (am r List.mem_cons_self)
      have h2 := hm r List.mem_cons_self
      have h3 := ih (by simp at hk; omega) (fun ns h => hm ns (List.mem_cons_of_mem _ h)) (fun ns h => am ns (List.mem_cons_of_mem _ h))
      rw [List.map_cons, List.flatten_cons, List.length_append, List.length_append, ← len_tl]
      simp only [List.length_cons, List.length_nil, Nat.mul_add, Nat.mul_one]
      omega
  rw [len_tl]
  exact Nat.le_trans h (Nat.mul_le_mul_left _ hk)
theorem body_len {rows : List (List Int)} (h : rows ≠ []) : (body rows).length + 1 = (text rows).length := by
  rw [len_tl, len_tl, text_tl h]; simp
/-! methods without arguments, texts with values in them -/
section
variable {X : Cx} {k : Nat} {C : Addr} {ps : List Str} {sp : Sp} {E : XK} {pos apos : Pos} {m : Str} {o v1 v2 : Expr} {rest : List Expr} {ta : TE} {ts : List TE} {pl : Sem Bool}
def tMt0 (C : Addr) (m : Str) (sp : Sp) (E : XK) (ta : TE) : TE := fun σ H Q => ta σ H fun x H1 => ∃ a dx fs, x = .ref a ∧ H1 a = some (.ins C dx fs) ∧ fs.lookup m = none ∧ sp [x] H1 Q E
theorem pe_mt0 (c : MCal X.prog X.w X.K X.mg X.base k C m ps sp) (cl : Cls X.K C) (hr : Room k X.A) (he : PE X o ta)
    (ht : eval (.Call (.Attribute o m apos) [] [] pos) X.env = (do
      let ov ← eval o X.env
      standAt apos.atName
      let (f, first) ← holding [ov] (getMethod ov m pl)
      callWith pos f first (backTo pos (starEach [] X.env)) (backToKw pos (keywordEach [] X.env))) := by rfl) : PE X (.Call (.Attribute o m apos) [] [] pos) (tMt0 C m sp E0 ta) := by
  obtain ⟨f, fd, F, h1, h2, kp, hb⟩ := c.ex
  exact pe_meth0 (dvs := []) he cl ⟨h1, h2, kp⟩ F hr hb .nil pass0 ht
theorem pe_mt0X (c : MCalX X.prog X.w X.K X.mg X.base k C m ps sp) (hx : Passes (L2.CX X.prog X.w) X E) (cl : Cls X.K C) (hr : Room k X.A) (he : PE X o ta)
    (ht : eval (.Call (.Attribute o m apos) [] [] pos) X.env = (do
      let ov ← eval o X.env
      standAt apos.atName
      let (f, first) ← holding [ov] (getMethod ov m pl)
      callWith pos f first (backTo pos (starEach [] X.env)) (backToKw pos (keywordEach [] X.env))) := by rfl) : PE X (.Call (.Attribute o m apos) [] [] pos) (tMt0 C m sp E ta) := by
  obtain ⟨f, fd, F, h1, h2, kp, hb⟩ := c.ex
  exact pe_meth0 (dvs := []) he cl ⟨h1, h2, kp⟩ F hr hb .nil hx ht
def tJoined (ts : List TE) : TE := fun σ H Q => tJs ts Str.empty σ H fun out H1 => Q (.str out) H1
theorem pe_js (h : PJ X (v1 :: v2 :: rest) ts) : PE X (.JoinedStr (v1 :: v2 :: rest) pos) (tJoined ts) := pe_joined h
end
end Pl
namespace Pl
open PySem PySem.Spec PyProof.Rows L2
/-! zip(*rows), rows some tuples -/
section
variable {M : Model} {A : Around} {E : Value → Shared → Prop}
/-- a loop whose turns end as foreseen -/
theorem forIn_wp {α β : Type} {f : α → β → Sem (ForInStep β)} : ∀ (l : List α) (r : Nat → β) (P : Nat → Shared → Prop) (s : Shared),
    (∀ j x s, l[j]? = some x → P j s → wpAny M A (f x (r j)) (fun t s' => t = .yield (r (j + 1)) ∧ P (j + 1) s') E s) → P 0 s → wpAny M A (forIn l (r 0) f) (fun t s' => t = r l.length ∧ P l.length s') E s
  | [], r, P, s, _, h => by
    rw [List.forIn_nil]
    exact wpAny_pure ⟨rfl, h⟩
  | x :: l, r, P, s, st, h => by
    rw [List.forIn_cons]
    refine wpAny_bind (wpAny_mono (st 0 x s rfl h) (fun t s' ht => ?_) fun _ _ e => e)
    obtain ⟨rfl, h'⟩ := ht
    exact forIn_wp l (fun j => r (j + 1)) (fun j => P (j + 1)) s' (fun j y s q => st (j + 1) y s q) h'
end
def tiO (l : Addr) : Obj := { cls := .type "tuple_iterator", data := .fields #[.ref l, .int 0 0] }
/-- the iterators laid one after another -/
def itH (h : Heap) : List Addr → Heap
  | [] => h
  | l :: r => itH (h.push (tiO l)) r
def itV (n : Nat) : List Addr → List Value
  | [] => []
  | l :: r => .ref n :: itV (n + 1) r
theorem itH_keep : ∀ {ls : List Addr} {h : Heap} {b : Addr} {o : Obj}, h.get? b = some o → (itH h ls).get? b = some o
  | [], _, _, _, e => e
  | l :: r, h, b, o, e => itH_keep (ls := r) (Heap.get?_push_of_some _ e)
theorem itH_size : ∀ {ls : List Addr} {h : Heap}, (itH h ls).objs.size = h.objs.size + ls.length
  | [], _ => rfl
  | l :: r, h => by
    show (itH (h.push (tiO l)) r).objs.size = _
    rw [itH_size, Heap.size_push, List.length_cons]
    omega
theorem itH_at : ∀ {ls : List Addr} {h : Heap} {j : Nat} {l : Addr}, ls[j]? = some l → (itH h ls).get? (h.objs.size + j) = some (tiO l)
  | l :: r, h, 0, _, e => by
    cases e
    exact itH_keep (ls := r) (h := h.push (tiO l)) (Heap.get?_push_size _ rfl)
  | l :: r, h, j + 1, x, e => by
    have z := itH_at (ls := r) (h := h.push (tiO l)) (j := j) e
    rw [Heap.size_push] at z
    rw [show h.objs.size + (j + 1) = h.objs.size + 1 + j by omega]
    exact z
theorem itV_at : ∀ {ls : List Addr} {n j : Nat}, j < ls.length → (itV n ls)[j]? = some (.ref (n + j))
  | l :: r, n, 0, _ => rfl
  | l :: r, n, j + 1, h => by
    have z := itV_at (ls := r) (n := n + 1) (j := j) (by simpa using h)
    rw [show n + (j + 1) = n + 1 + j by omega]
    exact z
theorem itV_len : ∀ {ls : List Addr} {n : Nat}, (itV n ls).length = ls.length
  | [], _ => rfl
  | l :: r, n => by
    show (itV (n + 1) r).length + 1 = _
    rw [itV_len]
    rfl
section
variable {prog : Program} {w : World} {A : Around} {E : Value → Shared → Prop}
theorem iterAll_go {f : Value → Array Value → Sem (ForInStep (Array Value))} (hf : ∀ x a, f x a = (do let v ← holding a.toList (pyIter x); pure (.yield (a.push v)))) : ∀ (ls : List Addr) (acc : Array Value) (s : Shared) (Q : Array Value → Shared → Prop),
    (∀ l ∈ ls, ∃ xs, s.heap.IsTuple l xs) → Q (acc ++ (itV s.heap.objs.size ls).toArray) { s with heap := itH s.heap ls } → wpAny (model prog w) A (forIn (ls.map Value.ref) acc f) Q E s
  | [], acc, s, Q, _, h => by
    rw [List.map_nil, List.forIn_nil]
    refine wpAny_pure ?_
    have e : acc ++ (itV s.heap.objs.size []).toArray = acc := by simp [itV]
    rw [e] at h
    exact h
  | l :: r, acc, s, Q, ht, h => by
    rw [List.map_cons, List.forIn_cons, hf]
    obtain ⟨xs, hl⟩ := ht l List.mem_cons_self
    refine wpAny_bind (wpAny_bind (wpAny_holding (wpAny_pyIter_tuple hl (wpAny_pure ?_))))
    refine iterAll_go hf r _ _ Q (fun b hb => ?_) ?_
    · obtain ⟨ys, z⟩ := ht b (List.mem_cons_of_mem _ hb)
      exact ⟨ys, z.push _⟩
    · have e : (acc.push (Value.ref s.heap.objs.size)) ++ (itV (s.heap.push (tiO l)).objs.size r).toArray = acc ++ (itV s.heap.objs.size (l :: r)).toArray := by
        rw [Heap.size_push]
        apply Array.toList_inj.mp
        simp [itV]
      show Q ((acc.push (Value.ref s.heap.objs.size)) ++ (itV (s.heap.push (tiO l)).objs.size r).toArray) { s with heap := itH (s.heap.push (tiO l)) r }
      rw [e]
      exact h
theorem iterAll_wp {ls : List Addr} {s : Shared} {Q : List Value → Shared → Prop} (ht : ∀ l ∈ ls, ∃ xs, s.heap.IsTuple l xs) (h : Q (itV s.heap.objs.size ls) { s with heap := itH s.heap ls }) :
    wpAny (model prog w) A (Builtin.SmallTypes.iterAll (ls.map Value.ref)) Q E s := by
  unfold Builtin.SmallTypes.iterAll
  refine wpAny_bind (iterAll_go (fun x a => rfl) ls #[] s _ ht (wpAny_pure ?_))
  have e : (#[] ++ (itV s.heap.objs.size ls).toArray : Array Value).toList = itV s.heap.objs.size ls := by simp
  show Q (#[] ++ (itV s.heap.objs.size ls).toArray : Array Value).toList _
  rw [e]
  exact h
end
abbrev zN3 (h : Heap) (ls : List Addr) : Heap := (itH h ls).push { cls := .type "tuple", data := .seq (itV h.objs.size ls).toArray }
abbrev zN4 (h : Heap) (ls : List Addr) : Heap := (zN3 h ls).push { cls := .type "tuple", data := .seq ((itV h.objs.size ls).map fun _ => Value.none).toArray }
abbrev zN5 (h : Heap) (ls : List Addr) : Heap := (zN4 h ls).push { cls := .type "zip", data := .fields #[.none, .bool false, .bool false, .ref (itH h ls).objs.size, .ref (zN3 h ls).objs.size] }
theorem meets_zipN (ls : List Addr) (hn : ls.length ≤ 100) :
    Meets (Builtin.«zip.__new__» ⟨.type "zip" :: ls.map Value.ref, []⟩) (fun _ R s => (∀ l ∈ ls, ∃ xs, s.heap.IsTuple l xs) ∧ R (.ok (.ret (.ref (zN4 s.heap ls).objs.size))) { s with heap := zN5 s.heap ls }) :=
  .of_wp fun prog w A R s h => by
    obtain ⟨hp, g, d, tk, os⟩ := s
    obtain ⟨ht, h⟩ := h
    have ht : ∀ l ∈ ls, ∃ xs, Heap.IsTuple (Shared.heap ⟨hp, g, d, tk, os⟩) l xs := ht
    have hsub := sub_zip
    unfold Builtin.«zip.__new__»
    refine wpAny_bind (wpAny_of_eq (a := ((.type "zip" : Value), ls.map Value.ref)) ?_ ?_)
    · unfold Builtin.SmallTypes.newClass
      show (isType (.type "zip") >>= _) = _
      rw [show isType (.type "zip") = pure true from rfl]
      show (isSubtype (.type "zip") (.type "zip") >>= _) = _
      rw [hsub]
      rfl
    dsimp only
    rw [if_neg (by simp)]
    have z1 : (itV hp.objs.size ls).length ≤ sizeLine := by rw [itV_len]; exact Nat.le_trans hn (by decide)
    have z2 : ((itV hp.objs.size ls).map fun _ => Value.none).length ≤ sizeLine := by rw [List.length_map]; exact z1
    refine wpAny_bind (iterAll_wp ht (wpAny_bind (wpAny_newTuple (wpAny_bind (wpAny_newTuple (wpAny_bind ?_) z2)) z1)))
    show wpAny _ _ (newObj (.type "zip") (.fields #[.none, .bool false, .bool false, .ref (itH hp ls).objs.size, .ref (zN3 hp ls).objs.size])) _ _ _
    exact wpAny_newObj_type (wpAny_pure ⟨_, rfl, h⟩) (by size_fits)
/-- the checks of the call's form -/
theorem zip_checks : ∀ us : List Value, 2 ≤ us.length → us.length ≤ 4 → checkTypeCall "zip" ⟨us, []⟩ = pure () ∧ checkBuiltinCall "zip.__new__" ⟨.type "zip" :: us, []⟩ = pure () ∧ ∀ obj, argsOk "object.__init__" ⟨obj :: us, []⟩
  | [a, b], _, _ => ⟨F.typeCall_zip_2 _ _, F.newCall_zip_2 _ _, fun obj => F.args_object_init_3 obj _ _⟩
  | [a, b, c], _, _ => ⟨by kernel_rfl, by kernel_rfl, fun obj => by unfold argsOk; kernel_rfl⟩
  | [a, b, c, d], _, _ => ⟨by kernel_rfl, by kernel_rfl, fun obj => by unfold argsOk; kernel_rfl⟩
  | [], h, _ => absurd h (by simp)
  | [_], h, _ => absurd h (by simp)
  | _ :: _ :: _ :: _ :: _ :: _, _, h => absurd h (by simp)
section
variable {prog : Program} {w : World} {A : Around} {E : Value → Shared → Prop} {s : Shared}
theorem call_zipN {ls : List Addr} {Q : Value → Shared → Prop} (h2 : 2 ≤ ls.length) (h4 : ls.length ≤ 4) (ht : ∀ l ∈ ls, ∃ xs, s.heap.IsTuple l xs)
    (h : Q (.ref (zN4 s.heap ls).objs.size) { s with heap := zN5 s.heap ls }) : wpAny (model prog w) A (call (.type "zip") (ls.map Value.ref)) Q E s := by
  obtain ⟨c1, c2, c3⟩ := zip_checks (ls.map Value.ref) (by simpa using h2) (by simpa using h4)
  exact callType_new F.called_zip (by decide) c1 c2 c3 F.entry_zip_new (meets_zipN ls (by omega)) ⟨ht, ⟨_, Heap.get?_push_size _ rfl, rfl⟩, h⟩
end
abbrev ZR (h : Heap) (z TI TO : Addr) (f0 : Value) (f1 : Bool) : Prop := h.get? z = some { cls := .type "zip", dict := none, data := .fields #[f0, .bool f1, .bool false, .ref TI, .ref TO], slots := #[] }
abbrev TupO (h : Heap) (T : Addr) (us : List Value) : Prop := h.get? T = some { cls := .type "tuple", data := .seq us.toArray }
/-- the iterators stand at i, the first j of them one further -/
def ItsJ (h : Heap) (its ls : List Addr) (i j : Nat) : Prop := ∀ (m : Nat) (it l : Addr), its[m]? = some it → ls[m]? = some l → h.IsTupleIter it l (if m < j then i + 1 else i)
def Fld0 (f0 : Value) : Prop := f0 = .none ∨ ∃ T : Nat, f0 = rawInt T
theorem take_set {α : Type} {xs olds : List α} {j : Nat} {x : α} (h : xs[j]? = some x) (l : olds.length = xs.length) : (xs.take j ++ olds.drop j).set j x = xs.take (j + 1) ++ olds.drop (j + 1) := by
  have lt : j < xs.length := (List.getElem?_eq_some_iff.mp h).1
  have e1 : (xs.take j).length = j := by rw [List.length_take]; omega
  rw [List.set_append_right _ _ (by omega), e1, Nat.sub_self, List.drop_eq_getElem_cons (show j < olds.length by omega), List.set_cons_zero, List.take_add_one, h]
  simp
theorem ItsJ.start {h : Heap} {its ls : List Addr} {i n : Nat} (q : ItsJ h its ls i n) (l : its.length ≤ n) : ItsJ h its ls (i + 1) 0 := fun m it l' e1 e2 => by
  have z := q m it l' e1 e2
  rw [if_pos (Nat.lt_of_lt_of_le (List.getElem?_eq_some_iff.mp e1).1 l)] at z
  rw [if_neg (by omega)]
  exact z
/-- one of them moves -/
theorem ItsJ.next {h h' : Heap} {its ls : List Addr} {i j : Nat} {it l : Addr} (q : ItsJ h its ls i j) (nd : its.Nodup) (e1 : its[j]? = some it) (e2 : ls[j]? = some l) (k : ∀ b ∈ its, b ≠ it → ∀ o, h.get? b = some o → h'.get? b = some o) (a : h'.IsTupleIter it l (i + 1)) : ItsJ h' its ls i (j + 1) := fun m b l' f1 f2 => by
  by_cases c : m = j
  · subst c
    rw [e1] at f1
    rw [e2] at f2
    cases f1
    cases f2
    rw [if_pos (Nat.lt_succ_self _)]
    exact a
  · have z := q m b l' f1 f2
    have n : b ≠ it := fun z => by
      rw [z] at f1
      exact c ((List.getElem?_inj (List.getElem?_eq_some_iff.mp f1).1 nd).mp (f1.trans e1.symm))
    have e : (if m < j + 1 then i + 1 else i) = (if m < j then i + 1 else i) := by
      by_cases d : m < j
      · rw [if_pos d, if_pos (by omega)]
      · rw [if_neg d, if_neg (by omega)]
    rw [e]
    exact z.at fun o q => k b (List.mem_of_getElem? f1) n o q
section
variable {prog : Program} {w : World} {A : Around} {E : Value → Shared → Prop} {s : Shared} {z TI TO : Addr} {its ls : List Addr}
theorem free_or_held {f0 : Value} {f1 : Bool} {Q : Bool → Shared → Prop} (hz : ZR s.heap z TI TO f0 f1) (hf : Fld0 f0) (yes : Q true s) (no : ∀ h1, ZR h1 z TI TO f0 true → Heap.SameBut z s.heap h1 → Q false { s with heap := h1 }) :
    wpAny (model prog w) A (Builtin.SmallTypes.ownedTupleIsFree (.ref z)) Q E s := by
  rcases hf with rfl | ⟨T, rfl⟩
  · unfold Builtin.SmallTypes.ownedTupleIsFree
    exact wpAny_bind (wpAny_field hz rfl (x := .none) rfl (wpAny_pure yes))
  · cases e : s.heap.get? T with
    | some o => exact wpAny_tupleHeld_zip hz e no
    | none =>
      unfold Builtin.SmallTypes.ownedTupleIsFree
      refine wpAny_bind (wpAny_field hz rfl (x := rawInt T) rfl ?_)
      show wpAny _ _ (loadIfAlive ((T : Int).toNat) >>= _) _ _ _
      rw [Int.toNat_natCast]
      refine wpAny_bind ?_
      have k : (fun (a : Option Obj) (s' : Shared) => wpAny (model prog w) A (if a.isNone = true then pure true else do
          if (← field (.ref z) 1) != .bool true then setField (.ref z) 1 (.bool true)
          return false) Q E s') (s.heap.get? T) s := by
        rw [e]
        exact wpAny_pure yes
      exact fun _ _ _ => k
theorem zipN_item {f0 : Value} {f1 : Bool} {i : Nat} {olds xs : List Value} {Q : Value → Shared → Prop} (ap : (z :: TI :: TO :: its).Nodup) (al : ∀ l ∈ ls, l ∉ z :: TI :: TO :: its) (ne : its ≠ []) (few : its.length ≤ 100) (ll : its.length = ls.length)
    (hz : ZR s.heap z TI TO f0 f1) (hf : Fld0 f0) (hTI : TupO s.heap TI (its.map Value.ref)) (hTO : TupO s.heap TO olds) (lo : olds.length = its.length) (hi : ItsJ s.heap its ls i 0) (lx : xs.length = its.length)
    (hx : ∀ (j : Nat) (l : Addr) (x : Value), ls[j]? = some l → xs[j]? = some x → ∃ items, s.heap.IsTuple l items ∧ items[i]? = some x)
    (hQ : ∀ h' g0 g1 olds', ZR h' z TI TO g0 g1 → Fld0 g0 → TupO h' TI (its.map Value.ref) → TupO h' TO olds' → olds'.length = its.length → ItsJ h' its ls (i + 1) 0 → TupO h' s.heap.objs.size xs → h'.objs.size = s.heap.objs.size + 1 →
      (∀ c o, c ∉ z :: TI :: TO :: its → s.heap.get? c = some o → h'.get? c = some o) → Q (.ref s.heap.objs.size) { s with heap := h' }) :
    wpAny (model prog w) A (Builtin.«zip.__next__» ⟨[.ref z], []⟩) (fun fin s' => ∃ v, fin = .done (.ret v) ∧ Q v s') E s := by
  show wpAny _ _ (field (.ref z) 2 >>= _) _ _ _
  refine wpAny_bind (wpAny_field hz rfl (x := .bool false) rfl ?_)
  show wpAny _ _ (field (.ref z) 3 >>= _) _ _ _
  refine wpAny_bind (wpAny_field hz rfl (x := .ref TI) rfl ?_)
  refine wpAny_bind (wpAny_seqItems hTI rfl ?_)
  have emp : ((its.map Value.ref).toArray).isEmpty = false := by
    cases its with
    | nil => exact absurd rfl ne
    | cons a r => simp
  simp only [emp, Bool.false_eq_true, if_false]
  have nd : (z ≠ TI ∧ z ≠ TO ∧ z ∉ its) ∧ (TI ≠ TO ∧ TI ∉ its) ∧ TO ∉ its ∧ its.Nodup := by simpa [not_or] using ap
  refine wpAny_bind (free_or_held hz hf ?_ fun h1 hz1 sb1 => ?_)
  · simp only [if_true]
    refine wpAny_bind (wpAny_rule ?_)
    refine wpAny_bind (wpAny_field hz rfl (x := .ref TO) rfl ?_)
    refine wpAny_bind (wpAny_setField_rec hz (by simp) fun h1 hz1 sb1 => ?_)
    replace hz1 : ZR h1 z TI TO .ellipsis f1 := hz1
    refine wpAny_bind (wpAny_mono (forIn_wp (its.map Value.ref).zipIdx (fun _ => (none, ())) (fun j s' => ∃ h, s' = { s with heap := h } ∧ h.objs.size = s.heap.objs.size ∧ ZR h z TI TO .ellipsis f1 ∧ TupO h TI (its.map Value.ref) ∧
      TupO h TO (xs.take j ++ olds.drop j) ∧ ItsJ h its ls i j ∧ ∀ c o, c ∉ z :: TI :: TO :: its → s.heap.get? c = some o → h.get? c = some o) _ ?_ ?_) ?_ fun _ _ e => e)
    · rintro j ⟨v, k⟩ s2 hj ⟨h, rfl, sz, hz2, hTI2, hTO2, hi2, kp⟩
      obtain ⟨it, e1, rfl, rfl⟩ : ∃ it, its[j]? = some it ∧ v = .ref it ∧ k = j := by
        rw [List.getElem?_zipIdx, List.getElem?_map] at hj
        cases q : its[j]? with
        | none => rw [q] at hj; cases hj
        | some it =>
          rw [q] at hj
          simp at hj
          exact ⟨it, rfl, hj.1.symm, hj.2.symm⟩
      have lt : k < its.length := (List.getElem?_eq_some_iff.mp e1).1
      have e2 : ls[k]? = some ls[k] := List.getElem?_eq_getElem (by omega)
      have e3 : xs[k]? = some xs[k] := List.getElem?_eq_getElem (by omega)
      obtain ⟨items, hl, hx2⟩ := hx k _ _ e2 e3
      have ml := al _ (List.mem_of_getElem? e2)
      have mi := List.mem_of_getElem? e1
      have it0 := hi2 k it _ e1 e2
      rw [if_neg (Nat.lt_irrefl _)] at it0
      have nTO : TO ≠ it := fun q => nd.2.2.1 (by rw [q]; exact mi)
      have nTI : TI ≠ it := fun q => nd.2.1.2 (by rw [q]; exact mi)
      have nz : z ≠ it := fun q => nd.1.2.2 (by rw [q]; exact mi)
      refine wpAny_bind (wpAny_onRaise ?_)
      show wpAny _ _ (Builtin.SmallTypes.nextOf (.ref it) >>= _) _ _ _
      refine wpAny_bind (RZ.nextOf_tuple_item (s := { s with heap := h }) it0 (hl.at fun o q => kp _ o ml q) hx2 fun h3 it3 sb3 => wpAny_pure ?_)
      have hTO3 : TupO h3 TO (xs.take k ++ olds.drop k) := (sb3.2 _ nTO).trans hTO2
      refine wpAny_bind (wpAny_seqItems hTO3 rfl ?_)
      have lz : (xs.take k ++ olds.drop k).length ≤ 100 := by rw [List.length_append, List.length_take, List.length_drop]; omega
      refine wpAny_bind (wpAny_updateSeq hTO3 rfl ?_ (by rw [List.size_toArray]; exact Nat.le_trans lz (by decide)) (by rw [Array.size_setIfInBounds, List.size_toArray]; exact Nat.le_trans lz (by decide)))
      refine wpAny_bind (wpAny_letGo (wpAny_pure ⟨rfl, _, rfl, ?_, ?_, ?_, ?_, ?_, ?_⟩))
      · rw [(Heap.SameBut.update ..).1, sb3.1, sz]
      · exact ((Heap.SameBut.update ..).2 _ nd.1.2.1).trans ((sb3.2 _ nz).trans hz2)
      · exact ((Heap.SameBut.update ..).2 _ nd.2.1.1).trans ((sb3.2 _ nTI).trans hTI2)
      · show (Heap.update _ TO _).get? TO = _
        rw [Heap.get?_update_self _ hTO3 rfl]
        simp only [Obj.mapSeq]
        rw [← take_set e3 (by omega), ← List.setIfInBounds_toArray]
        rw [if_pos (by simp)]
      · refine hi2.next nd.2.2.2 e1 e2 (fun b hb nb o q => ?_) (it3.at fun o q => ((Heap.SameBut.update ..).2 _ (Ne.symm nTO)).trans q)
        exact ((Heap.SameBut.update ..).2 _ (fun q => nd.2.2.1 (by rw [← q]; exact hb))).trans ((sb3.2 _ nb).trans q)
      · intro c o hc q
        simp only [List.mem_cons, not_or] at hc
        exact ((Heap.SameBut.update ..).2 _ hc.2.2.1).trans ((sb3.2 _ (fun y => hc.2.2.2 (by rw [y]; exact mi))).trans (kp c o (by simp only [List.mem_cons, not_or]; exact hc) q))
    · refine ⟨h1, rfl, sb1.1, hz1, (sb1.2 _ (Ne.symm nd.1.1)).trans hTI, (sb1.2 _ (Ne.symm nd.1.2.1)).trans hTO, fun m it l f1 f2 => ?_, fun c o hc q => ?_⟩
      · exact (hi m it l f1 f2).at fun o q => (sb1.2 _ (fun y => nd.1.2.2 (by rw [← y]; exact List.mem_of_getElem? f1))).trans q
      · simp only [List.mem_cons, not_or] at hc
        exact (sb1.2 _ hc.1).trans q
    · rintro t s2 ⟨rfl, h, rfl, sz, hz2, hTI2, hTO2, hi2, kp⟩
      have ez : (its.map Value.ref).zipIdx.length = its.length := by simp
      rw [ez] at hTO2 hi2
      rw [← lx, List.take_length, lx, ← lo, List.drop_length, List.append_nil] at hTO2
      dsimp only
      refine wpAny_bind (wpAny_seqItems hTO2 rfl ?_)
      have lxz : xs.length ≤ sizeLine := Nat.le_trans (show xs.length ≤ 100 by omega) (by decide)
      show wpAny _ _ (newTuple xs.toArray.toList >>= _) _ _ _
      rw [show xs.toArray.toList = xs by simp]
      refine wpAny_bind (wpAny_newTuple ?_ lxz)
      have zlt : z < h.objs.size := Heap.lt_size hz2
      have hz3 : ZR (h.push { cls := .type "tuple", data := .seq xs.toArray }) z TI TO .ellipsis f1 := Heap.get?_push_of_some _ hz2
      refine wpAny_bind ?_
      show wpAny _ _ (Builtin.SmallTypes.ownedTupleHandOut (.ref z) (.ref h.objs.size)) _ _ _
      unfold Builtin.SmallTypes.ownedTupleHandOut
      refine wpAny_bind (wpAny_setField_rec hz3 (by simp) fun h4 hz4 sb4 => ?_)
      replace hz4 : ZR h4 z TI TO (rawInt h.objs.size) f1 := hz4
      refine wpAny_setField_rec hz4 (by simp) fun h5 hz5 sb5 => ?_
      replace hz5 : ZR h5 z TI TO (rawInt h.objs.size) false := hz5
      have up : ∀ c o, c ≠ z → h.get? c = some o → h5.get? c = some o := fun c o n e => (sb5.2 _ n).trans ((sb4.2 _ n).trans (Heap.get?_push_of_some _ e))
      have hT5 : TupO h5 h.objs.size xs := (sb5.2 _ (Nat.ne_of_gt zlt)).trans ((sb4.2 _ (Nat.ne_of_gt zlt)).trans (Heap.get?_push_size _ rfl))
      have s5 : h5.objs.size = h.objs.size + 1 := by rw [sb5.1, sb4.1, Heap.size_push]
      refine wpAny_pure ⟨_, rfl, ?_⟩
      rw [sz] at hT5 s5 ⊢
      refine hQ h5 _ _ xs hz5 (.inr ⟨_, rfl⟩) (up _ _ (Ne.symm nd.1.1) hTI2) (up _ _ (Ne.symm nd.1.2.1) hTO2) lx ?_ hT5 s5 fun c o hc q => up c o (fun y => hc (by rw [y]; exact List.mem_cons_self)) (kp c o hc q)
      intro m it l g1 g2
      exact (hi2.start (Nat.le_refl _) m it l g1 g2).at fun o q => up it o (fun y => nd.1.2.2 (by rw [← y]; exact List.mem_of_getElem? g1)) q
  · simp only [Bool.false_eq_true, if_false]
    refine wpAny_bind ?_
    rw [← Array.forIn_toList]
    show wpAny _ _ (forIn (its.map Value.ref) _ _) _ _ _
    refine wpAny_mono (forIn_wp (its.map Value.ref) (fun j => (none, (xs.take j).toArray)) (fun j s' => ∃ h, s' = { s with heap := h } ∧ h.objs.size = s.heap.objs.size ∧ ZR h z TI TO f0 true ∧ TupO h TI (its.map Value.ref) ∧
      TupO h TO olds ∧ ItsJ h its ls i j ∧ ∀ c o, c ∉ z :: TI :: TO :: its → s.heap.get? c = some o → h.get? c = some o) _ ?_ ?_) ?_ fun _ _ e => e
    · rintro k v s2 hj ⟨h, rfl, sz, hz2, hTI2, hTO2, hi2, kp⟩
      obtain ⟨it, e1, rfl⟩ : ∃ it, its[k]? = some it ∧ v = .ref it := by
        rw [List.getElem?_map] at hj
        cases q : its[k]? with
        | none => rw [q] at hj; cases hj
        | some it =>
          rw [q] at hj
          exact ⟨it, rfl, (Option.some.inj hj).symm⟩
      have lt : k < its.length := (List.getElem?_eq_some_iff.mp e1).1
      have e2 : ls[k]? = some ls[k] := List.getElem?_eq_getElem (by omega)
      have e3 : xs[k]? = some xs[k] := List.getElem?_eq_getElem (by omega)
      obtain ⟨items, hl, hx2⟩ := hx k _ _ e2 e3
      have ml := al _ (List.mem_of_getElem? e2)
      have mi := List.mem_of_getElem? e1
      have it0 := hi2 k it _ e1 e2
      rw [if_neg (Nat.lt_irrefl _)] at it0
      refine wpAny_bind (wpAny_holding ?_)
      show wpAny _ _ (Builtin.SmallTypes.nextOf (.ref it) >>= _) _ _ _
      refine wpAny_bind (RZ.nextOf_tuple_item (s := { s with heap := h }) it0 (hl.at fun o q => kp _ o ml q) hx2 fun h3 it3 sb3 => wpAny_pure ?_)
      refine wpAny_pure ⟨?_, h3, rfl, sb3.1.trans sz, (sb3.2 _ (fun q => nd.1.2.2 (by rw [q]; exact mi))).trans hz2, (sb3.2 _ (fun q => nd.2.1.2 (by rw [q]; exact mi))).trans hTI2,
        (sb3.2 _ (fun q => nd.2.2.1 (by rw [q]; exact mi))).trans hTO2, hi2.next nd.2.2.2 e1 e2 (fun b hb nb o q => (sb3.2 _ nb).trans q) it3, fun c o hc q => ?_⟩
      · show ForInStep.yield (none, ((xs.take k).toArray).push xs[k]) = _
        rw [List.take_add_one, e3]
        simp
      · exact (sb3.2 _ (fun y => hc (by rw [y]; simp [mi]))).trans (kp c o hc q)
    · refine ⟨h1, rfl, sb1.1, hz1, (sb1.2 _ (Ne.symm nd.1.1)).trans hTI, (sb1.2 _ (Ne.symm nd.1.2.1)).trans hTO, fun m it l f1 f2 => ?_, fun c o hc q => ?_⟩
      · exact (hi m it l f1 f2).at fun o q => (sb1.2 _ (fun y => nd.1.2.2 (by rw [← y]; exact List.mem_of_getElem? f1))).trans q
      · simp only [List.mem_cons, not_or] at hc
        exact (sb1.2 _ hc.1).trans q
    · rintro t s2 ⟨rfl, h, rfl, sz, hz2, hTI2, hTO2, hi2, kp⟩
      rw [List.length_map] at hi2
      have lxz : xs.length ≤ sizeLine := Nat.le_trans (show xs.length ≤ 100 by omega) (by decide)
      dsimp only
      have ex : xs.take (its.map Value.ref).length = xs := by rw [List.length_map, ← lx, List.take_length]
      rw [ex]
      refine wpAny_bind (wpAny_newTuple ?_ lxz)
      refine wpAny_pure ⟨_, rfl, ?_⟩
      show Q (.ref h.objs.size) _
      have s5 : (h.push { cls := .type "tuple", data := .seq xs.toArray }).objs.size = h.objs.size + 1 := Heap.size_push _ _
      have hT5 : TupO (h.push { cls := .type "tuple", data := .seq xs.toArray }) h.objs.size xs := Heap.get?_push_size _ rfl
      rw [sz] at s5 hT5 ⊢
      refine hQ _ _ _ olds (Heap.get?_push_of_some _ hz2) hf (Heap.get?_push_of_some _ hTI2) (Heap.get?_push_of_some _ hTO2) lo ?_ hT5 s5 fun c o hc q => Heap.get?_push_of_some _ (kp c o hc q)
      intro m it l g1 g2
      exact (hi2.start (Nat.le_refl _) m it l g1 g2).at fun o q => Heap.get?_push_of_some _ q
theorem zipN_end {f0 : Value} {f1 : Bool} {i : Nat} {it0 l0 : Addr} {itr : List Addr} {items : Array Value} {Q : Fin → Shared → Prop} (hh : A.handled = none) (ap : (z :: TI :: TO :: (it0 :: itr)).Nodup) (al : l0 ∉ z :: TI :: TO :: (it0 :: itr))
    (hz : ZR s.heap z TI TO f0 f1) (hf : Fld0 f0) (hTI : TupO s.heap TI ((it0 :: itr).map Value.ref)) (hi : s.heap.IsTupleIter it0 l0 i) (hl : s.heap.IsTuple l0 items) (he : items[i]? = none)
    (hE : ∀ h' e, (∀ c o, c ∉ z :: TI :: TO :: (it0 :: itr) → s.heap.get? c = some o → h'.get? c = some o) → (∃ o, h'.get? e = some o ∧ o.cls = .type "StopIteration") → E (.ref e) { s with heap := h' }) :
    wpAny (model prog w) A (Builtin.«zip.__next__» ⟨[.ref z], []⟩) Q E s := by
  have nd : z ≠ it0 := fun q => by
    rw [q] at ap
    simp at ap
  have ml : l0 ≠ z := fun q => al (by rw [q]; exact List.mem_cons_self)
  show wpAny _ _ (field (.ref z) 2 >>= _) _ _ _
  refine wpAny_bind (wpAny_field hz rfl (x := .bool false) rfl ?_)
  show wpAny _ _ (field (.ref z) 3 >>= _) _ _ _
  refine wpAny_bind (wpAny_field hz rfl (x := .ref TI) rfl ?_)
  refine wpAny_bind (wpAny_seqItems hTI rfl ?_)
  have emp : (((it0 :: itr).map Value.ref).toArray).isEmpty = false := by simp
  simp only [emp, Bool.false_eq_true, if_false]
  refine wpAny_bind (free_or_held hz hf ?_ fun h1 hz1 sb1 => ?_)
  · simp only [if_true]
    refine wpAny_bind (wpAny_rule ?_)
    refine wpAny_bind (wpAny_field hz rfl (x := .ref TO) rfl ?_)
    refine wpAny_bind (wpAny_setField_rec hz (by simp) fun h1 hz1 sb1 => ?_)
    replace hz1 : ZR h1 z TI TO .ellipsis f1 := hz1
    refine wpAny_bind ?_
    simp only [List.map_cons, List.zipIdx_cons, List.forIn_cons]
    refine wpAny_bind (wpAny_bind (wpAny_onRaise ?_))
    show wpAny _ _ (Builtin.SmallTypes.nextOf (.ref it0) >>= _) _ _ _
    refine wpAny_bind (RZ.nextOf_tuple_end (s := { s with heap := h1 }) hh (hi.at fun o q => (sb1.2 _ (Ne.symm nd)).trans q) (hl.at fun o q => (sb1.2 _ ml).trans q) he fun h2 e k2 ⟨oe, ho, hc⟩ => ?_)
    have hz2 : ZR h2 z TI TO .ellipsis f1 := k2 _ _ nd hz1
    have ez : e ≠ z := fun x => by
      subst x
      rw [hz2] at ho
      cases ho
      simp at hc
    refine wpAny_setField_rec hz2 (by simp) fun h3 _ sb3 => hE h3 e (fun c o hc q => ?_) ⟨oe, (sb3.2 _ ez).trans ho, hc⟩
    simp only [List.mem_cons, not_or] at hc
    exact (sb3.2 _ hc.1).trans (k2 _ _ hc.2.2.2.1 ((sb1.2 _ hc.1).trans q))
  · simp only [Bool.false_eq_true, if_false]
    refine wpAny_bind ?_
    rw [← Array.forIn_toList]
    simp only [List.map_cons, List.forIn_cons]
    refine wpAny_bind (wpAny_bind (wpAny_holding ?_))
    show wpAny _ _ (Builtin.SmallTypes.nextOf (.ref it0) >>= _) _ _ _
    refine wpAny_bind (RZ.nextOf_tuple_end (s := { s with heap := h1 }) hh (hi.at fun o q => (sb1.2 _ (Ne.symm nd)).trans q) (hl.at fun o q => (sb1.2 _ ml).trans q) he fun h2 e k2 ho => hE h2 e (fun c o hc q => ?_) ho)
    simp only [List.mem_cons, not_or] at hc
    exact k2 _ _ hc.2.2.2.1 ((sb1.2 _ hc.1).trans q)
end
/-- the tuples at ls side by side, the items in new tuples -/
def ItzN (K : PySem.W.Frag) (ls : List Addr) : It :=
  ⟨fun i H => ∀ a ∈ ls, ∃ xs x, SqT K H a xs ∧ xs[i]? = some x,
    fun i H v H' => ∃ (T : Addr) (vs : List V), v = .ref T ∧ H T = none ∧ H' = upd H T (.tup vs) ∧ vs.length = ls.length ∧ ∀ (j : Nat) (a : Addr) (xs : List V), ls[j]? = some a → SqT K H a xs → xs[i]? = vs[j]?,
    fun i H => ∃ a r xs, ls = a :: r ∧ SqT K H a xs ∧ xs.length ≤ i⟩
/-- what stands in each of them at i -/
theorem cols {X : Cx} {pins : List (Addr × Obj)} {σ : L2.St} {H : Hp} {s : Shared} {i : Nat} (I : Inv X pins σ H s) : ∀ {ls : List Addr}, (∀ a ∈ ls, ∃ xs x, SqT X.K H a xs ∧ xs[i]? = some x) →
    ∃ (vs : List V) (us : List Value), Vals vs us ∧ vs.length = ls.length ∧ us.length = ls.length ∧ (∀ (j : Nat) (a : Addr) (xs : List V), ls[j]? = some a → SqT X.K H a xs → xs[i]? = vs[j]?) ∧
      ∀ (j : Nat) (l : Addr) (x : Value), ls[j]? = some l → us[j]? = some x → ∃ items, s.heap.IsTuple l items ∧ items[i]? = some x
  | [], _ => ⟨[], [], .nil, rfl, rfl, fun j a xs e => by simp at e, fun j l x e => by simp at e⟩
  | a :: r, h => by
    obtain ⟨vs, us, rv, l1, l2, k1, k2⟩ := cols I (ls := r) fun b hb => h b (List.mem_cons_of_mem _ hb)
    obtain ⟨xs, x, sq, hx⟩ := h a List.mem_cons_self
    obtain ⟨its, rv2, tp, _⟩ := I.tuple sq
    obtain ⟨u, hu, ru⟩ := rv2.get hx
    refine ⟨x :: vs, u :: us, .cons ru rv, by simp [l1], by simp [l2], fun j b ys e q => ?_, fun j b y e q => ?_⟩
    · cases j with
      | zero =>
        obtain rfl : a = b := Option.some.inj e
        rw [I.tuple_inj q sq]
        exact hx
      | succ j => exact k1 j b ys e q
    · cases j with
      | zero =>
        obtain rfl : a = b := Option.some.inj e
        obtain rfl : u = y := Option.some.inj q
        exact ⟨_, tp, by simpa using hu⟩
      | succ j => exact k2 j b y e q
theorem turn_zipN {P : Program} {w : World} {K : PySem.W.Frag} {x : Str} {tpos : Pos} {z TI TO : Addr} {its ls : List Addr} (ap : (z :: TI :: TO :: its).Nodup) (al : ∀ l ∈ ls, l ∉ z :: TI :: TO :: its) (ne : its ≠ []) (few : its.length ≤ 100) (ll : its.length = ls.length) :
    Turn P w K (.Name x tpos) (ItzN K ls) (z :: TI :: TO :: its) z (fun i h => ∃ f0 f1 olds, ZR h z TI TO f0 f1 ∧ Fld0 f0 ∧ TupO h TI (its.map Value.ref) ∧ TupO h TO olds ∧ olds.length = its.length ∧ ItsJ h its ls i 0) where
  mem := List.mem_cons_self
  obj := fun i h ⟨f0, f1, olds, hz, hf, hTI, hTO, lo, hi⟩ c hc => by
    rcases List.mem_cons.mp hc with rfl | hc
    · exact ⟨_, hz, fun v q => nomatch q⟩
    rcases List.mem_cons.mp hc with rfl | hc
    · exact ⟨_, hTI, fun v q => nomatch q⟩
    rcases List.mem_cons.mp hc with rfl | hc
    · exact ⟨_, hTO, fun v q => nomatch q⟩
    · obtain ⟨m, lt, e⟩ := List.getElem_of_mem hc
      obtain ⟨o, e1, _, d1⟩ := hi m c ls[m] (by rw [← e]; exact List.getElem?_eq_getElem lt) (List.getElem?_eq_getElem (by omega))
      exact ⟨o, e1, fun v q => by rw [d1] at q; cases q⟩
  keep := fun i h h' ⟨f0, f1, olds, hz, hf, hTI, hTO, lo, hi⟩ k => by
    refine ⟨f0, f1, olds, k z (by simp) _ hz, hf, k TI (by simp) _ hTI, k TO (by simp) _ hTO, lo, fun m it l e1 e2 => ?_⟩
    exact (hi m it l e1 e2).at fun o q => k it (by simp [List.mem_of_getElem? e1]) o q
  item := by
    rintro X hP hw hK hc i pins s σ H E I hfp ⟨f0, f1, olds, hz, hf, hTI, hTO, lo, hi⟩ hg
    subst hP hw hK
    obtain ⟨vs, us, rv, l1, l2, k1, k2⟩ := cols I hg
    have hT : s.TypeIs (.ref z) "zip" := ⟨_, hz, rfl⟩
    unfold pyNext
    refine wpAny_bind (wpAny_attempt (wpAny_callSpecial?_slot (name := Str.ofString "__next__") hT F.slot_zip_next (wpAny_call_entry F.slot_zip_next hT F.entry_zip_next
      (zipN_item (xs := us) ap al ne few ll hz hf hTI hTO lo hi (by omega) k2 fun h' g0 g1 olds' a1 a2 a3 a4 a5 a6 a7 a8 a9 => wpAny_pure ?_) (F.args_zip_next_1 _))))
    refine ⟨_, rfl, ?_⟩
    show wpAny _ _ (pure ()) _ _ _
    refine wpAny_pure ?_
    have new : ObjOk X.prog X.w (upd H s.heap.objs.size (.tup vs)) h' s.heap.objs.size (.tup vs) := ⟨by exact Nat.le_trans (show vs.length ≤ 100 by omega) (by decide), us, rv, ⟨_, a7, rfl, _, rfl⟩⟩
    have I1 : Inv X pins σ (upd H s.heap.objs.size (.tup vs)) { s with heap := h' } := I.turnedNew (t' := s.toks) (ch := z :: TI :: TO :: its) (fun c o hb q => a9 c o hb q) hfp (Nat.le_refl _) new
    refine ⟨.ref s.heap.objs.size, _, I1, rfl, ⟨_, vs, rfl, I.hok.fresh (Nat.le_refl _), rfl, l1, k1⟩, ⟨g0, g1, olds', a1, a2, a3, a4, a5, a6⟩, fun c hcm => ?_⟩
    have hlt : c < s.heap.objs.size := by
      rcases List.mem_cons.mp hcm with rfl | hc
      · exact Heap.lt_size hz
      rcases List.mem_cons.mp hc with rfl | hc
      · exact Heap.lt_size hTI
      rcases List.mem_cons.mp hc with rfl | hc
      · exact Heap.lt_size hTO
      · obtain ⟨m, lt, e⟩ := List.getElem_of_mem hc
        obtain ⟨o, e1, _, d1⟩ := hi m c ls[m] (by rw [← e]; exact List.getElem?_eq_getElem lt) (List.getElem?_eq_getElem (by omega))
        exact Heap.lt_size e1
    rw [upd_ne (Nat.ne_of_lt hlt)]
    exact (hfp c hcm).1
  done := by
    rintro X hP hw hK hc i pins s σ H E I hfp ⟨f0, f1, olds, hz, hf, hTI, hTO, lo, hi⟩ ⟨a, r, xs, rfl, sq, le⟩
    subst hP hw hK
    obtain ⟨itl, rv, tp, _⟩ := I.tuple sq
    have l1 := rv.length
    cases its with
    | nil => exact absurd rfl ne
    | cons it0 itr =>
      have hT : s.TypeIs (.ref z) "zip" := ⟨_, hz, rfl⟩
      have i0 : s.heap.IsTupleIter it0 a i := hi 0 it0 a rfl rfl
      unfold pyNext
      refine wpAny_bind (wpAny_attempt (wpAny_callSpecial?_slot (name := Str.ofString "__next__") hT F.slot_zip_next (wpAny_call_entry F.slot_zip_next hT F.entry_zip_next
        (zipN_end (I.ok.hd hc) ap (al a List.mem_cons_self) hz hf hTI i0 tp (by simp; omega) fun h' e hk he => ?_) (F.args_zip_next_1 _))))
      obtain ⟨o, ho, hc2⟩ := he
      refine wpAny_bind (wpAny_isInstance (T := "StopIteration") (b := true) ⟨o, ho, hc2⟩ isSubtype_stop ?_)
      exact wpAny_pure ⟨rfl, I.turnedL (t' := s.toks) (ch := z :: TI :: TO :: (it0 :: itr)) (fun c o hb q => hk c o hb q) hfp⟩
  self := fun A i s Q E ⟨f0, f1, olds, hz, _⟩ h => by
    have hT : s.TypeIs (.ref z) "zip" := ⟨_, hz, rfl⟩
    refine wpAny_pyIter_slot hT F.slot_zip_iter (wpAny_call_entry F.slot_zip_iter hT F.entry_zip_iter ?_ (F.args_zip_iter_1 _))
    show wpAny _ _ (ret (.ref z)) _ _ s
    exact wpAny_pure ⟨_, rfl, "zip", _, hT, F.slot_zip_next.lookup, h⟩
def itA (n : Nat) : List Addr → List Addr
  | [] => []
  | _ :: r => n :: itA (n + 1) r
theorem itA_map : ∀ {ls : List Addr} {n : Nat}, (itA n ls).map Value.ref = itV n ls
  | [], _ => rfl
  | l :: r, n => by
    show Value.ref n :: (itA (n + 1) r).map Value.ref = Value.ref n :: itV (n + 1) r
    rw [itA_map]
theorem itA_len {ls : List Addr} {n : Nat} : (itA n ls).length = ls.length := by rw [← List.length_map (f := Value.ref), itA_map, itV_len]
theorem itA_mem : ∀ {ls : List Addr} {n b : Nat}, b ∈ itA n ls → n ≤ b ∧ b < n + ls.length
  | l :: r, n, b, h => by
    rcases List.mem_cons.mp h with rfl | h
    · simp
    · have z := itA_mem (ls := r) h
      simp only [List.length_cons]
      omega
theorem itA_nodup : ∀ {ls : List Addr} {n : Nat}, (itA n ls).Nodup
  | [], _ => List.nodup_nil
  | l :: r, n => by
    refine List.nodup_cons.mpr ⟨fun h => ?_, itA_nodup⟩
    have z := itA_mem (ls := r) h
    omega
theorem itA_at {ls : List Addr} {n j it : Nat} (h : (itA n ls)[j]? = some it) : it = n + j ∧ j < ls.length := by
  have lt := (List.getElem?_eq_some_iff.mp h).1
  rw [itA_len] at lt
  have e := itV_at (ls := ls) (n := n) lt
  rw [← itA_map, List.getElem?_map, h] at e
  exact ⟨Value.ref.inj (Option.some.inj e), lt⟩
theorem vals_refs : ∀ {ls : List Addr} {us : List Value}, Vals (ls.map V.ref) us → us = ls.map Value.ref
  | [], _, .nil => rfl
  | l :: r, _, .cons h t => by
    rw [vals_refs t]
    exact congrArg (· :: r.map Value.ref) (show _ = Value.ref l from h)
def iZipS (K : PySem.W.Frag) (te : TE) : TI := fun σ H R => te σ H fun y H1 => ∃ (p : Addr) (ls : List Addr), y = .ref p ∧ (SqT K H1 p (ls.map V.ref) ∨ SqL K H1 p (ls.map V.ref)) ∧ 2 ≤ ls.length ∧ ls.length ≤ 4 ∧ (∀ a ∈ ls, ∃ xs, SqT K H1 a xs) ∧ R (ItzN K ls) H1
theorem pi_zipS {X : Cx} {e : Expr} {te : TE} {x : Str} {p pos tpos sps : Pos} (hg : Gl X "zip") (hm : X.mg "zip" = none) (he : PE X e te) (hst : starEach [.Starred e sps] X.env = [(true, eval e X.env)] := by rfl) :
    PI X (.Name x tpos) (.Call (.Name "zip" p) [.Starred e sps] [] pos) (iZipS X.K te) := by
  refine ⟨fun pins s σ H R I h => ?_⟩
  refine Call_ (ld_blt I hg hm PyProof.Rows.boot_zip ?_)
  show wpAny _ _ (callWith pos (.type "zip") [] (backTo pos (starEach [.Starred e sps] X.env)) []) _ _ _
  rw [hst]
  refine PySem.W.ks_call (P := fun _ => True) rfl (fun _ _ => ⟨.machine, .inr (.inl rfl), PySem.W.Looks.of_pure rfl⟩) (PySem.W.ks_lone ?_)
  refine thn (he.run pins s σ H _ I h) fun v s1 ⟨y, H1, I1, ry, a, ls, ey, hxs, l2, l4, ht, q⟩ => ?_
  subst ey
  obtain rfl : v = Value.ref a := ry
  refine StX.star_any I1 hxs fun us s2 I2 rv => ⟨trivial, ?_⟩
  obtain rfl := vals_refs rv
  have tt : ∀ l ∈ ls, ∃ xs, s2.heap.IsTuple l xs := fun l hl => by
    obtain ⟨xs, sq⟩ := ht l hl
    obtain ⟨its, _, tp, _⟩ := I2.tuple sq
    exact ⟨_, tp⟩
  refine call_zipN l2 l4 tt ?_
  have z0 : (itH s2.heap ls).objs.size = s2.heap.objs.size + ls.length := itH_size
  have z3 : (zN3 s2.heap ls).objs.size = s2.heap.objs.size + ls.length + 1 := by rw [Heap.size_push, z0]
  have z4 : (zN4 s2.heap ls).objs.size = s2.heap.objs.size + ls.length + 2 := by rw [Heap.size_push, z3]
  have g5 : (zN5 s2.heap ls).get? (zN4 s2.heap ls).objs.size = some _ := Heap.get?_push_size _ rfl
  have g4 : (zN5 s2.heap ls).get? (zN3 s2.heap ls).objs.size = some _ := Heap.get?_push_of_some _ (Heap.get?_push_size _ rfl)
  have g3 : (zN5 s2.heap ls).get? (itH s2.heap ls).objs.size = some _ := Heap.get?_push_of_some _ (Heap.get?_push_of_some _ (Heap.get?_push_size _ rfl))
  have kp : ∀ b o, s2.heap.get? b = some o → (zN5 s2.heap ls).get? b = some o := fun b o e => Heap.get?_push_of_some _ (Heap.get?_push_of_some _ (Heap.get?_push_of_some _ (itH_keep e)))
  have I3 : Inv X pins σ H1 { s2 with heap := zN5 s2.heap ls } := I2.kept (t' := s2.toks) kp
  have ap : ((zN4 s2.heap ls).objs.size :: (itH s2.heap ls).objs.size :: (zN3 s2.heap ls).objs.size :: itA s2.heap.objs.size ls).Nodup := by
    rw [z4, z0, z3]
    refine List.nodup_cons.mpr ⟨fun h => ?_, List.nodup_cons.mpr ⟨fun h => ?_, List.nodup_cons.mpr ⟨fun h => ?_, itA_nodup⟩⟩⟩
    · rcases List.mem_cons.mp h with h | h
      · omega
      rcases List.mem_cons.mp h with h | h
      · omega
      · have := itA_mem h
        omega
    · rcases List.mem_cons.mp h with h | h
      · omega
      · have := itA_mem h
        omega
    · have := itA_mem h
      omega
  have ge : ∀ b ∈ (zN4 s2.heap ls).objs.size :: (itH s2.heap ls).objs.size :: (zN3 s2.heap ls).objs.size :: itA s2.heap.objs.size ls, s2.heap.objs.size ≤ b := by
    rw [z4, z0, z3]
    intro b hb
    rcases List.mem_cons.mp hb with h | h
    · omega
    rcases List.mem_cons.mp h with h | h
    · omega
    rcases List.mem_cons.mp h with h | h
    · omega
    · exact (itA_mem h).1
  have st : ∃ f0 f1 olds, ZR (zN5 s2.heap ls) (zN4 s2.heap ls).objs.size (itH s2.heap ls).objs.size (zN3 s2.heap ls).objs.size f0 f1 ∧ Fld0 f0 ∧ TupO (zN5 s2.heap ls) (itH s2.heap ls).objs.size ((itA s2.heap.objs.size ls).map Value.ref) ∧
      TupO (zN5 s2.heap ls) (zN3 s2.heap ls).objs.size olds ∧ olds.length = (itA s2.heap.objs.size ls).length ∧ ItsJ (zN5 s2.heap ls) (itA s2.heap.objs.size ls) ls 0 0 := by
    refine ⟨.none, false, _, g5, .inl rfl, by rw [itA_map]; exact g3, g4, by rw [List.length_map, itV_len, itA_len], fun m it l e1 e2 => ?_⟩
    obtain ⟨rfl, _⟩ := itA_at e1
    exact ⟨_, Heap.get?_push_of_some _ (Heap.get?_push_of_some _ (Heap.get?_push_of_some _ (itH_at e2))), rfl, rfl⟩
  have T : Turn X.prog X.w X.K (.Name x tpos) (ItzN X.K ls) _ _ _ := turn_zipN (its := itA s2.heap.objs.size ls) (ls := ls) ap (fun l hl hm => by
    obtain ⟨xs, o, e, _⟩ := tt l hl
    exact absurd (Nat.lt_of_lt_of_le (Heap.lt_size e) (ge l hm)) (Nat.lt_irrefl _)) (fun z => by
    have := itA_len (ls := ls) (n := s2.heap.objs.size)
    rw [z] at this
    simp at this
    omega) (by rw [itA_len]; omega) itA_len
  exact T.self X.A 0 _ _ _ st ⟨_, _, _, _, H1, rfl, I3, T, st, fun b hb => I2.fpOk (ge b hb) (I2.hok.fresh (ge b hb)), q⟩
def rSumT (K : PySem.W.Frag) : List V → Hp → VK → Prop := fun vs H Q => ∃ (a : Addr) (ns : List Int), vs = [V.ref a] ∧ SqT K H a (ns.map V.int) ∧ Q (.int ns.sum) H
def rMaxT (K : PySem.W.Frag) : List V → Hp → VK → Prop := fun vs H Q => ∃ (a : Addr) (n : Int) (ns : List Int), vs = [V.ref a] ∧ SqT K H a ((n :: ns).map V.int) ∧ Q (.int (ns.foldl max n)) H
/-- a comprehension within a comprehension -/
theorem blkOk_in {N : List Str} {scO scope : Scope} {cl : List (Str × Addr)} {C : Addr} {env : Env} {own : List (Str × Nat)} (sc : Scope) (he : env.scope = sc) (h : blkC N (relS scO sc) scope own = true) : BlkOk N (compEnvC scO cl C env).scope scope own := by
  subst he
  exact blkOk_by h
def rJoin (K : PySem.W.Frag) : V → List V → Hp → VK → Prop := fun x xs H Q => ∃ (a : Str) (p : Addr) (ys : List Str), x = .str a ∧ xs = [.ref p] ∧ (SqL K H p (ys.map V.str) ∨ SqT K H p (ys.map V.str)) ∧
  (ys.map (·.length)).sum + ys.length * a.length ≤ 16777216 ∧ Q (.str (Txt.join a ys)) H
theorem pe_joinK {X : Cx} {K : PySem.W.Frag} {o e : Expr} {to te : TE} {apos pos : Pos} (ho : PE X o to) (he : PE X e te) (hK : X.K = K := by rfl) (hs : starEach [e] X.env = [(false, eval e X.env)] := by rfl)
    (hbase : attributeBase o "join" X.env (eval o X.env) = eval o X.env := by rfl) (hline : (apos.endLine == pos.line) = true := by rfl) : PE X (.Call (.Attribute o "join" apos) [e] [] pos) (tM1 (rJoin K) to te) := by
  subst hK
  exact pe_join ho he hs hbase hline
theorem pi_tupK {X : Cx} {K : PySem.W.Frag} {tg e : Expr} {te : TE} (he : PE X e te) (hK : X.K = K := by rfl) : PI X tg e (iTup K te) := by
  subst hK
  exact pi_tup he
theorem pi_listK {X : Cx} {K : PySem.W.Frag} {tg e : Expr} {te : TE} (he : PE X e te) (hK : X.K = K := by rfl) : PI X tg e (iList K te) := by
  subst hK
  exact pi_list he
end Pl
namespace Pl
open PySem PySem.Spec PyProof.Rows L2
/-! repr of any data -/
/-- it can be shown -/
def ShV (x : V) (d : PyData) : Prop := d.showable = true ∧ d.hasDict = false ∧ d.depth ≤ 60 ∧ d.shown.length ≤ sizeLine ∧ ∀ i, x = .int i → i.natAbs.log2 < 1920
def rReprV (K : PySem.W.Frag) : List V → Hp → VK → Prop := fun xs H Q => ∃ (x : V) (d : PyData), xs = [x] ∧ Dp K H x d ∧ ShV x d ∧ Q (.str d.shown) H
section
variable {X : Cx}
theorem call_reprV (gd : X.A.guards = some []) (hu : X.A.units + 66 < cLine) : CallR X (.builtin "repr") (rReprV X.K) := by
  intro pins s σ H xs us Q I r h
  obtain ⟨x, d, rfl, dp, ⟨sh, nd, dep, sz, lg⟩, q⟩ := h
  obtain ⟨u, rfl, ru⟩ := vals1 r
  cases dp with
  | non =>
    obtain rfl : u = Value.none := ru
    exact PySem.P.repr_of_none ⟨.str _, H, I.tok _, ⟨_, rfl⟩, by simpa [PyData.shown] using q⟩
  | bl b =>
    obtain rfl : u = Value.bool b := ru
    refine PySem.P.repr_of_bool ⟨.str _, H, I.tok _, ⟨_, rfl⟩, ?_⟩
    cases b <;> simpa [PyData.shown] using q
  | int i =>
    obtain ⟨t, rfl⟩ := (show ∃ t, u = Value.int i t from ru)
    exact PySem.P.repr_of_int (lg i rfl) ⟨.str _, H, I.tok _, ⟨_, rfl⟩, by simpa [PyData.shown] using q⟩
  | str z =>
    obtain ⟨t, rfl⟩ := (show ∃ t, u = Value.str z t from ru)
    rw [PyData.shown_str] at sz q
    exact PySem.P.repr_of_str ⟨.str _, H, I.tok _, ⟨_, rfl⟩, q⟩ sz
  | @lst a ys ds sq al =>
    exact call_reprD gd hu pins s σ H [.ref a] [u] Q I r ⟨a, _, rfl, .lst sq al, sh, nd, dep, sz, q⟩
  | @tup a ys ds sq al =>
    exact call_reprD gd hu pins s σ H [.ref a] [u] Q I r ⟨a, _, rfl, .tup sq al, sh, nd, dep, sz, q⟩
theorem readsInts {h : Heap} : ∀ {ns : List Int} {us : List Value}, Vals (ns.map V.int) us → ReadsAll h us (ns.map PyData.int) []
  | [], _, .nil => .nil
  | n :: ns, _, .cons r t => by
    obtain ⟨k, rfl⟩ := (show ∃ t, _ = Value.int n t from r)
    exact .cons (as := []) (.int n k) (readsInts t)
/-- a dict with an int and a tuple of ints -/
def dicD (k : Int) (ns : List Int) : PyData := .dict [(.int k, .tuple (ns.map PyData.int))]
theorem call_repr1 (gd : X.A.guards = some []) (hu : X.A.units + 66 < cLine) : CallR X (.builtin "repr") (fun xs H Q => ∃ (a t : Addr) (k : Int) (ns : List Int), xs = [.ref a] ∧ H a = some (.dK [(.inl k, .ref t)]) ∧ H t = some (.tup (ns.map V.int)) ∧
    (dicD k ns).showable = true ∧ (dicD k ns).depth ≤ 60 ∧ (dicD k ns).shown.length ≤ sizeLine ∧ Q (.str (dicD k ns).shown) H) := by
  intro pins s σ H xs us Q I r h
  obtain ⟨a, t, k, ns, rfl, ea, et, sh, dep, sz, q⟩ := h
  obtain ⟨u, rfl, ru⟩ := vals1 r
  obtain rfl : u = Value.ref a := ru
  obtain ⟨_, hm, vs, kv, o, es, ep, h1, h2, h3, h4, h5, h6⟩ := (show ObjOk X.prog X.w H s.heap a (.dK [(.inl k, .ref t)]) from I.hok a _ ea)
  obtain ⟨_, its, rv, ot, g1, g2, n, g3⟩ := (show ObjOk X.prog X.w H s.heap t (.tup (ns.map V.int)) from I.hok t _ et)
  have rt : Reads s.heap (.ref t) (.tuple (ns.map PyData.int)) [] := .tuple g1 g2 g3 (by simpa using readsInts rv)
  have rd : Reads s.heap (.ref a) (dicD k ns) (a :: [] ++ []) := by
    generalize hes : es.toList = l at h5
    have key : ∀ {kvs : List (Key × V)}, kvs = [(Sum.inl k, V.ref t)] → KV kvs vs → ∃ q, vs = [q] ∧ q.1 = Sum.inl k ∧ q.2 = Value.ref t := fun {kvs} e z => by
      cases z with
      | nil => cases e
      | cons hp hr =>
        cases e
        cases hr
        exact ⟨_, rfl, hp.1.symm, hp.2⟩
    obtain ⟨q, rfl, q1, q2⟩ := key rfl kv
    cases h5 with
    | cons hk hv hrest =>
      cases hrest
      rename_i e
      rw [q1] at hk
      rcases keyIs_shape (k := Sum.inl k) (v := e.key) hk with ⟨i, tk, e1, e2⟩ | ⟨i, tk, e1, e2⟩
      · cases e1
        refine .dict h1 h2.1 h3 ?_ ?_
        · rw [hes]
          exact .cons (as := []) (by show Reads _ e.key _ _; rw [e2]; exact .int _ _) .nil
        · rw [hes]
          exact .cons (as := []) (by show Reads _ e.val _ _; rw [hv, q2]; exact rt) .nil
      · cases e1
  refine repr_of_reads' rd sh (fun _ z => ?_) gd (by omega) (fun _ _ e => e) (fun h' v tk hk => ?_) sz
  · simp at z
    rw [z] at hm
    simp at hm
  · exact ⟨.str _, H, I.kept hk, ⟨_, rfl⟩, q⟩
/-- x is shown as z -/
def ThD (K : PySem.W.Frag) (H : Hp) (x : V) (z : Str) : Prop := (∃ d, Dp K H x d ∧ ShV x d ∧ z = d.shown) ∨
  (∃ (a t : Addr) (k : Int) (ns : List Int), x = .ref a ∧ H a = some (.dK [(.inl k, .ref t)]) ∧ H t = some (.tup (ns.map V.int)) ∧ (dicD k ns).showable = true ∧ (dicD k ns).depth ≤ 60 ∧ (dicD k ns).shown.length ≤ sizeLine ∧ z = (dicD k ns).shown)
def rReprW (K : PySem.W.Frag) : List V → Hp → VK → Prop := fun xs H Q => ∃ (x : V) (z : Str), xs = [x] ∧ ThD K H x z ∧ Q (.str z) H
theorem call_reprW (gd : X.A.guards = some []) (hu : X.A.units + 66 < cLine) : CallR X (.builtin "repr") (rReprW X.K) := by
  intro pins s σ H xs us Q I r h
  obtain ⟨x, z, rfl, ⟨d, dp, sv, rfl⟩ | ⟨a, t, k, ns, rfl, c1, c2, c3, c4, c5, rfl⟩, q⟩ := h
  · exact call_reprV gd hu pins s σ H [x] us Q I r ⟨x, d, rfl, dp, sv, q⟩
  · exact call_repr1 gd hu pins s σ H _ us Q I r ⟨a, t, k, ns, rfl, c1, c2, c3, c4, c5, q⟩
end
end Pl
namespace Pl
open PySem PySem.Spec PyProof.Rows L2 PySem.MeetsSeq PySem.MeetsSeq2 PySem.MeetsSeq3 PySem.SeqAt
section
variable {prog : Program} {w : World} {A : Around} {E : Value → Shared → Prop} {s : Shared}
theorem adj_rev (n : Nat) : Builtin.Slice.sliceAdjust none none (-1) (n : Int) = ((n : Int) - 1, -1) := by
  simp [Builtin.Slice.sliceAdjust]
theorem places_rev (n : Nat) : Builtin.Slice.slicePlaces ((n : Int) - 1) (-1) (-1) = n := by
  unfold Builtin.Slice.slicePlaces
  simp
  try omega
theorem fm_congr {α β : Type} {f g : α → Option β} : ∀ {l : List α}, (∀ x ∈ l, f x = g x) → l.filterMap f = l.filterMap g
  | [], _ => rfl
  | x :: l, h => by rw [List.filterMap_cons, List.filterMap_cons, h x List.mem_cons_self, fm_congr fun y hy => h y (List.mem_cons_of_mem _ hy)]
theorem pick_rev (xs : Array Value) : ((List.range xs.size).filterMap fun (m : Nat) => xs[(((xs.size : Int) - 1) + (m : Int) * (-1)).toNat]?).toArray = xs.toList.reverse.toArray := by
  congr 1
  have e : ∀ m ∈ List.range xs.size, xs[(((xs.size : Int) - 1) + (m : Int) * (-1)).toNat]? = (xs.toList.reverse)[m]? := fun m hm => by
    have := List.mem_range.mp hm
    rw [show (((xs.size : Int) - 1) + (m : Int) * (-1)).toNat = xs.size - 1 - m by omega, List.getElem?_reverse (by simpa using this)]
    simp
  rw [fm_congr e]
  have z := PySem.W.krv_all xs.toList.reverse.toArray
  simpa using z
theorem tup_rev {t sl : Addr} {items : Array Value} {vl vu vk : Value} {Q : Value → Shared → Prop} (ht : IsTup s.heap t items) (hs : s.heap.IsSliceOf sl vl vu vk) (pl : IsPart vl none) (pu : IsPart vu none) (pk : IsPart vk (some (-1)))
    (h : Q (.ref s.heap.objs.size) { s with heap := s.heap.push { cls := .type "tuple", data := .seq items.toList.reverse.toArray } }) (hsz : items.size ≤ sizeLine) : wpAny (model prog w) A (getItem (.ref t) (.ref sl)) Q E s := by
  have hok : sizeOk (.seq items.toList.reverse.toArray) := by
    show items.toList.reverse.toArray.size ≤ sizeLine
    simpa using hsz
  obtain ⟨os, hos, hcs, hds⟩ := id hs
  have hTs : s.TypeIs (.ref sl) "slice" := ⟨os, hos, hcs⟩
  unfold getItem
  try with_reducible refine wpAny_holding ?_
  first | refine wpAny_bind (wpAny_pure ?_) | skip
  refine wpAny_bind (wpAny_sequenceKey ht.typeIs (by decide) ?_)
  refine wpAny_bind (wpAny_callSpecial?_slot (name := Str.ofString "__getitem__") ht.typeIs PyProof.Rows.slot_tuple_getitem (wpAny_call_entry PyProof.Rows.slot_tuple_getitem ht.typeIs F.entry_tuple_getitem ?_ (F.args_tuple_getitem_2 _ _)))
  show wpAny _ _ (Builtin.Tuple.tupleItemsOf (.ref t) >>= _) _ _ s
  refine wpAny_bind (tupleItemsOf_ ht ?_)
  refine wpAny_bind (wpAny_typeOf hTs ?_)
  rw [if_pos (by decide)]
  refine wpAny_bind ?_
  unfold Builtin.Slice.sliceApplied Builtin.Slice.sliceFields
  refine wpAny_bind (wpAny_bind (wpAny_field hos hds (x := vl) rfl (wpAny_bind (wpAny_field hos hds (x := vu) rfl (wpAny_bind (wpAny_field hos hds (x := vk) rfl (wpAny_pure ?_)))))))
  refine wpAny_bind (HT.slicePart_ pk ?_)
  show wpAny _ _ (if ((-1 : Int) == 0) = true then _ else _) _ _ s
  rw [if_neg (by decide)]
  refine wpAny_bind (HT.slicePart_ pl (wpAny_bind (HT.slicePart_ pu (wpAny_bind (wpAny_pure ?_)))))
  show wpAny _ _ (match Builtin.Slice.sliceAdjust none none (-1) (items.size : Int) with | (lo, hi) => pure (lo, (-1 : Int), Builtin.Slice.slicePlaces lo hi (-1))) _ _ s
  rw [adj_rev]
  show wpAny _ _ (pure ((items.size : Int) - 1, (-1 : Int), Builtin.Slice.slicePlaces ((items.size : Int) - 1) (-1) (-1))) _ _ s
  rw [places_rev]
  refine wpAny_pure ?_
  show wpAny _ _ (if (((items.size : Int) - 1) == 0 && (-1 : Int) == 1 && items.size == items.size) = true then _ else _) _ _ s
  rw [if_neg (by simp), pick_rev]
  first
    | exact wpAny_bind (m := Builtin.Tuple.tupleExact _) (wpAny_newObj_type (wpAny_pure ⟨_, rfl, wpAny_pure h⟩) hok)
    | exact wpAny_bind (m := Builtin.Tuple.tupleExact _) (wpAny_newObj_type (wpAny_bind (wpAny_pure (wpAny_pure ⟨_, rfl, wpAny_pure h⟩))) hok)
    | exact wpAny_bind (wpAny_bind (m := Builtin.Tuple.tupleExact _) (wpAny_newObj_type (wpAny_pure (wpAny_pure ⟨_, rfl, wpAny_pure h⟩)) hok))
    | exact wpAny_bind (wpAny_bind (m := Builtin.Tuple.tupleExact _) (wpAny_newObj_type (wpAny_pure ⟨_, rfl, wpAny_pure h⟩) hok))
end
def tRevT (K : PySem.W.Frag) (te : TE) : TE := fun σ H Q => te σ H fun x H1 => ∃ a xs, x = .ref a ∧ SqT K H1 a xs ∧ ∀ p, H1 p = none → Q (.ref p) (upd H1 p (.tup xs.reverse))
section
variable {X : Cx}
theorem pe_revT {e : Expr} {te : TE} {k : Nat} {p1 p2 p3 pos : Pos} (he : PE X e te) : PE X (.Subscript e (.Slice none none (some (.UnaryOp .USub (.Constant (.int 1) k p1) p2)) p3) pos) (tRevT X.K te) := by
  refine ⟨fun pins s σ H Q I h => ?_⟩
  refine Subscript_ (thn (he.run pins s σ H _ I h) fun v s1 ⟨x, H1, I1, r1, a, xs, ex, hx, q⟩ => ?_)
  subst ex
  cases r1
  have step : PO X (some (.UnaryOp .USub (.Constant (.int 1) k p1) p2)) (tPart (tUn (rU fun i => .int (-i)) (tC (.int 1)))) := po_some (pe_un un_neg pe_int)
  refine wpAny_Slice (thn (po_none.run pins s1 σ H1 (fun o H2 => o = none ∧ H2 = H1) I1 ⟨rfl, rfl⟩) fun vl s2 ⟨l, H2, I2, pl, el, e2⟩ => ?_)
  subst el e2
  refine thn (po_none.run pins s2 σ H2 (fun o H3 => o = none ∧ H3 = H2) I2 ⟨rfl, rfl⟩) fun vu s3 ⟨u, H3, I3, pu, eu, e3⟩ => ?_
  subst eu e3
  refine thn (step.run pins s3 σ H3 (fun o H4 => o = some (-1) ∧ H4 = H3) I3 ⟨1, rfl, -1, rfl, rfl, rfl⟩) fun vs s4 ⟨o, H4, I4, ps, eo, e4⟩ => ?_
  subst eo e4
  have I5 : Inv X pins σ H4 { s4 with heap := s4.heap.push { cls := .type "slice", data := .fields #[vl, vu, vs] } } := I4.kept (t' := s4.toks) fun _ _ q => Heap.get?_push_of_some _ q
  obtain ⟨its, r, ht, hz⟩ := I5.tuple hx
  have hlen := r.length
  show wpAny (model X.prog X.w) X.A (subscriptTail e (.Slice none none (some (.UnaryOp .USub (.Constant (.int 1) k p1) p2)) p3) (.ref a) (.ref s4.heap.objs.size)) (EP X pins σ Q) X.xe { s4 with heap := s4.heap.push { cls := .type "slice", data := .fields #[vl, vu, vs] } }
  refine tail_any (ops := [.ref a, .ref s4.heap.objs.size]) ht.typeIs PyProof.Rows.slot_tuple_getitem.lookup ?_ (by with_unfolding_all rfl)
  refine tup_rev ht (Heap.IsSliceOf.new _ vl vu vs) pl pu ps ?_ (by rw [List.size_toArray]; omega)
  refine ⟨.ref _, _, I5.laid (t' := s4.toks) (o := .tup xs.reverse) (fun _ _ q => Heap.get?_push_of_some _ q) (Nat.le_refl _) ?_, rfl, q _ (I5.hok.fresh (Nat.le_refl _))⟩
  exact ⟨by rw [List.length_reverse]; exact hz, its.reverse, r.reverse, ⟨_, Heap.get?_push_size _ rfl, rfl, _, rfl⟩⟩
end
end Pl
namespace Pl
open PySem PySem.Spec PyProof.Rows L2 PySem.MeetsSeq PySem.MeetsSeq2 PySem.MeetsSeq3 PySem.SeqAt
/-! blocks of any number of clauses -/
section
variable {elt t i t1 i1 : Expr} {ifs ifs1 : List Expr} {G : List Comprehension} {scope : Scope} {pos : Pos} {it acc : Value} {env : Env} {j : Nat}
theorem turn_mid (h0 : G[j]? = some ⟨t, i, ifs, 0⟩) (h1 : G[j + 1]? = some ⟨t1, i1, ifs1, 0⟩) : compTurn (.ListComp elt G scope pos) j it acc env = (do
    standAt i.pos
    match ← pyNext it with
    | none => pure (.done .next)
    | some v =>
      letOwnedTupleGo t it v
      assign t env v
      let mut ok := true
      for c in ifs do if ok then ok ← isTrue c env (eval c env)
      if ok then
        let x ← eval i1 env
        standAt i1.pos
        let x ← foldedSetIterable i1 env x
        let _ ← runOwn (.compStart (.ListComp elt G scope pos) (j + 1) (← holding [x] (pyIter x)) acc env) env
      again (.compLoop (.ListComp elt G scope pos) j it acc env)) := by
  unfold compTurn
  dsimp only
  rw [h0]
  dsimp only
  rw [h1]
  rfl
theorem turn_last (h0 : G[j]? = some ⟨t, i, ifs, 0⟩) (h1 : G[j + 1]? = none) : compTurn (.ListComp elt G scope pos) j it acc env = (do
    standAt i.pos
    match ← pyNext it with
    | none => pure (.done .next)
    | some v =>
      letOwnedTupleGo t it v
      assign t env v
      let mut ok := true
      for c in ifs do if ok then ok ← isTrue c env (eval c env)
      if ok then (do let _ ← call (.builtin "list.append") [acc, ← eval elt env])
      again (.compLoop (.ListComp elt G scope pos) j it acc env)) := by
  unfold compTurn
  dsimp only
  rw [h0]
  dsimp only
  rw [h1]
  rfl
end
section
variable {prog : Program} {w : World} {A : Around} {R : Result → Shared → Prop} {s : Shared} {elt t i : Expr} {ifs : List Expr} {G : List Comprehension} {scope : Scope} {pos : Pos} {it acc : Value} {env : Env} {j : Nat}
/-- what runs behind a clause's store and tests -/
def Behind (prog : Program) (w : World) (A : Around) (elt : Expr) (G : List Comprehension) (scope : Scope) (pos : Pos) (j : Nat) (acc : Value) (env : Env) (N : Value → Shared → Prop) (post : Shared → Prop) (s : Shared) : Prop :=
  match G[j + 1]? with
  | some g => wpAny (model prog w) A (eval g.iter env) (fun x s5 => wpAny (model prog w) A (pyIter x) (fun it1 s6 => codeAny (model prog w) A (.compStart (.ListComp elt G scope pos) (j + 1) it1 acc env) (fun r s' => match r with | .ok _ => post s' | .error _ => False) s6) N s5) N s
  | none => wpAny (model prog w) A (eval elt env) (fun x s5 => wpAny (model prog w) A (call (.builtin "list.append") [acc, x]) (fun _ s6 => post s6) N s5) N s
theorem loop_any (h0 : G[j]? = some ⟨t, i, ifs, 0⟩) (hb : ∀ g, G[j + 1]? = some g → g.is_async = 0 ∧ ∀ x, foldedSetIterable g.iter env x = pure x) (I : Nat → Shared → Prop)
    (turn : ∀ n s, I n s → wpAny (model prog w) A (pyNext it) (fun r s1 => match r with
      | none => R (.ok .next) s1
      | some v => wpAny (model prog w) A (letOwnedTupleGo t it v) (fun _ s2 => wpAny (model prog w) A (assign t env v) (fun _ s3 => wpAny (model prog w) A (forIn ifs true fun c r => if r = true then do let ok ← isTrue c env (eval c env); pure (ForInStep.yield ok) else pure (ForInStep.yield r)) (fun ok s4 =>
          if ok = true then Behind prog w A elt G scope pos j acc env (notedBy (model prog w) A env fun e s' => R (.error e) s') (fun s' => ∃ m, m < n ∧ I m s') s4 else ∃ m, m < n ∧ I m s4)
          (notedBy (model prog w) A env fun e s' => R (.error e) s') s3) (notedBy (model prog w) A env fun e s' => R (.error e) s') s2) (notedBy (model prog w) A env fun e s' => R (.error e) s') s1) (notedBy (model prog w) A env fun e s' => R (.error e) s') s)
    (n : Nat) (h : I n s) : codeAny (model prog w) A (.compLoop (.ListComp elt G scope pos) j it acc env) R s := by
  refine codeAny_loop rfl I (fun n s hI => ?_) n h; show wpAny _ A ((compTurn (.ListComp elt G scope pos) j it acc env).onRaise (fun x => do noteFrame x env; theTreesLotGoes x)) _ _ s
  refine wpAny_noted ?_
  have T := turn n s hI
  cases h1 : G[j + 1]? with
  | some g =>
    obtain ⟨t1, i1, ifs1, as⟩ := g
    obtain ⟨ha, hs⟩ := hb _ h1
    obtain rfl : as = 0 := ha
    rw [turn_mid h0 h1]
    refine wpAny_bind (wpAny_standAt (wpAny_bind (wpAny_mono T (fun r s1 q1 => ?_) fun _ _ e => e)))
    cases r with
    | none => exact wpAny_pure q1
    | some v =>
      refine wpAny_bind (wpAny_mono q1 (fun _ s2 q2 => wpAny_bind (wpAny_mono q2 (fun _ s3 q3 => wpAny_bind (wpAny_mono q3 (fun ok s4 q4 => ?_) fun _ _ e => e)) fun _ _ e => e)) fun _ _ e => e)
      cases ok with
      | false => exact wpAny_pure ⟨rfl, q4⟩
      | true =>
        have q4 : Behind prog w A elt G scope pos j acc env _ _ s4 := q4
        unfold Behind at q4
        rw [h1] at q4
        refine wpAny_bind (wpAny_mono q4 (fun x s5 q5 => ?_) fun _ _ e => e)
        refine wpAny_bind (wpAny_standAt (wpAny_bind (wpAny_of_eq (hs x) (wpAny_bind (wpAny_holding (wpAny_mono q5 (fun it1 s6 q6 => ?_) fun _ _ e => e))))))
        refine wpAny_bind (wpAny_runOwn ?_)
        rw [Around.mark_none]
        refine codeAny_mono q6 fun r s' hr => ?_
        cases r with
        | ok f => first | exact wpAny_pure ⟨rfl, hr⟩ | exact wpAny_bind (wpAny_pure (wpAny_pure ⟨rfl, hr⟩))
        | error e => exact hr.elim
  | none =>
    rw [turn_last h0 h1]
    refine wpAny_bind (wpAny_standAt (wpAny_bind (wpAny_mono T (fun r s1 q1 => ?_) fun _ _ e => e)))
    cases r with
    | none => exact wpAny_pure q1
    | some v =>
      refine wpAny_bind (wpAny_mono q1 (fun _ s2 q2 => wpAny_bind (wpAny_mono q2 (fun _ s3 q3 => wpAny_bind (wpAny_mono q3 (fun ok s4 q4 => ?_) fun _ _ e => e)) fun _ _ e => e)) fun _ _ e => e)
      cases ok with
      | false => exact wpAny_pure ⟨rfl, q4⟩
      | true =>
        have q4 : Behind prog w A elt G scope pos j acc env _ _ s4 := q4
        unfold Behind at q4
        rw [h1] at q4
        exact wpAny_bind (wpAny_bind (wpAny_mono q4 (fun x s5 q5 => wpAny_bind (wpAny_mono q5 (fun _ s6 q6 => wpAny_pure (wpAny_pure ⟨rfl, q6⟩)) fun _ _ e => e)) fun _ _ e => e))
theorem start_any (hg : ∃ g, G[j]? = some g ∧ g.is_async = 0) (a : codeAny (model prog w) A (.compLoop (.ListComp elt G scope pos) j it acc env) R s)
    (b : wpAny (model prog w) A (pyIter it) (fun it' s' => codeAny (model prog w) A (.compLoop (.ListComp elt G scope pos) j it' acc env) R s') (notedBy (model prog w) A env fun x s' => R (.error x) s') s) :
    codeAny (model prog w) A (.compStart (.ListComp elt G scope pos) j it acc env) R s := by
  obtain ⟨g, h0, ha⟩ := hg
  refine codeAny_of_tree ?_; show wpAny _ _ ((compStart (.ListComp elt G scope pos) j it acc env).onRaise (fun x => do noteFrame x env; standAt theWindowsPlace)) _ _ s
  refine wpAny_notedAt ?_
  unfold compStart
  have hcl : (clausesOf (.ListComp elt G scope pos))[j]? = some g := h0
  rw [hcl]
  simp only [Option.elim_some, ha]
  rw [if_neg (by simp)]
  refine wpAny_bind (wpAny_askSetting (wpAny_ite ?_))
  split
  · first | exact wpAny_bind (wpAny_pure (wpAny_pure (And.intro rfl a))) | exact wpAny_pure (And.intro rfl a)
  · first
      | exact wpAny_bind (wpAny_rule (wpAny_bind (wpAny_standAt (wpAny_bind (wpAny_mono b (fun it' s' h' => wpAny_pure (And.intro rfl h')) fun _ _ x => x)))))
      | (refine wpAny_bind (wpAny_rule ?_); exact wpAny_bind (wpAny_standAt (wpAny_bind (wpAny_mono b (fun it' s' h' => wpAny_pure (And.intro rfl h')) fun _ _ x => x))))
end
theorem Behind.mono {prog : Program} {w : World} {A : Around} {elt : Expr} {G : List Comprehension} {scope : Scope} {pos : Pos} {j : Nat} {acc : Value} {env : Env} {N : Value → Shared → Prop} {p p' : Shared → Prop} {s : Shared} (h : Behind prog w A elt G scope pos j acc env N p s) (k : ∀ s', p s' → p' s') : Behind prog w A elt G scope pos j acc env N p' s := by
  unfold Behind at h ⊢
  cases e : G[j + 1]? with
  | some g =>
    rw [e] at h
    exact wpAny_mono h (fun x s5 q5 => wpAny_mono q5 (fun it s6 q6 => codeAny_mono q6 fun r s' hr => by
      cases r with
      | ok f => exact k s' hr
      | error x => exact hr) fun _ _ z => z) fun _ _ z => z
  | none =>
    rw [e] at h
    exact wpAny_mono h (fun x s5 q5 => wpAny_mono q5 (fun _ s6 q6 => k s6 q6) fun _ _ z => z) fun _ _ z => z
theorem drop_cons {α : Type} {G r : List α} {n : Nat} {a : α} (h : G.drop n = a :: r) : G[n]? = some a := by
  have z := congrArg (·[0]?) h
  simpa using z
theorem drop_none {α : Type} {G : List α} {n : Nat} (h : G.drop n = []) : G[n]? = none := by
  have z := congrArg (·[0]?) h
  simpa using z
/-! what a block of several clauses does -/
def TIn : Type := L2.St → Hp → Addr → (Hp → Prop) → Prop
def tItem (te : TE) : TIn := fun σ H D Nx => te σ H fun y H1 => ∃ acc, H1 D = some (.lst acc) ∧ acc.length < sizeLine ∧ Nx (upd H1 D (.lst (acc ++ [y])))
/-- a further clause; us: its names and those of the clauses behind it -/
def tClause (wi : TI) (g : TG) (tt : TT) (us : List Nat) (t : TIn) : TIn := fun σ H D Nx => wi σ H fun J H1 => ∃ W : Nat → Nat → Hp → Prop, (∃ m, W 0 m H1) ∧ ∀ j k H2, W j k H2 →
  (J.stop j H2 ∧ Nx H2) ∨ (J.go j H2 ∧ ∃ Nx1 : Hp → Prop, (∀ H', Nx1 H' → ∃ k', k' < k ∧ W (j + 1) k' H') ∧ ∀ x H', J.yld j H2 x H' → g x (wipe σ us) H' fun σ1 H3 => wipe σ1 us = wipe σ us ∧ tt σ1 H3 fun b H4 => if b = true then t σ1 H4 D Nx1 else Nx1 H4)
inductive PIns (Y : Cx) (elt : Expr) : List Comprehension → List Nat → TIn → Prop
  | nil {te : TE} : PE Y elt te → PIns Y elt [] [] (tItem te)
  | cons {tg iter : Expr} {ifs : List Expr} {wi : TI} {g : TG} {tt : TT} {us vs : List Nat} {r : List Comprehension} {t : TIn} : PI Y tg iter wi → PG Y tg g → PTs Y ifs tt → (∀ i ∈ vs, i ∈ us) → (∀ env x, foldedSetIterable iter env x = pure x) → PIns Y elt r vs t → PIns Y elt (⟨tg, iter, ifs, 0⟩ :: r) us (tClause wi g tt us t)
section
variable {X : Cx}
theorem inner_ok {s3 : Shared} {H3 : Hp} {scope : Scope} {ce : Env} {fp : List Addr} {elt : Expr} {pos : Pos} {G : List Comprehension} {D : Addr} (hc : X.calm = true) (hce : (X.blk s3 H3 scope ce fp).env = ce) : ∀ {r : List Comprehension} {us : List Nat} {t : TIn}, PIns (X.blk s3 H3 scope ce fp) elt r us t →
    ∀ {j : Nat}, G.drop (j + 1) = r → ∀ {pins : List (Addr × Obj)} {σ : L2.St} {H : Hp} {s : Shared} {Nx : Hp → Prop} {N : Value → Shared → Prop}, Inv (X.blk s3 H3 scope ce fp) pins σ H s → t σ H D Nx →
      Behind X.prog X.w X.A elt G scope pos j (.ref D) ce N (fun s' => ∃ H', Inv (X.blk s3 H3 scope ce fp) pins (wipe σ us) H' s' ∧ Nx H') s := by
  intro r us t P
  induction P with
  | @nil te pe =>
    intro j hG pins σ H s Nx N I q
    have e : G[j + 1]? = none := drop_none hG
    unfold Behind
    rw [e]
    refine thnF (pe.run _ s σ H _ I q) fun z s1 ⟨yv, H1, I1, r1, acc, hD, hz, nx⟩ => ?_
    exact app_ok (X := X.blk s3 H3 scope ce fp) I1 hD hz r1 fun s2 I2 => ⟨_, I2, nx⟩
  | @cons tg iter ifs wi g tt us vs r t pi pg pt hv hs Pr ih =>
    intro j hG pins σ H s Nx N I q
    have e : G[j + 1]? = some ⟨tg, iter, ifs, 0⟩ := drop_cons hG
    have hG2 : G.drop (j + 1 + 1) = r := by
      have z := congrArg (List.drop 1) hG
      simpa [List.drop_drop] using z
    unfold Behind
    rw [e]
    refine thnF (pi.run _ s σ H _ I q) fun xv s1 hx => thnF hx fun itv s2 h2 => ?_
    obtain ⟨it, fp1, tn, J, H2, e1, I2, T, st2, f2, W, ⟨m, w0⟩, turn⟩ := h2
    subst e1
    have stat : ∀ {H' : Hp}, (∀ b ∈ fp1, H' b = none) → ∀ b ∈ fp1, FpOk (X.blk s3 H3 scope ce fp) pins H' b := fun hn b hb => ⟨hn b hb, (f2 b hb).2⟩
    have hnx : ∀ g', G[j + 1 + 1]? = some g' → g'.is_async = 0 ∧ ∀ x, foldedSetIterable g'.iter ce x = pure x := by
      intro g' hg'
      cases Pr with
      | nil pe =>
        rw [drop_none hG2] at hg'
        cases hg'
      | cons a b c d e f =>
        rw [drop_cons hG2] at hg'
        cases hg'
        exact ⟨rfl, e ce⟩
    have loop : codeAny (model X.prog X.w) X.A (.compLoop (.ListComp elt G scope pos) (j + 1) (.ref it) (.ref D) ce) (fun r s' => match r with | .ok _ => ∃ H', Inv (X.blk s3 H3 scope ce fp) pins (wipe σ us) H' s' ∧ Nx H' | .error _ => False) s2 := by
      refine loop_any e hnx (fun k s' => ∃ jj H', Inv (X.blk s3 H3 scope ce fp) pins (wipe σ us) H' s' ∧ tn jj s'.heap ∧ (∀ b ∈ fp1, H' b = none) ∧ W jj k H') ?_ m ⟨0, H2, I2.weak (wipe_length _ _) (fun j v e => (wipe_some e).1), st2, fun b hb => (f2 b hb).1, w0⟩
      rintro k s4 ⟨jj, H4, I4, st4, n4, w4⟩
      rcases turn jj k H4 w4 with ⟨stop, nx⟩ | ⟨go, Nx1, hNx1, step⟩
      · refine thnF (T.done (X.blk s3 H3 scope ce fp) rfl rfl rfl hc jj _ s4 (wipe σ us) H4 (fun _ _ => False) I4 (stat n4) st4 stop) fun r s5 ⟨hr, I5⟩ => ?_
        subst hr
        exact ⟨_, I5, nx⟩
      · refine thnF (T.item (X.blk s3 H3 scope ce fp) rfl rfl rfl hc jj _ s4 (wipe σ us) H4 (fun _ _ => False) I4 (stat n4) st4 go) fun r s5 ⟨u, hr, h5⟩ => ?_
        subst hr
        refine thnF h5 fun _ s6 ⟨x, H6, I6, r6, y6, st6, n6⟩ => ?_
        have I6' := I6.pinned (stat n6) (T.obj _ _ st6)
        refine thnF (pg.run _ s6 (wipe σ us) H6 x u _ I6' r6 (step x H6 y6)) fun _ s7 ⟨σ7, H7, I7, hw, q7⟩ => ?_
        refine thnF (pt.run _ s7 σ7 H7 _ I7 q7) fun b s8 ⟨H8, I8, q8⟩ => ?_
        have fin : ∀ {σ' : L2.St} {s' : Shared} {H' : Hp}, Inv (X.blk s3 H3 scope ce fp) (pins ++ pinsAt fp1 s6.heap) σ' H' s' → (wipe σ us).length = σ'.length → (∀ (n : Nat) v, (wipe σ us)[n]? = some (some v) → σ'[n]? = some (some v)) → Nx1 H' → ∃ m, m < k ∧ ∃ jj H', Inv (X.blk s3 H3 scope ce fp) pins (wipe σ us) H' s' ∧ tn jj s'.heap ∧ (∀ b ∈ fp1, H' b = none) ∧ W jj m H' := fun {σ' s' H'} I' hl hk nx => by
          obtain ⟨m', hm, w'⟩ := hNx1 H' nx
          have pin' : ∀ b ∈ fp1, ∀ o, s6.heap.get? b = some o → s'.heap.get? b = some o ∧ H' b = none := fun b hb o eo => by
            have z := I'.pin (b, o) (List.mem_append_right _ (List.mem_append_right _ (mem_pinsAt hb eo)))
            exact ⟨z.1, z.2.1⟩
          refine ⟨m', hm, jj + 1, H', I'.unpinned.weak hl hk, T.keep _ _ _ st6 fun b hb o eo => (pin' b hb o eo).1, fun b hb => ?_, w'⟩
          obtain ⟨o, eo, _⟩ := T.obj _ _ st6 b hb
          exact (pin' b hb o eo).2
        have hl7 : (wipe σ us).length = σ7.length := by rw [← hw, wipe_length]
        have hk7 : ∀ (n : Nat) v, (wipe σ us)[n]? = some (some v) → σ7[n]? = some (some v) := fun n v z => by
          rw [← hw] at z
          exact (wipe_some z).1
        cases b with
        | false =>
          simp only [Bool.false_eq_true, if_false] at q8 ⊢
          exact fin I8 hl7 hk7 q8
        | true =>
          simp only [if_true] at q8 ⊢
          refine (ih hG2 I8 q8).mono fun s' ⟨H', I', nx⟩ => fin I' (hl7.trans (wipe_length _ _).symm) (fun n v z => ?_) nx
          rw [← hw] at z
          obtain ⟨z1, z2⟩ := wipe_some z
          rw [wipe_out fun y => z2 (hv n y)]
          exact z1
    exact start_any ⟨_, e, rfl⟩ loop (T.self X.A 0 _ _ _ st2 loop)
/-- the whole block: the first clause's source is the def's own; us: all names of the block -/
def tLcN (wi : TI) (g : TG) (tt : TT) (t : TIn) (us : List Nat) : TE := fun σ H Q => wi σ H fun J H1 => ∀ D, H1 D = none → ∃ W : Nat → Nat → Hp → Prop, (∃ m, W 0 m (upd H1 D (.lst []))) ∧ ∀ i m H, W i m H →
  (J.stop i H ∧ Q (.ref D) H) ∨ (J.go i H ∧ ∃ Nx : Hp → Prop, (∀ H', Nx H' → ∃ m', m' < m ∧ W (i + 1) m' H') ∧ ∀ x H', J.yld i H x H' → g x (wipe σ us) H' fun σ2 H2 => wipe σ2 us = wipe σ us ∧ tt σ2 H2 fun b H3 => if b = true then t σ2 H3 D Nx else Nx H3)
theorem lcN_core {pins : List (Addr × Obj)} {s : Shared} {σ : L2.St} {H : Hp} {Q : VK} {elt tg iter : Expr} {ifs : List Expr} {rest : List Comprehension} {scope : Scope} {own : List (Str × Nat)} {vs : List Nat} {pos pos' : Pos} {wi : TI} {g : TG} {tt : TT} {t : TIn} {use : Option (Value → Sem Unit)} {Qf : Value → Shared → Prop}
    (hc : X.calm = true) (hN : X.N.Nodup) (I : Inv X pins σ H s) (hi : PI X tg iter wi) (ok : BlkOk X.N X.env.scope scope own) (hv : ∀ i ∈ vs, i ∈ own.map (·.2))
    (hq : ∀ (s : Shared) (H : Hp) (C : Addr) (cl : List (Str × Addr)) (fp : List Addr), PG (X.blk s H scope (compEnvC scope cl C X.env) fp) tg g ∧ PTs (X.blk s H scope (compEnvC scope cl C X.env) fp) ifs tt ∧ PIns (X.blk s H scope (compEnvC scope cl C X.env) fp) elt rest vs t)
    (hs : ∀ x, foldedSetIterable iter X.env x = pure x) (h : tLcN wi g tt t (own.map (·.2)) σ H Q)
    (hRR : ∀ D C s' m H', Inv X pins σ H' s' → Q (.ref D) H' → s'.heap.Ns C m → FpOk X pins H' C → compPost (model X.prog X.w) X.A X.xe use Qf (.ref D) C (.ok .next) s') :
    wpAny (model X.prog X.w) X.A (comprehension (.ListComp elt (⟨tg, iter, ifs, 0⟩ :: rest) scope pos) scope X.env pos' (newList []) false (eval iter X.env) use) Qf X.xe s := by
  have hfree : ∀ y ∈ scope.names, y.2 = .free → ∃ c, X.env.cells.lookup y.1 = some c := fun y hy e => (ok.free y hy e).elim (fun k => I.ok.has _ (.inl k)) fun k => I.ok.has _ (.inr k)
  refine wpAny_comprehension_free (use := use) rfl hs (closure_ok hfree) ok.kind (fun y hy e => by rw [ok.uniq y hy, e]) (thn (hi.run pins s σ H _ I h) fun xv s1 hx => thn hx fun itv s2 h2 => ?_)
  obtain ⟨it, fp, tn, J, H2, e, I2, T, st2, f2, q⟩ := h2
  subst e
  refine wpAny_newObj_type (newEnv_comp ?_) (by show 0 ≤ sizeLine; decide)
  generalize hD : s2.heap.objs.size = D
  obtain ⟨W, ⟨m0, w0⟩, turn⟩ := q D (I2.hok.fresh (Nat.le_of_eq hD))
  generalize hs3 : ({ s2 with heap := s2.heap.push { cls := .type "list", data := .seq ([] : List Value).toArray } } : Shared) = s3
  have h3 : s3.heap = s2.heap.push { cls := .type "list", data := .seq ([] : List Value).toArray } := by rw [← hs3]
  have I3 : Inv X pins σ (upd H2 D (.lst [])) s3 := by
    rw [← hs3]
    exact I2.laid (t' := s2.toks) (fun b o e => Heap.get?_push_of_some _ e) (Nat.le_of_eq hD) ⟨Nat.zero_le _, [], 0, .nil, by rw [← hD]; exact Heap.get?_push_size _ rfl⟩
  have f3 : ∀ b ∈ fp, FpOk X pins (upd H2 D (.lst [])) b ∧ b < s3.heap.objs.size := fun b hb => by
    obtain ⟨o, e, _⟩ := T.obj _ _ st2 b hb
    have lt := Heap.lt_size e
    exact ⟨⟨by rw [upd_ne (by rw [← hD]; exact Nat.ne_of_lt lt)]; exact (f2 b hb).1, (f2 b hb).2⟩, by rw [h3, Heap.size_push]; exact Nat.lt_succ_of_lt lt⟩
  have st3 : tn 0 s3.heap := T.keep _ _ _ st2 fun b _ o e => by rw [h3]; exact Heap.get?_push_of_some _ e
  have I4 := block_start I3 ok hN f3
  obtain ⟨pg, pt, pin⟩ := hq s3 (upd H2 D (.lst [])) s3.heap.objs.size (cellsFrom (s3.heap.objs.size + 1) scope.names (cloFrom X.env.cells scope.names [])) fp
  show codeAny _ _ (.compStart (.ListComp elt (⟨tg, iter, ifs, 0⟩ :: rest) scope pos) 0 (.ref it) (.ref D) (compEnvC scope (cellsFrom (s3.heap.objs.size + 1) scope.names (cloFrom X.env.cells scope.names [])) s3.heap.objs.size X.env)) (compPost (model X.prog X.w) X.A X.xe use Qf (.ref D) s3.heap.objs.size) { s3 with heap := pushCells (s3.heap.push { cls := .type "dict", data := .dict #[] }) scope.names }
  have nfp : ∀ b ∈ fp, (upd H2 D (.lst [])) b = none := fun b hb => (f3 b hb).1.1
  generalize hce : compEnvC scope (cellsFrom (s3.heap.objs.size + 1) scope.names (cloFrom X.env.cells scope.names [])) s3.heap.objs.size X.env = ce at I4 pg pt pin ⊢
  have cL : ce.locals = s3.heap.objs.size := by subst hce; rfl
  generalize hH3 : upd H2 D (.lst []) = H3 at I3 I4 pg pt pin w0 nfp f3
  generalize hs4 : ({ s3 with heap := pushCells (s3.heap.push { cls := .type "dict", data := .dict #[] }) scope.names } : Shared) = s4 at I4 ⊢
  have st4 : tn 0 s4.heap := T.keep _ _ _ st3 fun b _ o e => by rw [← hs4]; exact pushCells_keeps _ _ _ _ (Heap.get?_push_of_some _ e)
  have stat : ∀ {σ' : L2.St} {H' : Hp} {s' : Shared}, Inv (X.blk s3 H3 scope ce fp) [] σ' H' s' → (∀ b ∈ fp, H' b = none) → ∀ b ∈ fp, FpOk (X.blk s3 H3 scope ce fp) [] H' b := fun {σ' H' s'} I' hn b hb => ⟨hn b hb, (I'.ok.exf b hb).1, I'.ok.exfs b hb, .inl hb, fun x c e => (I'.ok.exf b hb).2 x c e, fun p hp => absurd (show p ∈ ([] : List (Addr × Obj)) ++ [] from hp) (by simp)⟩
  have hnx : ∀ g', (⟨tg, iter, ifs, 0⟩ :: rest : List Comprehension)[0 + 1]? = some g' → g'.is_async = 0 ∧ ∀ x, foldedSetIterable g'.iter ce x = pure x := by
    intro g' hg'
    cases pin with
    | nil pe => cases hg'
    | cons a b c d e f =>
      cases hg'
      exact ⟨rfl, e ce⟩
  have loop : codeAny (model X.prog X.w) X.A (.compLoop (.ListComp elt (⟨tg, iter, ifs, 0⟩ :: rest) scope pos) 0 (.ref it) (.ref D) ce) (compPost (model X.prog X.w) X.A X.xe use Qf (.ref D) s3.heap.objs.size) s4 := by
    refine loop_any rfl hnx (fun n s' => ∃ i H', Inv (X.blk s3 H3 scope ce fp) [] (wipe σ (own.map (·.2))) H' s' ∧ tn i s'.heap ∧ (∀ b ∈ fp, H' b = none) ∧ W i n H') ?_ m0 ⟨0, H3, I4, st4, nfp, w0⟩
    rintro n s5 ⟨i, H5, I5, st5, n5, w5⟩
    rcases turn i n H5 w5 with ⟨stop, qq⟩ | ⟨go, Nx, hNx, step⟩
    · refine thnF (T.done (X.blk s3 H3 scope ce fp) rfl rfl rfl hc i [] s5 _ H5 (fun _ _ => False) I5 (stat I5 n5) st5 stop) fun r s6 ⟨hr, I6⟩ => ?_
      subst hr
      have I7 : Inv X pins σ H5 s6 := I3.call' (ch := fp) I6.os I6.base I6.hok I6.bare fun b hb => ⟨(f3 b hb).1.2.2.2.1, (f3 b hb).1.2.1, (f3 b hb).1.2.2.2.2.1, (f3 b hb).1.2.2.2.2.2⟩
      have nC : H5 s3.heap.objs.size = none := by
        have z : H5 ce.locals = none := I6.free
        rwa [cL] at z
      obtain ⟨m, hn, _⟩ := I6.loc
      have hn : s6.heap.Ns ce.locals m := hn
      rw [cL] at hn
      exact hRR D s3.heap.objs.size s6 m H5 I7 qq hn (I3.fpOk (Nat.le_refl _) nC)
    · refine thnF (T.item (X.blk s3 H3 scope ce fp) rfl rfl rfl hc i [] s5 _ H5 (fun _ _ => False) I5 (stat I5 n5) st5 go) fun r s6 ⟨u, hr, h6⟩ => ?_
      subst hr
      refine thnF h6 fun _ s7 ⟨x, H7, I7, r7, y7, st7, n7⟩ => ?_
      have I7' := I7.pinned (stat I7 n7) (T.obj _ _ st7)
      refine thnF (pg.run _ s7 _ H7 x u _ I7' r7 (step x H7 y7)) fun _ s8 ⟨σ8, H8, I8, hw8, q8⟩ => ?_
      refine thnF (pt.run _ s8 σ8 H8 _ I8 q8) fun b s9 ⟨H9, I9, q9⟩ => ?_
      have fin : ∀ {σ9 : L2.St} {s' : Shared} {H' : Hp}, Inv (X.blk s3 H3 scope ce fp) ([] ++ pinsAt fp s7.heap) σ9 H' s' → (wipe σ (own.map (·.2))).length = σ9.length → (∀ (j : Nat) v, (wipe σ (own.map (·.2)))[j]? = some (some v) → σ9[j]? = some (some v)) → Nx H' →
          ∃ m, m < n ∧ ∃ i H', Inv (X.blk s3 H3 scope ce fp) [] (wipe σ (own.map (·.2))) H' s' ∧ tn i s'.heap ∧ (∀ b ∈ fp, H' b = none) ∧ W i m H' := fun {σ9 s' H'} I' hl hk nx => by
        obtain ⟨m', hm, w'⟩ := hNx H' nx
        have pin' : ∀ b ∈ fp, ∀ o, s7.heap.get? b = some o → s'.heap.get? b = some o ∧ H' b = none := fun b hb o e => by
          have z := I'.pin (b, o) (List.mem_append_right _ (List.mem_append_right _ (mem_pinsAt hb e)))
          exact ⟨z.1, z.2.1⟩
        refine ⟨m', hm, i + 1, H', (I'.unpinned (pins := [])).weak hl hk, T.keep _ _ _ st7 fun b hb o e => (pin' b hb o e).1, fun b hb => ?_, w'⟩
        obtain ⟨o, e, _⟩ := T.obj _ _ st7 b hb
        exact (pin' b hb o e).2
      have hl8 : (wipe σ (own.map (·.2))).length = σ8.length := by rw [← hw8, wipe_length]
      cases b with
      | false =>
        simp only [Bool.false_eq_true, if_false] at q9 ⊢
        exact fin I9 hl8 (fun j v e => by rw [← hw8] at e; exact (wipe_some e).1) q9
      | true =>
        simp only [if_true] at q9 ⊢
        refine (inner_ok (G := ⟨tg, iter, ifs, 0⟩ :: rest) hc rfl pin (j := 0) rfl I9 q9).mono fun s' ⟨H', I', nx⟩ => fin I' (hl8.trans (wipe_length _ _).symm) (fun n v z => ?_) nx
        rw [← hw8] at z
        obtain ⟨z1, z2⟩ := wipe_some z
        rw [wipe_out fun y => z2 (hv n y)]
        exact z1
  exact start_any ⟨_, rfl, rfl⟩ loop (T.self X.A 0 _ _ _ st4 loop)
/-- a block of several clauses as a value -/
theorem pe_lcN {elt tg iter : Expr} {ifs : List Expr} {rest : List Comprehension} {scope : Scope} {own : List (Str × Nat)} {vs : List Nat} {pos : Pos} {wi : TI} {g : TG} {tt : TT} {t : TIn} (hc : X.calm = true) (hN : X.N.Nodup) (hi : PI X tg iter wi) (ok : BlkOk X.N X.env.scope scope own) (hv : ∀ i ∈ vs, i ∈ own.map (·.2))
    (hq : ∀ (s : Shared) (H : Hp) (C : Addr) (cl : List (Str × Addr)) (fp : List Addr), PG (X.blk s H scope (compEnvC scope cl C X.env) fp) tg g ∧ PTs (X.blk s H scope (compEnvC scope cl C X.env) fp) ifs tt ∧ PIns (X.blk s H scope (compEnvC scope cl C X.env) fp) elt rest vs t)
    (hs : ∀ x, foldedSetIterable iter X.env x = pure x := by intro _; rfl) : PE X (.ListComp elt (⟨tg, iter, ifs, 0⟩ :: rest) scope pos) (tLcN wi g tt t (own.map (·.2))) := by
  refine ⟨fun pins s σ H Q I h => ?_⟩; rw [eval_ListComp]
  refine lcN_core hc hN I hi ok hv hq hs h fun D C s' m H' I' q hn f => ⟨m, hn, fun h'' sb => ?_⟩
  obtain ⟨f0, f1, f2, f3, f4, f5⟩ := f
  exact ⟨.ref D, H', I'.turned (t' := s'.toks) (fun b o hb e => (sb.2 b hb).trans e) f0 f1 f3 f4 f5, rfl, q⟩
theorem ps_setLcN {i : Nat} {y : Str} {py : Pos} {elt tg iter : Expr} {ifs : List Expr} {rest : List Comprehension} {scope : Scope} {own : List (Str × Nat)} {vs : List Nat} {pos spos : Pos} {wi : TI} {g : TG} {tt : TT} {t : TIn} (hc : X.calm = true) (hN : X.N.Nodup) (hy : X.N[i]? = some y) (hyl : X.env.scope.names.lookup y = some .local)
    (hsw : swapsWith (.ListComp elt (⟨tg, iter, ifs, 0⟩ :: rest) scope pos) (some (.Name y py)) spos.line X.env = pure true) (hi : PI X tg iter wi) (ok : BlkOk X.N X.env.scope scope own) (hv : ∀ i ∈ vs, i ∈ own.map (·.2))
    (hq : ∀ (s : Shared) (H : Hp) (C : Addr) (cl : List (Str × Addr)) (fp : List Addr), PG (X.blk s H scope (compEnvC scope cl C X.env) fp) tg g ∧ PTs (X.blk s H scope (compEnvC scope cl C X.env) fp) ifs tt ∧ PIns (X.blk s H scope (compEnvC scope cl C X.env) fp) elt rest vs t)
    (hs : ∀ x, foldedSetIterable iter X.env x = pure x := by intro _; rfl) : PS X (.Assign [.Name y py] (.ListComp elt (⟨tg, iter, ifs, 0⟩ :: rest) scope pos) spos) (tAsg (tLcN wi g tt t (own.map (·.2))) (gName i)) := by
  refine ⟨fun pins s σ H D I h => ?_⟩; rw [exec_Assign_Name_used _ _ _ _ hsw]
  refine wpAny_bind (wpAny_standAt (wpAny_bind ?_))
  show wpAny _ X.A (do let _ ← comprehension (.ListComp elt (⟨tg, iter, ifs, 0⟩ :: rest) scope pos) scope X.env (firstIterPos (⟨tg, iter, ifs, 0⟩ :: rest) pos) (newList []) false (eval iter X.env) (some (assign (.Name y py) X.env))) _ _ s
  have h : tLcN wi g tt t (own.map (·.2)) σ H (fun x H1 => gName i x σ H1 D.nx) := h
  refine wpAny_bind (thn (lcN_core (Qf := fun _ s' => SP X pins D .next s') hc hN I hi ok hv hq hs h fun L C s' m H' I' q hn f => ?_) fun _ s' hq => wpAny_pure (wpAny_pure hq))
  show wpAny _ _ (assign (.Name y py) X.env (.ref L)) _ _ _
  refine wpAny_assign_Name (store_ok2 (v := V.ref L) I' hN hy (.inl hyl) rfl (fun s2 I2 ⟨a, sb, ha⟩ => ?_) (.inr hyl))
  obtain ⟨f0, f1, f2, f3, f4, f5⟩ := f
  have haC : C ≠ a := ha.elim (fun z => by rw [z]; exact f1) fun z e => f4 y a z e.symm
  exact ⟨m, hn.sameBut sb haC, fun h3 sb3 => ⟨_, H', I2.turned (t' := s2.toks) (fun b o hb e => (sb3.2 b hb).trans e) f0 f1 f3 f4 f5, q⟩⟩
end
end Pl
namespace Pl
open PySem PySem.Spec PyProof.Rows L2 PySem.MeetsSeq PySem.MeetsSeq2 PySem.MeetsSeq3 PySem.SeqAt
/-! enumerate of a tuple -/
theorem meets_enum1 {v : Value} {o : Obj} {H : Heap → Prop} (B : Begins v o H) : Meets (Builtin.«enumerate.__new__» ⟨[.type "enumerate", v], []⟩) (fun _ R s => H s.heap ∧ R (.ok (.ret (.ref (s.heap.push o).objs.size))) { s with heap := (s.heap.push o).push { cls := .type "enumerate", data := .fields #[.none, .bool false, .ref s.heap.objs.size, rawInt 0, .none, .none] } }) :=
  .of_wp fun prog w A R s h => by
    obtain ⟨hp, g, d, tk, os⟩ := s
    obtain ⟨h1, h⟩ := h
    have hsub := sub_enumerate
    have q1 : ∀ {A' : Around} {E : Value → Shared → Prop} {Q : Value → Shared → Prop}, Q (.ref hp.objs.size) ⟨hp.push o, g, d, tk, os⟩ → wpAny (model prog w) A' (pyIter v) Q E ⟨hp, g, d, tk, os⟩ := fun q => B.iter prog w _ _ ⟨hp, g, d, tk, os⟩ _ h1 q
    wp_walk using q1
    refine wpAny_stack_any fun st => wpAny_pure ?_
    split
    · rename_i c _ _ _ _ _
      cases (c == Value.type "enumerate") <;> (wp_walk using q1; exact ⟨_, rfl, h⟩)
    · wp_walk using q1; exact ⟨_, rfl, h⟩
theorem call_enum1 {prog : Program} {w : World} {A : Around} {E : Value → Shared → Prop} {s : Shared} {v : Value} {o : Obj} {H : Heap → Prop} {Q : Value → Shared → Prop} (B : Begins v o H) (h1 : H s.heap)
    (h : ∀ h', IsEnum h' (s.heap.objs.size + 1) s.heap.objs.size 0 .none → h'.get? s.heap.objs.size = some o → (∀ b ob, s.heap.get? b = some ob → h'.get? b = some ob) → Q (.ref (s.heap.objs.size + 1)) { s with heap := h' }) :
    wpAny (model prog w) A (call (.type "enumerate") [v]) Q E s := by
  refine callType_new F.called_enumerate (by decide) (F.typeCall_enumerate_1 _) (F.newCall_enumerate_1 _) (fun obj => F.args_object_init_2 obj _) F.entry_enumerate_new (meets_enum1 B) ⟨h1, ?_⟩
  have hz : (s.heap.push o).objs.size = s.heap.objs.size + 1 := Heap.size_push ..
  show _ ∧ _
  rw [hz]
  have he : IsEnum ((s.heap.push o).push { cls := .type "enumerate", data := .fields #[.none, .bool false, .ref s.heap.objs.size, rawInt 0, .none, .none] }) (s.heap.objs.size + 1) s.heap.objs.size 0 .none := by
    have z := Heap.get?_push_size (s.heap.push o) (o := { cls := .type "enumerate", data := .fields #[.none, .bool false, .ref s.heap.objs.size, rawInt 0, .none, .none] }) rfl
    rwa [hz] at z
  exact ⟨⟨_, he, rfl⟩, h _ he (Heap.get?_push_of_some _ (Heap.get?_push_size _ B.free)) fun b ob x => Heap.get?_push_of_some _ (Heap.get?_push_of_some _ x)⟩
/-- the tuple at a, each item in a new pair -/
def IteT (K : PySem.W.Frag) (a : Addr) : It :=
  ⟨fun i H => ∃ (xs : List V) (x : V), SqT K H a xs ∧ xs[i]? = some x, fun i H v H' => ∃ T x, v = .ref T ∧ H T = none ∧ H' = upd H T (.tup [.int (i : Nat), x]) ∧ ∀ xs, SqT K H a xs → xs[i]? = some x, fun i H => ∃ xs : List V, SqT K H a xs ∧ xs.length = i⟩
theorem turn_enumT {P : Program} {w : World} {K : PySem.W.Frag} {elts : List Expr} {kk : Nat} {tpos : Pos} (a e it : Addr) :
    Turn P w K (.Tuple elts kk tpos) (IteT K a) [e, it] e (fun i h => (∃ old, IsEnum h e it ((i : Nat) : Int) old) ∧ h.IsTupleIter it a i ∧ e ≠ it) where
  mem := by simp
  obj := fun i h st b hb => by
    obtain ⟨⟨old, he⟩, ⟨o, ho, hc, hd⟩, _⟩ := st
    rcases (by simpa using hb : b = e ∨ b = it) with z | z
    · rw [z]; exact ⟨_, he, fun v q => nomatch q⟩
    · rw [z]; exact ⟨o, ho, fun v q => by rw [hd] at q; cases q⟩
  keep := fun i h h' st k => by
    obtain ⟨⟨old, he⟩, hi, hne⟩ := st
    exact ⟨⟨old, k e (by simp) _ he⟩, hi.at fun o q => k it (by simp) o q, hne⟩
  item := by
    intro X hP hw hK hc i pins s σ H E I hf st hg
    subst hP hw hK
    obtain ⟨⟨old, he⟩, hit, hne⟩ := st
    obtain ⟨xs, x, hq, hx⟩ := hg
    obtain ⟨its, rv, p, hz⟩ := I.tuple hq
    obtain ⟨u, hu, ru⟩ := rv.get hx
    have hel : e < s.heap.objs.size := Heap.lt_size he
    have hil : it < s.heap.objs.size := by obtain ⟨_, q, _⟩ := hit; exact Heap.lt_size q
    have ta : s.heap.IsTuple a its.toArray := p
    have hai : a ≠ it := fun z => by
      obtain ⟨o1, q1, c1, _⟩ := hit
      obtain ⟨o2, q2, c2, _⟩ := ta
      rw [z, q1] at q2
      cases q2
      rw [c1] at c2
      exact absurd c2 (by intro z; injection z with z; exact absurd z (by decide))
    have hea : e ≠ a := fun z => by
      obtain ⟨o2, q2, c2, _⟩ := ta
      rw [← z, show s.heap.get? e = some _ from he] at q2
      cases q2
      exact absurd c2 (by intro z; injection z with z; exact absurd z (by decide))
    have lt : i < its.toArray.size := by
      have := (List.getElem?_eq_some_iff.mp hu).1
      simpa using this
    refine wpAny_pyNext_enum_itemD (Draws.tuple (A := X.A.in1) (I.ok.hd hc) it a hai its.toArray) he ⟨hit, ta⟩ lt hne (by simp [hne, hea]) fun y h' tk hy ho ⟨hit', _⟩ hT hsz hk => ?_
    obtain rfl : y = u := by
      have z : its.toArray[i]? = some y := hy
      rw [List.getElem?_toArray, hu] at z
      exact (Option.some.inj z).symm
    refine ⟨_, rfl, wpAny_letOwnedTupleGo_enum (s := { s with heap := h', toks := tk + 1 }) ho fun h'' he' sb => ?_⟩
    have hT2 : h''.get? s.heap.objs.size = some { cls := .type "tuple", data := .seq #[.int i tk, y] } := (sb.2 _ (Nat.ne_of_gt hel)).trans hT
    have new : ObjOk X.prog X.w (upd H s.heap.objs.size (.tup [.int (i : Nat), x])) h'' s.heap.objs.size (.tup [.int (i : Nat), x]) := ⟨by show 2 ≤ sizeLine; decide, [.int i tk, y], .cons ⟨_, rfl⟩ (.cons ru .nil), ⟨_, hT2, rfl, _, rfl⟩⟩
    have I1 : Inv X pins σ (upd H s.heap.objs.size (.tup [.int (i : Nat), x])) { s with heap := h'', toks := tk + 1 } := I.turnedNew (ch := [e, it]) (fun b ob hb q => (sb.2 b (fun z => hb (by simp [z]))).trans (hk b ob (fun z => hb (by simp [z])) (fun z => hb (by simp [z])) q)) hf (Nat.le_refl _) new
    refine ⟨.ref s.heap.objs.size, _, I1, rfl, ⟨_, x, rfl, I.hok.fresh (Nat.le_refl _), rfl, fun ys hy => by rw [I.tuple_inj hy hq]; exact hx⟩, ⟨⟨y, ?_⟩, hit'.at fun o q => (sb.2 it (Ne.symm hne)).trans q, hne⟩, fun b hb => ?_⟩
    · rw [show ((i + 1 : Nat) : Int) = (i : Int) + 1 by omega]; exact he'
    · have hb' : b < s.heap.objs.size := by
        rcases (by simpa using hb : b = e ∨ b = it) with z | z
        · rw [z]; exact hel
        · rw [z]; exact hil
      rw [upd_ne (Nat.ne_of_lt hb')]
      exact (hf b hb).1
  done := by
    intro X hP hw hK hc i pins s σ H E I hf st hg
    subst hP hw hK
    obtain ⟨⟨old, he⟩, hit, hne⟩ := st
    obtain ⟨xs, hq, hx⟩ := hg
    obtain ⟨its, rv, p, hz⟩ := I.tuple hq
    obtain ⟨f0, f1, f2, f3, f4, f5⟩ := hf it (by simp)
    have hl := rv.length
    have en : its.toArray.size = i := by simp; omega
    have ta : s.heap.IsTuple a its.toArray := p
    have hai : a ≠ it := fun z => by
      obtain ⟨o1, q1, c1, _⟩ := hit
      obtain ⟨o2, q2, c2, _⟩ := ta
      rw [z, q1] at q2
      cases q2
      rw [c1] at c2
      exact absurd c2 (by intro z; injection z with z; exact absurd z (by decide))
    rw [← en] at hit
    exact wpAny_pyNext_enum_endD (Draws.tuple (A := X.A.in1) (I.ok.hd hc) it a hai its.toArray) he ⟨hit, ta⟩ fun h' eb => ⟨rfl, I.turned (t' := s.toks) (fun b o hb q => eb b o hb q) f0 f1 f3 f4 f5⟩
  self := fun A i s Q E st h => by
    obtain ⟨⟨_, he⟩, _⟩ := st
    exact wpAny_pyIter_enum he h
def iEnumT (K : PySem.W.Frag) (ta : TA) : TI := fun σ H R => ta σ H fun vs H1 => ∃ a xs, vs = [.ref a] ∧ SqT K H1 a xs ∧ R (IteT K a) H1
theorem pi_enumT {X : Cx} {e : Expr} {ta : TA} {p pos tpos : Pos} {elts : List Expr} {kk : Nat} (hg : Gl X "enumerate") (hm : X.mg "enumerate" = none) (ha : PA X [e] ta) (hs : starEach [e] X.env = [(false, eval e X.env)] := by rfl) : PI X (.Tuple elts kk tpos) (.Call (.Name "enumerate" p) [e] [] pos) (iEnumT X.K ta) := by
  refine ⟨fun pins s σ H R I h => ?_⟩; refine Call_ (ld_blt I hg hm boot_enumerate (PyProof.Rows.callWith_type1 (thn (ha.run pos pins s σ H _ I h) fun us s1 ⟨vs, H1, I1, r1, q1⟩ => ?_) hs rfl))
  obtain ⟨a, xs, ex, hq, q⟩ := q1
  subst ex
  cases r1 with
  | cons r rr =>
    cases rr
    cases r
    obtain ⟨its, rv, p', hz⟩ := I1.tuple hq
    have ta' : s1.heap.IsTuple a its.toArray := p'
    refine call_enum1 (begins_tuple a its.toArray) ta' fun h' he hit hk => wpAny_pyIter_enum he ?_
    have I2 : Inv X pins σ H1 { s1 with heap := h' } := I1.kept (t' := s1.toks) hk
    refine ⟨s1.heap.objs.size + 1, [s1.heap.objs.size + 1, s1.heap.objs.size], _, _, H1, rfl, I2, turn_enumT a (s1.heap.objs.size + 1) s1.heap.objs.size, ⟨⟨.none, he⟩, ⟨_, hit, rfl, rfl⟩, Nat.succ_ne_self _⟩, fun b hb => ?_, q⟩
    have hle : s1.heap.objs.size ≤ b := by
      rcases (by simpa using hb : b = s1.heap.objs.size + 1 ∨ b = s1.heap.objs.size) with z | z
      · rw [z]; exact Nat.le_succ _
      · rw [z]; exact Nat.le_refl _
    exact I1.fpOk hle (I1.hok.fresh hle)
theorem walk_enumT {K : PySem.W.Frag} {a : Addr} {xs : List V} : Walk (IteT K a) xs.length (fun H => SqT K H a xs) (YPair (fun i => some (.int (i : Nat))) (fun i => xs[i]?)) := by
  refine ⟨?_, ?_, ?_⟩
  · intro i H hi q
    exact ⟨xs, xs[i], q, by simp [hi]⟩
  · intro H q
    exact ⟨xs, q, rfl⟩
  · rintro i H v H' hi q ⟨T, x, e, n, e2, h1⟩
    exact ⟨T, _, x, e, n, e2, rfl, h1 xs q⟩
end Pl
namespace Pl
open PySem PySem.Spec PyProof.Rows L2 PySem.MeetsSeq PySem.MeetsSeq2 PySem.MeetsSeq3 PySem.SeqAt
section
variable {X : Cx}
/-- b is True -/
def rIsBl : R2 := fun x y H Q => ∃ b c : Bool, x = .bl b ∧ y = .bl c ∧ Q (.bl (decide (b = c))) H
theorem op_isBl : OpR X (compareOp .Is) rIsBl := by
  intro pins s σ H x y v u Q I rx ry h
  obtain ⟨b, c, rfl, rfl, q⟩ := h
  cases rx
  cases ry
  show wpAny _ _ ((isSame (Value.bool b) (Value.bool c)) >>= fun z => pure (Value.bool z)) _ _ s
  exact wpAny_bind (wpAny_isSame_plain (by cases b <;> cases c <;> rfl) (wpAny_pure (fin_bl I q (by cases b <;> cases c <;> rfl))))
end
end Pl
namespace Pl
open PySem PySem.Spec PyProof.Rows L2 PySem.MeetsSeq PySem.MeetsSeq2 PySem.MeetsSeq3 PySem.SeqAt
section
variable {X : Cx}
/-- sorted(range(..)) -/
def tSrtRg (te : L2.St → Hp → (Int → Int → Hp → Prop) → Prop) : TE := fun σ H Q => te σ H fun a b H1 => RgOk a b ∧ (b - a).toNat < 64 ∧ ∀ (ns : List Int) q, ns.Perm ((List.range (b - a).toNat).map fun i => a + (i : Nat)) → ns.Pairwise (· ≤ ·) → H1 q = none → Q (.ref q) (upd H1 q (.lst (ns.map V.int)))
theorem pe_sortedRg {e : Expr} {te : L2.St → Hp → (Int → Int → Hp → Prop) → Prop} {p pos : Pos} (hc : X.calm = true) (hg : Gl X "sorted") (hm : X.mg "sorted" = none) (he : PRg X e te) (na : starEach [e] X.env = (false, eval e X.env) :: starEach [] X.env := by rfl) : PE X (.Call (.Name "sorted" p) [e] [] pos) (tSrtRg te) := by
  refine ⟨fun pins s0 σ H0 Q I0 h => ?_⟩; refine wpAny_Call_Name_kw (ld_blt I0 hg hm boot_sorted ?_)
  refine PyProof.Rows.callWith_builtin1 (args_cons (thn (he pins s0 σ H0 _ I0 h) fun x s ⟨r, a, b, t, u, v, H, ex, hr, I, ok, few, q⟩ => args_nil ?_) na) na
  subst ex
  obtain ⟨b1, b2, b3, b4, b5⟩ := ok
  refine Calls.call_function_entry kind_sorted plain_sorted entry_sorted (args_sorted1 _) ?_
  unfold Builtin.«sorted»
  refine wpAny_bind (m := checkCount "sorted" 1 1 _) (wpAny_pure ?_)
  refine wpAny_bind (collect_range (A := X.A.in1) (n := (b - a).toNat) (I.ok.hd hc) hr (small_one b1 b2 b3 b4) (rangeSize_nat a b) b5 fun h1 tk acc kp hi0 => ?_)
  have rv := vals_rg hi0
  have I1 : Inv X pins σ H { s with heap := h1, toks := tk } := I.kept kp
  generalize hits : acc.toList = its at rv
  have er : rgV a b = ((List.range (b - a).toNat).map fun i => a + (i : Nat)).map V.int := by
    unfold rgV
    rw [List.map_map]
    rfl
  rw [er] at rv
  generalize hns : ((List.range (b - a).toNat).map fun i => a + (i : Nat)) = ns at rv q
  have hi := rv.ints
  have len : its.length = ns.length := hi.length
  have ln : ns.length = (b - a).toNat := by rw [← hns]; simp
  have small : its.length ≤ sizeLine := by rw [len, ln]; exact Nat.le_of_lt (Nat.lt_of_lt_of_le few (by decide))
  refine wpAny_bind (wpAny_newList ?_ small)
  have at1 : (h1.push (seqObj "list" its.toArray 0)).get? h1.objs.size = some (seqObj "list" its.toArray 0) := Heap.get?_push_size _ rfl
  refine wpAny_bind (wpAny_holding (wpAny_call_entry slot_list_sort ⟨_, at1, rfl⟩ entry_list_sort (list_sort_tree (s := { s with heap := h1.push (seqObj "list" its.toArray 0), toks := tk }) at1 hi (by rw [len, ln]; exact few) ?_) (args_list_sort _)))
  intro out ys g1 g2 g3
  refine ⟨_, rfl, ?_⟩
  obtain ⟨ep, at2⟩ := sortedHeap_at (vs := its) (out := out) at1
  have lens : (ys.map V.int).length ≤ sizeLine := by
    rw [List.length_map, g2.length_eq, ← len]
    exact small
  refine wpAny_pure ⟨_, rfl, .ref h1.objs.size, L2.upd H h1.objs.size (.lst (ys.map V.int)), I1.laid (t' := tk) (fun b u e => ?_) (Nat.le_refl _) ?_, rfl, q ys _ g2 g3 (I1.hok.fresh (Nat.le_refl _))⟩
  · have lt : b < h1.objs.size := Heap.lt_size e
    rw [sortedHeap_old (Nat.ne_of_lt lt) (by rw [size_push']; exact Nat.lt_succ_of_lt lt)]
    exact Heap.get?_push_of_some _ e
  · exact (show ObjOk X.prog X.w _ _ _ (.lst (ys.map V.int)) from ⟨lens, out.toList, ep, vals_of_ints g1, by rw [Array.toArray_toList]; exact at2⟩)
end
end Pl
namespace Pl
open PySem PySem.Spec PyProof.Rows L2 PySem.MeetsSeq PySem.MeetsSeq2 PySem.MeetsSeq3 PySem.SeqAt
/-! blocks of any number of clauses -/
section
variable {kx vx t i t1 i1 : Expr} {ifs ifs1 : List Expr} {G : List Comprehension} {scope : Scope} {pos : Pos} {it : Value} {D : Addr} {acc : Value} {env : Env} {j : Nat}
theorem dturn_mid (h0 : G[j]? = some ⟨t, i, ifs, 0⟩) (h1 : G[j + 1]? = some ⟨t1, i1, ifs1, 0⟩) : compTurn (.DictComp kx vx G scope pos) j it acc env = (do
    standAt i.pos
    match ← pyNext it with
    | none => pure (.done .next)
    | some v =>
      letOwnedTupleGo t it v
      assign t env v
      let mut ok := true
      for c in ifs do if ok then ok ← isTrue c env (eval c env)
      if ok then
        let x ← eval i1 env
        standAt i1.pos
        let x ← foldedSetIterable i1 env x
        let _ ← runOwn (.compStart (.DictComp kx vx G scope pos) (j + 1) (← holding [x] (pyIter x)) acc env) env
      again (.compLoop (.DictComp kx vx G scope pos) j it acc env)) := by
  unfold compTurn
  dsimp only
  rw [h0]
  dsimp only
  rw [h1]
  rfl
theorem dturn_last (h0 : G[j]? = some ⟨t, i, ifs, 0⟩) (h1 : G[j + 1]? = none) : compTurn (.DictComp kx vx G scope pos) j it (.ref D) env = (do
    standAt i.pos
    match ← pyNext it with
    | none => pure (.done .next)
    | some v =>
      letOwnedTupleGo t it v
      assign t env v
      let mut ok := true
      for c in ifs do if ok then ok ← isTrue c env (eval c env)
      if ok then
        (do
          let kv ← eval kx env
          let vv ← holding [kv] (eval vx env)
          standAt { kx.pos with endLine := vx.pos.endLine, endCol := vx.pos.endCol }
          holding [kv, vv] (dictSet D kv vv))
      again (.compLoop (.DictComp kx vx G scope pos) j it (.ref D) env)) := by
  unfold compTurn
  dsimp only
  rw [h0]
  dsimp only
  rw [h1]
  rfl
end
section
variable {prog : Program} {w : World} {A : Around} {R : Result → Shared → Prop} {s : Shared} {kx vx t i : Expr} {ifs : List Expr} {G : List Comprehension} {scope : Scope} {pos : Pos} {it : Value} {D : Addr} {env : Env} {j : Nat}
/-- what runs behind a clause's store and tests -/
def BehindD (prog : Program) (w : World) (A : Around) (kx vx : Expr) (G : List Comprehension) (scope : Scope) (pos : Pos) (j : Nat) (D : Addr) (env : Env) (N : Value → Shared → Prop) (post : Shared → Prop) (s : Shared) : Prop :=
  match G[j + 1]? with
  | some g => wpAny (model prog w) A (eval g.iter env) (fun x s5 => wpAny (model prog w) A (pyIter x) (fun it1 s6 => codeAny (model prog w) A (.compStart (.DictComp kx vx G scope pos) (j + 1) it1 (.ref D) env) (fun r s' => match r with | .ok _ => post s' | .error _ => False) s6) N s5) N s
  | none => wpAny (model prog w) A (eval kx env) (fun x s5 => wpAny (model prog w) A (eval vx env) (fun y s6 => wpAny (model prog w) A (dictSet D x y) (fun _ s7 => post s7) N s6) N s5) N s
theorem dloop_any (h0 : G[j]? = some ⟨t, i, ifs, 0⟩) (hb : ∀ g, G[j + 1]? = some g → g.is_async = 0 ∧ ∀ x, foldedSetIterable g.iter env x = pure x) (I : Nat → Shared → Prop)
    (turn : ∀ n s, I n s → wpAny (model prog w) A (pyNext it) (fun r s1 => match r with
      | none => R (.ok .next) s1
      | some v => wpAny (model prog w) A (letOwnedTupleGo t it v) (fun _ s2 => wpAny (model prog w) A (assign t env v) (fun _ s3 => wpAny (model prog w) A (forIn ifs true fun c r => if r = true then do let ok ← isTrue c env (eval c env); pure (ForInStep.yield ok) else pure (ForInStep.yield r)) (fun ok s4 =>
          if ok = true then BehindD prog w A kx vx G scope pos j D env (notedBy (model prog w) A env fun e s' => R (.error e) s') (fun s' => ∃ m, m < n ∧ I m s') s4 else ∃ m, m < n ∧ I m s4)
          (notedBy (model prog w) A env fun e s' => R (.error e) s') s3) (notedBy (model prog w) A env fun e s' => R (.error e) s') s2) (notedBy (model prog w) A env fun e s' => R (.error e) s') s1) (notedBy (model prog w) A env fun e s' => R (.error e) s') s)
    (n : Nat) (h : I n s) : codeAny (model prog w) A (.compLoop (.DictComp kx vx G scope pos) j it (.ref D) env) R s := by
  refine codeAny_loop rfl I (fun n s hI => ?_) n h; show wpAny _ A ((compTurn (.DictComp kx vx G scope pos) j it (.ref D) env).onRaise (fun x => do noteFrame x env; theTreesLotGoes x)) _ _ s
  refine wpAny_noted ?_
  have T := turn n s hI
  cases h1 : G[j + 1]? with
  | some g =>
    obtain ⟨t1, i1, ifs1, as⟩ := g
    obtain ⟨ha, hs⟩ := hb _ h1
    obtain rfl : as = 0 := ha
    rw [dturn_mid h0 h1]
    refine wpAny_bind (wpAny_standAt (wpAny_bind (wpAny_mono T (fun r s1 q1 => ?_) fun _ _ e => e)))
    cases r with
    | none => exact wpAny_pure q1
    | some v =>
      refine wpAny_bind (wpAny_mono q1 (fun _ s2 q2 => wpAny_bind (wpAny_mono q2 (fun _ s3 q3 => wpAny_bind (wpAny_mono q3 (fun ok s4 q4 => ?_) fun _ _ e => e)) fun _ _ e => e)) fun _ _ e => e)
      cases ok with
      | false => exact wpAny_pure ⟨rfl, q4⟩
      | true =>
        have q4 : BehindD prog w A kx vx G scope pos j D env _ _ s4 := q4
        unfold BehindD at q4
        rw [h1] at q4
        refine wpAny_bind (wpAny_mono q4 (fun x s5 q5 => ?_) fun _ _ e => e)
        refine wpAny_bind (wpAny_standAt (wpAny_bind (wpAny_of_eq (hs x) (wpAny_bind (wpAny_holding (wpAny_mono q5 (fun it1 s6 q6 => ?_) fun _ _ e => e))))))
        refine wpAny_bind (wpAny_runOwn ?_)
        rw [Around.mark_none]
        refine codeAny_mono q6 fun r s' hr => ?_
        cases r with
        | ok f => first | exact wpAny_pure ⟨rfl, hr⟩ | exact wpAny_bind (wpAny_pure (wpAny_pure ⟨rfl, hr⟩))
        | error e => exact hr.elim
  | none =>
    rw [dturn_last h0 h1]
    refine wpAny_bind (wpAny_standAt (wpAny_bind (wpAny_mono T (fun r s1 q1 => ?_) fun _ _ e => e)))
    cases r with
    | none => exact wpAny_pure q1
    | some v =>
      refine wpAny_bind (wpAny_mono q1 (fun _ s2 q2 => wpAny_bind (wpAny_mono q2 (fun _ s3 q3 => wpAny_bind (wpAny_mono q3 (fun ok s4 q4 => ?_) fun _ _ e => e)) fun _ _ e => e)) fun _ _ e => e)
      cases ok with
      | false => exact wpAny_pure ⟨rfl, q4⟩
      | true =>
        have q4 : BehindD prog w A kx vx G scope pos j D env _ _ s4 := q4
        unfold BehindD at q4
        rw [h1] at q4
        exact wpAny_bind (wpAny_bind (wpAny_mono q4 (fun kv s5 q5 => wpAny_bind (wpAny_holding (wpAny_mono q5 (fun vv s6 q6 => wpAny_bind (wpAny_standAt (wpAny_holding (wpAny_mono q6 (fun _ s7 q7 => wpAny_pure ⟨rfl, q7⟩) fun _ _ e => e)))) fun _ _ e => e))) fun _ _ e => e))
theorem dstart_any (hg : ∃ g, G[j]? = some g ∧ g.is_async = 0) (a : codeAny (model prog w) A (.compLoop (.DictComp kx vx G scope pos) j it (.ref D) env) R s)
    (b : wpAny (model prog w) A (pyIter it) (fun it' s' => codeAny (model prog w) A (.compLoop (.DictComp kx vx G scope pos) j it' (.ref D) env) R s') (notedBy (model prog w) A env fun x s' => R (.error x) s') s) :
    codeAny (model prog w) A (.compStart (.DictComp kx vx G scope pos) j it (.ref D) env) R s := by
  obtain ⟨g, h0, ha⟩ := hg
  refine codeAny_of_tree ?_; show wpAny _ _ ((compStart (.DictComp kx vx G scope pos) j it (.ref D) env).onRaise (fun x => do noteFrame x env; standAt theWindowsPlace)) _ _ s
  refine wpAny_notedAt ?_
  unfold compStart
  have hcl : (clausesOf (.DictComp kx vx G scope pos))[j]? = some g := h0
  rw [hcl]
  simp only [Option.elim_some, ha]
  rw [if_neg (by simp)]
  refine wpAny_bind (wpAny_askSetting (wpAny_ite ?_))
  split
  · first | exact wpAny_bind (wpAny_pure (wpAny_pure (And.intro rfl a))) | exact wpAny_pure (And.intro rfl a)
  · first
      | exact wpAny_bind (wpAny_rule (wpAny_bind (wpAny_standAt (wpAny_bind (wpAny_mono b (fun it' s' h' => wpAny_pure (And.intro rfl h')) fun _ _ x => x)))))
      | (refine wpAny_bind (wpAny_rule ?_); exact wpAny_bind (wpAny_standAt (wpAny_bind (wpAny_mono b (fun it' s' h' => wpAny_pure (And.intro rfl h')) fun _ _ x => x))))
end
theorem BehindD.mono {prog : Program} {w : World} {A : Around} {kx vx : Expr} {G : List Comprehension} {scope : Scope} {pos : Pos} {j : Nat} {D : Addr} {env : Env} {N : Value → Shared → Prop} {p p' : Shared → Prop} {s : Shared} (h : BehindD prog w A kx vx G scope pos j D env N p s) (k : ∀ s', p s' → p' s') : BehindD prog w A kx vx G scope pos j D env N p' s := by
  unfold BehindD at h ⊢
  cases e : G[j + 1]? with
  | some g =>
    rw [e] at h
    exact wpAny_mono h (fun x s5 q5 => wpAny_mono q5 (fun it s6 q6 => codeAny_mono q6 fun r s' hr => by
      cases r with
      | ok f => exact k s' hr
      | error x => exact hr) fun _ _ z => z) fun _ _ z => z
  | none =>
    rw [e] at h
    exact wpAny_mono h (fun x s5 q5 => wpAny_mono q5 (fun y s6 q6 => wpAny_mono q6 (fun _ s7 q7 => k s7 q7) fun _ _ z => z) fun _ _ z => z) fun _ _ z => z
theorem d_dictSetT {X : Cx} {pins : List (Addr × Obj)} {σ : L2.St} {H : Hp} {s : Shared} {E : Value → Shared → Prop} {D b : Addr} {kvs : List (List Key × V)} {k : List Key} {v : V} {u r : Value} {Q : Unit → Shared → Prop} (hu : X.A.units + 1 < cLine) (I : Inv X pins σ H s) (hD : H D = some (.dT kvs)) (eb : H b = some (.tup (k.map kV))) (hz : kvs.length < sizeLine)
    (ry : RelV (.ref b) u) (rv : RelV v r) (h : ∀ s', Inv X pins σ (upd H D (.dT (putK kvs k v))) s' → Q () s') : wpAny (model X.prog X.w) X.A (dictSet D u r) Q E s := by
  cases (show u = Value.ref b from ry)
  obtain ⟨z, hd, xs, rel, dd⟩ := dt_of I.hok hD
  have hz : xs.length ≤ sizeLine := by rw [← Paired.length rel]; exact z
  have hl : (putK kvs k v).length ≤ sizeLine := by have := length_putK kvs k v; omega
  refine wpAny_dictSet_heap (hsz := hz) (by show X.A.units < cLine; omega) (key_of I.hok eb) dd fun h' dd' hs => h _ ?_
  obtain ⟨q, es, ep, hq, h2, h3, h4, _, h5⟩ := dd'
  refine d_write I (by rw [hD]; exact True.intro) hs ⟨q, hq⟩ ⟨hl, hd, _, (rel.put k eb rv).keeps fun c ys ec => ?_, q, es, ep, hq, h2, h3, h4, h5⟩
  rw [upd_ne (ne_of ec hD (fun z => nomatch z))]
  exact ec
/-! what a block of several clauses does -/
def tItemD (tk tv : TE) : TIn := fun σ H D Nx => tk σ H fun y H1 => tv σ H1 fun z H2 => ∃ kvs k b, y = .ref b ∧ H2 b = some (.tup (k.map kV)) ∧ H2 D = some (.dT kvs) ∧ kvs.length < sizeLine ∧ Nx (upd H2 D (.dT (putK kvs k z)))
inductive PInsD (Y : Cx) (kx vx : Expr) : List Comprehension → List Nat → TIn → Prop
  | nil {tk tv : TE} : PE Y kx tk → PE Y vx tv → PInsD Y kx vx [] [] (tItemD tk tv)
  | cons {tg iter : Expr} {ifs : List Expr} {wi : TI} {g : TG} {tt : TT} {us vs : List Nat} {r : List Comprehension} {t : TIn} : PI Y tg iter wi → PG Y tg g → PTs Y ifs tt → (∀ i ∈ vs, i ∈ us) → (∀ env x, foldedSetIterable iter env x = pure x) → PInsD Y kx vx r vs t → PInsD Y kx vx (⟨tg, iter, ifs, 0⟩ :: r) us (tClause wi g tt us t)
section
variable {X : Cx}
theorem dinner_ok {s3 : Shared} {H3 : Hp} {scope : Scope} {ce : Env} {fp : List Addr} {kx vx : Expr} {pos : Pos} {G : List Comprehension} {D : Addr} (hc : X.calm = true) (hu : X.A.units + 1 < cLine) (hce : (X.blk s3 H3 scope ce fp).env = ce) : ∀ {r : List Comprehension} {us : List Nat} {t : TIn}, PInsD (X.blk s3 H3 scope ce fp) kx vx r us t →
    ∀ {j : Nat}, G.drop (j + 1) = r → ∀ {pins : List (Addr × Obj)} {σ : L2.St} {H : Hp} {s : Shared} {Nx : Hp → Prop} {N : Value → Shared → Prop}, Inv (X.blk s3 H3 scope ce fp) pins σ H s → t σ H D Nx →
      BehindD X.prog X.w X.A kx vx G scope pos j D ce N (fun s' => ∃ H', Inv (X.blk s3 H3 scope ce fp) pins (wipe σ us) H' s' ∧ Nx H') s := by
  intro r us t P
  induction P with
  | @nil tk tv pk pe =>
    intro j hG pins σ H s Nx N I q
    have e : G[j + 1]? = none := drop_none hG
    unfold BehindD
    rw [e]
    refine thnF (pk.run _ s σ H _ I q) fun z s1 ⟨yk, H1, I1, r1, q1⟩ => ?_
    refine thnF (pe.run _ s1 σ H1 _ I1 q1) fun z2 s2 ⟨yv, H2, I2, r2, kvs, k, b, ek, hb, hD, hz, nx⟩ => ?_
    subst ek
    exact d_dictSetT (X := X.blk s3 H3 scope ce fp) hu I2 hD hb hz r1 r2 fun s3 I3 => ⟨_, I3, nx⟩
  | @cons tg iter ifs wi g tt us vs r t pi pg pt hv hs Pr ih =>
    intro j hG pins σ H s Nx N I q
    have e : G[j + 1]? = some ⟨tg, iter, ifs, 0⟩ := drop_cons hG
    have hG2 : G.drop (j + 1 + 1) = r := by
      have z := congrArg (List.drop 1) hG
      simpa [List.drop_drop] using z
    unfold BehindD
    rw [e]
    refine thnF (pi.run _ s σ H _ I q) fun xv s1 hx => thnF hx fun itv s2 h2 => ?_
    obtain ⟨it, fp1, tn, J, H2, e1, I2, T, st2, f2, W, ⟨m, w0⟩, turn⟩ := h2
    subst e1
    have stat : ∀ {H' : Hp}, (∀ b ∈ fp1, H' b = none) → ∀ b ∈ fp1, FpOk (X.blk s3 H3 scope ce fp) pins H' b := fun hn b hb => ⟨hn b hb, (f2 b hb).2⟩
    have hnx : ∀ g', G[j + 1 + 1]? = some g' → g'.is_async = 0 ∧ ∀ x, foldedSetIterable g'.iter ce x = pure x := by
      intro g' hg'
      cases Pr with
      | nil pk pe =>
        rw [drop_none hG2] at hg'
        cases hg'
      | cons a b c d e f =>
        rw [drop_cons hG2] at hg'
        cases hg'
        exact ⟨rfl, e ce⟩
    have loop : codeAny (model X.prog X.w) X.A (.compLoop (.DictComp kx vx G scope pos) (j + 1) (.ref it) (.ref D) ce) (fun r s' => match r with | .ok _ => ∃ H', Inv (X.blk s3 H3 scope ce fp) pins (wipe σ us) H' s' ∧ Nx H' | .error _ => False) s2 := by
      refine dloop_any e hnx (fun k s' => ∃ jj H', Inv (X.blk s3 H3 scope ce fp) pins (wipe σ us) H' s' ∧ tn jj s'.heap ∧ (∀ b ∈ fp1, H' b = none) ∧ W jj k H') ?_ m ⟨0, H2, I2.weak (wipe_length _ _) (fun j v e => (wipe_some e).1), st2, fun b hb => (f2 b hb).1, w0⟩
      rintro k s4 ⟨jj, H4, I4, st4, n4, w4⟩
      rcases turn jj k H4 w4 with ⟨stop, nx⟩ | ⟨go, Nx1, hNx1, step⟩
      · refine thnF (T.done (X.blk s3 H3 scope ce fp) rfl rfl rfl hc jj _ s4 (wipe σ us) H4 (fun _ _ => False) I4 (stat n4) st4 stop) fun r s5 ⟨hr, I5⟩ => ?_
        subst hr
        exact ⟨_, I5, nx⟩
      · refine thnF (T.item (X.blk s3 H3 scope ce fp) rfl rfl rfl hc jj _ s4 (wipe σ us) H4 (fun _ _ => False) I4 (stat n4) st4 go) fun r s5 ⟨u, hr, h5⟩ => ?_
        subst hr
        refine thnF h5 fun _ s6 ⟨x, H6, I6, r6, y6, st6, n6⟩ => ?_
        have I6' := I6.pinned (stat n6) (T.obj _ _ st6)
        refine thnF (pg.run _ s6 (wipe σ us) H6 x u _ I6' r6 (step x H6 y6)) fun _ s7 ⟨σ7, H7, I7, hw, q7⟩ => ?_
        refine thnF (pt.run _ s7 σ7 H7 _ I7 q7) fun b s8 ⟨H8, I8, q8⟩ => ?_
        have fin : ∀ {σ' : L2.St} {s' : Shared} {H' : Hp}, Inv (X.blk s3 H3 scope ce fp) (pins ++ pinsAt fp1 s6.heap) σ' H' s' → (wipe σ us).length = σ'.length → (∀ (n : Nat) v, (wipe σ us)[n]? = some (some v) → σ'[n]? = some (some v)) → Nx1 H' → ∃ m, m < k ∧ ∃ jj H', Inv (X.blk s3 H3 scope ce fp) pins (wipe σ us) H' s' ∧ tn jj s'.heap ∧ (∀ b ∈ fp1, H' b = none) ∧ W jj m H' := fun {σ' s' H'} I' hl hk nx => by
          obtain ⟨m', hm, w'⟩ := hNx1 H' nx
          have pin' : ∀ b ∈ fp1, ∀ o, s6.heap.get? b = some o → s'.heap.get? b = some o ∧ H' b = none := fun b hb o eo => by
            have z := I'.pin (b, o) (List.mem_append_right _ (List.mem_append_right _ (mem_pinsAt hb eo)))
            exact ⟨z.1, z.2.1⟩
          refine ⟨m', hm, jj + 1, H', I'.unpinned.weak hl hk, T.keep _ _ _ st6 fun b hb o eo => (pin' b hb o eo).1, fun b hb => ?_, w'⟩
          obtain ⟨o, eo, _⟩ := T.obj _ _ st6 b hb
          exact (pin' b hb o eo).2
        have hl7 : (wipe σ us).length = σ7.length := by rw [← hw, wipe_length]
        have hk7 : ∀ (n : Nat) v, (wipe σ us)[n]? = some (some v) → σ7[n]? = some (some v) := fun n v z => by
          rw [← hw] at z
          exact (wipe_some z).1
        cases b with
        | false =>
          simp only [Bool.false_eq_true, if_false] at q8 ⊢
          exact fin I8 hl7 hk7 q8
        | true =>
          simp only [if_true] at q8 ⊢
          refine (ih hG2 I8 q8).mono fun s' ⟨H', I', nx⟩ => fin I' (hl7.trans (wipe_length _ _).symm) (fun n v z => ?_) nx
          rw [← hw] at z
          obtain ⟨z1, z2⟩ := wipe_some z
          rw [wipe_out fun y => z2 (hv n y)]
          exact z1
    exact dstart_any ⟨_, e, rfl⟩ loop (T.self X.A 0 _ _ _ st2 loop)
/-- the whole block: the first clause's source is the def's own; us: all names of the block -/
def tDcN (wi : TI) (g : TG) (tt : TT) (t : TIn) (us : List Nat) : TE := fun σ H Q => wi σ H fun J H1 => ∀ D, H1 D = none → ∃ W : Nat → Nat → Hp → Prop, (∃ m, W 0 m (upd H1 D (.dT []))) ∧ ∀ i m H, W i m H →
  (J.stop i H ∧ Q (.ref D) H) ∨ (J.go i H ∧ ∃ Nx : Hp → Prop, (∀ H', Nx H' → ∃ m', m' < m ∧ W (i + 1) m' H') ∧ ∀ x H', J.yld i H x H' → g x (wipe σ us) H' fun σ2 H2 => wipe σ2 us = wipe σ us ∧ tt σ2 H2 fun b H3 => if b = true then t σ2 H3 D Nx else Nx H3)
theorem dcN_core {pins : List (Addr × Obj)} {s : Shared} {σ : L2.St} {H : Hp} {Q : VK} {kx vx tg iter : Expr} {ifs : List Expr} {rest : List Comprehension} {scope : Scope} {own : List (Str × Nat)} {vs : List Nat} {pos pos' : Pos} {wi : TI} {g : TG} {tt : TT} {t : TIn} {use : Option (Value → Sem Unit)} {Qf : Value → Shared → Prop}
    (hc : X.calm = true) (hu : X.A.units + 1 < cLine) (hN : X.N.Nodup) (I : Inv X pins σ H s) (hi : PI X tg iter wi) (ok : BlkOk X.N X.env.scope scope own) (hv : ∀ i ∈ vs, i ∈ own.map (·.2))
    (hq : ∀ (s : Shared) (H : Hp) (C : Addr) (cl : List (Str × Addr)) (fp : List Addr), PG (X.blk s H scope (compEnvC scope cl C X.env) fp) tg g ∧ PTs (X.blk s H scope (compEnvC scope cl C X.env) fp) ifs tt ∧ PInsD (X.blk s H scope (compEnvC scope cl C X.env) fp) kx vx rest vs t)
    (hs : ∀ x, foldedSetIterable iter X.env x = pure x) (h : tDcN wi g tt t (own.map (·.2)) σ H Q)
    (hRR : ∀ D C s' m H', Inv X pins σ H' s' → Q (.ref D) H' → s'.heap.Ns C m → FpOk X pins H' C → compPost (model X.prog X.w) X.A X.xe use Qf (.ref D) C (.ok .next) s') :
    wpAny (model X.prog X.w) X.A (comprehension (.DictComp kx vx (⟨tg, iter, ifs, 0⟩ :: rest) scope pos) scope X.env pos' newDict false (eval iter X.env) use) Qf X.xe s := by
  have hfree : ∀ y ∈ scope.names, y.2 = .free → ∃ c, X.env.cells.lookup y.1 = some c := fun y hy e => (ok.free y hy e).elim (fun k => I.ok.has _ (.inl k)) fun k => I.ok.has _ (.inr k)
  refine wpAny_comprehension_free (use := use) rfl hs (closure_ok hfree) ok.kind (fun y hy e => by rw [ok.uniq y hy, e]) (thn (hi.run pins s σ H _ I h) fun xv s1 hx => thn hx fun itv s2 h2 => ?_)
  obtain ⟨it, fp, tn, J, H2, e, I2, T, st2, f2, q⟩ := h2
  subst e
  refine wpAny_newObj_type (newEnv_comp ?_)
  generalize hD : s2.heap.objs.size = D
  obtain ⟨W, ⟨m0, w0⟩, turn⟩ := q D (I2.hok.fresh (Nat.le_of_eq hD))
  generalize hs3 : ({ s2 with heap := s2.heap.push { cls := .type "dict", data := .dict #[] } } : Shared) = s3
  have h3 : s3.heap = s2.heap.push { cls := .type "dict", data := .dict #[] } := by rw [← hs3]
  have I3 : Inv X pins σ (upd H2 D (.dT [])) s3 := by
    rw [← hs3]
    refine I2.laid (t' := s2.toks) (fun b o e => Heap.get?_push_of_some _ e) (Nat.le_of_eq hD) ?_
    rw [← hD]
    exact dt_empty s2.heap I2.big
  have f3 : ∀ b ∈ fp, FpOk X pins (upd H2 D (.dT [])) b ∧ b < s3.heap.objs.size := fun b hb => by
    obtain ⟨o, e, _⟩ := T.obj _ _ st2 b hb
    have lt := Heap.lt_size e
    exact ⟨⟨by rw [upd_ne (by rw [← hD]; exact Nat.ne_of_lt lt)]; exact (f2 b hb).1, (f2 b hb).2⟩, by rw [h3, Heap.size_push]; exact Nat.lt_succ_of_lt lt⟩
  have st3 : tn 0 s3.heap := T.keep _ _ _ st2 fun b _ o e => by rw [h3]; exact Heap.get?_push_of_some _ e
  have I4 := block_start I3 ok hN f3
  obtain ⟨pg, pt, pin⟩ := hq s3 (upd H2 D (.dT [])) s3.heap.objs.size (cellsFrom (s3.heap.objs.size + 1) scope.names (cloFrom X.env.cells scope.names [])) fp
  show codeAny _ _ (.compStart (.DictComp kx vx (⟨tg, iter, ifs, 0⟩ :: rest) scope pos) 0 (.ref it) (.ref D) (compEnvC scope (cellsFrom (s3.heap.objs.size + 1) scope.names (cloFrom X.env.cells scope.names [])) s3.heap.objs.size X.env)) (compPost (model X.prog X.w) X.A X.xe use Qf (.ref D) s3.heap.objs.size) { s3 with heap := pushCells (s3.heap.push { cls := .type "dict", data := .dict #[] }) scope.names }
  have nfp : ∀ b ∈ fp, (upd H2 D (.dT [])) b = none := fun b hb => (f3 b hb).1.1
  generalize hce : compEnvC scope (cellsFrom (s3.heap.objs.size + 1) scope.names (cloFrom X.env.cells scope.names [])) s3.heap.objs.size X.env = ce at I4 pg pt pin ⊢
  have cL : ce.locals = s3.heap.objs.size := by subst hce; rfl
  generalize hH3 : upd H2 D (.dT []) = H3 at I3 I4 pg pt pin w0 nfp f3
  generalize hs4 : ({ s3 with heap := pushCells (s3.heap.push { cls := .type "dict", data := .dict #[] }) scope.names } : Shared) = s4 at I4 ⊢
  have st4 : tn 0 s4.heap := T.keep _ _ _ st3 fun b _ o e => by rw [← hs4]; exact pushCells_keeps _ _ _ _ (Heap.get?_push_of_some _ e)
  have stat : ∀ {σ' : L2.St} {H' : Hp} {s' : Shared}, Inv (X.blk s3 H3 scope ce fp) [] σ' H' s' → (∀ b ∈ fp, H' b = none) → ∀ b ∈ fp, FpOk (X.blk s3 H3 scope ce fp) [] H' b := fun {σ' H' s'} I' hn b hb => ⟨hn b hb, (I'.ok.exf b hb).1, I'.ok.exfs b hb, .inl hb, fun x c e => (I'.ok.exf b hb).2 x c e, fun p hp => absurd (show p ∈ ([] : List (Addr × Obj)) ++ [] from hp) (by simp)⟩
  have hnx : ∀ g', (⟨tg, iter, ifs, 0⟩ :: rest : List Comprehension)[0 + 1]? = some g' → g'.is_async = 0 ∧ ∀ x, foldedSetIterable g'.iter ce x = pure x := by
    intro g' hg'
    cases pin with
    | nil pk pe => cases hg'
    | cons a b c d e f =>
      cases hg'
      exact ⟨rfl, e ce⟩
  have loop : codeAny (model X.prog X.w) X.A (.compLoop (.DictComp kx vx (⟨tg, iter, ifs, 0⟩ :: rest) scope pos) 0 (.ref it) (.ref D) ce) (compPost (model X.prog X.w) X.A X.xe use Qf (.ref D) s3.heap.objs.size) s4 := by
    refine dloop_any rfl hnx (fun n s' => ∃ i H', Inv (X.blk s3 H3 scope ce fp) [] (wipe σ (own.map (·.2))) H' s' ∧ tn i s'.heap ∧ (∀ b ∈ fp, H' b = none) ∧ W i n H') ?_ m0 ⟨0, H3, I4, st4, nfp, w0⟩
    rintro n s5 ⟨i, H5, I5, st5, n5, w5⟩
    rcases turn i n H5 w5 with ⟨stop, qq⟩ | ⟨go, Nx, hNx, step⟩
    · refine thnF (T.done (X.blk s3 H3 scope ce fp) rfl rfl rfl hc i [] s5 _ H5 (fun _ _ => False) I5 (stat I5 n5) st5 stop) fun r s6 ⟨hr, I6⟩ => ?_
      subst hr
      have I7 : Inv X pins σ H5 s6 := I3.call' (ch := fp) I6.os I6.base I6.hok I6.bare fun b hb => ⟨(f3 b hb).1.2.2.2.1, (f3 b hb).1.2.1, (f3 b hb).1.2.2.2.2.1, (f3 b hb).1.2.2.2.2.2⟩
      have nC : H5 s3.heap.objs.size = none := by
        have z : H5 ce.locals = none := I6.free
        rwa [cL] at z
      obtain ⟨m, hn, _⟩ := I6.loc
      have hn : s6.heap.Ns ce.locals m := hn
      rw [cL] at hn
      exact hRR D s3.heap.objs.size s6 m H5 I7 qq hn (I3.fpOk (Nat.le_refl _) nC)
    · refine thnF (T.item (X.blk s3 H3 scope ce fp) rfl rfl rfl hc i [] s5 _ H5 (fun _ _ => False) I5 (stat I5 n5) st5 go) fun r s6 ⟨u, hr, h6⟩ => ?_
      subst hr
      refine thnF h6 fun _ s7 ⟨x, H7, I7, r7, y7, st7, n7⟩ => ?_
      have I7' := I7.pinned (stat I7 n7) (T.obj _ _ st7)
      refine thnF (pg.run _ s7 _ H7 x u _ I7' r7 (step x H7 y7)) fun _ s8 ⟨σ8, H8, I8, hw8, q8⟩ => ?_
      refine thnF (pt.run _ s8 σ8 H8 _ I8 q8) fun b s9 ⟨H9, I9, q9⟩ => ?_
      have fin : ∀ {σ9 : L2.St} {s' : Shared} {H' : Hp}, Inv (X.blk s3 H3 scope ce fp) ([] ++ pinsAt fp s7.heap) σ9 H' s' → (wipe σ (own.map (·.2))).length = σ9.length → (∀ (j : Nat) v, (wipe σ (own.map (·.2)))[j]? = some (some v) → σ9[j]? = some (some v)) → Nx H' →
          ∃ m, m < n ∧ ∃ i H', Inv (X.blk s3 H3 scope ce fp) [] (wipe σ (own.map (·.2))) H' s' ∧ tn i s'.heap ∧ (∀ b ∈ fp, H' b = none) ∧ W i m H' := fun {σ9 s' H'} I' hl hk nx => by
        obtain ⟨m', hm, w'⟩ := hNx H' nx
        have pin' : ∀ b ∈ fp, ∀ o, s7.heap.get? b = some o → s'.heap.get? b = some o ∧ H' b = none := fun b hb o e => by
          have z := I'.pin (b, o) (List.mem_append_right _ (List.mem_append_right _ (mem_pinsAt hb e)))
          exact ⟨z.1, z.2.1⟩
        refine ⟨m', hm, i + 1, H', (I'.unpinned (pins := [])).weak hl hk, T.keep _ _ _ st7 fun b hb o e => (pin' b hb o e).1, fun b hb => ?_, w'⟩
        obtain ⟨o, e, _⟩ := T.obj _ _ st7 b hb
        exact (pin' b hb o e).2
      have hl8 : (wipe σ (own.map (·.2))).length = σ8.length := by rw [← hw8, wipe_length]
      cases b with
      | false =>
        simp only [Bool.false_eq_true, if_false] at q9 ⊢
        exact fin I9 hl8 (fun j v e => by rw [← hw8] at e; exact (wipe_some e).1) q9
      | true =>
        simp only [if_true] at q9 ⊢
        refine (dinner_ok (G := ⟨tg, iter, ifs, 0⟩ :: rest) hc hu rfl pin (j := 0) rfl I9 q9).mono fun s' ⟨H', I', nx⟩ => fin I' (hl8.trans (wipe_length _ _).symm) (fun n v z => ?_) nx
        rw [← hw8] at z
        obtain ⟨z1, z2⟩ := wipe_some z
        rw [wipe_out fun y => z2 (hv n y)]
        exact z1
  exact dstart_any ⟨_, rfl, rfl⟩ loop (T.self X.A 0 _ _ _ st4 loop)
/-- a block of several clauses as a value -/
theorem pe_dcN {kx vx tg iter : Expr} {ifs : List Expr} {rest : List Comprehension} {scope : Scope} {own : List (Str × Nat)} {vs : List Nat} {pos : Pos} {wi : TI} {g : TG} {tt : TT} {t : TIn} (hc : X.calm = true) (hu : X.A.units + 1 < cLine) (hN : X.N.Nodup) (hi : PI X tg iter wi) (ok : BlkOk X.N X.env.scope scope own) (hv : ∀ i ∈ vs, i ∈ own.map (·.2))
    (hq : ∀ (s : Shared) (H : Hp) (C : Addr) (cl : List (Str × Addr)) (fp : List Addr), PG (X.blk s H scope (compEnvC scope cl C X.env) fp) tg g ∧ PTs (X.blk s H scope (compEnvC scope cl C X.env) fp) ifs tt ∧ PInsD (X.blk s H scope (compEnvC scope cl C X.env) fp) kx vx rest vs t)
    (hs : ∀ x, foldedSetIterable iter X.env x = pure x := by intro _; rfl) : PE X (.DictComp kx vx (⟨tg, iter, ifs, 0⟩ :: rest) scope pos) (tDcN wi g tt t (own.map (·.2))) := by
  refine ⟨fun pins s σ H Q I h => ?_⟩; rw [arm_eval_DictComp]
  refine dcN_core hc hu hN I hi ok hv hq hs h fun D C s' m H' I' q hn f => ⟨m, hn, fun h'' sb => ?_⟩
  obtain ⟨f0, f1, f2, f3, f4, f5⟩ := f
  exact ⟨.ref D, H', I'.turned (t' := s'.toks) (fun b o hb e => (sb.2 b hb).trans e) f0 f1 f3 f4 f5, rfl, q⟩
end
end Pl
namespace Pl
open PySem PySem.Spec PyProof.Rows L2
section
variable {X : Cx}
theorem fold_size (a : Array Nat) : ∀ (n : Nat) (acc : Array Nat), ((List.replicate n a).foldl (· ++ ·) acc).size = acc.size + n * a.size
  | 0, acc => by simp
  | n + 1, acc => by
    rw [List.replicate_succ, List.foldl_cons, fold_size a n, Array.size_append, Nat.add_mul]
    omega
/-- a text times an int -/
def rMulS : R2 := fun x y H Q => ∃ (z : Str) (n : Int), x = .str z ∧ y = .int n ∧ 2 ≤ n ∧ n ≤ 1000 ∧ 1 ≤ z.length ∧ z.length ≤ 1000 ∧ ∀ z' : Str, Q (.str z') H
theorem op_mulS : OpR X (binaryOp .Mult) rMulS := by
  intro pins s σ H x y v u Q I rx ry h
  obtain ⟨z, n, rfl, rfl, n2, n1, z1, z2, q⟩ := h
  obtain ⟨t, rfl⟩ := rx
  obtain ⟨t2, rfl⟩ := ry
  have c1 : ¬ n < 1 := by omega
  have c2 : (n == 1 || z.length == 0) = false := by
    have a : (n == 1) = false := by rw [beq_eq_false_iff_ne]; omega
    have b : (z.length == 0) = false := by rw [beq_eq_false_iff_ne]; omega
    rw [a, b]; rfl
  have lz : z.length * n.toNat ≤ sizeLine := by
    rw [sizeLine_eq]
    have := Nat.mul_le_mul z2 (show n.toNat ≤ 1000 by omega)
    omega
  refine PySem.P.mul_str ?_ (fun _ _ => ?_) (fun _ _ => ?_) ?_
  · have a : ¬ n < -(2 ^ 63 : Int) := by omega
    have b : ¬ n ≥ (2 ^ 63 : Int) := by omega
    rw [decide_eq_false a, decide_eq_false b]; rfl
  · intro c
    have : (1000 : Int) ≤ (2 ^ 63 - 1) / n := Int.le_ediv_of_mul_le (by omega) (by omega)
    omega
  · have z : ¬ z.length * n.toNat > sizeLine := by omega
    exact decide_eq_false z
  · rw [if_neg c1, if_neg (by rw [c2]; exact Bool.false_ne_true)]
    refine ⟨?_, ⟨.str _, H, I.tok _, ⟨_, rfl⟩, q _⟩⟩
    show ((List.replicate n.toNat z.cps).foldl (· ++ ·) #[]).size ≤ sizeLine
    rw [fold_size]
    have e : z.cps.size = z.length := rfl
    rw [e, Nat.mul_comm]
    show 0 + _ ≤ _
    omega
/-! repr of data with dicts -/
/-- ints that are not too long -/
def Sm (i : Int) : Prop := -1000000 ≤ i ∧ i ≤ 1000000001000
/-- ints and empty dicts -/
inductive PX (H : Hp) : List V → List PyData → Prop
  | nil : PX H [] []
  | int {i : Int} {vs : List V} {ds : List PyData} : Sm i → PX H vs ds → PX H (.int i :: vs) (.int i :: ds)
  | dic {a : Addr} {vs : List V} {ds : List PyData} : H a = some (.dK []) → PX H vs ds → PX H (.ref a :: vs) (.dict [] :: ds)
theorem reads_dic0 {pins : List (Addr × Obj)} {σ : L2.St} {H : Hp} {s : Shared} {a : Addr} (I : Inv X pins σ H s) (ea : H a = some (.dK [])) : Reads s.heap (.ref a) (PyData.dict []) (a :: [] ++ []) ∧ a ≠ sysModules := by
  obtain ⟨_, hm, vs, kv, o, es, ep, h1, h2, h3, h4, h5, h6⟩ := (show ObjOk X.prog X.w H s.heap a (.dK []) from I.hok a _ ea)
  refine ⟨?_, fun z => ?_⟩
  · generalize hes : es.toList = l at h5
    have key : ∀ {kvs : List (Key × V)}, kvs = [] → KV kvs vs → vs = [] := fun {kvs} e z => by
      cases z with
      | nil => rfl
      | cons hp hr => cases e
    obtain rfl := key rfl kv
    cases h5
    refine .dict h1 h2.1 h3 ?_ ?_
    · rw [hes]
      exact .nil
    · rw [hes]
      exact .nil
  · rw [z] at hm
    simp at hm
theorem reads_px {pins : List (Addr × Obj)} {σ : L2.St} {H : Hp} {s : Shared} (I : Inv X pins σ H s) : ∀ {vs : List V} {ds : List PyData} {us : List Value}, PX H vs ds → Vals vs us → ∃ as, ReadsAll s.heap us ds as ∧ sysModules ∉ as
  | _, _, _, .nil, r => by
    cases r
    exact ⟨[], .nil, fun z => nomatch z⟩
  | _, _, _, .int (i := i) _ h, r => by
    cases r with
    | cons r1 r2 =>
      obtain ⟨t, rfl⟩ := (show ∃ t, _ = Value.int i t from r1)
      obtain ⟨as, h1, h2⟩ := reads_px I h r2
      exact ⟨_, .cons (.int i t) h1, by simpa using h2⟩
  | _, _, _, .dic (a := a) ea h, r => by
    cases r with
    | cons r1 r2 =>
      cases r1
      obtain ⟨as, h1, h2⟩ := reads_px I h r2
      obtain ⟨g1, g2⟩ := reads_dic0 I ea
      exact ⟨_, .cons g1 h1, by simpa using ⟨fun z => g2 z.symm, h2⟩⟩
/-- a value and its text -/
def ShT (d : PyData) : Prop := d.showable = true ∧ d.depth ≤ 60 ∧ d.shown.length ≤ sizeLine
inductive ThT (K : PySem.W.Frag) (H : Hp) : V → Str → Prop
  | dp {x : V} {d : PyData} : Dp K H x d → ShV x d → ThT K H x d.shown
  | dic0 {a : Addr} : H a = some (.dK []) → ThT K H (.ref a) (PyData.dict []).shown
  | dic1 {a t : Addr} {k : Int} {ns : List Int} : H a = some (.dK [(.inl k, .ref t)]) → H t = some (.tup (ns.map V.int)) → ShT (dicD k ns) → ThT K H (.ref a) (dicD k ns).shown
  | px {a : Addr} {xs : List V} {ds : List PyData} : H a = some (.tup xs) → PX H xs ds → ShT (.tuple ds) → ThT K H (.ref a) (PyData.tuple ds).shown
def rReprT (K : PySem.W.Frag) : List V → Hp → VK → Prop := fun xs H Q => ∃ (x : V) (z : Str), xs = [x] ∧ ThT K H x z ∧ Q (.str z) H
theorem call_reprT (gd : X.A.guards = some []) (hu : X.A.units + 66 < cLine) : CallR X (.builtin "repr") (rReprT X.K) := by
  intro pins s σ H xs us Q I r h
  obtain ⟨x, z, rfl, h, q⟩ := h
  cases h with
  | dp dp sv => exact call_reprV gd hu pins s σ H [x] us Q I r ⟨x, _, rfl, dp, sv, q⟩
  | dic0 ea =>
    obtain ⟨u, rfl, ru⟩ := vals1 r
    cases ru
    obtain ⟨g1, g2⟩ := reads_dic0 I ea
    refine repr_of_reads' g1 (by decide +kernel) (fun _ z => ?_) gd (by have : PyData.depth (PyData.dict []) ≤ 1 := by decide +kernel
                                                                        omega) (fun _ _ e => e) (fun h' v tk hk => ?_) (by decide +kernel)
    · exact g2 (by simpa using z : sysModules = _).symm
    · exact ⟨.str _, H, I.kept hk, ⟨_, rfl⟩, q⟩
  | dic1 ea et sh => exact call_repr1 gd hu pins s σ H _ us Q I r ⟨_, _, _, _, rfl, ea, et, sh.1, sh.2.1, sh.2.2, q⟩
  | @px a xs ds ea px sh =>
    obtain ⟨u, rfl, ru⟩ := vals1 r
    cases ru
    obtain ⟨_, its, rv, ot, g1, g2, n, g3⟩ := (show ObjOk X.prog X.w H s.heap a (.tup xs) from I.hok a _ ea)
    obtain ⟨as, h1, h2⟩ := reads_px I px rv
    have sd := sh.2.1
    refine repr_of_reads' (.tuple g1 g2 g3 (by simpa using h1)) sh.1 (fun _ z => h2 z) gd (by omega) (fun _ _ e => e) (fun h' v tk hk => ?_) sh.2.2
    exact ⟨.str _, H, I.kept hk, ⟨_, rfl⟩, q⟩
end
theorem PX.same {H H' : Hp} (k : Same H H') : ∀ {vs : List V} {ds : List PyData}, PX H vs ds → PX H' vs ds
  | _, _, .nil => .nil
  | _, _, .int b h => .int b (h.same k)
  | _, _, .dic e h => .dic (k _ _ e) (h.same k)
theorem Sm.log {i : Int} (h : Sm i) : i.natAbs.log2 < 40 := by
  obtain ⟨a, b⟩ := h
  rcases Nat.eq_zero_or_pos i.natAbs with z | z
  · rw [z]; decide
  · exact (Nat.log2_lt (by omega)).mpr (by omega)
theorem Sm.text {i : Int} (h : Sm i) : (PyData.shown (.int i)).length ≤ 13 := by
  obtain ⟨a, b⟩ := h
  by_cases c : i < 0
  · exact PyData.shown_int_le (by omega)
  · show (Str.ofString (toString i)).length ≤ 13
    rw [PySem.ofString_length]
    cases i with
    | ofNat m =>
      have e : toString (Int.ofNat m) = Nat.repr m := rfl
      rw [e]
      have em : (Int.ofNat m) = (m : Int) := rfl
      rw [em] at b
      exact (Nat.length_repr_le_iff (by decide)).mpr (show m < 10 ^ 13 by omega)
    | negSucc m => omega
theorem px_all {H : Hp} : ∀ {vs : List V} {ds : List PyData}, PX H vs ds → PyData.showableAll ds = true ∧ PyData.depthAll ds ≤ 2 ∧ PyData.leavesShortAll 13 ds = true ∧ PyData.weightAll ds ≤ 60 * vs.length
  | _, _, .nil => by simp [PyData.showableAll, PyData.depthAll, PyData.leavesShortAll, PyData.weightAll]
  | _, _, .int (i := i) b h => by
    obtain ⟨a1, a2, a3, a4⟩ := px_all h
    have lg := b.log
    have tx := b.text
    refine ⟨?_, ?_, ?_, ?_⟩
    · simp only [PyData.showableAll, PyData.showable, a1, Bool.and_true, decide_eq_true_eq]
      omega
    · simp only [PyData.depthAll, PyData.depth]; omega
    · simp only [PyData.leavesShortAll, PyData.leavesShort, a3, Bool.and_true, decide_eq_true_eq]
      exact tx
    · simp only [PyData.weightAll, PyData.weight, List.length_cons]
      split <;> omega
  | _, _, .dic (a := a) e h => by
    obtain ⟨a1, a2, a3, a4⟩ := px_all h
    refine ⟨?_, ?_, ?_, ?_⟩
    · simp only [PyData.showableAll, PyData.showable, PyData.showableKv, a1, Bool.and_true]
    · simp only [PyData.depthAll, PyData.depth, PyData.depthKv]; omega
    · simp only [PyData.leavesShortAll, PyData.leavesShort, PyData.leavesShortKv, a3, Bool.and_true]
    · simp only [PyData.weightAll, PyData.weight, PyData.weightKv, List.length_cons]
      omega
theorem px_sh {H : Hp} {vs : List V} {ds : List PyData} (h : PX H vs ds) (l : vs.length ≤ 1000) : ShT (.tuple ds) := by
  obtain ⟨a1, a2, a3, a4⟩ := px_all h
  refine ⟨by simp only [PyData.showable]; exact a1, by simp only [PyData.depth]; omega, PyData.shown_fits (B := 13) (by decide) (by decide) ?_ ?_⟩
  · simp only [PyData.leavesShort]; exact a3
  · simp only [PyData.weight]; omega
end Pl
/-! list(zip(s, t)) of two tuples -/
namespace ZL
open PySem PySem.W PySem.Calls PySem.Spec
section
variable {prog : Program} {w : World} {A : Around} {E : Value → Shared → Prop} {s : Shared}
/-- zip.__next__ while the tuple that it gave out is held, over tuples -/
theorem held {z TI TO T i1 i2 l1 l2 : Addr} {f : Bool} {oT : Obj} {k1 k2 : Nat} {xs ys : Array Value} {Q : Value → Shared → Prop} (hh : A.handled = none) (D : ZipApart z TI TO i1 i2 l1 l2)
    (hz : IsZipHeld s.heap z TI TO T f) (hT : s.heap.get? T = some oT) (hTI : PySem.IsPair s.heap TI (.ref i1) (.ref i2))
    (h1 : s.heap.IsTupleIter i1 l1 k1) (h2 : s.heap.IsTupleIter i2 l2 k2) (hl1 : s.heap.IsTuple l1 xs) (hl2 : s.heap.IsTuple l2 ys)
    (hQ : ∀ x y, xs[k1]? = some x → ys[k2]? = some y → ∀ h', IsZipHeld h' z TI TO T true → h'.IsTupleIter i1 l1 (k1 + 1) → h'.IsTupleIter i2 l2 (k2 + 1) → PySem.IsPair h' s.heap.objs.size x y → h'.objs.size = s.heap.objs.size + 1 →
      (∀ c o, c ≠ z → c ≠ i1 → c ≠ i2 → s.heap.get? c = some o → h'.get? c = some o) → Q (.ref s.heap.objs.size) { s with heap := h' })
    (hE : (xs[k1]? = none ∨ ys[k2]? = none) → ∀ h' e, (∀ c o, c ≠ z → c ≠ i1 → c ≠ i2 → s.heap.get? c = some o → h'.get? c = some o) → (∃ o, h'.get? e = some o ∧ o.cls = .type "StopIteration") → E (.ref e) { s with heap := h' }) :
    wpAny (model prog w) A (Builtin.«zip.__next__» ⟨[.ref z], []⟩) (fun fin s' => ∃ v, fin = .done (.ret v) ∧ Q v s') E s := by
  show wpAny _ _ (field (.ref z) 2 >>= _) _ _ _
  refine wpAny_bind (wpAny_field hz rfl (x := .bool false) rfl ?_)
  show wpAny _ _ (field (.ref z) 3 >>= _) _ _ _
  refine wpAny_bind (wpAny_field hz rfl (x := .ref TI) rfl (wpAny_bind (wpAny_seqItems hTI rfl ?_)))
  show wpAny _ _ (Builtin.SmallTypes.ownedTupleIsFree (.ref z) >>= _) _ _ _
  refine wpAny_bind (wpAny_tupleHeld_zip hz hT fun h₁ hz₁ hs₁ => ?_)
  simp only [Bool.false_eq_true, if_false]
  refine wpAny_bind ?_
  rw [← Array.forIn_toList]
  simp only [List.forIn_cons, List.forIn_nil]
  refine wpAny_bind (wpAny_bind (wpAny_holding ?_))
  have g1 := h1.extBut hs₁.extBut D.i1z
  have p1 := hl1.extBut hs₁.extBut D.l1z
  show wpAny _ _ (Builtin.SmallTypes.nextOf (.ref i1) >>= _) _ _ _
  cases ex : xs[k1]? with
  | none => exact wpAny_bind (RZ.nextOf_tuple_end (s := { s with heap := h₁ }) hh g1 p1 ex fun h₂ e hs₂ he => hE (.inl ex) h₂ e (fun c o c1 c2 _ q => hs₂ _ _ c2 (hs₁.extBut _ _ c1 q)) he)
  | some x =>
    refine wpAny_bind (RZ.nextOf_tuple_item (s := { s with heap := h₁ }) g1 p1 ex fun h₂ h1₂ hs₂ => wpAny_pure (wpAny_pure ?_))
    refine wpAny_bind (wpAny_bind (wpAny_holding ?_))
    have g2 := (h2.extBut hs₁.extBut D.i2z).extBut hs₂.extBut D.i12.symm
    have p2 := (hl2.extBut hs₁.extBut D.l2z).extBut hs₂.extBut D.l2i1
    show wpAny _ _ (Builtin.SmallTypes.nextOf (.ref i2) >>= _) _ _ _
    cases ey : ys[k2]? with
    | none => exact wpAny_bind (RZ.nextOf_tuple_end (s := { s with heap := h₂ }) hh g2 p2 ey fun h₃ e hs₃ he => hE (.inr ey) h₃ e (fun c o c1 c2 c3 q => hs₃ _ _ c3 (hs₂.extBut _ _ c2 (hs₁.extBut _ _ c1 q))) he)
    | some y =>
      refine wpAny_bind (RZ.nextOf_tuple_item (s := { s with heap := h₂ }) g2 p2 ey fun h₃ h2₃ hs₃ => wpAny_pure (wpAny_pure (wpAny_pure ?_)))
      show wpAny _ _ (newTuple [x, y] >>= _) _ _ _
      refine wpAny_bind (wpAny_newTuple (wpAny_pure ⟨_, rfl, ?_⟩))
      have sz : h₃.objs.size = s.heap.objs.size := by rw [hs₃.1, hs₂.1, hs₁.1]
      have z3 : IsZipHeld h₃ z TI TO T true := hs₃.extBut _ _ D.i2z.symm (hs₂.extBut _ _ D.i1z.symm hz₁)
      have q1 := h1₂.extBut hs₃.extBut D.i12
      have np : PySem.IsPair (h₃.push { cls := .type "tuple", data := .seq #[x, y] }) h₃.objs.size x y := Heap.get?_push_size _ rfl
      have ns : (h₃.push { cls := .type "tuple", data := .seq #[x, y] }).objs.size = h₃.objs.size + 1 := Heap.size_push ..
      show Q (.ref h₃.objs.size) _
      rw [sz] at np ns ⊢
      exact hQ x y ex ey _ (Heap.get?_push_of_some _ z3) (q1.at fun o q => Heap.get?_push_of_some _ q) (h2₃.at fun o q => Heap.get?_push_of_some _ q) np ns fun c o c1 c2 c3 q => Heap.get?_push_of_some _ (hs₃.extBut _ _ c3 (hs₂.extBut _ _ c2 (hs₁.extBut _ _ c1 q)))
/-- what a zip over two tuples is between two turns -/
def St (h : Heap) (z TI TO i1 i2 l1 l2 S : Addr) (xs ys : Array Value) (k : Nat) : Prop :=
  PySem.IsPair h TI (.ref i1) (.ref i2) ∧ h.IsTupleIter i1 l1 k ∧ h.IsTupleIter i2 l2 k ∧ h.IsTuple l1 xs ∧ h.IsTuple l2 ys ∧
  ((IsZip h z TI TO .none ∧ ∃ a b, PySem.IsPair h TO a b) ∨ ∃ (T : Addr) (f : Bool) (oT : Obj), IsZipHeld h z TI TO T f ∧ h.get? T = some oT ∧ T ≠ z ∧ T ≠ i1 ∧ T ≠ i2 ∧ T ≠ S)
theorem St.keep {h h' : Heap} {z TI TO i1 i2 l1 l2 S : Addr} {xs ys : Array Value} {k : Nat} (x : St h z TI TO i1 i2 l1 l2 S xs ys k) (up : ∀ b o, b ≠ S → h.get? b = some o → h'.get? b = some o) (n : S ≠ z ∧ S ≠ TI ∧ S ≠ TO ∧ S ≠ i1 ∧ S ≠ i2 ∧ S ≠ l1 ∧ S ≠ l2) : St h' z TI TO i1 i2 l1 l2 S xs ys k := by
  obtain ⟨n1, n2, n3, n4, n5, n6, n7⟩ := n
  obtain ⟨a1, a2, a3, a4, a5, a6⟩ := x
  refine ⟨up _ _ n2.symm a1, a2.at fun o e => up _ _ n4.symm e, a3.at fun o e => up _ _ n5.symm e, ?_, ?_, ?_⟩
  · obtain ⟨o, ho, r⟩ := a4
    exact ⟨o, up _ _ n6.symm ho, r⟩
  · obtain ⟨o, ho, r⟩ := a5
    exact ⟨o, up _ _ n7.symm ho, r⟩
  · rcases a6 with ⟨b1, a, b, b2⟩ | ⟨T, f, oT, b1, b2, t1, t2, t3, t4⟩
    · exact .inl ⟨up _ _ n1.symm b1, a, b, up _ _ n3.symm b2⟩
    · exact .inr ⟨T, f, oT, up _ _ n1.symm b1, up _ _ t4 b2, t1, t2, t3, t4⟩
theorem tupAt {h h' : Heap} {l : Addr} {xs : Array Value} (x : h.IsTuple l xs) (up : ∀ o, h.get? l = some o → h'.get? l = some o) : h'.IsTuple l xs := by
  obtain ⟨o, ho, r⟩ := x
  exact ⟨o, up _ ho, r⟩
/-- the next pair -/
theorem nxt {z TI TO i1 i2 l1 l2 S : Addr} {xs ys : Array Value} {k : Nat} {x y : Value} {Q : Option Value → Shared → Prop} (hh : A.handled = none) (D : ZipApart z TI TO i1 i2 l1 l2) (st : St s.heap z TI TO i1 i2 l1 l2 S xs ys k) (hS : S < s.heap.objs.size) (ex : xs[k]? = some x) (ey : ys[k]? = some y)
    (hQ : ∀ h', St h' z TI TO i1 i2 l1 l2 S xs ys (k + 1) → PySem.IsPair h' s.heap.objs.size x y → h'.objs.size = s.heap.objs.size + 1 → (∀ c o, c ≠ z → c ≠ TO → c ≠ i1 → c ≠ i2 → s.heap.get? c = some o → h'.get? c = some o) → Q (some (.ref s.heap.objs.size)) { s with heap := h' }) :
    wpAny (model prog w) A (pyNext (.ref z)) Q E s := by
  obtain ⟨a1, a2, a3, a4, a5, a6⟩ := st
  have lz : ∀ {a : Addr} {o : Obj}, s.heap.get? a = some o → s.heap.objs.size ≠ a := fun e => Nat.ne_of_gt (Heap.lt_size e)
  have n1 : s.heap.objs.size ≠ i1 := by obtain ⟨o, e, _⟩ := a2; exact lz e
  have n2 : s.heap.objs.size ≠ i2 := by obtain ⟨o, e, _⟩ := a3; exact lz e
  rcases a6 with ⟨b1, a, b, b2⟩ | ⟨T, f, oT, b1, b2, t1, t2, t3, t4⟩
  · refine RZ.pyNext_zipT_item D b1 a1 b2 a2 a3 a4 a5 ex ey fun h' c1 c2 c3 c4 c5 c6 c7 => hQ h' ⟨c7 _ _ D.TIz D.TITO D.TIi1 D.TIi2 a1, c3, c4, tupAt a4 fun o e => c7 _ _ D.l1z D.l1TO D.l1i1 D.l1i2 e, tupAt a5 fun o e => c7 _ _ D.l2z D.l2TO D.l2i1 D.l2i2 e, .inr ⟨s.heap.objs.size, false, _, c1, c5, lz b1, n1, n2, Nat.ne_of_gt hS⟩⟩ c5 c6 c7
  · have hTy : s.TypeIs (.ref z) "zip" := ⟨_, b1, rfl⟩
    unfold pyNext
    refine wpAny_bind (wpAny_attempt (wpAny_callSpecial?_slot (name := Str.ofString "__next__") hTy F.slot_zip_next (wpAny_call_entry F.slot_zip_next hTy F.entry_zip_next (held hh D b1 b2 a1 a2 a3 a4 a5 (fun x' y' ex' ey' h' c1 c3 c4 c5 c6 c7 => ?_) (fun he => ?_)) (F.args_zip_next_1 _))))
    · rw [ex] at ex'
      rw [ey] at ey'
      cases ex'
      cases ey'
      exact wpAny_pure (hQ h' ⟨c7 _ _ D.TIz D.TIi1 D.TIi2 a1, c3, c4, tupAt a4 fun o e => c7 _ _ D.l1z D.l1i1 D.l1i2 e, tupAt a5 fun o e => c7 _ _ D.l2z D.l2i1 D.l2i2 e, .inr ⟨T, true, oT, c1, c7 _ _ t1 t2 t3 b2, t1, t2, t3, t4⟩⟩ c5 c6 fun c o d1 _ d3 d4 e => c7 c o d1 d3 d4 e)
    · rcases he with he | he
      · rw [ex] at he; cases he
      · rw [ey] at he; cases he
/-- no more pairs -/
theorem fin {z TI TO i1 i2 l1 l2 S : Addr} {xs ys : Array Value} {k : Nat} {Q : Option Value → Shared → Prop} (hh : A.handled = none) (D : ZipApart z TI TO i1 i2 l1 l2) (st : St s.heap z TI TO i1 i2 l1 l2 S xs ys k) (ex : xs[k]? = none)
    (hQ : ∀ h', (∀ c o, c ≠ z → c ≠ TO → c ≠ i1 → c ≠ i2 → s.heap.get? c = some o → h'.get? c = some o) → Q none { s with heap := h' }) : wpAny (model prog w) A (pyNext (.ref z)) Q E s := by
  obtain ⟨a1, a2, a3, a4, a5, a6⟩ := st
  rcases a6 with ⟨b1, a, b, b2⟩ | ⟨T, f, oT, b1, b2, t1, t2, t3, t4⟩
  · exact RZ.pyNext_zipT_end hh D b1 a1 b2 a2 a3 a4 a5 (.inl ex) hQ
  · have hTy : s.TypeIs (.ref z) "zip" := ⟨_, b1, rfl⟩
    unfold pyNext
    refine wpAny_bind (wpAny_attempt (wpAny_callSpecial?_slot (name := Str.ofString "__next__") hTy F.slot_zip_next (wpAny_call_entry F.slot_zip_next hTy F.entry_zip_next (held hh D b1 b2 a1 a2 a3 a4 a5 (fun x' y' ex' => ?_) (fun _ h' e hk he => ?_)) (F.args_zip_next_1 _))))
    · rw [ex] at ex'; cases ex'
    · obtain ⟨o, ho, hc⟩ := he
      exact wpAny_bind (wpAny_isInstance (T := "StopIteration") (b := true) ⟨o, ho, hc⟩ isSubtype_stop (wpAny_pure (hQ _ fun c o d1 _ d3 d4 q => hk c o d1 d3 d4 q)))
end
/-- the pairs made so far -/
structure Md (xs ys : Array Value) (lo : Addr) (h : Heap) (as : List Addr) : Prop where
  rise : as.Pairwise (· < ·)
  above : ∀ a ∈ as, lo ≤ a
  pairs : ∀ (j : Nat) (a : Addr), as[j]? = some a → ∃ x y, xs[j]? = some x ∧ ys[j]? = some y ∧ PySem.IsPair h a x y
section
variable {prog : Program} {w : World} {A : Around} {E : Value → Shared → Prop} {s : Shared} {R : Result → Shared → Prop} {z TI TO i1 i2 l1 l2 S lo : Addr} {xs ys : Array Value}
theorem loop (hh : A.handled = none) (D : ZipApart z TI TO i1 i2 l1 l2) (ln : xs.size = ys.size) (hn : xs.size ≤ sizeLine) (nS : S ≠ z ∧ S ≠ TI ∧ S ≠ TO ∧ S ≠ i1 ∧ S ≠ i2 ∧ S ≠ l1 ∧ S ≠ l2) (low : S < lo ∧ z < lo ∧ TO < lo ∧ i1 < lo ∧ i2 < lo) (res : Value) {h₁ : Heap}
    (hR : ∀ h' tk acc c as, (∀ b o, b ≠ S → b ≠ z → b ≠ TO → b ≠ i1 → b ≠ i2 → h₁.get? b = some o → h'.get? b = some o) → h'.get? S = some { cls := .type "list", dict := none, data := .seq acc c, slots := #[] } → as.length = xs.size → Md xs ys lo h' as → acc.toList = as.map Value.ref →
      R (.ok (.ret res)) { s with heap := h', toks := tk }) :
    ∀ (k i : Nat) (h : Heap) (tk c : Nat) (acc : Array Value) (as : List Addr), xs.size - i = k → i ≤ xs.size → St h z TI TO i1 i2 l1 l2 S xs ys i → (∀ b o, b ≠ S → b ≠ z → b ≠ TO → b ≠ i1 → b ≠ i2 → h₁.get? b = some o → h.get? b = some o) →
      h.get? S = some { cls := .type "list", dict := none, data := .seq acc c, slots := #[] } → acc.toList = as.map Value.ref → as.length = i → Md xs ys lo h as → lo ≤ h.objs.size →
      codeAny (model prog w) A (.builtin "list.extend.loop" ⟨[.ref S, .ref z, res], []⟩) R { s with heap := h, toks := tk } := by
  obtain ⟨lS, lz, lTO, l1', l2'⟩ := low
  intro k
  induction k with
  | zero =>
    intro i h tk c acc as hk hi st keep hS hacc hal md hl
    refine codeAny_builtin PySem.F.entry_extend_loop ?_
    rw [Around.under_plainId PySem.F.plain_extend_loop _]
    show wpAny _ A.in1 (pyNext (.ref z) >>= _) _ _ _
    refine wpAny_bind (fin (s := { s with heap := h, toks := tk }) (A := A.in1) hh D st (Array.getElem?_eq_none (by omega)) fun h' kp => wpAny_pure (hR h' tk acc c as (fun b o b1 b2 b3 b4 b5 e => kp b o b2 b3 b4 b5 (keep b o b1 b2 b3 b4 b5 e)) (kp S _ nS.1 nS.2.2.1 nS.2.2.2.1 nS.2.2.2.2.1 hS) (by omega) ⟨md.rise, md.above, fun j a hj => ?_⟩ hacc))
    obtain ⟨x, y, e1, e2, e3⟩ := md.pairs j a hj
    have ab := md.above a (List.mem_of_getElem? hj)
    exact ⟨x, y, e1, e2, kp a _ (Nat.ne_of_gt (Nat.lt_of_lt_of_le lz ab)) (Nat.ne_of_gt (Nat.lt_of_lt_of_le lTO ab)) (Nat.ne_of_gt (Nat.lt_of_lt_of_le l1' ab)) (Nat.ne_of_gt (Nat.lt_of_lt_of_le l2' ab)) e3⟩
  | succ k ih =>
    intro i h tk c acc as hk hi st keep hS hacc hal md hl
    have lt : i < xs.size := by omega
    have ex : xs[i]? = some xs[i] := Array.getElem?_eq_getElem lt
    have ey : ys[i]? = some (ys[i]'(by omega)) := Array.getElem?_eq_getElem (by omega)
    generalize xs[i] = x at ex
    generalize (ys[i]'(by omega)) = y at ey
    have sz : acc.size = i := by rw [← Array.length_toList, hacc, List.length_map, hal]
    refine codeAny_builtin PySem.F.entry_extend_loop ?_
    rw [Around.under_plainId PySem.F.plain_extend_loop _]
    show wpAny _ A.in1 (pyNext (.ref z) >>= _) _ _ _
    refine wpAny_bind (nxt (s := { s with heap := h, toks := tk }) (A := A.in1) (S := S) hh D st (Heap.lt_size hS) ex ey fun h' st' pr hz kp => ?_)
    dsimp only at pr hz kp ⊢
    have hS' := kp S _ nS.1 nS.2.2.1 nS.2.2.2.1 nS.2.2.2.2.1 hS
    have up : ∀ b o, b ≠ S → h'.get? b = some o → (h'.update S (Obj.mapSeq (·.push (Value.ref h.objs.size)))).get? b = some o := fun b o hb e => (Heap.get?_update_other _ _ (Ne.symm hb)).trans e
    have hSl : S < h.objs.size := Heap.lt_size hS
    show wpAny _ A.in1 (updateSeq S (·.push (Value.ref h.objs.size)) >>= _) _ _ _
    have new := up _ _ (Nat.ne_of_gt hSl) pr
    refine wpAny_bind ?_
    refine wpAny_updateSeq hS' rfl (wpAny_pure ⟨plainId_quiet PySem.F.plain_extend_loop _, ih (i + 1) _ tk _ (acc.push (Value.ref h.objs.size)) (as ++ [h.objs.size]) (by omega) lt (st'.keep up nS)
      (fun b o b1 b2 b3 b4 b5 e => up b o b1 (kp b o b2 b3 b4 b5 (keep b o b1 b2 b3 b4 b5 e))) (Heap.get?_update_self _ hS' rfl) (by rw [Array.toList_push, hacc, List.map_append]; rfl) (by rw [List.length_append, hal]; rfl) ⟨?_, ?_, ?_⟩ (Nat.le_of_lt (Nat.lt_of_le_of_lt hl (Heap.lt_size new)))⟩) (by rw [sz]; omega) (by show (acc.push (Value.ref h.objs.size)).size ≤ sizeLine + 1; rw [Array.size_push, sz]; omega)
    · refine List.pairwise_append.mpr ⟨md.rise, List.pairwise_singleton _ _, fun a ha b hb => ?_⟩
      rw [List.mem_singleton.mp hb]
      obtain ⟨j, hj⟩ := List.mem_iff_getElem?.mp ha
      obtain ⟨_, _, _, _, e⟩ := md.pairs j a hj
      exact Heap.lt_size e
    · intro a ha
      rcases List.mem_append.mp ha with ha | ha
      · exact md.above a ha
      · rw [List.mem_singleton.mp ha]; exact hl
    · intro j b hj
      by_cases c1 : j < as.length
      · rw [List.getElem?_append_left c1] at hj
        obtain ⟨x', y', e1, e2, e3⟩ := md.pairs j b hj
        have ab := md.above b (List.mem_of_getElem? hj)
        exact ⟨x', y', e1, e2, up b _ (Nat.ne_of_gt (Nat.lt_of_lt_of_le lS ab)) (kp b _ (Nat.ne_of_gt (Nat.lt_of_lt_of_le lz ab)) (Nat.ne_of_gt (Nat.lt_of_lt_of_le lTO ab)) (Nat.ne_of_gt (Nat.lt_of_lt_of_le l1' ab)) (Nat.ne_of_gt (Nat.lt_of_lt_of_le l2' ab)) e3)⟩
      · rw [List.getElem?_append_right (by omega)] at hj
        have j0 : j - as.length = 0 := by
          have := (List.getElem?_eq_some_iff.mp hj).1
          simp at this
          omega
        rw [j0] at hj
        have eb : h.objs.size = b := by simpa using hj
        subst eb
        have : j = i := by omega
        subst this
        exact ⟨x, y, ex, ey, new⟩
theorem zip_no_len : typeLookup (.type "zip") "__len__" = pure none := am_miss_of_fast (by decide +kernel)
theorem zip_no_hint : typeLookup (.type "zip") "__length_hint__" = pure none := am_miss_of_fast (by decide +kernel)
theorem hint {r : Addr} {Q : Bool → Shared → Prop} (hT : s.TypeIs (.ref r) "zip") (h : Q true s) : wpAny (model prog w) A (Builtin.List.listLengthHint (.ref r)) Q E s := by
  unfold Builtin.List.listLengthHint
  refine wpAny_bind (wpAny_specialOf hT zip_no_len ?_)
  wp_delta
  refine wpAny_ite_split (fun hab => absurd hab (by decide)) (fun _ => ?_)
  refine wpAny_ite_split (fun hab => absurd hab (by decide)) (fun _ => ?_)
  refine wpAny_bind (wpAny_specialOf hT zip_no_hint ?_)
  exact wpAny_pure h
theorem ext (hh : A.handled = none) (D : ZipApart z TI TO i1 i2 l1 l2) (ln : xs.size = ys.size) (hn : xs.size ≤ sizeLine) (nS : S ≠ z ∧ S ≠ TI ∧ S ≠ TO ∧ S ≠ i1 ∧ S ≠ i2 ∧ S ≠ l1 ∧ S ≠ l2) (res : Value) (c₀ : Nat) (hz : IsZip s.heap z TI TO .none)
    (st : St s.heap z TI TO i1 i2 l1 l2 S xs ys 0) (hS : s.heap.get? S = some { cls := .type "list", data := .seq #[] c₀ })
    (hR : ∀ h' tk acc c as, (∀ b o, b ≠ S → b ≠ z → b ≠ TO → b ≠ i1 → b ≠ i2 → s.heap.get? b = some o → h'.get? b = some o) → h'.get? S = some { cls := .type "list", dict := none, data := .seq acc c, slots := #[] } → as.length = xs.size → Md xs ys s.heap.objs.size h' as → acc.toList = as.map Value.ref →
      R (.ok (.ret res)) { s with heap := h', toks := tk }) :
    wpAny (model prog w) A.in1 (Builtin.List.listExtendWith (.ref S) (.ref z) res)
      (fun fin s' => match fin with | .done f => R (.ok f) s' | .again c' => c'.quiet = true ∧ codeAny (model prog w) A c' R s') (fun e s' => R (.error e) s') s := by
  have low : S < s.heap.objs.size ∧ z < s.heap.objs.size ∧ TO < s.heap.objs.size ∧ i1 < s.heap.objs.size ∧ i2 < s.heap.objs.size := by
    obtain ⟨a1, ⟨o1, e1, _⟩, ⟨o2, e2, _⟩, _, _, a6⟩ := id st
    refine ⟨Heap.lt_size hS, Heap.lt_size hz, ?_, Heap.lt_size e1, Heap.lt_size e2⟩
    rcases a6 with ⟨_, a, b, b2⟩ | ⟨T, f, oT, b1, _⟩
    · exact Heap.lt_size b2
    · have z1 : some _ = some _ := (show s.heap.get? z = some _ from hz).symm.trans (show s.heap.get? z = some _ from b1)
      injection z1 with z2
      injection z2 with _ _ z3
      injection z3 with z4
      simp [rawInt] at z4
  have key : ∀ (h : Heap) (c₁ tk : Nat), (∀ b o, b ≠ S → s.heap.get? b = some o → h.get? b = some o) → s.heap.objs.size ≤ h.objs.size → h.get? S = some { cls := .type "list", data := .seq #[] c₁ } →
      codeAny (model prog w) A (.builtin "list.extend.loop" ⟨[.ref S, .ref z, res], []⟩) R { s with heap := h, toks := tk } := fun h c₁ tk hk hl hS₁ =>
    loop (h₁ := s.heap) (lo := s.heap.objs.size) hh D ln hn nS low res hR xs.size 0 h tk c₁ #[] [] (Nat.sub_zero _) (Nat.zero_le _) (st.keep hk nS) (fun b o hb _ _ _ _ e => hk b o hb e) hS₁ rfl rfl ⟨List.Pairwise.nil, (fun _ ha => nomatch ha), (fun j a hj => by simp at hj)⟩ hl
  have hT : s.TypeIs (.ref z) "zip" := ⟨_, hz, rfl⟩
  unfold Builtin.List.listExtendWith
  refine wpAny_bind (wpAny_typeOf (T := "zip") hT ?_)
  have e1 : Builtin.List.listSameRef (.ref S) (.ref z) = false := by simp [Builtin.List.listSameRef, nS.1]
  have e2 : (Value.type "zip" == Value.type "list") = false := by decide
  have e3 : (Value.type "zip" == Value.type "tuple") = false := by decide
  simp only [e1, e2, e3, Bool.or_false, Bool.false_eq_true, if_false]
  refine wpAny_bind (wpAny_pyIter_zip hz ?_)
  refine wpAny_bind (wpAny_holding (hint hT ?_))
  refine wpAny_ite_split (fun _ => ?_) (fun hab => absurd rfl hab)
  refine wpAny_bind (wpAny_rule (wpAny_bind ?_))
  show wpAny _ _ (updateSeq S (·.push .none) >>= fun _ => updateSeq S (·.pop)) _ _ _
  refine wpAny_bind (wpAny_updateSeq hS rfl ?_)
  have hS₂ := Heap.get?_update_self (Obj.mapSeq (·.push Value.none)) hS rfl
  refine wpAny_updateSeq (hz := by seq_fits) hS₂ rfl ?_
  have hS₃ := Heap.get?_update_self (Obj.mapSeq (·.pop)) hS₂ rfl
  refine wpAny_pure ⟨plainId_quiet PySem.F.plain_extend_loop _, key _ _ _ (fun b o hb e => (Heap.get?_update_other _ _ (Ne.symm hb)).trans ((Heap.get?_update_other _ _ (Ne.symm hb)).trans e)) ?_ hS₃⟩
  exact Nat.le_of_eq ((Heap.SameBut.update _ S _).1.trans (Heap.SameBut.update _ S _).1).symm
theorem call {Q : Value → Shared → Prop} (hh : A.handled = none) (D : ZipApart z TI TO i1 i2 l1 l2) (ln : xs.size = ys.size) (hn : xs.size ≤ sizeLine) (hz : IsZip s.heap z TI TO .none) (hTI : PySem.IsPair s.heap TI (.ref i1) (.ref i2)) (hTO : PySem.IsPair s.heap TO .none .none)
    (h1 : s.heap.IsTupleIter i1 l1 0) (h2 : s.heap.IsTupleIter i2 l2 0) (hl1 : s.heap.IsTuple l1 xs) (hl2 : s.heap.IsTuple l2 ys)
    (hQ : ∀ h' tk acc c as, (∀ b o, b ≠ z → b ≠ TO → b ≠ i1 → b ≠ i2 → s.heap.get? b = some o → h'.get? b = some o) → h'.get? s.heap.objs.size = some { cls := .type "list", dict := none, data := .seq acc c, slots := #[] } → as.length = xs.size → Md xs ys (s.heap.objs.size + 1) h' as → acc.toList = as.map Value.ref →
      Q (.ref s.heap.objs.size) { s with heap := h', toks := tk }) : wpAny (model prog w) A (PySem.call (.type "list") [.ref z]) Q E s := by
  have lt : ∀ {a : Addr} {o : Obj}, s.heap.get? a = some o → s.heap.objs.size ≠ a := fun e => Nat.ne_of_gt (Heap.lt_size e)
  have nS : s.heap.objs.size ≠ z ∧ s.heap.objs.size ≠ TI ∧ s.heap.objs.size ≠ TO ∧ s.heap.objs.size ≠ i1 ∧ s.heap.objs.size ≠ i2 ∧ s.heap.objs.size ≠ l1 ∧ s.heap.objs.size ≠ l2 := by
    obtain ⟨o1, e1, _⟩ := h1
    obtain ⟨o2, e2, _⟩ := h2
    obtain ⟨o3, e3, _⟩ := hl1
    obtain ⟨o4, e4, _⟩ := hl2
    exact ⟨lt hz, lt hTI, lt hTO, lt e1, lt e2, lt e3, lt e4⟩
  refine callType_codes (Q₁ := fun obj s₁ => obj = .ref s.heap.objs.size ∧ s₁ = { s with heap := s.heap.push { cls := .type "list", data := .seq #[] } }) PySem.F.called_list (PySem.F.typeCall_list_1 _) PySem.F.entry_list_init (code_list_new _ ⟨rfl, rfl⟩) fun obj s₁ q₁ => ?_
  obtain ⟨rfl, rfl⟩ := q₁
  have hS : (s.heap.push { cls := .type "list", data := .seq #[] }).get? s.heap.objs.size = some { cls := .type "list", data := .seq #[] } := Heap.get?_push_size _ rfl
  refine ⟨⟨_, hS, rfl⟩, PySem.F.args_list_init_2 _ _, ?_⟩
  show wpAny _ _ (do let old ← Builtin.List.listItems (.ref s.heap.objs.size); Builtin.List.listUpdate (.ref s.heap.objs.size) (fun _ => #[]); letGo old.toList.reverse; Builtin.List.listExtendWith (.ref s.heap.objs.size) (.ref z) .none) _ _ _
  refine wpAny_bind ?_
  unfold Builtin.List.listItems
  refine wpAny_bind (wpAny_seqItems hS rfl (wpAny_pure ?_))
  show wpAny _ _ (updateSeq s.heap.objs.size (fun _ => #[]) >>= fun _ => letGo (#[] : Array Value).toList.reverse >>= fun _ => Builtin.List.listExtendWith (.ref s.heap.objs.size) (.ref z) .none) _ _ _
  refine wpAny_bind (wpAny_updateSeq hS rfl ?_)
  have hS₂ := Heap.get?_update_self (Obj.mapSeq (fun _ => (#[] : Array Value))) hS rfl
  have oth : ∀ b o, b ≠ s.heap.objs.size → s.heap.get? b = some o → ((s.heap.push { cls := .type "list", data := .seq #[] }).update s.heap.objs.size (Obj.mapSeq (fun _ => (#[] : Array Value)))).get? b = some o :=
    fun b o hb e => (Heap.get?_update_other _ _ (Ne.symm hb)).trans (Heap.get?_push_of_some _ e)
  have size2 : ((s.heap.push { cls := .type "list", data := .seq #[] }).update s.heap.objs.size (Obj.mapSeq (fun _ => (#[] : Array Value)))).objs.size = s.heap.objs.size + 1 := (Heap.SameBut.update _ _ _).1.trans (Heap.size_push ..)
  refine wpAny_bind (wpAny_letGo ?_)
  obtain ⟨n1, n2, n3, n4, n5, n6, n7⟩ := id nS
  refine ext (A := A.in1) hh D ln hn nS .none _ (oth _ _ n1.symm hz) ⟨oth _ _ n2.symm hTI, h1.at fun o e => oth _ _ n4.symm e, h2.at fun o e => oth _ _ n5.symm e, tupAt hl1 fun o e => oth _ _ n6.symm e, tupAt hl2 fun o e => oth _ _ n7.symm e, .inl ⟨oth _ _ n1.symm hz, _, _, oth _ _ n3.symm hTO⟩⟩ hS₂ fun h' tk acc c as hk hS' hl md hacc => ?_
  rw [size2] at md
  exact ⟨rfl, hQ h' tk acc c as (fun b o b1 b2 b3 b4 e => hk b o (Nat.ne_of_lt (Heap.lt_size e)) b1 b2 b3 b4 (oth b o (Nat.ne_of_lt (Heap.lt_size e)) e)) hS' hl md hacc⟩
end
end ZL
namespace Pl
open PySem PySem.Spec PyProof.Rows L2
/-- several objects laid at once -/
def updAll (H : Hp) : List (Addr × HO) → Hp
  | [] => H
  | p :: ps => upd (updAll H ps) p.1 p.2
theorem updAll_no {H : Hp} {b : Addr} : ∀ {ps : List (Addr × HO)}, b ∉ ps.map (·.1) → updAll H ps b = H b
  | [], _ => rfl
  | p :: ps, h => by
    rw [List.map_cons, List.mem_cons, not_or] at h
    show upd (updAll H ps) p.1 p.2 b = _
    rw [upd_ne h.1]
    exact updAll_no h.2
theorem updAll_get {H : Hp} : ∀ {ps : List (Addr × HO)} {p : Addr × HO}, (ps.map (·.1)).Nodup → p ∈ ps → updAll H ps p.1 = some p.2
  | [], _, _, h => nomatch h
  | q :: ps, p, nd, h => by
    rw [List.map_cons, List.nodup_cons] at nd
    show upd (updAll H ps) q.1 q.2 p.1 = _
    rcases List.mem_cons.mp h with rfl | h
    · exact upd_same
    · have ne : p.1 ≠ q.1 := fun e => nd.1 (by rw [← e]; exact List.mem_map.mpr ⟨p, h, rfl⟩)
      rw [upd_ne ne]
      exact updAll_get nd.2 h
theorem updAll_same {H : Hp} {ps : List (Addr × HO)} (h : ∀ p ∈ ps, H p.1 = none) : Same H (updAll H ps) := fun b o e => by
  rw [updAll_no]
  · exact e
  · intro hb
    obtain ⟨p, hp, rfl⟩ := List.mem_map.mp hb
    rw [h p hp] at e
    cases e
theorem adds {X : Cx} {pins : List (Addr × Obj)} {σ : L2.St} {H : Hp} {s : Shared} {tk : Nat} (I : Inv X pins σ H s) : ∀ (ps : List (Addr × HO)) (h' : Heap), (∀ b u, s.heap.get? b = some u → h'.get? b = some u) → (∀ p ∈ ps, s.heap.objs.size ≤ p.1) → (ps.map (·.1)).Nodup →
    (∀ p ∈ ps, ∀ (H' : Hp) (G : Heap), G.get? p.1 = h'.get? p.1 → ObjOk X.prog X.w H' G p.1 p.2) → Inv X pins σ (updAll H ps) { s with heap := h', toks := tk }
  | [], h', k, _, _, _ => I.kept k
  | p :: ps, h', k, lo, nd, ok => by
    rw [List.map_cons, List.nodup_cons] at nd
    obtain ⟨G, g1, g2⟩ := restrict h' fun b => decide (b ≠ p.1)
    have gk : ∀ b, b ≠ p.1 → G.get? b = h'.get? b := fun b hb => g1 b (decide_eq_true hb)
    have gn : G.get? p.1 = none := g2 p.1 (decide_eq_false (fun z => z rfl))
    have lp := lo p List.mem_cons_self
    have J := adds (tk := tk) I ps G (fun b u e => by
      rw [gk b (Nat.ne_of_lt (Nat.lt_of_lt_of_le (Heap.lt_size e) lp))]
      exact k b u e) (fun q hq => lo q (List.mem_cons_of_mem _ hq)) nd.2 (fun q hq H' G' e => ok q (List.mem_cons_of_mem _ hq) H' G' (by
        rw [e, gk]
        intro z
        exact nd.1 (by rw [← z]; exact List.mem_map.mpr ⟨q, hq, rfl⟩)))
    refine J.laidN (h' := h') (t' := tk) (fun b u e => ?_) gn ?_ (ok p List.mem_cons_self _ h' rfl)
    · by_cases z : b = p.1
      · rw [z] at e
        rw [show G.get? p.1 = some u from e] at gn
        cases gn
      · rw [← gk b z]
        exact e
    · rw [updAll_no nd.1]
      exact I.hok.fresh lp
/-- pairs in the heap -/
inductive PrA (H : Hp) : List V → List V → List V → Prop
  | nil : PrA H [] [] []
  | cons {q : Addr} {x y : V} {ws xs ys : List V} : H q = some (.tup [x, y]) → PrA H ws xs ys → PrA H (.ref q :: ws) (x :: xs) (y :: ys)
def prs : List Addr → List V → List V → List (Addr × HO)
  | a :: as, x :: xs, y :: ys => (a, .tup [x, y]) :: prs as xs ys
  | _, _, _ => []
theorem prs_fst : ∀ {as : List Addr} {xs ys : List V}, as.length = xs.length → as.length = ys.length → (prs as xs ys).map (·.1) = as
  | [], xs, ys, _, _ => by cases xs <;> cases ys <;> rfl
  | a :: as, [], _, h, _ => nomatch h
  | a :: as, x :: xs, [], _, h => nomatch h
  | a :: as, x :: xs, y :: ys, h1, h2 => by
    show a :: (prs as xs ys).map (·.1) = _
    rw [prs_fst (by simpa using h1) (by simpa using h2)]
theorem prs_mem {p : Addr × HO} : ∀ {as : List Addr} {xs ys : List V}, p ∈ prs as xs ys → ∃ (j : Nat) (a : Addr) (x y : V), as[j]? = some a ∧ xs[j]? = some x ∧ ys[j]? = some y ∧ p = (a, .tup [x, y])
  | [], _, _, h => nomatch h
  | a :: as, [], _, h => nomatch h
  | a :: as, x :: xs, [], h => nomatch h
  | a :: as, x :: xs, y :: ys, h => by
    rcases List.mem_cons.mp h with h | h
    · exact ⟨0, a, x, y, rfl, rfl, rfl, h⟩
    · obtain ⟨j, b, u, v, e1, e2, e3, e4⟩ := prs_mem h
      exact ⟨j + 1, b, u, v, e1, e2, e3, e4⟩
theorem prA_of {G : Hp} : ∀ {as : List Addr} {xs ys : List V}, as.length = xs.length → as.length = ys.length → (∀ p ∈ prs as xs ys, G p.1 = some p.2) → PrA G (as.map V.ref) xs ys
  | [], [], [], _, _, _ => .nil
  | [], x :: xs, _, h, _, _ => nomatch h
  | [], [], y :: ys, _, h, _ => nomatch h
  | a :: as, [], _, h, _, _ => nomatch h
  | a :: as, x :: xs, [], _, h, _ => nomatch h
  | a :: as, x :: xs, y :: ys, h1, h2, g => .cons (g (a, .tup [x, y]) List.mem_cons_self) (prA_of (by simpa using h1) (by simpa using h2) fun p hp => g p (List.mem_cons_of_mem _ hp))
theorem valsAt : ∀ {xs : List V} {us : List Value} {j : Nat} {x : V}, Vals xs us → xs[j]? = some x → ∃ u, us[j]? = some u ∧ RelV x u
  | _, _, _, _, .nil, h => by cases h
  | _, _, 0, _, .cons r _, h => by
    cases h
    exact ⟨_, rfl, r⟩
  | _, _, j + 1, _, .cons _ t, h => by
    obtain ⟨u, e, r⟩ := valsAt (j := j) t (by simpa using h)
    exact ⟨u, by simpa using e, r⟩
theorem valsRef : ∀ (as : List Addr), Vals (as.map V.ref) (as.map Value.ref)
  | [] => .nil
  | a :: as => .cons rfl (valsRef as)
def tLstZip (K : PySem.W.Frag) (ta : TA) : TE := fun σ H Q => ta σ H fun vs H1 => ∃ (a b : Addr) (xs ys : List V), vs = [.ref a, .ref b] ∧ SqT K H1 a xs ∧ SqT K H1 b ys ∧ xs.length = ys.length ∧
  ∀ (L : Addr) (ws : List V) (H2 : Hp), Same H1 H2 → H1 L = none → H2 L = some (.lst ws) → PrA H2 ws xs ys → Q (.ref L) H2
section
variable {X : Cx}
theorem pe_listZip {e e2 : Expr} {ta : TA} {p p2 pos pos2 : Pos} (hc : X.calm = true) (hgl : Gl X "list") (hml : X.mg "list" = none) (hgz : Gl X "zip") (hmz : X.mg "zip" = none) (ha : PA X [e, e2] ta)
    (na : starEach [.Call (.Name "zip" p2) [e, e2] [] pos2] X.env = (false, eval (.Call (.Name "zip" p2) [e, e2] [] pos2) X.env) :: starEach [] X.env := by rfl)
    (hs : starEach [e, e2] X.env = (false, eval e X.env) :: starEach [e2] X.env := by rfl) (hpl : (backTo pos2 (starEach [e2] X.env)).any (·.1) = false := by rfl) :
    PE X (.Call (.Name "list" p) [.Call (.Name "zip" p2) [e, e2] [] pos2] [] pos) (tLstZip X.K ta) := by
  refine ⟨fun pins s σ H Q I h => ?_⟩
  refine Call_ (ld_blt I hgl hml boot_list (PyProof.Rows.callWith_type1 (args_cons (thn (Q := fun v s2 => ∃ (s1 : Shared) (H1 : Hp) (a b : Addr) (xs ys : List V) (us vs : List Value) (h2 : Heap), v = .ref (s1.heap.objs.size + 4) ∧ s2 = { s1 with heap := h2 } ∧ Inv X pins σ H1 s1 ∧
      IsZip h2 (s1.heap.objs.size + 4) (s1.heap.objs.size + 2) (s1.heap.objs.size + 3) .none ∧ PySem.IsPair h2 (s1.heap.objs.size + 2) (.ref s1.heap.objs.size) (.ref (s1.heap.objs.size + 1)) ∧ PySem.IsPair h2 (s1.heap.objs.size + 3) .none .none ∧ h2.IsTupleIter s1.heap.objs.size a 0 ∧ h2.IsTupleIter (s1.heap.objs.size + 1) b 0 ∧ h2.objs.size = s1.heap.objs.size + 5 ∧
      (∀ c o, s1.heap.get? c = some o → h2.get? c = some o) ∧ s1.heap.IsTuple a us.toArray ∧ s1.heap.IsTuple b vs.toArray ∧ Vals xs us ∧ Vals ys vs ∧ xs.length ≤ sizeLine ∧ xs.length = ys.length ∧
      ∀ (L : Addr) (ws : List V) (H2 : Hp), Same H1 H2 → H1 L = none → H2 L = some (.lst ws) → PrA H2 ws xs ys → Q (.ref L) H2) ?_ fun v s2 q => args_nil ?_) na) na))
  · refine Call_ (ld_blt I hgz hmz PyProof.Rows.boot_zip (PyProof.Rows.callWith_type1 (thn (ha.run pos2 pins s σ H _ I h) fun us s1 ⟨vs, H1, I1, r1, q1⟩ => ?_) hs hpl))
    obtain ⟨a, b, xs, ys, rfl, sa, sb, ln, q⟩ := q1
    obtain ⟨u1, u2, rfl, ra, rb⟩ := vals2 r1
    cases ra
    cases rb
    obtain ⟨its, rv, p1, z1⟩ := I1.tuple sa
    obtain ⟨its2, rv2, p2', z2⟩ := I1.tuple sb
    refine RZ.call_zipT (show s1.heap.IsTuple a its.toArray from p1) (show s1.heap.IsTuple b its2.toArray from p2') fun h2 hz hTI hTO h1 h2' hsz hk => ?_
    exact ⟨s1, H1, a, b, xs, ys, its, its2, h2, rfl, rfl, I1, hz, hTI, hTO, h1, h2', hsz, hk, p1, p2', rv, rv2, by omega, ln, q⟩
  · obtain ⟨s1, H1, a, b, xs, ys, us, vs, h2, rfl, rfl, I1, hz, hTI, hTO, h1, h2', hsz, hk, p1, p2', rv, rv2, hn, ln, q⟩ := q
    have la : a < s1.heap.objs.size := by obtain ⟨o, ho, _⟩ := p1; exact Heap.lt_size ho
    have lb : b < s1.heap.objs.size := by obtain ⟨o, ho, _⟩ := p2'; exact Heap.lt_size ho
    have lx := rv.length
    have ly := rv2.length
    refine ZL.call (s := { s1 with heap := h2 }) (I1.ok.hd hc) (PySem.W.ktu_apart s1.heap.objs.size a b la lb) (by rw [List.size_toArray, List.size_toArray]; omega) (by rw [List.size_toArray]; omega) hz hTI hTO h1 h2' (ZL.tupAt p1 fun o e => hk _ _ e) (ZL.tupAt p2' fun o e => hk _ _ e) fun h' tk acc c as keep hS hl md hacc => ?_
    dsimp only at hS md keep ⊢
    rw [List.size_toArray] at hl
    rw [hsz] at hS md ⊢
    have asl : as.length = xs.length := by omega
    have nd : (((s1.heap.objs.size + 5, HO.lst (as.map V.ref)) :: prs as xs ys).map (·.1)).Nodup := by
      rw [List.map_cons, prs_fst asl (by omega), List.nodup_cons]
      refine ⟨fun z => ?_, md.rise.imp (fun h => Nat.ne_of_lt h)⟩
      exact Nat.not_succ_le_self _ (md.above _ z)
    have lo : ∀ p ∈ (s1.heap.objs.size + 5, HO.lst (as.map V.ref)) :: prs as xs ys, s1.heap.objs.size ≤ p.1 := fun p hp => by
      rcases List.mem_cons.mp hp with rfl | hp
      · exact Nat.le_add_right _ _
      · obtain ⟨j, a, x, y, e1, _, _, rfl⟩ := prs_mem hp
        exact Nat.le_trans (Nat.le_add_right _ 6) (md.above a (List.mem_of_getElem? e1))
    have ne : ∀ {b : Addr} {o : Obj}, s1.heap.get? b = some o → ∀ i, b ≠ s1.heap.objs.size + i := fun e i z => by
      have lt := Heap.lt_size e
      rw [z] at lt
      exact Nat.not_lt.mpr (Nat.le_add_right _ i) lt
    have J := adds (tk := tk) I1 ((s1.heap.objs.size + 5, HO.lst (as.map V.ref)) :: prs as xs ys) h' (fun b o e => keep b o (ne e 4) (ne e 3) (ne e 0) (ne e 1) (hk _ _ e)) lo nd (fun p hp H' G eG => by
      rcases List.mem_cons.mp hp with rfl | hp
      · refine ⟨by rw [List.length_map]; omega, as.map Value.ref, c, valsRef as, ?_⟩
        rw [← hacc, Array.toArray_toList]
        exact eG.trans hS
      · obtain ⟨j, a, x, y, e1, e2, e3, rfl⟩ := prs_mem hp
        obtain ⟨u, v, g1, g2, g3⟩ := md.pairs j a e1
        obtain ⟨u', g4, r1⟩ := valsAt rv e2
        obtain ⟨v', g5, r2⟩ := valsAt rv2 e3
        rw [List.getElem?_toArray] at g1 g2
        rw [g4] at g1
        rw [g5] at g2
        cases g1
        cases g2
        exact ⟨by show 2 ≤ sizeLine; decide, [u, v], .cons r1 (.cons r2 .nil), _, eG.trans g3, rfl, _, rfl⟩)
    refine ⟨.ref (s1.heap.objs.size + 5), _, J, rfl, q _ _ _ (updAll_same fun p hp => I1.hok.fresh (lo p hp)) (I1.hok.fresh (Nat.le_add_right _ _)) (updAll_get nd List.mem_cons_self) ?_⟩
    exact prA_of asl (by omega) fun p hp => updAll_get nd (List.mem_cons_of_mem _ hp)
end
end Pl
/-! min(xs, default=None) of a list of tuples of ints -/
namespace Pl
open PySem PySem.Spec PyProof.Rows L2
/-- the order of tuples of ints -/
def lx : List Int → List Int → Bool
  | [], [] => false
  | [], _ :: _ => true
  | _ :: _, [] => false
  | a :: as, b :: bs => decide (a < b) || (decide (a = b) && lx as bs)
theorem lx_irr : ∀ a : List Int, lx a a = false
  | [] => rfl
  | a :: as => by simp [lx, lx_irr as]
theorem lx_trans : ∀ {a b c : List Int}, lx a b = true → lx b c = true → lx a c = true
  | [], [], _, h, _ => nomatch h
  | [], _ :: _, [], _, h => nomatch h
  | [], _ :: _, _ :: _, _, _ => rfl
  | _ :: _, [], _, h, _ => nomatch h
  | _ :: _, _ :: _, [], _, h => nomatch h
  | a :: as, b :: bs, c :: cs, h1, h2 => by
    simp only [lx, Bool.or_eq_true, Bool.and_eq_true, decide_eq_true_eq] at h1 h2 ⊢
    rcases h1 with h1 | ⟨h1, h1'⟩ <;> rcases h2 with h2 | ⟨h2, h2'⟩
    · left; omega
    · left; omega
    · left; omega
    · right; exact ⟨by omega, lx_trans h1' h2'⟩
theorem lx_tri : ∀ {a b : List Int}, lx a b = false → lx b a = false → a = b
  | [], [], _, _ => rfl
  | [], _ :: _, h, _ => nomatch h
  | _ :: _, [], _, h => nomatch h
  | a :: as, b :: bs, h1, h2 => by
    simp only [lx, Bool.or_eq_false_iff, Bool.and_eq_false_iff, decide_eq_false_iff_not] at h1 h2
    have e : a = b := by omega
    subst e
    have e2 : as = bs := lx_tri (by simpa using h1.2) (by simpa using h2.2)
    rw [e2]
def tpD (g : List Int) : PyData := .tuple (g.map PyData.int)
theorem dataLt_lx : ∀ a b : List Int, PySem.W.dataLt (tpD a) (tpD b) = lx a b := by
  have key : ∀ a b : List Int, PyProof.Rows.lexLt itemOrd (PySem.W.keyToksAll (a.map PyData.int)) (PySem.W.keyToksAll (b.map PyData.int)) = lx a b := by
    intro a
    induction a with
    | nil =>
      intro b
      cases b with
      | nil =>
        show PyProof.Rows.lexLt itemOrd [Sum.inl 0] [Sum.inl 0] = false
        rw [lex_self (O := itemOrd)]
        rfl
      | cons b bs =>
        rw [List.map_cons, PySem.W.toks_all_cons]
        show PyProof.Rows.lexLt itemOrd [Sum.inl 0] (Sum.inl 1 :: _) = true
        rw [lex_diff (O := itemOrd) (by intro h; cases h)]
        rfl
    | cons a as ih =>
      intro b
      cases b with
      | nil =>
        rw [List.map_cons, PySem.W.toks_all_cons]
        show PyProof.Rows.lexLt itemOrd (Sum.inl 1 :: _) [Sum.inl 0] = false
        rw [lex_diff (O := itemOrd) (by intro h; cases h)]
        rfl
      | cons b bs =>
        rw [List.map_cons, List.map_cons, PySem.W.toks_all_cons, PySem.W.toks_all_cons, lex_self (O := itemOrd)]
        show PyProof.Rows.lexLt itemOrd (Sum.inl a :: PySem.W.keyToksAll _) (Sum.inl b :: PySem.W.keyToksAll _) = _
        by_cases e : a = b
        · subst e
          rw [lex_self (O := itemOrd), ih]
          simp [lx]
        · rw [lex_diff (O := itemOrd) (by intro h; cases h; exact e rfl)]
          show decide (a < b) = _
          simp [lx, e]
  intro a b
  show PyProof.Rows.lexLt itemOrd (PySem.W.keyToks (tpD a)) (PySem.W.keyToks (tpD b)) = _
  unfold tpD
  simp only [PySem.W.keyToks]
  exact key a b
theorem alikeInts : ∀ a b : List Int, PySem.W.alikeAll (a.map PyData.int) (b.map PyData.int) = true
  | [], b => by cases b <;> rfl
  | _ :: _, [] => rfl
  | a :: as, b :: bs => by
    show (PySem.W.alike (.int a) (.int b) && PySem.W.alikeAll (as.map PyData.int) (bs.map PyData.int)) = true
    rw [alikeInts as bs]
    rfl
theorem minD_lx : ∀ (ys : List (List Int)) (y : List Int), ∃ g, PySem.W.minD (tpD y) (ys.map tpD) = tpD g ∧ g ∈ y :: ys ∧ ∀ z ∈ y :: ys, lx z g = false := by
  intro ys
  induction ys with
  | nil => exact fun y => ⟨y, rfl, List.mem_cons_self, fun z hz => by rw [List.mem_singleton.mp hz]; exact lx_irr y⟩
  | cons k ys ih =>
    intro y
    have e : PySem.W.minD (tpD y) ((k :: ys).map tpD) = PySem.W.minD (if PySem.W.dataLt (tpD k) (tpD y) then tpD k else tpD y) (ys.map tpD) := rfl
    rw [e, dataLt_lx]
    cases c : lx k y with
    | true =>
      obtain ⟨g, e1, m, all⟩ := ih k
      refine ⟨g, by simpa using e1, ?_, fun z hz => ?_⟩
      · exact List.mem_cons_of_mem _ m
      · rcases List.mem_cons.mp hz with rfl | hz
        · cases d : lx z g with
          | false => rfl
          | true =>
            have := lx_trans c d
            rw [all k List.mem_cons_self] at this
            cases this
        · exact all z hz
    | false =>
      obtain ⟨g, e1, m, all⟩ := ih y
      refine ⟨g, by simpa using e1, ?_, fun z hz => ?_⟩
      · rcases List.mem_cons.mp m with rfl | m
        · exact List.mem_cons_self
        · exact List.mem_cons_of_mem _ (List.mem_cons_of_mem _ m)
      · rcases List.mem_cons.mp hz with rfl | hz
        · exact all z List.mem_cons_self
        · rcases List.mem_cons.mp hz with rfl | hz
          · cases d : lx z g with
            | false => rfl
            | true =>
              cases f : lx g y with
              | false =>
                have e2 := lx_tri (all y List.mem_cons_self) f
                subst e2
                rw [c] at d
                cases d
              | true =>
                have := lx_trans d f
                rw [c] at this
                cases this
          · exact all z (List.mem_cons_of_mem _ hz)
theorem depthTp : ∀ gs : List (List Int), PyData.depthAll (gs.map tpD) ≤ 2
  | [] => by simp [PyData.depthAll]
  | g :: gs => by
    have h := depthTp gs
    have h2 : ∀ l : List Int, PyData.depthAll (l.map PyData.int) ≤ 1 := fun l => by
      induction l with
      | nil => simp [PyData.depthAll]
      | cons x l ih => simp only [List.map_cons, PyData.depthAll, PyData.depth]; omega
    have h3 := h2 g
    simp only [List.map_cons, PyData.depthAll, tpD, PyData.depth]
    omega
def rMinDef (K : PySem.W.Frag) : List V → List V → Hp → VK → Prop := fun vs zs H Q => ∃ (a : Addr) (ws : List V) (gs : List (List Int)), vs = [V.ref a] ∧ zs = [.non] ∧ SqL K H a ws ∧ DpAll K H ws (gs.map tpD) ∧ (gs = [] → Q .non H) ∧
  ∀ (i : Nat) (v : V) (g : List Int), ws[i]? = some v → gs[i]? = some g → (∀ z ∈ gs, lx z g = false) → Q v H
theorem cr_minDef {X : Cx} (hc : X.calm = true) (hu : X.A.units + 64 < cLine) : CallRK X (.builtin "min") [Str.ofString "default"] (rMinDef X.K) := by
  intro pins s σ H vs zs us ws Q I r rz h
  obtain ⟨a, wv, gs, rfl, rfl, sq, dp, q0, q⟩ := h
  obtain rfl := Vals.ref1 r
  obtain ⟨w1, rfl, e1⟩ := vals1 rz
  obtain rfl : w1 = Value.none := e1
  obtain ⟨its, rv, hl, hz⟩ := I.list sq
  obtain ⟨as, rd⟩ := Dp.readsAll I _ _ _ dp rv
  have dt := depthTp gs
  refine PySem.W.min_list_default (I.ok.hd hc) hl.isList (by simpa using rd) ⟨fun x hx y hy => ?_, fun x hx e => ?_⟩ (by omega) (fun e h' tk hk => ?_) fun y ys i v h' tk bs e ev rd2 hk => ?_
  · obtain ⟨g, _, rfl⟩ := List.mem_map.mp hx
    obtain ⟨g', _, rfl⟩ := List.mem_map.mp hy
    exact alikeInts g g'
  · obtain ⟨g, _, rfl⟩ := List.mem_map.mp hx
    cases e
  · exact ⟨.non, H, I.kept hk, rfl, q0 (List.map_eq_nil_iff.mp e)⟩
  · cases gs with
    | nil => cases e
    | cons g0 gs =>
      rw [List.map_cons] at e
      obtain ⟨rfl, rfl⟩ := List.cons.inj e
      obtain ⟨g, eg, m, all⟩ := minD_lx gs g0
      rw [eg] at rd2
      rw [List.getElem?_toArray] at ev
      have il : i < wv.length := by
        have := (List.getElem?_eq_some_iff.mp ev).1
        have := rv.length
        omega
      have ew : wv[i]? = some wv[i] := List.getElem?_eq_getElem il
      obtain ⟨u, eu, ru⟩ := valsAt rv ew
      rw [ev] at eu
      cases eu
      obtain ⟨cs, r3, li, _, _⟩ := PySem.W.readsAll_at (by simpa using rd) i v ev
      have e4 := (Reads.unique (PySem.W.reads_keeps hk r3) _ _ rd2).1
      have lg : i < (g0 :: gs).length := by simpa using li
      have eg2 : (g0 :: gs)[i]? = some (g0 :: gs)[i] := List.getElem?_eq_getElem lg
      have e5 : (List.map tpD (g0 :: gs)).getD i .none = tpD (g0 :: gs)[i] := by
        rw [List.getD_eq_getElem?_getD, List.getElem?_map, eg2]
        rfl
      rw [List.map_cons] at e5
      rw [e5] at e4
      have e6 : (g0 :: gs)[i] = g := by
        have z := PyData.tuple.inj e4
        exact (List.map_inj_right (f := PyData.int) (fun _ _ h => PyData.int.inj h)).mp z
      rw [e6] at eg2
      exact ⟨wv[i], H, I.kept hk, ru, q i _ g ew eg2 all⟩
/-- a star among the items, within a block -/
theorem pa_starK {X : Cx} {K : PySem.W.Frag} {e : Expr} {es : List Expr} {te : TE} {t : TA} {p : Pos} (he : PE X e te) (hr : PA X es t) (hK : X.K = K := by rfl) (hs : starEach (.Starred e p :: es) X.env = (true, eval e X.env) :: starEach es X.env := by rfl) : PA X (.Starred e p :: es) (StX.tStar K te t) := by
  subst hK
  exact StX.pa_star he hr hs
end Pl
/-! zip(t, l) of a tuple and a list; len(set(t)) of a tuple of ints -/
namespace ZM
open PySem PySem.Spec
section
variable {prog : Program} {w : World} {A : Around} {E : Value → Shared → Prop} {s : Shared} {z TI TO i1 i2 l1 l2 : Addr} {k : Nat} {xs ys : Array Value} {x y a b : Value}
/-- the next pair of a zip over a tuple and a list -/
theorem next_item {Q : Value → Shared → Prop} (D : ZipApart z TI TO i1 i2 l1 l2) (hz : IsZip s.heap z TI TO .none) (hTI : IsPair s.heap TI (.ref i1) (.ref i2)) (hTO : IsPair s.heap TO a b)
    (h1 : s.heap.IsTupleIter i1 l1 k) (h2 : s.heap.IsListIter i2 l2 k) (hl1 : s.heap.IsTuple l1 xs) (hl2 : s.heap.IsList l2 ys) (hx : xs[k]? = some x) (hy : ys[k]? = some y)
    (hQ : ∀ h', IsZip h' z TI TO (rawInt s.heap.objs.size) → IsPair h' TO x y → h'.IsTupleIter i1 l1 (k + 1) → h'.IsListIter i2 l2 (k + 1) → IsPair h' s.heap.objs.size x y → h'.objs.size = s.heap.objs.size + 1 →
      (∀ c o, c ≠ z → c ≠ TO → c ≠ i1 → c ≠ i2 → s.heap.get? c = some o → h'.get? c = some o) → Q (.ref s.heap.objs.size) { s with heap := h' }) :
    wpAny (model prog w) A (Builtin.«zip.__next__» ⟨[.ref z], []⟩) (fun fin s' => ∃ v, fin = .done (.ret v) ∧ Q v s') E s := by
  show wpAny _ _ (field (.ref z) 2 >>= _) _ _ _
  refine wpAny_bind (wpAny_field hz rfl (x := .bool false) rfl ?_)
  show wpAny _ _ (field (.ref z) 3 >>= _) _ _ _
  refine wpAny_bind (wpAny_field hz rfl (x := .ref TI) rfl (wpAny_bind (wpAny_seqItems hTI rfl ?_)))
  show wpAny _ _ (Builtin.SmallTypes.ownedTupleIsFree (.ref z) >>= _) _ _ _
  refine wpAny_bind ?_
  unfold Builtin.SmallTypes.ownedTupleIsFree
  refine wpAny_bind (wpAny_field hz rfl (x := .none) rfl (wpAny_pure ?_))
  simp only [if_true]
  refine wpAny_bind (wpAny_rule (wpAny_bind (wpAny_field hz rfl (x := .ref TO) rfl (wpAny_bind (wpAny_setField_rec hz (by simp) fun g1 z1 c1 => ?_)))))
  have z1 : IsZip g1 z TI TO .ellipsis := z1
  refine wpAny_bind ?_
  simp only [List.zipIdx_cons, List.zipIdx_nil, List.forIn_cons, List.forIn_nil]
  refine wpAny_bind (wpAny_bind (wpAny_onRaise ?_))
  show wpAny _ _ (Builtin.SmallTypes.nextOf (.ref i1) >>= _) _ _ _
  refine wpAny_bind (RZ.nextOf_tuple_item (h1.extBut c1.extBut D.i1z) (hl1.extBut c1.extBut D.l1z) hx fun g2 n1 c2 => wpAny_pure ?_)
  have t2 : IsPair g2 TO a b := c2.extBut _ _ D.TOi1 (c1.extBut _ _ D.TOz hTO)
  refine wpAny_bind (wpAny_seqItems t2 rfl (wpAny_bind (wpAny_updateSeq_pair t2 fun g3 t3 c3 => wpAny_bind (wpAny_letGo (wpAny_pure ?_)))))
  have t3 : IsPair g3 TO x b := t3
  refine wpAny_bind (wpAny_bind (wpAny_onRaise ?_))
  show wpAny _ _ (Builtin.SmallTypes.nextOf (.ref i2) >>= _) _ _ _
  refine wpAny_bind (wpAny_nextOf_list_item (((h2.extBut c1.extBut D.i2z).extBut c2.extBut D.i12.symm).extBut c3.extBut D.TOi2.symm) (((hl2.extBut c1.extBut D.l2z).extBut c2.extBut D.l2i1).extBut c3.extBut D.l2TO) hy fun g4 n2 c4 => wpAny_pure ?_)
  have t4 : IsPair g4 TO x b := c4.extBut _ _ D.TOi2 t3
  refine wpAny_bind (wpAny_seqItems t4 rfl (wpAny_bind (wpAny_updateSeq_pair t4 fun g5 t5 c5 => wpAny_bind (wpAny_letGo (wpAny_pure (wpAny_pure ?_))))))
  have t5 : IsPair g5 TO x y := t5
  refine wpAny_bind (wpAny_seqItems t5 rfl (wpAny_bind (wpAny_newTuple ?_)))
  have sz : g5.objs.size = s.heap.objs.size := by rw [c5.1, c4.1, c3.1, c2.1, c1.1]
  have z5 : IsZip g5 z TI TO .ellipsis := c5.extBut _ _ D.TOz.symm (c4.extBut _ _ D.i2z.symm (c3.extBut _ _ D.TOz.symm (c2.extBut _ _ D.i1z.symm z1)))
  have m1 := ((n1.extBut c3.extBut D.TOi1.symm).extBut c4.extBut D.i12).extBut c5.extBut D.TOi1.symm
  have m2 := n2.extBut c5.extBut D.TOi2.symm
  have lz : z < g5.objs.size := Heap.lt_size z5
  show wpAny _ _ (Builtin.SmallTypes.ownedTupleHandOut (.ref z) (.ref g5.objs.size) >>= _) _ _ _
  refine wpAny_bind ?_
  unfold Builtin.SmallTypes.ownedTupleHandOut
  have z6 : IsZip (g5.push { cls := .type "tuple", data := .seq #[x, y] }) z TI TO .ellipsis := Heap.get?_push_of_some _ z5
  refine wpAny_bind (wpAny_setField_rec z6 (by simp) fun g7 z7 c7 => ?_)
  have z7 : IsZip g7 z TI TO (rawInt g5.objs.size) := z7
  refine wpAny_setField_rec z7 (by simp) fun g8 z8 c8 => wpAny_pure ⟨_, rfl, ?_⟩
  have z8 : IsZip g8 z TI TO (rawInt g5.objs.size) := z8
  have up : ∀ c o, c ≠ z → g5.get? c = some o → g8.get? c = some o := fun c o n e => c8.extBut _ _ n (c7.extBut _ _ n (Heap.get?_push_of_some _ e))
  have new : IsPair g8 g5.objs.size x y := c8.extBut _ _ (Nat.ne_of_gt lz) (c7.extBut _ _ (Nat.ne_of_gt lz) (Heap.get?_push_size _ rfl))
  have s8 : g8.objs.size = g5.objs.size + 1 := by rw [c8.1, c7.1, Heap.size_push]
  show Q (.ref g5.objs.size) _
  rw [sz] at z8 new s8 ⊢
  exact hQ g8 z8 (up _ _ D.TOz t5) (m1.at fun o e => up _ o D.i1z e) (m2.at fun o e => up _ o D.i2z e) new s8 fun c o n1 n2 n3 n4 e => up c o n1 (c5.extBut _ _ n2 (c4.extBut _ _ n4 (c3.extBut _ _ n2 (c2.extBut _ _ n3 (c1.extBut _ _ n1 e)))))
theorem next_end {Q : Fin → Shared → Prop} (hh : A.handled = none) (D : ZipApart z TI TO i1 i2 l1 l2) (hz : IsZip s.heap z TI TO .none) (hTI : IsPair s.heap TI (.ref i1) (.ref i2)) (hTO : IsPair s.heap TO a b)
    (h1 : s.heap.IsTupleIter i1 l1 k) (h2 : s.heap.IsListIter i2 l2 k) (hl1 : s.heap.IsTuple l1 xs) (hl2 : s.heap.IsList l2 ys) (hend : xs[k]? = none ∨ ys[k]? = none)
    (hE : ∀ h' e, (∀ c o, c ≠ z → c ≠ TO → c ≠ i1 → c ≠ i2 → s.heap.get? c = some o → h'.get? c = some o) → (∃ o, h'.get? e = some o ∧ o.cls = .type "StopIteration") → E (.ref e) { s with heap := h' }) :
    wpAny (model prog w) A (Builtin.«zip.__next__» ⟨[.ref z], []⟩) Q E s := by
  show wpAny _ _ (field (.ref z) 2 >>= _) _ _ _
  refine wpAny_bind (wpAny_field hz rfl (x := .bool false) rfl ?_)
  show wpAny _ _ (field (.ref z) 3 >>= _) _ _ _
  refine wpAny_bind (wpAny_field hz rfl (x := .ref TI) rfl (wpAny_bind (wpAny_seqItems hTI rfl ?_)))
  show wpAny _ _ (Builtin.SmallTypes.ownedTupleIsFree (.ref z) >>= _) _ _ _
  refine wpAny_bind ?_
  unfold Builtin.SmallTypes.ownedTupleIsFree
  refine wpAny_bind (wpAny_field hz rfl (x := .none) rfl (wpAny_pure ?_))
  simp only [if_true]
  refine wpAny_bind (wpAny_rule (wpAny_bind (wpAny_field hz rfl (x := .ref TO) rfl (wpAny_bind (wpAny_setField_rec hz (by simp) fun g1 z1 c1 => ?_)))))
  have z1 : IsZip g1 z TI TO .ellipsis := z1
  refine wpAny_bind ?_
  simp only [List.zipIdx_cons, List.zipIdx_nil, List.forIn_cons, List.forIn_nil]
  refine wpAny_bind (wpAny_bind (wpAny_onRaise ?_))
  show wpAny _ _ (Builtin.SmallTypes.nextOf (.ref i1) >>= _) _ _ _
  have stop : ∀ (g : Heap) (e : Addr), IsZip g z TI TO .ellipsis → (∃ o, g.get? e = some o ∧ o.cls = .type "StopIteration") → e ≠ z := fun g e gz ⟨o, ho, hc⟩ q => by
    subst q
    rw [gz] at ho
    cases ho
    simp at hc
  cases ex : xs[k]? with
  | none =>
    refine wpAny_bind (RZ.nextOf_tuple_end hh (h1.extBut c1.extBut D.i1z) (hl1.extBut c1.extBut D.l1z) ex fun g2 e c2 he => ?_)
    have z2 : IsZip g2 z TI TO .ellipsis := c2 _ _ D.i1z.symm z1
    have ne := stop g2 e z2 he
    obtain ⟨o, ho, hc⟩ := he
    exact wpAny_setField_rec z2 (by simp) fun g3 _ c3 => hE g3 e (fun c o n1 _ n3 _ q => c3.extBut _ _ n1 (c2 _ _ n3 (c1.extBut _ _ n1 q))) ⟨o, c3.extBut _ _ ne ho, hc⟩
  | some x =>
    have ey : ys[k]? = none := by
      rcases hend with q | q
      · rw [ex] at q; cases q
      · exact q
    refine wpAny_bind (RZ.nextOf_tuple_item (h1.extBut c1.extBut D.i1z) (hl1.extBut c1.extBut D.l1z) ex fun g2 n1 c2 => wpAny_pure ?_)
    have t2 : IsPair g2 TO a b := c2.extBut _ _ D.TOi1 (c1.extBut _ _ D.TOz hTO)
    refine wpAny_bind (wpAny_seqItems t2 rfl (wpAny_bind (wpAny_updateSeq_pair t2 fun g3 t3 c3 => wpAny_bind (wpAny_letGo (wpAny_pure ?_)))))
    refine wpAny_bind (wpAny_bind (wpAny_onRaise ?_))
    show wpAny _ _ (Builtin.SmallTypes.nextOf (.ref i2) >>= _) _ _ _
    refine wpAny_bind (wpAny_nextOf_list_end hh (((h2.extBut c1.extBut D.i2z).extBut c2.extBut D.i12.symm).extBut c3.extBut D.TOi2.symm) (((hl2.extBut c1.extBut D.l2z).extBut c2.extBut D.l2i1).extBut c3.extBut D.l2TO) ey fun g4 e c4 he => ?_)
    have z4 : IsZip g4 z TI TO .ellipsis := c4 _ _ D.i2z.symm (c3.extBut _ _ D.TOz.symm (c2.extBut _ _ D.i1z.symm z1))
    have ne := stop g4 e z4 he
    obtain ⟨o, ho, hc⟩ := he
    exact wpAny_setField_rec z4 (by simp) fun g5 _ c5 => hE g5 e (fun c o n1 n2 n3 n4 q => c5.extBut _ _ n1 (c4 _ _ n4 (c3.extBut _ _ n2 (c2.extBut _ _ n3 (c1.extBut _ _ n1 q))))) ⟨o, c5.extBut _ _ ne ho, hc⟩
theorem py_item {Q : Option Value → Shared → Prop} (D : ZipApart z TI TO i1 i2 l1 l2) (hz : IsZip s.heap z TI TO .none) (hTI : IsPair s.heap TI (.ref i1) (.ref i2)) (hTO : IsPair s.heap TO a b)
    (h1 : s.heap.IsTupleIter i1 l1 k) (h2 : s.heap.IsListIter i2 l2 k) (hl1 : s.heap.IsTuple l1 xs) (hl2 : s.heap.IsList l2 ys) (hx : xs[k]? = some x) (hy : ys[k]? = some y)
    (hQ : ∀ h', IsZip h' z TI TO (rawInt s.heap.objs.size) → IsPair h' TO x y → h'.IsTupleIter i1 l1 (k + 1) → h'.IsListIter i2 l2 (k + 1) → IsPair h' s.heap.objs.size x y → h'.objs.size = s.heap.objs.size + 1 →
      (∀ c o, c ≠ z → c ≠ TO → c ≠ i1 → c ≠ i2 → s.heap.get? c = some o → h'.get? c = some o) → Q (some (.ref s.heap.objs.size)) { s with heap := h' }) :
    wpAny (model prog w) A (pyNext (.ref z)) Q E s := by
  have hT : s.TypeIs (.ref z) "zip" := ⟨_, hz, rfl⟩
  unfold pyNext
  exact wpAny_bind (wpAny_attempt (wpAny_callSpecial?_slot (name := Str.ofString "__next__") hT F.slot_zip_next (wpAny_call_entry F.slot_zip_next hT F.entry_zip_next
    (next_item D hz hTI hTO h1 h2 hl1 hl2 hx hy fun h' a1 a2 a3 a4 a5 a6 a7 => wpAny_pure (hQ h' a1 a2 a3 a4 a5 a6 a7)) (F.args_zip_next_1 _))))
theorem py_end {Q : Option Value → Shared → Prop} (hh : A.handled = none) (D : ZipApart z TI TO i1 i2 l1 l2) (hz : IsZip s.heap z TI TO .none) (hTI : IsPair s.heap TI (.ref i1) (.ref i2)) (hTO : IsPair s.heap TO a b)
    (h1 : s.heap.IsTupleIter i1 l1 k) (h2 : s.heap.IsListIter i2 l2 k) (hl1 : s.heap.IsTuple l1 xs) (hl2 : s.heap.IsList l2 ys) (hend : xs[k]? = none ∨ ys[k]? = none)
    (hQ : ∀ h', (∀ c o, c ≠ z → c ≠ TO → c ≠ i1 → c ≠ i2 → s.heap.get? c = some o → h'.get? c = some o) → Q none { s with heap := h' }) : wpAny (model prog w) A (pyNext (.ref z)) Q E s := by
  have hT : s.TypeIs (.ref z) "zip" := ⟨_, hz, rfl⟩
  unfold pyNext
  refine wpAny_bind (wpAny_attempt (wpAny_callSpecial?_slot (name := Str.ofString "__next__") hT F.slot_zip_next (wpAny_call_entry F.slot_zip_next hT F.entry_zip_next (next_end hh D hz hTI hTO h1 h2 hl1 hl2 hend fun h' e hk ⟨o, ho, hc⟩ => ?_) (F.args_zip_next_1 _))))
  exact wpAny_bind (wpAny_isInstance (T := "StopIteration") (b := true) ⟨o, ho, hc⟩ isSubtype_stop (wpAny_pure (hQ _ hk)))
end
/-- the five objects of zip(t, l) -/
def objs5 (h : Heap) (l1 l2 : Addr) : Heap :=
  ((((h.push { cls := .type "tuple_iterator", data := .fields #[.ref l1, .int 0 0] }).push { cls := .type "list_iterator", data := .fields #[.ref l2, .int 0 0] }).push { cls := .type "tuple", data := .seq #[.ref h.objs.size, .ref (h.objs.size + 1)] }).push { cls := .type "tuple", data := .seq #[.none, .none] }).push
    { cls := .type "zip", data := .fields #[.none, .bool false, .bool false, .ref (h.objs.size + 2), .ref (h.objs.size + 3)] }
theorem meets_new (l1 l2 : Addr) (xs ys : Array Value) :
    Meets (Builtin.«zip.__new__» ⟨[.type "zip", .ref l1, .ref l2], []⟩) (fun _ R s => s.heap.IsTuple l1 xs ∧ s.heap.IsList l2 ys ∧ R (.ok (.ret (.ref (s.heap.objs.size + 4)))) { s with heap := objs5 s.heap l1 l2 }) :=
  .of_wp fun prog w A R s h => by
    obtain ⟨hp, g, d, tk, os⟩ := s
    obtain ⟨hl1, hl2, h⟩ := h
    have hsub := sub_zip
    have hL1 : Heap.IsTuple (Shared.heap ⟨hp, g, d, tk, os⟩) l1 xs := hl1
    have hL2 : Heap.IsList (Shared.heap ⟨hp.push { cls := .type "tuple_iterator", data := .fields #[.ref l1, .int 0 0] }, g, d, tk, os⟩) l2 ys := hl2.push _
    have e1 : (hp.push { cls := .type "tuple_iterator", data := .fields #[.ref l1, .int 0 0] }).objs.size = hp.objs.size + 1 := Heap.size_push ..
    have e2 : ((hp.push { cls := .type "tuple_iterator", data := .fields #[.ref l1, .int 0 0] }).push { cls := .type "list_iterator", data := .fields #[.ref l2, .int 0 0] }).objs.size = hp.objs.size + 2 := by rw [Heap.size_push, e1]
    wp_walk using wpAny_pyIter_tuple hL1, wpAny_pyIter_list hL2
    refine ⟨_, rfl, ?_⟩
    simp only [Heap.size_push]
    exact h
theorem call_new {l1 l2 : Addr} {xs ys : Array Value} {prog : Program} {w : World} {A : Around} {E : Value → Shared → Prop} {s : Shared} {Q : Value → Shared → Prop} (hl1 : s.heap.IsTuple l1 xs) (hl2 : s.heap.IsList l2 ys)
    (h : ∀ h', IsZip h' (s.heap.objs.size + 4) (s.heap.objs.size + 2) (s.heap.objs.size + 3) .none → IsPair h' (s.heap.objs.size + 2) (.ref s.heap.objs.size) (.ref (s.heap.objs.size + 1)) → IsPair h' (s.heap.objs.size + 3) .none .none →
      h'.IsTupleIter s.heap.objs.size l1 0 → h'.IsListIter (s.heap.objs.size + 1) l2 0 → h'.objs.size = s.heap.objs.size + 5 → (∀ c o, s.heap.get? c = some o → h'.get? c = some o) → Q (.ref (s.heap.objs.size + 4)) { s with heap := h' }) :
    wpAny (model prog w) A (call (.type "zip") [.ref l1, .ref l2]) Q E s := by
  refine callType_new F.called_zip (by decide) (F.typeCall_zip_2 _ _) (F.newCall_zip_2 _ _) (fun obj => F.args_object_init_3 obj _ _) F.entry_zip_new (meets_new l1 l2 xs ys) ⟨hl1, hl2, ?_⟩
  generalize ho1 : ({ cls := .type "tuple_iterator", data := .fields #[.ref l1, .int 0 0] } : Obj) = o1
  generalize ho2 : ({ cls := .type "list_iterator", data := .fields #[.ref l2, .int 0 0] } : Obj) = o2
  generalize ho3 : ({ cls := .type "tuple", data := .seq #[.ref s.heap.objs.size, .ref (s.heap.objs.size + 1)] } : Obj) = o3
  generalize ho4 : ({ cls := .type "tuple", data := .seq #[.none, .none] } : Obj) = o4
  generalize ho5 : ({ cls := .type "zip", data := .fields #[.none, .bool false, .bool false, .ref (s.heap.objs.size + 2), .ref (s.heap.objs.size + 3)] } : Obj) = o5
  have e : objs5 s.heap l1 l2 = ((((s.heap.push o1).push o2).push o3).push o4).push o5 := by rw [← ho1, ← ho2, ← ho3, ← ho4, ← ho5]; rfl
  have z1 : (s.heap.push o1).objs.size = s.heap.objs.size + 1 := Heap.size_push ..
  have z2 : ((s.heap.push o1).push o2).objs.size = s.heap.objs.size + 2 := by rw [Heap.size_push, z1]
  have z3 : (((s.heap.push o1).push o2).push o3).objs.size = s.heap.objs.size + 3 := by rw [Heap.size_push, z2]
  have z4 : ((((s.heap.push o1).push o2).push o3).push o4).objs.size = s.heap.objs.size + 4 := by rw [Heap.size_push, z3]
  have n1 : o1.isFreed = false := by rw [← ho1]; rfl
  have n2 : o2.isFreed = false := by rw [← ho2]; rfl
  have n3 : o3.isFreed = false := by rw [← ho3]; rfl
  have n4 : o4.isFreed = false := by rw [← ho4]; rfl
  have n5 : o5.isFreed = false := by rw [← ho5]; rfl
  have g5 := Heap.get?_push_size ((((s.heap.push o1).push o2).push o3).push o4) n5
  have g4 := Heap.get?_push_of_some o5 (Heap.get?_push_size (((s.heap.push o1).push o2).push o3) n4)
  have g3 := Heap.get?_push_of_some o5 (Heap.get?_push_of_some o4 (Heap.get?_push_size ((s.heap.push o1).push o2) n3))
  have g2 := Heap.get?_push_of_some o5 (Heap.get?_push_of_some o4 (Heap.get?_push_of_some o3 (Heap.get?_push_size (s.heap.push o1) n2)))
  have g1 := Heap.get?_push_of_some o5 (Heap.get?_push_of_some o4 (Heap.get?_push_of_some o3 (Heap.get?_push_of_some o2 (Heap.get?_push_size s.heap n1))))
  rw [z4] at g5
  rw [z3] at g4
  rw [z2] at g3
  rw [z1] at g2
  rw [← e] at g1 g2 g3 g4 g5
  subst ho1 ho2 ho3 ho4 ho5
  exact ⟨⟨_, g5, rfl⟩, h _ g5 g3 g4 ⟨_, g1, rfl, rfl⟩ ⟨_, g2, rfl, rfl⟩ (by rw [e, Heap.size_push, z4]) fun c o x => by
    rw [e]
    exact Heap.get?_push_of_some _ (Heap.get?_push_of_some _ (Heap.get?_push_of_some _ (Heap.get?_push_of_some _ (Heap.get?_push_of_some _ x))))⟩
end ZM
namespace Pl
open PySem PySem.Spec PyProof.Rows L2
/-- the tuple at a and the list at b as they stand at each turn, the items in new pairs -/
def ItzM (K : PySem.W.Frag) (a b : Addr) : It :=
  ⟨fun i H => ∃ (xs ys : List V) (x y : V), SqT K H a xs ∧ SqL K H b ys ∧ xs[i]? = some x ∧ ys[i]? = some y,
    fun i H v H' => ∃ T x y, v = .ref T ∧ H T = none ∧ H' = upd H T (.tup [x, y]) ∧ (∀ xs, SqT K H a xs → xs[i]? = some x) ∧ ∀ ys, SqL K H b ys → ys[i]? = some y,
    fun i H => ∃ xs ys : List V, SqT K H a xs ∧ SqL K H b ys ∧ (xs.length ≤ i ∨ ys.length ≤ i)⟩
theorem list_inj {X : Cx} {pins : List (Addr × Obj)} {σ : L2.St} {H : Hp} {s : Shared} {a : Addr} {xs ys : List V} (I : Inv X pins σ H s) (h : SqL X.K H a xs) (h' : SqL X.K H a ys) : xs = ys := I.list_inj h h'
theorem turn_zipM {P : Program} {w : World} {K : PySem.W.Frag} {elts : List Expr} {kk : Nat} {tpos : Pos} {a b z TI TO i1 i2 : Addr} (D : ZipApart z TI TO i1 i2 a b) :
    Turn P w K (.Tuple elts kk tpos) (ItzM K a b) [z, TI, TO, i1, i2] z (fun i h => IsZip h z TI TO .none ∧ PySem.IsPair h TI (.ref i1) (.ref i2) ∧ (∃ x y, PySem.IsPair h TO x y) ∧ h.IsTupleIter i1 a i ∧ h.IsListIter i2 b i) where
  mem := by simp
  obj := fun i h st c hc => by
    obtain ⟨hz, hTI, ⟨x, y, hTO⟩, ⟨o1, e1, _, d1⟩, ⟨o2, e2, _, d2⟩⟩ := st
    rcases (by simpa using hc : c = z ∨ c = TI ∨ c = TO ∨ c = i1 ∨ c = i2) with q | q | q | q | q <;> rw [q]
    · exact ⟨_, hz, fun v q => nomatch q⟩
    · exact ⟨_, hTI, fun v q => nomatch q⟩
    · exact ⟨_, hTO, fun v q => nomatch q⟩
    · exact ⟨o1, e1, fun v q => by rw [d1] at q; cases q⟩
    · exact ⟨o2, e2, fun v q => by rw [d2] at q; cases q⟩
  keep := fun i h h' st k => by
    obtain ⟨hz, hTI, ⟨x, y, hTO⟩, h1, h2⟩ := st
    exact ⟨k z (by simp) _ hz, k TI (by simp) _ hTI, ⟨x, y, k TO (by simp) _ hTO⟩, h1.at fun o q => k i1 (by simp) o q, h2.at fun o q => k i2 (by simp) o q⟩
  item := by
    intro X hP hw hK hc i pins s σ H E I hf st hg
    subst hP hw hK
    obtain ⟨hz, hTI, ⟨x0, y0, hTO⟩, h1, h2⟩ := st
    obtain ⟨xs, ys, x, y, hqx, hqy, hx, hy⟩ := hg
    obtain ⟨its, rv, p, _⟩ := I.tuple hqx
    obtain ⟨its2, rv2, p2, _⟩ := I.list hqy
    obtain ⟨u, hu, ru⟩ := rv.get hx
    obtain ⟨u2, hu2, ru2⟩ := rv2.get hy
    have hzl : z < s.heap.objs.size := Heap.lt_size hz
    refine ZM.py_item D hz hTI hTO h1 h2 p p2.isList (x := u) (y := u2) (by simpa using hu) (by simpa using hu2) fun h' z' TO' h1' h2' hT hsz hk => ?_
    refine ⟨_, rfl, wpAny_letOwnedTupleGo_zip (s := { s with heap := h' }) z' fun h'' z'' sb => ?_⟩
    have hT2 : h''.get? s.heap.objs.size = some { cls := .type "tuple", data := .seq #[u, u2] } := (sb.2 _ (Nat.ne_of_gt hzl)).trans hT
    have new : ObjOk X.prog X.w (upd H s.heap.objs.size (.tup [x, y])) h'' s.heap.objs.size (.tup [x, y]) := ⟨by show 2 ≤ sizeLine; decide, [u, u2], .cons ru (.cons ru2 .nil), ⟨_, hT2, rfl, _, rfl⟩⟩
    have I1 : Inv X pins σ (upd H s.heap.objs.size (.tup [x, y])) { s with heap := h'' } :=
      I.turnedNew (t' := s.toks) (ch := [z, TI, TO, i1, i2]) (fun c o hb q => (sb.2 c (fun q' => hb (by simp [q']))).trans (hk c o (fun q' => hb (by simp [q'])) (fun q' => hb (by simp [q'])) (fun q' => hb (by simp [q'])) (fun q' => hb (by simp [q'])) q)) hf (Nat.le_refl _) new
    refine ⟨.ref s.heap.objs.size, _, I1, rfl, ⟨_, x, y, rfl, I.hok.fresh (Nat.le_refl _), rfl, fun l hl => by rw [I.tuple_inj hl hqx]; exact hx, fun l hl => by rw [list_inj I hl hqy]; exact hy⟩, ⟨z'', ?_, ⟨u, u2, ?_⟩, ?_, ?_⟩, fun c hcm => ?_⟩
    · exact (sb.2 _ D.TIz).trans (hk _ _ D.TIz D.TITO D.TIi1 D.TIi2 hTI)
    · exact (sb.2 _ D.TOz).trans TO'
    · exact h1'.at fun o q => (sb.2 _ D.i1z).trans q
    · exact h2'.at fun o q => (sb.2 _ D.i2z).trans q
    · have hlt : c < s.heap.objs.size := by
        rcases (by simpa using hcm : c = z ∨ c = TI ∨ c = TO ∨ c = i1 ∨ c = i2) with q | q | q | q | q <;> rw [q]
        · exact hzl
        · exact Heap.lt_size hTI
        · exact Heap.lt_size hTO
        · obtain ⟨_, e1, _⟩ := h1; exact Heap.lt_size e1
        · obtain ⟨_, e2, _⟩ := h2; exact Heap.lt_size e2
      rw [upd_ne (Nat.ne_of_lt hlt)]
      exact (hf c hcm).1
  done := by
    intro X hP hw hK hc i pins s σ H E I hf st hg
    subst hP hw hK
    obtain ⟨hz, hTI, ⟨x0, y0, hTO⟩, h1, h2⟩ := st
    obtain ⟨xs, ys, hqx, hqy, hend⟩ := hg
    obtain ⟨its, rv, p, _⟩ := I.tuple hqx
    obtain ⟨its2, rv2, p2, _⟩ := I.list hqy
    have l1 := rv.length
    have l2 := rv2.length
    have he : its.toArray[i]? = none ∨ its2.toArray[i]? = none := by
      rcases hend with q | q
      · exact .inl (by simp; omega)
      · exact .inr (by simp; omega)
    exact ZM.py_end (I.ok.hd hc) D hz hTI hTO h1 h2 p p2.isList he fun h' hk => ⟨rfl, I.turnedL (t' := s.toks) (ch := [z, TI, TO, i1, i2]) (fun c o hb q =>
      hk c o (fun q' => hb (by simp [q'])) (fun q' => hb (by simp [q'])) (fun q' => hb (by simp [q'])) (fun q' => hb (by simp [q'])) q) hf⟩
  self := fun A i s Q E st h => wpAny_pyIter_zip st.1 h
def iZipM (K : PySem.W.Frag) (ta : TA) : TI := fun σ H R => ta σ H fun vs H1 => ∃ a b xs ys, vs = [.ref a, .ref b] ∧ SqT K H1 a xs ∧ SqL K H1 b ys ∧ R (ItzM K a b) H1
theorem pi_zipM {X : Cx} {e e2 : Expr} {ta : TA} {p pos tpos : Pos} {elts : List Expr} {kk : Nat} (hg : Gl X "zip") (hm : X.mg "zip" = none) (ha : PA X [e, e2] ta)
    (hs : starEach [e, e2] X.env = (false, eval e X.env) :: starEach [e2] X.env := by rfl) (hpl : (backTo pos (starEach [e2] X.env)).any (·.1) = false := by rfl) :
    PI X (.Tuple elts kk tpos) (.Call (.Name "zip" p) [e, e2] [] pos) (iZipM X.K ta) := by
  refine ⟨fun pins s σ H R I h => ?_⟩
  refine Call_ (ld_blt I hg hm PyProof.Rows.boot_zip (PyProof.Rows.callWith_type1 (thn (ha.run pos pins s σ H _ I h) fun us s1 ⟨vs, H1, I1, r1, q1⟩ => ?_) hs hpl))
  obtain ⟨a, b, xs, ys, rfl, hqx, hqy, q⟩ := q1
  obtain ⟨u1, u2, rfl, ra, rb⟩ := vals2 r1
  cases ra
  cases rb
  obtain ⟨its, rv, p1, _⟩ := I1.tuple hqx
  obtain ⟨its2, rv2, p2, _⟩ := I1.list hqy
  obtain ⟨o1, ho1, _⟩ := id p1
  have fresh5 : ∀ c, c ∈ [s1.heap.objs.size + 4, s1.heap.objs.size + 2, s1.heap.objs.size + 3, s1.heap.objs.size, s1.heap.objs.size + 1] → FpOk X pins H1 c := fun c hcm => by
    have hle : s1.heap.objs.size ≤ c := by
      rcases (by simpa using hcm : c = s1.heap.objs.size + 4 ∨ c = s1.heap.objs.size + 2 ∨ c = s1.heap.objs.size + 3 ∨ c = s1.heap.objs.size ∨ c = s1.heap.objs.size + 1) with z | z | z | z | z <;> rw [z]
      · exact Nat.le_add_right _ _
      · exact Nat.le_add_right _ _
      · exact Nat.le_add_right _ _
      · exact Nat.le_refl _
      · exact Nat.le_add_right _ _
    exact I1.fpOk hle (I1.hok.fresh hle)
  refine ZM.call_new (show s1.heap.IsTuple a its.toArray from p1) p2.isList fun h' hz hTI hTO h1 h2 hsz hk => wpAny_pyIter_zip hz ?_
  have I2 : Inv X pins σ H1 { s1 with heap := h' } := I1.kept (t' := s1.toks) hk
  exact ⟨s1.heap.objs.size + 4, [s1.heap.objs.size + 4, s1.heap.objs.size + 2, s1.heap.objs.size + 3, s1.heap.objs.size, s1.heap.objs.size + 1], _, _, H1, rfl, I2, turn_zipM (PySem.W.ktu_apart s1.heap.objs.size a b (Heap.lt_size ho1) p2.lt), ⟨hz, hTI, ⟨_, _, hTO⟩, h1, h2⟩, fresh5, q⟩
theorem walk_zipM {K : PySem.W.Frag} {a b : Addr} {xs ys : List V} (ln : xs.length = ys.length) : Walk (ItzM K a b) xs.length (fun H => SqT K H a xs ∧ SqL K H b ys) (YPair (fun i => xs[i]?) (fun i => ys[i]?)) := by
  refine ⟨?_, ?_, ?_⟩
  · intro i H hi q
    exact ⟨xs, ys, xs[i], ys[i]'(by omega), q.1, q.2, List.getElem?_eq_getElem hi, List.getElem?_eq_getElem (by omega)⟩
  · intro H q
    exact ⟨xs, ys, q.1, q.2, .inl (Nat.le_refl _)⟩
  · rintro i H v H' hi q ⟨T, x, y, e, n, e2, h1, h2⟩
    exact ⟨T, x, y, e, n, e2, h1 xs q.1, h2 ys q.2⟩
/-! len(set(t)) of a tuple of ints -/
def tLenSetT (K : PySem.W.Frag) (ta : TE) : TE := fun σ H Q => ta σ H fun x H1 => ∃ (l : Addr) (ns : List Int), x = .ref l ∧ SqT K H1 l (ns.map V.int) ∧ ns.length ≤ 1000 ∧ ∀ ks : List Int, ks.Nodup → (∀ k, k ∈ ks ↔ k ∈ ns) → Q (.int (ks.length : Nat)) H1
theorem pe_lenSetT {X : Cx} {a : Expr} {ta : TE} {p p2 q pos : Pos} (hg : Gl X "len") (hm : X.mg "len" = none) (hg2 : Gl X "set") (hm2 : X.mg "set" = none) (ha : PE X a ta) (hc : X.calm = true := by rfl)
    (na : starEach [a] X.env = (false, eval a X.env) :: starEach [] X.env := by rfl) : PE X (.Call (.Name "len" p) [.Call (.Name "set" p2) [a] [] q] [] pos) (tLenSetT X.K ta) := by
  refine ⟨fun pins s σ H Q I h => ?_⟩
  refine Call_ (ld_blt I hg hm boot_len ?_)
  refine PyProof.Rows.callWith_builtin1 (PyProof.Rows.args_cons ?_ rfl) rfl rfl
  refine Call_ (ld_blt I hg2 hm2 PyProof.Rows.boot_set ?_)
  refine PyProof.Rows.callWith_type1 (PyProof.Rows.args_cons (thn (ha.run pins s σ H _ I h) fun v s1 ⟨x, H1, I1, r1, q1⟩ => PyProof.Rows.args_nil ?_) na) na rfl
  obtain ⟨l, ns, rfl, hq, hl, q1⟩ := q1
  cases r1
  obtain ⟨its, rv, pt, hz⟩ := I1.tuple hq
  have hi : IntsAre its.toArray.toList ns := by
    have := rv.ints
    simpa using this
  refine call_set_tupI ns (I1.ok.hd hc) (show s1.heap.IsTuple l its.toArray from pt) hi (by unfold scanBound; omega) fun h' tk c R1 hcn k => ?_
  obtain ⟨o, es, ep, t, ho, hex, hdt, g, nd, hm3, hb, hf, hn, hr, hl2⟩ := R1
  refine PyProof.Rows.args_nil ?_
  have I2 : Inv X pins σ H1 { s1 with heap := h', toks := tk } := I1.kept k
  have le : (es.toList.map keyOf).length = es.size := by rw [List.length_map, Array.length_toList]
  refine call_len_set ho hex hdt hf (by rw [hn]; omega) ⟨.int ((es.toList.map keyOf).length : Nat), H1, I2.tok _, ⟨_, by rw [le]⟩, q1 _ nd fun j => ?_⟩
  rw [← hm3 j]
  exact decide_eq_true_iff
/-- b is not True -/
def rIsntBl : R2 := fun x y H Q => ∃ b c : Bool, x = .bl b ∧ y = .bl c ∧ Q (.bl (!decide (b = c))) H
theorem op_isnotBl {X : Cx} : OpR X (compareOp .IsNot) rIsntBl := by
  intro pins s σ H x y v u Q I rx ry h
  obtain ⟨b, c, rfl, rfl, q⟩ := h
  cases rx
  cases ry
  show wpAny _ _ ((isSame (Value.bool b) (Value.bool c)) >>= fun z => pure (Value.bool (!z))) _ _ s
  exact wpAny_bind (wpAny_isSame_plain (by cases b <;> cases c <;> rfl) (wpAny_pure (fin_bl I q (by cases b <;> cases c <;> rfl))))
end Pl

namespace Pl
open PySem PySem.Spec PyProof.Rows L2
/-! methods of lists within a comprehension -/
theorem pe_bmK {X : Cx} {K : PySem.W.Frag} {o e : Expr} {es : List Expr} {to : TE} {t : TA} {name : Str} {apos cpos : Pos} {T id : String} {r : V → List V → Hp → VK → Prop} (pa : PlainAttrs T) (slot : Slot T name id) (hty : typeOf (.builtin id) = pure (.type "method_descriptor")) (hm : MtR X id r) (ho : PE X o to) (ha : PA X (e :: es) t) (hK : X.K = K := by rfl)
    (hbase : attributeBase o name X.env (eval o X.env) = eval o X.env := by rfl)
    (hfew : ((backTo cpos (starEach (e :: es) X.env)).all (fun x => !x.1) && (backToKw cpos (keywordEach [] X.env)).all (fun x => x.1.isSome)
      && decide ((e :: es).length + ([] : List Keyword).length + (if ([] : List Keyword).isEmpty then 0 else 1) < 30)) = true := by rfl)
    (hline : (apos.endLine == cpos.line) = true := by rfl) (hs : starEach (e :: es) X.env = (false, eval e X.env) :: starEach es X.env := by rfl) (hplain : (backTo cpos (starEach es X.env)).any (·.1) = false := by rfl) :
    PE X (.Call (.Attribute o name apos) (e :: es) [] cpos) (tBM K T r to t) := by
  subst hK
  exact pe_bm pa slot hty hm ho ha hbase hfew hline hs hplain
end Pl
namespace Pl
open PySem PySem.Spec PyProof.Rows L2
/-! str of a list or a tuple -/
section
variable {X : Cx}
def rStrD (K : PySem.W.Frag) : List V → Hp → VK → Prop := fun xs H Q => ∃ (a : Addr) (d : PyData), xs = [.ref a] ∧ Dp K H (.ref a) d ∧ d.showable = true ∧ d.hasDict = false ∧ d.depth ≤ 60 ∧ d.shown.length ≤ sizeLine ∧ Q (.str d.shown) H
theorem call_strD (gd : X.A.guards = some []) (hu : X.A.units + 66 < cLine) : CallR X (.type "str") (rStrD X.K) := by
  intro pins s σ H xs us Q I r h
  obtain ⟨a, d, rfl, dp, sh, nd, dep, sz, q⟩ := h
  obtain ⟨u, rfl, ru⟩ := vals1 r
  obtain rfl : u = Value.ref a := ru
  obtain ⟨as, rd⟩ := Dp.reads I d _ _ dp rfl
  refine str_of_reads rd sh (PyData.noDict_hsm nd) gd (by omega) (fun _ _ e => e) (fun h' v tk hk => ?_) sz
  exact ⟨.str d.shown, H, I.kept hk, ⟨_, rfl⟩, q⟩
end
end Pl
namespace Pl
open PySem PySem.Spec PyProof.Rows L2
/-! t.count(x) of a tuple of flat values -/
def rCountT (K : PySem.W.Frag) : V → List V → Hp → VK → Prop := fun x xs H Q => ∃ (a : Addr) (ys : List V) (y : V), x = V.ref a ∧ xs = [y] ∧ SqT K H a ys ∧ flatV y = true ∧ ys.all flatV = true ∧ Q (.int (ys.countP (fun z => eqV z y) : Nat)) H
theorem countU {y : V} : ∀ {ys : List V} {us : List Value}, Vals ys us → ys.all flatV = true → us.countP (eqU y) = ys.countP (fun z => eqV z y)
  | _, _, .nil, _ => rfl
  | z :: ys, u :: us, .cons r t, f => by
    rw [List.all_cons, Bool.and_eq_true] at f
    rw [List.countP_cons, List.countP_cons, countU t f.2, eqU_of r f.1]
theorem mt_countT {X : Cx} : MtR X "tuple.count" (rCountT X.K) := by
  intro pins s σ H x xs v us Q I rx rxs h
  obtain ⟨a, ys, y, rfl, rfl, hs, fy, fys, q⟩ := h
  cases rx
  cases rxs with
  | cons ry rt =>
    rename_i uy ut
    cases rt
    obtain ⟨its, rv, ⟨⟨cls, dd, data, sl⟩, ho, hc, n, hd⟩, hlen⟩ := I.tuple hs
    simp only at hc hd
    subst hc hd
    refine call_meets PySem.F.slot_tuple_count ⟨_, ho, rfl⟩ PySem.F.entry_tuple_count (PySem.F.args_tuple_count_2 _ _)
      (SeqAt.tuple_countAt a its.toArray n dd sl uy (eqU y)) ⟨ho, fun u' hu' => mem_eqAt ry fy rv fys u' (by simpa using hu'), ?_⟩
    rw [show its.toArray.toList = its from rfl, countU rv fys]
    exact ⟨.int _, H, I.tok _, ⟨_, rfl⟩, q⟩
end Pl
/-! tuples that are known to be without a dict: t.count(x) -/
namespace Pl
open PySem PySem.Spec PyProof.Rows L2 PySem.MeetsSeq PySem.MeetsSeq2 PySem.MeetsSeq3 PySem.SeqAt
/-- a tuple that was made here -/
def Fz (H : Hp) (q : Addr) (xs : List V) : Prop := ∃ o : Obj, o.dict = none ∧ H q = some (.frz o (.tup xs))
theorem Fz.sq {K : PySem.W.Frag} {H : Hp} {q : Addr} {xs : List V} (h : Fz H q xs) : SqT K H q xs := by
  obtain ⟨o, _, h⟩ := h
  exact .inl (.inr ⟨o, h⟩)
theorem Fz.tyX {K : PySem.W.Frag} {H : Hp} {q : Addr} {xs : List V} (h : Fz H q xs) : TyX K H (.ref q) (.type "tuple") := by
  obtain ⟨o, _, h⟩ := h
  exact .fTuple h
def fzO (xs : List V) : HO → Prop := fun u => ∃ o : Obj, o.dict = none ∧ u = .frz o (.tup xs)
section
variable {X : Cx}
theorem fz_new {pins : List (Addr × Obj)} {s : Shared} {σ : L2.St} {H : Hp} {xs : List V} {us : List Value} {Q : VK} {n : Nat} (I : Inv X pins σ H s) (r : Vals xs us) (z : xs.length ≤ sizeLine) (q : ∀ (p : Addr) (u : HO), H p = none → fzO xs u → Q (.ref p) (upd H p u)) :
    EP X pins σ Q (.ref s.heap.objs.size) { s with heap := s.heap.push { cls := .type "tuple", data := .seq us.toArray n } } := by
  have e := Heap.get?_push_size s.heap (o := { cls := .type "tuple", data := .seq us.toArray n }) rfl
  refine ⟨.ref _, _, I.laid (t' := s.toks) (o := .frz { cls := .type "tuple", data := .seq us.toArray n } (.tup xs)) (fun _ _ q => Heap.get?_push_of_some _ q) (Nat.le_refl _) ?_, rfl, q _ _ (I.hok.fresh (Nat.le_refl _)) ⟨_, rfl, rfl⟩⟩
  exact ⟨e, z, us, r, ⟨_, e, rfl, _, rfl⟩⟩
def tTupF (t : TA) : TE := fun σ H Q => t σ H fun xs H1 => xs.length ≤ sizeLine ∧ ∀ (p : Addr) (u : HO), H1 p = none → fzO xs u → Q (.ref p) (upd H1 p u)
theorem pe_tupF {es : List Expr} {x1 pos} {t : TA} (h : PA X es t) : PE X (.Tuple es x1 pos) (tTupF t) := by
  refine ⟨fun pins s σ H Q I hq => wpAny_Tuple_spliced (thn (h.run pos pins s σ H _ I hq) fun us s1 ⟨xs, H1, I1, r, z, q⟩ => ⟨by rw [← r.length]; exact z, ?_⟩)⟩
  exact fz_new I1 r z q
/-- t + u: one of the two, or a new one -/
def rCatF (K : PySem.W.Frag) : R2 := fun x y H Q => ∃ (a b : Addr) (xs ys : List V), x = .ref a ∧ y = .ref b ∧ SqT K H a xs ∧ SqT K H b ys ∧ xs.length + ys.length ≤ sizeLine ∧
  (xs = [] → Q (.ref b) H) ∧ (xs ≠ [] → ys = [] → Q (.ref a) H) ∧ (xs ≠ [] → ys ≠ [] → ∀ (p : Addr) (u : HO), H p = none → fzO (xs ++ ys) u → Q (.ref p) (upd H p u))
theorem op_catF : OpR X (binaryOp .Add) (rCatF X.K) := by
  intro pins s σ H x y v w Q I rx ry h
  obtain ⟨a, b, xs, ys, rfl, rfl, ha, hb, hz, q0, q1, q2⟩ := h
  obtain rfl : v = Value.ref a := rx
  obtain rfl : w = Value.ref b := ry
  obtain ⟨its, r1, p1, _⟩ := I.tuple ha
  obtain ⟨its2, r2, p2, _⟩ := I.tuple hb
  by_cases hx : xs = []
  · subst hx
    cases r1
    exact L2.cat_tup0 p1 p2 ⟨.ref b, H, I, rfl, q0 rfl⟩
  · refine HT.cat_tup p1 p2 (mt r1.nil_iff.mp hx) (fun e => ⟨.ref a, H, I, rfl, q1 hx (r2.nil_iff.mp e)⟩) (fun e => ?_) (by rw [← r1.length, ← r2.length]; exact hz)
    exact fz_new I (r1.append r2) (by rw [List.length_append]; exact hz) (q2 hx (mt r2.nil_iff.mpr e))
/-- t[lo:hi]: itself, or a new one -/
def rSlF (K : PySem.W.Frag) : V → Option Int → Option Int → Hp → VK → Prop := fun x lo hi H Q => ∃ (a : Addr) (xs : List V), x = .ref a ∧ SqT K H a xs ∧
  (HT.sIx xs.length 0 lo = 0 ∧ HT.sIx xs.length xs.length hi = xs.length → Q (.ref a) H) ∧ (¬ (HT.sIx xs.length 0 lo = 0 ∧ HT.sIx xs.length xs.length hi = xs.length) → ∀ (p : Addr) (u : HO), H p = none → fzO (cutV xs lo hi) u → Q (.ref p) (upd H p u))
theorem sl_tupF : SlR X (rSlF X.K) := by
  intro pins s σ H x v vl vu lo hi sl Q I rx hs pl pu h
  obtain ⟨a, xs, rfl, hx, q1, q2⟩ := h
  obtain rfl : v = Value.ref a := rx
  obtain ⟨its, r, ht, hz⟩ := I.tuple hx
  have hlen : its.toArray.size = xs.length := by simpa using r.length.symm
  refine ⟨"tuple", _, PyProof.Rows.slot_tuple_getitem.lookup, ht.typeIs, ?_⟩
  by_cases hw : HT.sIx xs.length 0 lo = 0 ∧ HT.sIx xs.length xs.length hi = xs.length
  · exact L2.getItem_tuple_whole ht hs pl pu (hlen ▸ hw) ⟨.ref a, H, I, rfl, q1 hw⟩
  · refine HT.getItem_tuple_cut ht hs pl pu (hlen ▸ hw) ?_ (hlen ▸ hz)
    rw [hlen]
    exact fz_new I ((r.drop _).take _) (Nat.le_trans (cutV_length xs lo hi) hz) (q2 hw)
def tRevF (K : PySem.W.Frag) (te : TE) : TE := fun σ H Q => te σ H fun x H1 => ∃ (a : Addr) (xs : List V), x = .ref a ∧ SqT K H1 a xs ∧ ∀ (p : Addr) (u : HO), H1 p = none → fzO xs.reverse u → Q (.ref p) (upd H1 p u)
theorem pe_revF {e : Expr} {te : TE} {k : Nat} {p1 p2 p3 pos : Pos} (he : PE X e te) : PE X (.Subscript e (.Slice none none (some (.UnaryOp .USub (.Constant (.int 1) k p1) p2)) p3) pos) (tRevF X.K te) := by
  refine ⟨fun pins s σ H Q I h => Subscript_ (thn (he.run pins s σ H _ I h) fun v s1 ⟨x, H1, I1, r1, a, xs, ex, hx, q⟩ => ?_)⟩
  subst ex
  cases r1
  have step : PO X (some (.UnaryOp .USub (.Constant (.int 1) k p1) p2)) (tPart (tUn (rU fun i => .int (-i)) (tC (.int 1)))) := po_some (pe_un un_neg pe_int)
  refine wpAny_Slice (thn (po_none.run pins s1 σ H1 (fun o H2 => o = none ∧ H2 = H1) I1 ⟨rfl, rfl⟩) fun vl s2 ⟨l, H2, I2, pl, el, e2⟩ => ?_)
  subst el e2
  refine thn (po_none.run pins s2 σ H2 (fun o H3 => o = none ∧ H3 = H2) I2 ⟨rfl, rfl⟩) fun vu s3 ⟨w, H3, I3, pu, eu, e3⟩ => ?_
  subst eu e3
  refine thn (step.run pins s3 σ H3 (fun o H4 => o = some (-1) ∧ H4 = H3) I3 ⟨1, rfl, -1, rfl, rfl, rfl⟩) fun vs s4 ⟨o, H4, I4, ps, eo, e4⟩ => ?_
  subst eo e4
  have I5 : Inv X pins σ H4 { s4 with heap := s4.heap.push { cls := .type "slice", data := .fields #[vl, vu, vs] } } := I4.kept (t' := s4.toks) fun _ _ q => Heap.get?_push_of_some _ q
  obtain ⟨its, r, ht, hz⟩ := I5.tuple hx
  have hlen := r.length
  show wpAny (model X.prog X.w) X.A (subscriptTail e (.Slice none none (some (.UnaryOp .USub (.Constant (.int 1) k p1) p2)) p3) (.ref a) (.ref s4.heap.objs.size)) (EP X pins σ Q) X.xe { s4 with heap := s4.heap.push { cls := .type "slice", data := .fields #[vl, vu, vs] } }
  refine tail_any (ops := [.ref a, .ref s4.heap.objs.size]) ht.typeIs PyProof.Rows.slot_tuple_getitem.lookup ?_ (by with_unfolding_all rfl)
  refine tup_rev ht (Heap.IsSliceOf.new _ vl vu vs) pl pu ps ?_ (by rw [List.size_toArray]; omega)
  exact fz_new I5 r.reverse (by rw [List.length_reverse]; exact hz) q
/-- a method of such a tuple, by a builtin -/
def tBF (r : V → List V → Hp → VK → Prop) (to : TE) (t : TA) : TE := fun σ H Q => to σ H fun x H1 => (∃ (a : Addr) (xs : List V), x = .ref a ∧ Fz H1 a xs) ∧ t σ H1 fun ys H2 => r x ys H2 Q
theorem pe_bF {o e : Expr} {es : List Expr} {to : TE} {t : TA} {name : Str} {apos cpos : Pos} {id : String} {r : V → List V → Hp → VK → Prop} (pa : PlainAttrs "tuple") (slot : Slot "tuple" name id) (hty : typeOf (.builtin id) = pure (.type "method_descriptor")) (hm : MtR X id r) (ho : PE X o to) (ha : PA X (e :: es) t)
    (hbase : attributeBase o name X.env (eval o X.env) = eval o X.env := by rfl)
    (hfew : ((backTo cpos (starEach (e :: es) X.env)).all (fun x => !x.1) && (backToKw cpos (keywordEach [] X.env)).all (fun x => x.1.isSome)
      && decide ((e :: es).length + ([] : List Keyword).length + (if ([] : List Keyword).isEmpty then 0 else 1) < 30)) = true := by rfl)
    (hline : (apos.endLine == cpos.line) = true := by rfl) (hs : starEach (e :: es) X.env = (false, eval e X.env) :: starEach es X.env := by rfl) (hplain : (backTo cpos (starEach es X.env)).any (·.1) = false := by rfl) :
    PE X (.Call (.Attribute o name apos) (e :: es) [] cpos) (tBF r to t) := by
  refine ⟨fun pins s σ H Q I h => wpAny_Call_method_late hbase hfew hline rfl (thn (ho.run pins s σ H _ I h) fun v s1 ⟨x, H1, I1, r1, ⟨a, xs, ex, o', od, e'⟩, q1⟩ => ?_)⟩
  subst ex
  obtain rfl : v = Value.ref a := r1
  obtain ⟨g, _, _, _, p⟩ := I1.hok a _ e'
  refine ⟨"tuple", id, pa, slot, hty, p.typeIs, fun b e2 => ?_, ?_⟩
  · cases e2
    exact ⟨o', g, od⟩
  have hA := ha.run cpos pins s1 σ H1 _ I1 q1
  rw [hs] at hA ⊢
  refine Calls.callWith_builtin (by show (false || (backTo cpos (starEach es X.env)).any (·.1)) = false; rw [hplain] <;> rfl) (Calls.evalArgs_plain ?_)
  exact thn hA fun us s2 ⟨vs, H2, I2, r2, q2⟩ => hm pins s2 σ H2 (.ref a) vs _ us Q I2 rfl r2 q2
end
end Pl
/-! repr of {"text": data}; list(t) of a tuple, away from the modules' dict -/
namespace Pl
open PySem PySem.Spec PyProof.Rows L2
mutual
/-- data whose lists are no part of the machine's own -/
inductive DpB (K : PySem.W.Frag) (H : Hp) : V → PyData → Prop
  | non : DpB K H .non .none
  | bl (b : Bool) : DpB K H (.bl b) (.bool b)
  | int (i : Int) : DpB K H (.int i) (.int i)
  | str (z : Str) : DpB K H (.str z) (.str z)
  | lst {a : Addr} {xs : List V} {ds : List PyData} (h : H a = some (.lst xs)) (n : a ≠ sysModules) (r : DpBAll K H xs ds) : DpB K H (.ref a) (.list ds)
  | tup {a : Addr} {xs : List V} {ds : List PyData} (h : SqT K H a xs) (r : DpBAll K H xs ds) : DpB K H (.ref a) (.tuple ds)
inductive DpBAll (K : PySem.W.Frag) (H : Hp) : List V → List PyData → Prop
  | nil : DpBAll K H [] []
  | cons {v : V} {d : PyData} {vs : List V} {ds : List PyData} (h : DpB K H v d) (r : DpBAll K H vs ds) : DpBAll K H (v :: vs) (d :: ds)
end
mutual
theorem DpB.dp {K : PySem.W.Frag} {H : Hp} : ∀ {d : PyData} {v : V}, DpB K H v d → Dp K H v d
  | _, _, .non => .non
  | _, _, .bl b => .bl b
  | _, _, .int i => .int i
  | _, _, .str z => .str z
  | _, _, .lst h _ r => .lst (SqL.of h) r.dp
  | _, _, .tup h r => .tup h r.dp
theorem DpBAll.dp {K : PySem.W.Frag} {H : Hp} : ∀ {ds : List PyData} {vs : List V}, DpBAll K H vs ds → DpAll K H vs ds
  | _, _, .nil => .nil
  | _, _, .cons h r => .cons h.dp r.dp
end
section
variable {X : Cx} {pins : List (Addr × Obj)} {σ : L2.St} {H : Hp} {s : Shared}
mutual
theorem DpB.reads (I : Inv X pins σ H s) : ∀ {d : PyData} {v : V} {u : Value}, DpB X.K H v d → RelV v u → ∃ as, Reads s.heap u d as ∧ sysModules ∉ as
  | _, _, _, .non, r => by
    cases r
    exact ⟨_, .none, by simp⟩
  | _, _, _, .bl b, r => by
    cases r
    exact ⟨_, .bool b, by simp⟩
  | _, _, _, .int i, r => by
    obtain ⟨t, rfl⟩ := (show ∃ t, _ = Value.int i t from r)
    exact ⟨_, .int i t, by simp⟩
  | _, _, _, .str z, r => by
    obtain ⟨t, rfl⟩ := (show ∃ t, _ = Value.str z t from r)
    exact ⟨_, .str z t, by simp⟩
  | _, _, _, .lst h n ra, r => by
    cases r
    obtain ⟨its, rv, ⟨o, m, ho, hc, _, hd⟩, _⟩ := I.list (SqL.of h)
    obtain ⟨as, q, e⟩ := DpBAll.reads I ra rv
    exact ⟨_, .list ho hc hd (by simpa using q), by simpa using ⟨Ne.symm n, e⟩⟩
  | _, _, _, .tup h ra, r => by
    cases r
    obtain ⟨its, rv, ⟨o, ho, hc, m, hd⟩, _⟩ := I.tuple h
    obtain ⟨as, q, e⟩ := DpBAll.reads I ra rv
    exact ⟨_, .tuple ho hc hd (by simpa using q), e⟩
theorem DpBAll.reads (I : Inv X pins σ H s) : ∀ {ds : List PyData} {vs : List V} {us : List Value}, DpBAll X.K H vs ds → Vals vs us → ∃ as, ReadsAll s.heap us ds as ∧ sysModules ∉ as
  | _, _, _, .nil, r => by
    cases r
    exact ⟨_, .nil, by simp⟩
  | _, _, _, .cons h ra, r => by
    cases r with
    | cons r1 r2 =>
      obtain ⟨as, q1, e1⟩ := DpB.reads I h r1
      obtain ⟨bs, q2, e2⟩ := DpBAll.reads I ra r2
      exact ⟨_, .cons q1 q2, by simpa using ⟨e1, e2⟩⟩
end
end
def dicS (z : Str) (d : PyData) : PyData := .dict [(.str z, d)]
section
variable {X : Cx}
theorem call_reprS (gd : X.A.guards = some []) (hu : X.A.units + 66 < cLine) : CallR X (.builtin "repr") (fun xs H Q => ∃ (a : Addr) (z : Str) (v : V) (d : PyData), xs = [.ref a] ∧ H a = some (.dK [(.inr z, v)]) ∧ DpB X.K H v d ∧ ShT (dicS z d) ∧ Q (.str (dicS z d).shown) H) := by
  intro pins s σ H xs us Q I r h
  obtain ⟨a, z, v, d, rfl, ea, db, ⟨sh, dep, sz⟩, q⟩ := h
  obtain ⟨u, rfl, ru⟩ := vals1 r
  obtain rfl : u = Value.ref a := ru
  obtain ⟨_, hm, vs, kv, o, es, ep, h1, h2, h3, h4, h5, h6⟩ := (show ObjOk X.prog X.w H s.heap a (.dK [(.inr z, v)]) from I.hok a _ ea)
  obtain ⟨as, rd, nas⟩ : ∃ as, Reads s.heap (.ref a) (dicS z d) as ∧ sysModules ∉ as := by
    generalize hes : es.toList = l at h5
    have key : ∀ {kvs : List (Key × V)}, kvs = [(Sum.inr z, v)] → KV kvs vs → ∃ p, vs = [p] ∧ p.1 = Sum.inr z ∧ RelV v p.2 := fun {kvs} e y => by
      cases y with
      | nil => cases e
      | cons hp hr =>
        cases e
        cases hr
        exact ⟨_, rfl, hp.1.symm, hp.2⟩
    obtain ⟨p, rfl, p1, p2⟩ := key rfl kv
    obtain ⟨bs, rv, nb⟩ := DpB.reads I db p2
    cases h5 with
    | cons hk hv hrest =>
      cases hrest
      rename_i e
      rw [p1] at hk
      rcases keyIs_shape (k := Sum.inr z) (v := e.key) hk with ⟨i, tk, e1, e2⟩ | ⟨i, tk, e1, e2⟩
      · cases e1
      · cases e1
        refine ⟨_, .dict (as := [] ++ []) (bs := bs ++ []) h1 h2.1 h3 ?_ ?_, ?_⟩
        · rw [hes]
          exact .cons (by show Reads _ e.key _ _; rw [e2]; exact .str _ _) .nil
        · rw [hes]
          exact .cons (by show Reads _ e.val _ _; rw [hv]; exact rv) .nil
        · have na : sysModules ≠ a := fun y => by
            rw [y] at hm
            simp at hm
          simpa using ⟨na, nb⟩
  refine repr_of_reads' rd sh (fun _ => nas) gd (by omega) (fun _ _ e => e) (fun h' v tk hk => ?_) sz
  exact ⟨.str _, H, I.kept hk, ⟨_, rfl⟩, q⟩
/-- list(t) of a tuple -/
theorem call_listB : CallR X (.type "list") (fun xs H Q => ∃ (p : Addr) (ys : List V), xs = [.ref p] ∧ SqT X.K H p ys ∧ ∀ l, H l = none → l ≠ sysModules → Q (.ref l) (upd H l (.lst ys))) := by
  intro pins s σ H xs us Q I r h
  obtain ⟨p, ys, rfl, hq, q⟩ := h
  obtain ⟨u, rfl, rx⟩ := vals1 r
  obtain rfl : u = Value.ref p := rx
  obtain ⟨its, rv, pl, hz⟩ := I.tuple hq
  have hlen := rv.length
  obtain ⟨o, ho, hc, n, hd⟩ := pl
  refine call_list_seq p (.inr rfl) ho hc hd (fun h' c' kp e => ?_) (by simp only [List.size_toArray] <;> omega)
  exact ⟨.ref s.heap.objs.size, _, I.laid (t' := s.toks) kp (Nat.le_refl _) (show ObjOk X.prog X.w _ h' _ (.lst ys) from ⟨hz, its, c', rv, e⟩), rfl, q _ I.fresh (Nat.ne_of_gt I.big)⟩
end
end Pl
/-! The head by one kernel run, what stands behind it seen as k_head's hooks see it: nothing of the top is written out. -/
namespace Pl
open PySem PySem.W PySem.Calls PyProof.Rows HandSHeadRun
def obKm (as ts : List Addr) (s : SharedT) : List (Option Obj) × List (Option Obj) := (as.map (getT s), ts.map (getT s))
def obK (as : List Addr) (s : SharedT) : List (Option Obj) := as.map (getT s)
theorem getT_fun (s : SharedT) : getT s = s.abs.heap.get? := funext fun a => getT_eq s a
section
variable {r : OpenRow} {q : Program} {M : Nat} {loose : List PySem.Str} {d : DefRec} {kwd : List (PySem.Str × PySem.Expr)} {K : Params → Frag} {as ts : List Addr} {e : ∀ P, as = (K P).map (·.1)}
theorem head_km (H : Hook) (hH : H = kmHook K as e ts) (op : opening r.prog = plainProg r.prog.main.scope.names) (f : ∀ s, fenceModules? r.prog s = some s) (run : ∀ w, RunEq r q (kmHook K as e ts) (obKm as ts) M loose w)
    (hdef : defOf q r.name = some (d, kwd)) (hp : r.prog.theDef r.name = some (d.params, d.body, d.scope)) (hk : kwWritten? d.params.kwonlyargs d.params.kw_defaults = some kwd)
    (hwr : (!r.writes || r.records.isEmpty) = true) (k1 : r.wellSaid = true) (ok : (chainsOk q && opensWell r.prog && (frees r.toRowW && r.within.isEmpty)) = true) (hb : r.prog.bare) (hw : r.toRowW.promised)
    (call : WalkO q loose (XL q []) (kmHook K as e ts).says r.toRowW d kwd fun f vs => PySem.call f vs) : r.Holds :=
  head_any (H := kmHook K as e ts) (ob := obKm as ts) (fun s => by show (_, _) = (_, _); rw [getT_fun]) op f run hdef hp hk hwr k1 ok hb hw call
theorem head_k (H : Hook) (hH : H = kHook K as e) (op : opening r.prog = plainProg r.prog.main.scope.names) (f : ∀ s, fenceModules? r.prog s = some s) (run : ∀ w, RunEq r q (kHook K as e) (obK as) M loose w)
    (hdef : defOf q r.name = some (d, kwd)) (hp : r.prog.theDef r.name = some (d.params, d.body, d.scope)) (hk : kwWritten? d.params.kwonlyargs d.params.kw_defaults = some kwd)
    (hwr : (!r.writes || r.records.isEmpty) = true) (k1 : r.wellSaid = true) (ok : (chainsOk q && opensWell r.prog && (frees r.toRowW && r.within.isEmpty)) = true) (hb : r.prog.bare) (hw : r.toRowW.promised)
    (call : WalkO q loose (XL q []) (kHook K as e).says r.toRowW d kwd fun f vs => PySem.call f vs) : r.Holds :=
  head_any (H := kHook K as e) (ob := obK as) (fun s => by show List.map _ _ = List.map _ _; rw [getT_fun]) op f run hdef hp hk hwr k1 ok hb hw call
end
end Pl
namespace Pl
open PySem PySem.Spec PyProof.Rows L2
def top (i : Nat) : Stmt := PySem.Challenge.pw_poolshares_k64_any_value_as_a_verdict.main.body.getD i (.Pass ⟨0, 0, 0, 0⟩)
/-- a source of numbers stands at a -/
def Src (H : Hp) (a : Addr) : Prop := ∃ x y z : Int, H a = some (.lst [.int x, .int y, .int z]) ∧ 0 ≤ x ∧ 0 ≤ y ∧ y < 2147483648 ∧ 0 ≤ z
theorem Src.upd {H : Hp} {a p : Addr} {o : HO} (s : Src H a) (n : H p = none) : Src (L2.upd H p o) a := by
  obtain ⟨x, y, z, h, r⟩ := s
  exact ⟨x, y, z, by rw [upd_ne (ne_of_none h n)]; exact h, r⟩
theorem Src.put {H : Hp} {a p : Addr} {o : HO} (s : Src H a) (n : p ≠ a) : Src (L2.upd H p o) a := by
  obtain ⟨x, y, z, h, r⟩ := s
  exact ⟨x, y, z, by rw [upd_ne n.symm]; exact h, r⟩
theorem Src.ne {H : Hp} {a p : Addr} (s : Src H a) (n : H p = none) : p ≠ a := by
  obtain ⟨x, y, z, h, r⟩ := s
  intro e
  rw [e, h] at n
  cases n
theorem Src.neT {H : Hp} {a p : Addr} {xs : List V} (s : Src H a) (n : H p = some (.tup xs)) : p ≠ a := by
  obtain ⟨x, y, z, h, r⟩ := s
  intro e
  rw [e, h] at n
  cases n
theorem Src.neI {H : Hp} {a p C d : Addr} {xs : List (Str × V)} (s : Src H a) (n : H p = some (.ins C d xs)) : p ≠ a := by
  obtain ⟨x, y, z, h, r⟩ := s
  intro e
  rw [e, h] at n
  cases n
theorem Src.same {H H' : Hp} {a : Addr} (s : Src H a) (k : Same H H') : Src H' a := by
  obtain ⟨x, y, z, h, r⟩ := s
  exact ⟨x, y, z, k _ _ h, r⟩
/-- all that was tracked stands as before, but for what is at a -/
def Kp (a : Addr) (H H' : Hp) : Prop := ∀ b o, b ≠ a → H b = some o → H' b = some o
theorem Kp.refl (a : Addr) (H : Hp) : Kp a H H := fun _ _ _ h => h
theorem Kp.trans {a : Addr} {H H1 H2 : Hp} (p : Kp a H H1) (q : Kp a H1 H2) : Kp a H H2 := fun b o n h => q b o n (p b o n h)
theorem Kp.of {a : Addr} {H H' : Hp} (p : Same H H') : Kp a H H' := fun b o _ h => p b o h
theorem Kp.upd {a : Addr} {H : Hp} {o : HO} : Kp a H (upd H a o) := fun b u n h => by rw [upd_ne n]; exact h
theorem Kp.new {a p : Addr} {H H' : Hp} {o : HO} (q : Kp a H H') (h : H' p = none) : Kp a H (L2.upd H' p o) := fun b u n e => by
  rw [upd_ne (ne_of_none (q b u n e) h)]; exact q b u n e
/-- what was not there before may be written -/
theorem Kp.put {a p : Addr} {H H' : Hp} {o : HO} (q : Kp a H H') (h : H p = none) : Kp a H (L2.upd H' p o) := fun b u n e => by
  rw [upd_ne (ne_of_none e h)]; exact q b u n e
theorem same_new {p : Addr} {H H' : Hp} {o : HO} (q : Same H H') (h : H' p = none) : Same H (L2.upd H' p o) := fun b u e => by
  rw [upd_ne (ne_of_none (q b u e) h)]; exact q b u e
theorem same_put {p : Addr} {H H' : Hp} {o : HO} (q : Same H H') (h : H p = none) : Same H (L2.upd H' p o) := fun b u e => by
  rw [upd_ne (ne_of_none e h)]; exact q b u e
theorem Kp.free {a p : Addr} {H H' : Hp} (q : Kp a H H') (n : p ≠ a) (h : H' p = none) : H p = none := by
  cases e : H p with
  | none => rfl
  | some o =>
    rw [q p o n e] at h
    cases h
theorem tyes {σ : L2.St} {H : Hp} {A B : Hp → Prop} (h : A H) : tYes σ H (fun b H3 => if b = true then A H3 else B H3) := by
  show if true = true then A H else B H
  rw [if_pos rfl]; exact h
theorem size_of {n : Nat} (h : n ≤ 1000) : n ≤ sizeLine := Nat.le_trans h (by decide)
theorem size_lt {n : Nat} (h : n ≤ 1000) : n < sizeLine := Nat.lt_of_le_of_lt h (by decide)
theorem at_of_lt {α : Type} {xs : List α} {r : Int} (h0 : 0 ≤ r) (h1 : r < xs.length) : ∃ v, v ∈ xs ∧ xs[r.toNat]? = some v ∧ atI xs r = some v := by
  have lt : r.toNat < xs.length := by omega
  have e : xs[r.toNat]? = some xs[r.toNat] := List.getElem?_eq_getElem lt
  refine ⟨xs[r.toNat], List.getElem_mem lt, e, ?_⟩
  have q := atI_nat e
  rw [Int.toNat_of_nonneg h0] at q
  exact q
/-- the built-in names are the built-in ones -/
structure Bn (mg : Str → Option Value) : Prop where
  n_len : mg "len" = none
  n_range : mg "range" = none
  n_max : mg "max" = none
  n_min : mg "min" = none
  n_sum : mg "sum" = none
  n_sorted : mg "sorted" = none
  n_all : mg "all" = none
  n_isinstance : mg "isinstance" = none
  n_repr : mg "repr" = none
  n_tuple : mg "tuple" = none
  n_list : mg "list" = none
  n_int : mg "int" = none
  n_bool : mg "bool" = none
  n_zip : mg "zip" = none
  n_str : mg "str" = none
def spDraw : Sp := fun vs H Q _ => ∃ (a : Addr) (m : Int), vs = [.ref a, .int m] ∧ Src H a ∧ 0 < m ∧ m ≤ 1000000 ∧
  ∀ (r : Int) (H' : Hp), 0 ≤ r → r < m → Src H' a → Kp a H H' → Q (.int r) H'
def spCell (K : PySem.W.Frag) : Sp := fun vs H Q _ => ∃ (a : Addr) (ns : List Int) (i : Int), vs = [.ref a, .int i] ∧ SqL K H a (ns.map V.int) ∧ 0 ≤ i ∧ ∀ n : Int, Q (.int n) H
def spSource : Sp := fun vs H Q _ => ∃ c : Int, vs = [.int c] ∧ ∀ (p : Addr) (H' : Hp), H p = none → Src H' p → Same H H' → Q (.ref p) H'
def spChoose : Sp := fun vs H Q _ => ∃ (a l : Addr) (xs : List V), vs = [.ref a, .ref l] ∧ Src H a ∧ H l = some (.lst xs) ∧ l ≠ a ∧ 0 < xs.length ∧ xs.length ≤ 1000 ∧
  ∀ (v : V) (H' : Hp), v ∈ xs → Src H' a → Kp a H H' → Q v H'
/-- the ints are amounts -/
def Am (ns : List Int) : Prop := ∀ r ∈ ns, 0 ≤ r ∧ r ≤ 30
def spAmounts : Sp := fun vs H Q _ => ∃ (a : Addr) (n : Nat), vs = [.ref a, .int n] ∧ Src H a ∧ 2 ≤ n ∧ n ≤ 6 ∧
  ∀ (p : Addr) (ns : List Int) (H' : Hp), ns.length = n → Am ns → Src H' a → Kp a H H' → H' p = some (.tup (ns.map V.int)) → Q (.ref p) H'
/-- a list of amounts grows at D -/
def AInv (a D : Addr) (H1 : Hp) (i : Nat) (H : Hp) : Prop := ∃ ns : List Int, ns.length = i ∧ Am ns ∧ Src H a ∧ Kp a H1 H ∧ H D = some (.lst (ns.map V.int))
theorem AInv.start {a D : Addr} {H1 : Hp} (s : Src H1 a) (n : H1 D = none) : AInv a D H1 0 (L2.upd H1 D (.lst [])) :=
  ⟨[], rfl, fun _ h => (nomatch h), s.upd n, (Kp.refl a H1).new n, upd_same⟩
theorem AInv.src {a D : Addr} {H1 H : Hp} {i : Nat} (p : AInv a D H1 i H) : Src H a := p.elim fun _ q => q.2.2.1
theorem AInv.next {a D : Addr} {H1 H H' : Hp} {i : Nat} {r : Int} (p : AInv a D H1 i H) (hi : i ≤ 100) (n : H1 D = none) (da : D ≠ a) (s : Src H' a) (k : Kp a H H') (r0 : 0 ≤ r) (r1 : r ≤ 30) :
    ∃ acc, H' D = some (.lst acc) ∧ acc.length < sizeLine ∧ AInv a D H1 (i + 1) (L2.upd H' D (.lst (acc ++ [.int r]))) := by
  obtain ⟨ns, e, am, _, kp, hd⟩ := p
  refine ⟨ns.map V.int, k _ _ da hd, size_lt (by rw [List.length_map]; omega), ns ++ [r], ?_, ?_, s.put da, (kp.trans k).put n, ?_⟩
  · rw [List.length_append, e]; rfl
  · intro x hx
    rcases List.mem_append.mp hx with h | h
    · exact am x h
    · rw [List.mem_singleton.mp h]; exact ⟨r0, r1⟩
  · rw [upd_same, List.map_append]; rfl
section
variable {P : Program} {w : World} {K : PySem.W.Frag} {mg : Str → Option Value} {base : Heap}
abbrev st_l_cell : Stmt := top 41
theorem sc_l_cell : FnScope ["_law_script", "_law_index"] ["_law_script", "_law_index"] (defScope st_l_cell) := ⟨rfl, rfl, rfl, by decide +kernel, rfl, by decide +kernel, by decide +kernel⟩
theorem ok_cell (B : Bn mg) (D : Df K mg "_law_cell" st_l_cell ["_law_script", "_law_index"]) : Cal P w K mg base 2 "_law_cell" ["_law_script", "_law_index"] (spCell K) := by
  refine D.cal sc_l_cell (fun vs H Q E h => ?_) (fun f cdv A out s H vs Q E hr h => ?_)
  · obtain ⟨a, ns, i, rfl, _⟩ := h
    rfl
  obtain ⟨a, ns, i, rfl, sq, i0, k⟩ := h
  refine ⟨_, (pss_cons (ps_if (pt_cmpR op_lt (pv 1) (pe_callB call_len_seq (by rfl) B.n_len (by decide +kernel) (pa_cons (pv 0) pa_nil)) (nomark _)) (pss_one (ps_ret (pe_ix ix_list (pv 0) (pv 1) (fun _ _ => rfl)))) pss_nil)
   (pss_one (ps_ret pe_int))), ?_⟩
  refine ⟨_, rfl, _, rfl, a, _, rfl, .inl sq, _, _, rfl, rfl, _, rfl, ?_⟩
  refine ite2 (fun c => ?_) (fun c => k 0)
  have c2 : i < ((ns.map V.int).length : Int) := of_decide_eq_true c
  obtain ⟨v, hv, _, e⟩ := at_of_lt i0 c2
  obtain ⟨m, _, rfl⟩ := List.mem_map.mp hv
  exact ⟨_, rfl, _, rfl, a, _, _, _, rfl, rfl, sq, e, k m⟩
abbrev st_l_source : Stmt := top 42
theorem sc_l_source : FnScope ["_law_cell_here"] ["_law_cell_here"] (defScope st_l_source) := ⟨rfl, rfl, rfl, by decide +kernel, rfl, by decide +kernel, by decide +kernel⟩
theorem ok_source (B : Bn mg) (D : Df K mg "_law_source" st_l_source ["_law_cell_here"]) : Cal P w K mg base 2 "_law_source" ["_law_cell_here"] spSource := by
  refine D.cal sc_l_source (fun vs H Q E h => ?_) (fun f cdv A out s H vs Q E hr h => ?_)
  · obtain ⟨c, rfl, _⟩ := h
    rfl
  obtain ⟨c, rfl, k⟩ := h
  refine ⟨_, (pss_one (ps_ret (pe_lst (pa_cons (pe_callB (call_max2 rfl) (by rfl) B.n_max (by decide +kernel) (pa_cons pe_int (pa_cons (pe_op op_sub (pv 0) (pe_op op_pow pe_int pe_int)) pa_nil))) (pa_cons (pe_op op_add (pe_op op_mod (pv 0) pe_int) pe_int) (pa_cons pe_int pa_nil)))))), ?_⟩
  refine ⟨_, rfl, _, _, rfl, rfl, ⟨by decide, by decide, by decide⟩, _, _, rfl, rfl, _, _, rfl, _, rfl, _, _, rfl, rfl, (by show (0 : Int) < 2147483629; decide), _, _, rfl, rfl, (by show 3 ≤ sizeLine; decide), fun p hp => ?_⟩
  refine k p _ hp ⟨_, _, _, upd_same, ?_, ?_, ?_, by decide⟩ (same_new (Same.refl H) hp)
  · split <;> omega
  · have := Int.emod_nonneg c (show (2147483629 : Int) ≠ 0 by decide)
    show 0 ≤ c % 2147483629 + 1
    omega
  · have := Int.emod_lt_of_pos c (show (0 : Int) < 2147483629 by decide)
    show c % 2147483629 + 1 < 2147483648
    omega
abbrev st_l_draw : Stmt := top 43
theorem sc_l_draw : FnScope ["_law_source_here", "_law_many", "_law_found", "_law_mixed"] ["_law_source_here", "_law_many"] (defScope st_l_draw) := ⟨rfl, rfl, rfl, by decide +kernel, rfl, by decide +kernel, by decide +kernel⟩
theorem ok_draw (D : Df K mg "_law_draw" st_l_draw ["_law_source_here", "_law_many"]) : Cal P w K mg base 2 "_law_draw" ["_law_source_here", "_law_many"] spDraw := by
  refine D.cal sc_l_draw (fun vs H Q E h => ?_) (fun f cdv A out s H vs Q E hr h => ?_)
  · obtain ⟨a, m, rfl, _⟩ := h
    rfl
  obtain ⟨a, m, rfl, ⟨x, y, z, ha, x0, y0, y1, z0⟩, m0, m1, k⟩ := h
  refine ⟨_, (pss_cons (ps_if (pt_cmpR op_gt (pe_ix ix_list (pv 0) pe_int (fun _ _ => rfl)) pe_int (nomark _)) (pss_cons (ps_set (i := 2) sc_l_draw.nd rfl (.inl rfl) (pe_op op_mod (pe_ix ix_list (pv 0) pe_int (fun _ _ => rfl)) (pv 1)))
   (pss_cons (ps_asg (pe_op op_fdiv (pe_ix ix_list (pv 0) pe_int (fun _ _ => rfl)) (pv 1)) (pg_sub (pv 0) pe_int set_list))
   (pss_one (ps_ret (pv 2))))) pss_nil)
   (pss_cons (ps_asg (pe_op op_add (pe_ix ix_list (pv 0) pe_int (fun _ _ => rfl)) pe_int) (pg_sub (pv 0) pe_int set_list))
   (pss_cons (ps_asg (pe_op op_mod (pe_op op_add (pe_op op_add (pe_op op_mul (pe_ix ix_list (pv 0) pe_int (fun _ _ => rfl)) pe_int) (pe_op op_mul pe_int (pe_ix ix_list (pv 0) pe_int (fun _ _ => rfl)))) pe_int) pe_int) (pg_sub (pv 0) pe_int set_list))
   (pss_cons (ps_set (i := 3) sc_l_draw.nd rfl (.inl rfl) (pe_op op_mod (pe_op op_add (pe_op op_add (pe_op op_mul (pe_ix ix_list (pv 0) pe_int (fun _ _ => rfl)) (pe_ix ix_list (pv 0) pe_int (fun _ _ => rfl))) (pe_op op_mul pe_int (pe_ix ix_list (pv 0) pe_int (fun _ _ => rfl)))) pe_int) pe_int))
   (pss_cons (ps_set (i := 3) sc_l_draw.nd rfl (.inl rfl) (pe_op op_mod (pe_op op_add (pe_op op_mul (pv 3) (pv 3)) (pe_op op_mul pe_int (pv 3))) pe_int))
   (pss_one (ps_ret (pe_op op_mod (pe_op op_fdiv (pv 3) pe_int) (pv 1))))))))), ?_⟩
  refine ⟨_, rfl, a, _, _, _, rfl, rfl, SqL.of ha, rfl, _, _, rfl, rfl, _, rfl, ?_⟩
  refine ite2 (fun c => ?_) (fun c => ?_)
  · refine ⟨_, rfl, a, _, _, _, rfl, rfl, SqL.of ha, rfl, _, rfl, _, _, rfl, rfl, m0, ?_⟩
    refine ⟨_, rfl, a, _, _, _, rfl, rfl, SqL.of ha, rfl, _, rfl, _, _, rfl, rfl, ⟨m0, by omega⟩, ?_⟩
    refine ⟨_, rfl, a, _, _, _, rfl, rfl, ha, rfl, ?_⟩
    refine ⟨_, rfl, k _ _ (Int.emod_nonneg _ (by omega)) (Int.emod_lt_of_pos _ m0) ⟨_, _, _, upd_same, Int.ediv_nonneg x0 (by omega), y0, y1, z0⟩ Kp.upd⟩
  · refine ⟨_, rfl, a, _, _, _, rfl, rfl, SqL.of ha, rfl, _, _, rfl, rfl, ?_⟩
    refine ⟨_, rfl, a, _, _, _, rfl, rfl, ha, rfl, ?_⟩
    generalize hH1 : upd H a _ = H1
    have h1 : H1 a = some (.lst [.int x, .int y, .int (z + 1)]) := by rw [← hH1]; exact upd_same
    have q1 : Kp a H H1 := by rw [← hH1]; exact Kp.upd
    refine ⟨_, rfl, a, _, _, _, rfl, rfl, SqL.of h1, rfl, _, _, rfl, rfl, .inl ⟨by omega, by omega⟩, _, rfl, a, _, _, _, rfl, rfl, SqL.of h1, rfl, _, _, rfl, rfl, .inl ⟨by decide, by decide⟩, _, _, rfl, rfl, _, _, rfl, rfl, _, _, rfl, rfl, (by show (0 : Int) < 2147483647; decide), ?_⟩
    refine ⟨_, rfl, a, _, _, _, rfl, rfl, h1, rfl, ?_⟩
    generalize hy : (y * 48271 + 1009 * (z + 1) + 7) % 2147483647 = y'
    have b0 : 0 ≤ y' := by rw [← hy]; exact Int.emod_nonneg _ (by decide)
    have b1 : y' < 2147483647 := by rw [← hy]; exact Int.emod_lt_of_pos _ (by decide)
    generalize hH2 : upd H1 a _ = H2
    have h2 : H2 a = some (.lst [.int x, .int y', .int (z + 1)]) := by rw [← hH2, ← hy]; exact upd_same
    have q2 : Kp a H H2 := by rw [← hH2]; exact q1.trans Kp.upd
    refine ⟨_, rfl, a, _, _, _, rfl, rfl, SqL.of h2, rfl, _, rfl, a, _, _, _, rfl, rfl, SqL.of h2, rfl, _, _, rfl, rfl, .inl ⟨by omega, by omega⟩, _, rfl, a, _, _, _, rfl, rfl, SqL.of h2, rfl, _, _, rfl, rfl, .inl ⟨by decide, by decide⟩, _, _, rfl, rfl, _, _, rfl, rfl, _, _, rfl, rfl, (by show (0 : Int) < 2147483629; decide), ?_⟩
    generalize hu : (y' * y' + 69621 * y' + 11) % 2147483629 = u
    have u0 : 0 ≤ u := by rw [← hu]; exact Int.emod_nonneg _ (by decide)
    have u1 : u < 2147483629 := by rw [← hu]; exact Int.emod_lt_of_pos _ (by decide)
    refine ⟨_, rfl, _, rfl, _, _, rfl, rfl, .inl ⟨by omega, by omega⟩, _, rfl, _, _, rfl, rfl, .inl ⟨by decide, by decide⟩, _, _, rfl, rfl, _, _, rfl, rfl, (by show (0 : Int) < 2147483587; decide), ?_⟩
    refine ⟨_, rfl, _, _, rfl, rfl, ⟨by decide, by decide⟩, _, rfl, _, _, rfl, rfl, m0, ?_⟩
    exact k _ _ (Int.emod_nonneg _ (by omega)) (Int.emod_lt_of_pos _ m0) ⟨_, _, _, h2, x0, b0, by omega, by omega⟩ q2
abbrev st_l_choose : Stmt := top 44
theorem sc_l_choose : FnScope ["_law_source_here", "_law_values"] ["_law_source_here", "_law_values"] (defScope st_l_choose) := ⟨rfl, rfl, rfl, by decide +kernel, rfl, by decide +kernel, by decide +kernel⟩
theorem ok_choose (B : Bn mg) (c_l_draw : Cal P w K mg base 2 "_law_draw" ["_law_source_here", "_law_many"] spDraw) (D : Df K mg "_law_choose" st_l_choose ["_law_source_here", "_law_values"]) : Cal P w K mg base 3 "_law_choose" ["_law_source_here", "_law_values"] spChoose := by
  refine D.cal sc_l_choose (fun vs H Q E h => ?_) (fun f cdv A out s H vs Q E hr h => ?_)
  · obtain ⟨a, l, xs, rfl, _⟩ := h
    rfl
  obtain ⟨a, l, xs, rfl, src, hl, la, n0, n1, k⟩ := h
  refine ⟨_, (pss_one (ps_ret (pe_ix ix_list (pv 1) (pe_fn c_l_draw (hr.mono (by decide)) (pa_cons (pv 0) (pa_cons (pe_callB call_len_seq (by rfl) B.n_len (by decide +kernel) (pa_cons (pv 1) pa_nil)) pa_nil))) (fun _ _ => rfl)))), ?_⟩
  refine ⟨_, rfl, _, rfl, _, rfl, l, _, rfl, .inl (SqL.of hl), ?_⟩
  refine ⟨a, xs.length, rfl, src, by omega, by omega, fun r H' r0 r1 s' kp => ?_⟩
  obtain ⟨v, hv, _, e⟩ := at_of_lt r0 r1
  exact ⟨l, _, _, _, rfl, rfl, SqL.of (kp _ _ la hl), e, k v _ hv s' kp⟩
end
end Pl
namespace Pl
open PySem PySem.Spec PyProof.Rows L2
/-! the mathematics -/
/-- the ints in ascending order -/
def srt (ns : List Int) : List Int := ns.mergeSort
theorem srt_perm (ns : List Int) : (srt ns).Perm ns := List.mergeSort_perm _ _
theorem srt_sorted (ns : List Int) : (srt ns).Pairwise (· ≤ ·) := by
  have h := List.pairwise_mergeSort (le := fun (a b : Int) => decide (a ≤ b)) (fun a b c h1 h2 => by simp at *; omega) (fun a b => by simp; omega) ns
  exact h.imp fun h => by simpa using h
theorem srt_of {l ns : List Int} (p : l.Perm ns) (s : l.Pairwise (· ≤ ·)) : l = srt ns := PySem.W.ksm_same (p.trans (srt_perm ns).symm) s (srt_sorted ns)
theorem srt_length (ns : List Int) : (srt ns).length = ns.length := (srt_perm ns).length_eq
/-- the sum of the k smallest -/
def low (ns : List Int) (k : Nat) : Int := ((srt ns).take k).sum
theorem cut_take {xs : List V} {n : Nat} (h : n ≤ xs.length) : cutV xs none (some (n : Int)) = xs.take n := by
  unfold cutV
  rw [HT.sIx_none, HT.sIx_nat, List.drop_zero, Nat.sub_zero, Nat.min_eq_left h]
/-- the second is at least as calm as the first -/
def calm (ns ms : List Int) : Bool := decide (ns.sum = ms.sum) && (List.range (ns.length + 1)).all fun k => decide (low ns k ≤ low ms k)
/-- an integer from 0 to m -/
def isTo (m : Int) : V → Bool
  | .int i => decide (0 ≤ i) && decide (i ≤ m)
  | _ => false
def isInt : V → Bool
  | .int _ => true
  | _ => false
/-- what isinstance says of the value: whether it is an int that is no bool -/
def Kd (K : PySem.W.Frag) (H : Hp) (x : V) : Prop := ∃ (t : Value) (bi bb : Bool), TyX K H x t ∧ PySem.W.kitOne K t (.type "int") = some bi ∧ PySem.W.kitOne K t (.type "bool") = some bb ∧ (bi && !bb) = isInt x
theorem Kd.int {K : PySem.W.Frag} {H : Hp} (i : Int) : Kd K H (.int i) := ⟨_, true, false, .base (.int i), kit_ty (by decide +kernel), kit_ty (by decide +kernel), rfl⟩
theorem TyX.same {K : PySem.W.Frag} {H H' : Hp} {x : V} {t : Value} (s : Same H H') (h : TyX K H x t) : TyX K H' x t := by
  cases h with
  | base b =>
    refine .base ?_
    cases b with
    | non => exact .non
    | bl y => exact .bl y
    | int i => exact .int i
    | str y => exact .str y
    | flt y => exact .flt y
    | lst e => exact .lst (s _ _ e)
    | frz e => exact .frz (s _ _ e)
    | tup e => exact .tup (s _ _ e)
    | dK e => exact .dK (s _ _ e)
    | dT e => exact .dT (s _ _ e)
    | ins e cl a b c d => exact .ins (s _ _ e) cl a b c d
  | byt b => exact .byt b
  | set e => exact .set (s _ _ e)
  | kList e c => exact .kList e c
  | kTuple e c => exact .kTuple e c
  | kDict e c => exact .kDict e c
  | fTuple e => exact .fTuple (s _ _ e)
  | fDict e => exact .fDict (s _ _ e)
theorem Kd.same {K : PySem.W.Frag} {H H' : Hp} {x : V} (s : Same H H') (h : Kd K H x) : Kd K H' x := by
  obtain ⟨t, bi, bb, ty, r⟩ := h
  exact ⟨t, bi, bb, TyX.same s ty, r⟩
/-! what the top has written of Share -/
structure Cn (mg : Str → Option Value) : Prop where
  c_FEWEST_STATES : ∃ t, mg "FEWEST_STATES" = some (.int 2 t)
  c_MOST_STATES : ∃ t, mg "MOST_STATES" = some (.int 6 t)
  c_MOST_IN_A_STATE : ∃ t, mg "MOST_IN_A_STATE" = some (.int 30 t)
structure ShK (K : PySem.W.Frag) (mg : Str → Option Value) (C : Addr) : Prop where
  cl : Cls K C
  nB : NoAttr K C "by_state"
  mgC : mg "Share" = some (.ref C)
  mks : PySem.W.makesIn K C = true
  kc : PySem.W.keepIn K (.ref C) = true
  ca : PySem.W.findIn K (.ref C) "__class__" = some (some (.builtin "object.__class__"))
  cg : PySem.W.specialIn K (.builtin "object.__class__") "__get__" = some (some (.builtin "getset_descriptor.__get__"))
  ct : PySem.W.takesIn K (.builtin "object.__class__") = some true
  mro : PySem.W.mroIn K C (.type "object") = some true
  kit : PySem.W.kitOne K (.ref C) (.ref C) = some true
  fi : ∀ f, PySem.W.findIn K (.ref C) "__call__" = some (some (.ref f)) → PySem.W.fnIn K f = true
/-- the same, of the written part alone -/
structure ShF (K : PySem.W.Frag) (C : Addr) : Prop where
  pg : PySem.W.plainGet K C Str.empty = true
  hd : PySem.W.hasDictIn K C = true
  po : PySem.W.plainOver K C = true
  sa : PySem.W.findIn K (.ref C) "__setattr__" = some (some (.builtin "object.__setattr__"))
  nB : PySem.W.findIn K (.ref C) "by_state" = some none
  mks : PySem.W.makesIn K C = true
  kc : PySem.W.keepIn K (.ref C) = true
  ca : PySem.W.findIn K (.ref C) "__class__" = some (some (.builtin "object.__class__"))
  cg : PySem.W.specialIn K (.builtin "object.__class__") "__get__" = some (some (.builtin "getset_descriptor.__get__"))
  ct : PySem.W.takesIn K (.builtin "object.__class__") = some true
  mro : PySem.W.mroIn K C (.type "object") = some true
  kit : PySem.W.kitOne K (.ref C) (.ref C) = some true
theorem ShF.k {K : PySem.W.Frag} {mg : Str → Option Value} {C : Addr} (s : ShF K C) (c : CallF K C) (g : mg "Share" = some (.ref C)) : ShK K mg C :=
  ⟨⟨s.pg, s.hd, s.po, s.sa⟩, s.nB, g, s.mks, s.kc, s.ca, s.cg, s.ct, s.mro, s.kit, fun f h => by
    obtain ⟨f', a, b⟩ := c.ex
    rw [a] at h
    cases h
    exact b⟩
def shF (t : Addr) : List (Str × V) := [("by_state", .ref t)]
theorem shF_get (t : Addr) : (shF t).lookup ("by_state" : Str) = some (.ref t) := by simp [shF, List.lookup]
/-- a share with the amounts ns stands at s, its tuple at t -/
def ShAt (C : Addr) (H : Hp) (s t : Addr) (ns : List Int) : Prop := (∃ dx, H s = some (.ins C dx (shF t))) ∧ H t = some (.tup (ns.map V.int)) ∧ 2 ≤ ns.length ∧ ns.length ≤ 6 ∧ Am ns
theorem ShAt.same {C : Addr} {H H' : Hp} {s t : Addr} {ns : List Int} (h : ShAt C H s t ns) (k : Same H H') : ShAt C H' s t ns := by
  obtain ⟨⟨dx, h1⟩, h2, r⟩ := h
  exact ⟨⟨dx, k _ _ h1⟩, k _ _ h2, r⟩
theorem ShAt.kp {C : Addr} {H H' : Hp} {s t a : Addr} {ns : List Int} (h : ShAt C H s t ns) (sr : Src H a) (k : Kp a H H') : ShAt C H' s t ns := by
  obtain ⟨⟨dx, h1⟩, h2, r⟩ := h
  exact ⟨⟨dx, k _ _ (sr.neI h1) h1⟩, k _ _ (sr.neT h2) h2, r⟩
def spIsI (K : PySem.W.Frag) : Sp := fun vs H Q _ => ∃ x : V, vs = [x] ∧ Kd K H x ∧ Q (.bl (isInt x)) H
def spIsInt (K : PySem.W.Frag) : Sp := fun vs H Q _ => ∃ (x : V) (m : Int), vs = [x, .int m] ∧ Kd K H x ∧ Q (.bl (isTo m x)) H
/-- a tuple of 2 to 6 integers from 0 to 30 -/
def isAm (xs : List V) : Bool := decide (2 ≤ xs.length) && decide (xs.length ≤ 6) && xs.all (isTo 30)
def spIsAm (K : PySem.W.Frag) : Sp := fun vs H Q _ => ∃ x : V, vs = [x] ∧
  ((∃ (p : Addr) (xs : List V), x = .ref p ∧ H p = some (.tup xs) ∧ xs.length ≤ 1000 ∧ (∀ y ∈ xs, Kd K H y) ∧ ∀ H', Same H H' → Q (.bl (isAm xs)) H') ∨
   (∃ t, TyX K H x t ∧ PySem.W.kitOne K t (.type "tuple") = some false ∧ Q (.bl false) H))
theorem isAm_ints {ns : List Int} (h2 : 2 ≤ ns.length) (h6 : ns.length ≤ 6) (am : Am ns) : isAm (ns.map V.int) = true := by
  simp only [isAm, List.length_map, Bool.and_eq_true, decide_eq_true_eq, List.all_eq_true]
  refine ⟨⟨h2, h6⟩, fun x hx => ?_⟩
  obtain ⟨i, hi, rfl⟩ := List.mem_map.mp hx
  obtain ⟨a, b⟩ := am i hi
  simp [isTo, a, b]
/-- a tuple of two parts, or no tuple -/
def spIsPr (K : PySem.W.Frag) : Sp := fun vs H Q _ => ∃ x : V, vs = [x] ∧
  ((∃ (p : Addr) (xs : List V), x = .ref p ∧ H p = some (.tup xs) ∧ Q (.bl (decide ((xs.length : Int) = 2))) H) ∨
   (∃ t, TyX K H x t ∧ PySem.W.kitOne K t (.type "tuple") = some false ∧ Q (.bl false) H))
def spInit (C : Addr) : Sp := fun vs H Q _ => ∃ (p t dx : Addr) (ns : List Int), vs = [.ref p, .ref t] ∧ H p = some (.ins C dx []) ∧ H t = some (.tup (ns.map V.int)) ∧ 2 ≤ ns.length ∧ ns.length ≤ 6 ∧ Am ns ∧
  ∀ H', Kp p H H' → ShAt C H' p t ns → Q .non H'
theorem mk_at {C t x dx : Addr} {ns : List Int} {H : Hp} {R : Hp → Prop} {E : XK} (nx : H x = none) (nd : H dx = none) (ht : H t = some (.tup (ns.map V.int))) (h2 : 2 ≤ ns.length) (h6 : ns.length ≤ 6) (am : Am ns)
    (k : ∀ H' : Hp, Same H H' → ShAt C H' x t ns → R H') : spInit C (.ref x :: ([.ref t] ++ [])) (upd (upd H dx (.own x)) x (.ins C dx [])) (fun v H2 => v = .non ∧ R H2) E := by
  have s1 : Same H (upd (upd H dx (.own x)) x (.ins C dx [])) := same_put (same_put (Same.refl H) nd) nx
  refine ⟨x, t, dx, ns, rfl, upd_same, s1 _ _ ht, h2, h6, am, fun H' kp sh => ⟨rfl, k H' (fun b o e => kp b o (ne_of_none e nx) (s1 b o e)) sh⟩⟩
def spTotal (C : Addr) : Sp := fun vs H Q _ => ∃ (s t : Addr) (ns : List Int), vs = [.ref s] ∧ ShAt C H s t ns ∧ Q (.int ns.sum) H
def spLen (C : Addr) : Sp := fun vs H Q _ => ∃ (s t : Addr) (ns : List Int), vs = [.ref s] ∧ ShAt C H s t ns ∧ Q (.int ns.length) H
def spCall (C : Addr) : Sp := fun vs H Q _ => ∃ (s t : Addr) (ns : List Int) (k : Nat), vs = [.ref s, .int k] ∧ ShAt C H s t ns ∧ k ≤ ns.length ∧ ∀ H', Same H H' → Q (.int (low ns k)) H'
def spPair (C : Addr) : Sp := fun vs H Q _ => ∃ (s1 t1 s2 t2 : Addr) (ns ms : List Int), vs = [.ref s1, .ref s2] ∧ ShAt C H s1 t1 ns ∧ ShAt C H s2 t2 ms ∧ ns.length = ms.length ∧ Q .non H
def spCalm (C : Addr) : Sp := fun vs H Q _ => ∃ (s1 t1 s2 t2 : Addr) (ns ms : List Int), vs = [.ref s1, .ref s2] ∧ ShAt C H s1 t1 ns ∧ ShAt C H s2 t2 ms ∧ ns.length = ms.length ∧
  ∀ H', Same H H' → Q (.bl (calm ns ms)) H'
def spCalmer (C : Addr) : Sp := fun vs H Q _ => ∃ (s1 t1 s2 t2 : Addr) (ns ms : List Int), vs = [.ref s1, .ref s2] ∧ ShAt C H s1 t1 ns ∧ ShAt C H s2 t2 ms ∧ ns.length = ms.length ∧
  ∀ H', Same H H' → Q (.bl (calm ns ms && !calm ms ns)) H'
end Pl
namespace Pl
open PySem PySem.Spec PyProof.Rows L2
section
variable {P : Program} {w : World} {K : PySem.W.Frag} {mg : Str → Option Value} {base : Heap} {CShare : Addr}
abbrev st_is_integer : Stmt := top 2
theorem sc_is_integer : FnScope ["thing"] ["thing"] (defScope st_is_integer) := ⟨rfl, rfl, rfl, by decide +kernel, rfl, by decide +kernel, by decide +kernel⟩
theorem ok_isi (B : Bn mg) (D : Df K mg "is_integer" st_is_integer ["thing"]) : Cal P w K mg base 1 "is_integer" ["thing"] (spIsI K) := by
  refine D.cal sc_is_integer (fun vs H Q E h => ?_) (fun f cdv A out s H vs Q E hr h => ?_)
  · obtain ⟨x, rfl, _⟩ := h
    rfl
  obtain ⟨x, rfl, ⟨t, bi, bb, ty, k1, k2, kd⟩, k⟩ := h
  refine ⟨_, (pss_one (ps_ret (pe_and (pe_callB call_isi (by rfl) B.n_isinstance (by decide +kernel) (pa_cons (pv 0) (pa_cons (pe_bltn (v := .ty "int") (by rfl) B.n_int (by decide +kernel) rfl) pa_nil))) (pe_one (pe_not (pe_callB call_isi (by rfl) B.n_isinstance (by decide +kernel) (pa_cons (pv 0) (pa_cons (pe_bltn (v := .ty "bool") (by rfl) B.n_bool (by decide +kernel) rfl) pa_nil)))))))), ?_⟩
  refine ⟨_, rfl, x, _, t, _, bi, rfl, .ty _, ty, k1, bi, rfl, ?_⟩
  rw [← kd] at k
  cases bi with
  | false => exact iteF k
  | true =>
    refine iteT ⟨_, rfl, x, _, t, _, bb, rfl, .ty _, ty, k2, bb, rfl, ?_⟩
    exact k
abbrev st_is_integer_to : Stmt := top 3
theorem sc_is_integer_to : FnScope ["thing", "most"] ["thing", "most"] (defScope st_is_integer_to) := ⟨rfl, rfl, rfl, by decide +kernel, rfl, by decide +kernel, by decide +kernel⟩
theorem ok_isint (c_is_integer : Cal P w K mg base 1 "is_integer" ["thing"] (spIsI K)) (D : Df K mg "is_integer_to" st_is_integer_to ["thing", "most"]) : Cal P w K mg base 2 "is_integer_to" ["thing", "most"] (spIsInt K) := by
  refine D.cal sc_is_integer_to (fun vs H Q E h => ?_) (fun f cdv A out s H vs Q E hr h => ?_)
  · obtain ⟨x, m, rfl, _⟩ := h
    rfl
  obtain ⟨x, m, rfl, kd, k⟩ := h
  refine ⟨_, (pss_one (ps_ret (pe_and (pe_fn c_is_integer (hr.mono (by decide)) (pa_cons (pv 0) pa_nil)) (pe_one (pe_chain op_le op_le pe_int (pv 0) (pv 1)))))), ?_⟩
  refine ⟨_, rfl, x, rfl, kd, _, rfl, ?_⟩
  cases x with
  | int i =>
    refine iteT ?_
    refine ⟨_, rfl, _, _, rfl, rfl, _, rfl, ?_⟩
    have e : isTo m (.int i) = (decide (0 ≤ i) && decide (i ≤ m)) := rfl
    rw [e] at k
    refine ite2 (fun c => ?_) (fun c => ?_)
    · have c2 : decide (0 ≤ i) = true := c
      rw [c2] at k
      exact ⟨_, rfl, _, _, rfl, rfl, k⟩
    · have c2 : decide (0 ≤ i) = false := by simpa using c
      rw [c2] at k
      exact k
  | _ => exact iteF k
abbrev st_is_amounts : Stmt := top 20
theorem sc_is_amounts : FnScope ["thing", "amount"] ["thing"] (defScope st_is_amounts) := ⟨rfl, rfl, rfl, by decide +kernel, rfl, by decide +kernel, by decide +kernel⟩
theorem ok_isam (B : Bn mg) (Cc : Cn mg) (c_is_integer_to : Cal P w K mg base 2 "is_integer_to" ["thing", "most"] (spIsInt K)) (D : Df K mg "is_amounts" st_is_amounts ["thing"]) : Cal P w K mg base 3 "is_amounts" ["thing"] (spIsAm K) := by
  refine D.cal sc_is_amounts (fun vs H Q E h => ?_) (fun f cdv A out s H vs Q E hr h => ?_)
  · obtain ⟨x, rfl, _⟩ := h
    rfl
  obtain ⟨x, rfl, h⟩ := h
  refine ⟨_, (pss_cons (ps_if (PW.pt (pw_or (pt_not (pt_val (pe_callB call_isi (by rfl) B.n_isinstance (by decide +kernel) (pa_cons (pv 0) (pa_cons (pe_bltn (v := .ty "tuple") (by rfl) B.n_tuple (by decide +kernel) rfl) pa_nil))))) (pw_or1 (pt_not (pt_chain op_le op_le (pe_glob (v := .int 2) rfl Cc.c_FEWEST_STATES.choose_spec ⟨_, rfl⟩) (pe_callB call_len_seq (by rfl) B.n_len (by decide +kernel) (pa_cons (pv 0) pa_nil)) (pe_glob (v := .int 6) rfl Cc.c_MOST_STATES.choose_spec ⟨_, rfl⟩)))))) (pss_one (ps_ret pe_bl)) pss_nil)
   (pss_one (ps_ret (pe_callB (cr_all rfl) (by rfl) B.n_all (by decide +kernel) (pa_cons (pe_lc (own := [("amount", 1)]) (g := gName 1) rfl sc_is_amounts.nd (pi_tup (pv 0)) (blkOk_by (N := ["thing", "amount"]) (sc := defScope st_is_amounts) (by decide +kernel)) (fun _ _ _ _ _ => (pg_name (i := 1) sc_is_amounts.nd rfl (.inl rfl))) (fun _ _ _ _ _ => pts_nil) (fun _ _ _ _ _ => (pe_fn c_is_integer_to (hr.mono (by decide)) (pa_cons (pv 1) (pa_cons (pe_glob (v := .int 30) rfl Cc.c_MOST_IN_A_STATE.choose_spec ⟨_, rfl⟩) pa_nil))))) pa_nil))))), ?_⟩
  rcases h with ⟨p, xs, rfl, hp, xl, kd, k⟩ | ⟨t, ty, kt, k⟩
  · refine ⟨_, rfl, _, _, _, _, true, rfl, .ty _, .base (.tup hp), kit_ty (by decide +kernel), _, rfl, iteF ?_⟩
    refine ⟨_, rfl, p, _, rfl, .inr (SqT.of hp), _, _, rfl, rfl, _, rfl, ?_⟩
    have no : isAm xs = false → Q (.bl false) H := fun e => by
      have z := k H (Same.refl H)
      rw [e] at z
      exact z
    refine ite2 (fun c => ?_) (fun c => ?_)
    · refine ⟨_, _, rfl, rfl, _, rfl, ?_⟩
      have c2 : (2 : Int) ≤ xs.length := of_decide_eq_true c
      refine ite2 (fun c3 => ?_) (fun c3 => ?_)
      · refine no ?_
        have c4 : ¬ ((xs.length : Int) ≤ 6) := by simpa using c3
        have c5 : decide (xs.length ≤ 6) = false := by simp; omega
        simp [isAm, c5]
      · have c4 : (xs.length : Int) ≤ 6 := by simpa using c3
        have e0 : isAm xs = xs.all (isTo 30) := by
          have a1 : decide (2 ≤ xs.length) = true := by simp; omega
          have a2 : decide (xs.length ≤ 6) = true := by simp; omega
          simp [isAm, a1, a2]
        refine ⟨_, rfl, p, rfl, ⟨_, SqT.of hp⟩, fun D hD => lc_tup (K := K) (a := p) (xs := xs) (fun i H' => Same H H' ∧ H' D = some (.lst ((xs.take i).map fun x => .bl (isTo 30 x))))
          ⟨same_new (Same.refl H) hD, upd_same⟩ (fun i H' _ q => SqT.of (q.1 _ _ hp)) (fun i x H' hx q => ⟨rfl, tyes ?_⟩) (fun H' q => ?_)⟩
        · refine ⟨_, rfl, x, 30, rfl, (kd x (List.mem_of_getElem? hx)).same q.1, ?_⟩
          refine ⟨_, q.2, size_lt (by simp; omega), same_put q.1 hD, ?_⟩
          rw [upd_same, List.take_add_one, hx, List.map_append]
          rfl
        · refine ⟨D, xs.map (isTo 30), rfl, ?_, ?_⟩
          · have e := q.2
            rw [List.take_length] at e
            rw [List.map_map]
            exact SqL.of e
          · have z := k H' q.1
            rw [e0] at z
            have e1 : (xs.map (isTo 30)).all id = xs.all (isTo 30) := by rw [List.all_map]; rfl
            rw [e1]
            exact z
    · refine ⟨_, rfl, iteT (no ?_)⟩
      have c4 : ¬ ((2 : Int) ≤ xs.length) := by simpa using c
      have c5 : decide (2 ≤ xs.length) = false := by simp; omega
      simp [isAm, c5]
  · exact ⟨_, rfl, x, _, t, _, false, rfl, .ty _, ty, kt, _, rfl, iteT (iteT k)⟩
abbrev st_ShInit : Stmt := inClass (top 19) 0
theorem sc_ShInit : FnScope ["self", "amounts"] ["self", "amounts"] (defScope st_ShInit) := ⟨rfl, rfl, rfl, by decide +kernel, rfl, by decide +kernel, by decide +kernel⟩
theorem ok_init (SShare : ShK K mg CShare) (c_is_amounts : Cal P w K mg base 3 "is_amounts" ["thing"] (spIsAm K)) (D : Mh K CShare "__init__" "Share.__init__" st_ShInit ["self", "amounts"]) : MCal P w K mg base 4 CShare "__init__" ["self", "amounts"] (spInit CShare) := by
  refine D.cal sc_ShInit (fun vs H Q E h => ?_) (fun f cdv A out s H vs Q E hr h => ?_)
  · obtain ⟨p, t, dx, ns, rfl, _⟩ := h
    rfl
  obtain ⟨p, t, dx, ns, rfl, hp, ht, h2, h6, am, k⟩ := h
  refine ⟨_, (pss_cons (ps_if (pt_not (pt_val (pe_fn c_is_amounts (hr.mono (by decide)) (pa_cons (pv 1) pa_nil)))) (pss_one ps_never) pss_nil)
   (pss_one (ps_fld (pv 0) (pv 1) rfl))), ?_⟩
  refine ⟨_, rfl, .ref t, rfl, .inl ⟨t, _, rfl, ht, by rw [List.length_map]; omega, fun y hy => ?_, fun H1 s1 => ?_⟩⟩
  · obtain ⟨i, _, rfl⟩ := List.mem_map.mp hy
    exact Kd.int i
  rw [isAm_ints h2 h6 am]
  refine ⟨_, rfl, iteF ?_⟩
  refine ⟨_, rfl, _, rfl, p, CShare, dx, _, rfl, s1 _ _ hp, SShare.cl, SShare.nB, (by show 0 < 1000; decide), ?_⟩
  have tp : t ≠ p := ne_of ht hp (by intro z; cases z)
  exact k _ (fun b o n e => by rw [upd_ne n]; exact s1 _ _ e) ⟨⟨dx, upd_same⟩, by rw [upd_ne tp]; exact s1 _ _ ht, h2, h6, am⟩
end
end Pl
namespace Pl
open PySem PySem.Spec PyProof.Rows L2
section
variable {P : Program} {w : World} {K : PySem.W.Frag} {mg : Str → Option Value} {base : Heap} {CShare : Addr}
abbrev st_Sh_len : Stmt := inClass (top 19) 4
theorem sc_Sh_len : FnScope ["self"] ["self"] (defScope st_Sh_len) := ⟨rfl, rfl, rfl, by decide +kernel, rfl, by decide +kernel, by decide +kernel⟩
theorem ok_len (B : Bn mg) (SShare : ShK K mg CShare) (D : Mh K CShare "__len__" "Share.__len__" st_Sh_len ["self"]) : MCal P w K mg base 2 CShare "__len__" ["self"] (spLen CShare) := by
  refine D.cal sc_Sh_len (fun vs H Q E h => ?_) (fun f cdv A out s H vs Q E hr h => ?_)
  · obtain ⟨s, t, ns, rfl, _⟩ := h
    rfl
  obtain ⟨s, t, ns, rfl, ⟨⟨dx, h1⟩, h2, _⟩, k⟩ := h
  refine ⟨_, (pss_one (ps_ret (pe_callB call_len_seq (by rfl) B.n_len (by decide +kernel) (pa_cons (pe_fld (pv 0) rfl) pa_nil)))), ?_⟩
  refine ⟨_, rfl, s, CShare, dx, _, _, rfl, h1, SShare.cl, SShare.nB, shF_get t, t, _, rfl, .inr (SqT.of h2), ?_⟩
  rw [List.length_map]
  exact k
end
end Pl
namespace Pl
open PySem PySem.Spec PyProof.Rows L2
section
variable {P : Program} {w : World} {K : PySem.W.Frag} {mg : Str → Option Value} {base : Heap} {CShare : Addr}
abbrev st_Sh_amounts : Stmt := inClass (top 19) 1
theorem sc_Sh_amounts : FnScope ["self"] ["self"] (defScope st_Sh_amounts) := ⟨rfl, rfl, rfl, by decide +kernel, rfl, by decide +kernel, by decide +kernel⟩
theorem ok_pamounts (SShare : ShK K mg CShare) (D : Ph K CShare "amounts" "Share.amounts" st_Sh_amounts ["self"]) : PCal P w K mg base 2 CShare "amounts" ["self"] (getSp CShare "by_state") := by
  refine D.cal sc_Sh_amounts (fun vs H Q E h => ?_) (fun f cdv A out s H vs Q E hr h => ?_)
  · obtain ⟨a, dx, fs, v, rfl, _⟩ := h
    rfl
  obtain ⟨a, dx, fs, v, rfl, h1, l, k⟩ := h
  refine ⟨_, (pss_one (ps_ret (pe_fld (pv 0) rfl))), ?_⟩
  exact ⟨_, rfl, a, CShare, dx, _, _, rfl, h1, SShare.cl, SShare.nB, l, k⟩
end
end Pl
namespace Pl
open PySem PySem.Spec PyProof.Rows L2
theorem low_succ {ns : List Int} {i : Nat} {x : Int} (h : (srt ns)[i]? = some x) : low ns (i + 1) = low ns i + x := by
  unfold low
  rw [List.take_add_one, h, List.sum_append]
  simp
theorem perm_sum {l m : List Int} (h : l.Perm m) : l.sum = m.sum := by
  induction h with
  | nil => rfl
  | cons x _ ih => simp [ih]
  | swap x y l => simp; omega
  | trans _ _ a b => exact a.trans b
theorem low_zero (ns : List Int) : low ns 0 = 0 := rfl
theorem low_all (ns : List Int) : low ns ns.length = ns.sum := by
  unfold low
  rw [← srt_length ns, List.take_length]
  exact perm_sum (srt_perm ns)
theorem dpInts (K : PySem.W.Frag) (H : Hp) : ∀ ns : List Int, DpAll K H (ns.map V.int) (ns.map PyData.int)
  | [] => .nil
  | n :: ns => .cons (.int n) (dpInts K H ns)
theorem depthInts : ∀ ns : List Int, PyData.depthAll (ns.map PyData.int) = 0
  | [] => rfl
  | n :: ns => by
    show max 0 (PyData.depthAll (ns.map PyData.int)) = 0
    rw [depthInts ns]; rfl
theorem layInts : ∀ ns : List Int, PyData.canLayAll0 (ns.map PyData.int) = true
  | [] => by simp [PyData.canLayAll0]
  | n :: ns => by
    simp only [List.map_cons, PyData.canLayAll0, PyData.canLay0, layInts ns, Bool.and_self]
theorem shapedInts (ns : List Int) : SeqAt.shaped (.list (ns.map PyData.int)) = true := by
  show (PyData.canLay0 (.list (ns.map PyData.int)) && decide (PyData.depth (.list (ns.map PyData.int)) ≤ 64)) = true
  simp only [PyData.canLay0, PyData.depth, layInts, depthInts]
  decide
theorem cons_erase {x : Int} : ∀ {ns : List Int} {j : Nat}, ns[j]? = some x → ([x] ++ ns.eraseIdx j).Perm ns
  | [], _, h => by simp at h
  | n :: ns, 0, h => by
    obtain rfl : n = x := by simpa using h
    exact List.Perm.refl _
  | n :: ns, j + 1, h => by
    have q := cons_erase (ns := ns) (j := j) (by simpa using h)
    show (x :: n :: ns.eraseIdx j).Perm (n :: ns)
    exact (List.Perm.swap n x _).trans (List.Perm.cons n q)
theorem map_erase {α β : Type} (f : α → β) : ∀ (l : List α) (j : Nat), (l.map f).eraseIdx j = (l.eraseIdx j).map f
  | [], j => rfl
  | x :: l, 0 => rfl
  | x :: l, j + 1 => by
    show f x :: (l.map f).eraseIdx j = f x :: (l.eraseIdx j).map f
    rw [map_erase f l j]
theorem perm_erase {ns ms zs : List Int} {j : Nat} {x : Int} (p : (ms ++ ns).Perm zs) (h : ns[j]? = some x) : ((ms ++ [x]) ++ ns.eraseIdx j).Perm zs := by
  refine List.Perm.trans ?_ p
  rw [List.append_assoc]
  refine List.Perm.append_left _ ?_
  exact cons_erase h
theorem at_int {ms : List Int} {r : Int} (h0 : 0 ≤ r) (h1 : r < ms.length) : ∃ x, ms[r.toNat]? = some x ∧ x ∈ ms ∧ atI (ms.map V.int) r = some (.int x) := by
  obtain ⟨x, hx, e, _⟩ := at_of_lt h0 h1
  refine ⟨x, e, hx, ?_⟩
  have z := atI_nat (xs := ms.map V.int) (j := r.toNat) (v := .int x) (by rw [List.getElem?_map, e]; rfl)
  rw [Int.toNat_of_nonneg h0] at z
  exact z
theorem ix_of {n : Nat} {r : Int} (h0 : 0 ≤ r) (h1 : r < n) : ixN n r = some r.toNat := by
  unfold ixN
  rw [if_pos h0, if_pos h1]
theorem am_set {ms : List Int} {j : Nat} {x : Int} (am : Am ms) (h0 : 0 ≤ x) (h1 : x ≤ 30) : Am (ms.set j x) := fun r hr => by
  rcases List.mem_or_eq_of_mem_set hr with h | h
  · exact am r h
  · rw [h]; exact ⟨h0, h1⟩
end Pl
namespace Pl
open PySem PySem.Spec PyProof.Rows L2
/-- what repr can show -/
def Shw (d : PyData) : Prop := d.showable = true ∧ d.hasDict = false ∧ d.depth ≤ 60 ∧ d.shown.length ≤ sizeLine
/-- data that is not too large to be shown: depth at most k, weight at most m -/
structure Fit (k m : Nat) (d : PyData) : Prop where
  lay : d.canLay0 = true
  short : d.intsShort 13 = true
  dep : d.depth ≤ k
  wt : d.weight ≤ m
  sh : d.showable = true
  nd : d.hasDict = false
structure FitAll (k m : Nat) (ds : List PyData) : Prop where
  lay : PyData.canLayAll0 ds = true
  short : PyData.intsShortAll 13 ds = true
  dep : PyData.depthAll ds ≤ k
  wt : PyData.weightAll ds ≤ m
  sh : PyData.showableAll ds = true
  nd : PyData.hasDictAll ds = false
theorem Fit.shw {k m : Nat} {d : PyData} (f : Fit k m d) (hk : k ≤ 60 := by decide) (hm : m ≤ 2 ^ 20 := by decide) : Shw d := by
  refine ⟨f.sh, f.nd, Nat.le_trans f.dep hk, PyData.shown_fits_of_layable0 (B := 13) (by decide) (by decide) ?_ f.short⟩
  have a1 := f.lay
  have a2 : d.depth ≤ 64 := Nat.le_trans f.dep (by omega)
  have a3 : d.weight ≤ 2 ^ 20 := Nat.le_trans f.wt hm
  simp only [PyData.layable0, a1, a2, a3, decide_true, Bool.and_self]
theorem Fit.mono {k k' m m' : Nat} {d : PyData} (f : Fit k m d) (hk : k ≤ k') (hm : m ≤ m') : Fit k' m' d := ⟨f.lay, f.short, Nat.le_trans f.dep hk, Nat.le_trans f.wt hm, f.sh, f.nd⟩
theorem FitAll.mono {k k' m m' : Nat} {d : List PyData} (f : FitAll k m d) (hk : k ≤ k') (hm : m ≤ m') : FitAll k' m' d := ⟨f.lay, f.short, Nat.le_trans f.dep hk, Nat.le_trans f.wt hm, f.sh, f.nd⟩
theorem FitAll.nil {k : Nat} : FitAll k 0 [] := ⟨by simp [PyData.canLayAll0], by simp [PyData.intsShortAll], by simp [PyData.depthAll], by simp [PyData.weightAll], by simp [PyData.showableAll], by simp [PyData.hasDictAll]⟩
theorem FitAll.cons {k m n : Nat} {d : PyData} {ds : List PyData} (f : Fit k m d) (g : FitAll k n ds) : FitAll k (m + 1 + n) (d :: ds) := by
  refine ⟨?_, ?_, ?_, ?_, ?_, ?_⟩
  · simp [PyData.canLayAll0, f.lay, g.lay]
  · simp [PyData.intsShortAll, f.short, g.short]
  · have a := f.dep
    have b := g.dep
    simp only [PyData.depthAll]; omega
  · have a := f.wt
    have b := g.wt
    simp only [PyData.weightAll]; omega
  · simp [PyData.showableAll, f.sh, g.sh]
  · simp [PyData.hasDictAll, f.nd, g.nd]
theorem Fit.list {k m : Nat} {ds : List PyData} (f : FitAll k m ds) : Fit (k + 1) m (.list ds) :=
  ⟨by simpa [PyData.canLay0] using f.lay, by simpa [PyData.intsShort] using f.short, by simpa [PyData.depth] using f.dep, by simpa [PyData.weight] using f.wt, by simpa [PyData.showable] using f.sh, by simpa [PyData.hasDict] using f.nd⟩
theorem Fit.tuple {k m : Nat} {ds : List PyData} (f : FitAll k m ds) : Fit (k + 1) m (.tuple ds) :=
  ⟨by simpa [PyData.canLay0] using f.lay, by simpa [PyData.intsShort] using f.short, by simpa [PyData.depth] using f.dep, by simpa [PyData.weight] using f.wt, by simpa [PyData.showable] using f.sh, by simpa [PyData.hasDict] using f.nd⟩
theorem Fit.int {k : Nat} {i : Int} (h : i.natAbs < 2 ^ 30) : Fit k 31 (.int i) := by
  have lg : i.natAbs.log2 < 30 := by
    rcases Nat.eq_zero_or_pos i.natAbs with z | z
    · rw [z]; decide
    · exact (Nat.log2_lt (by omega)).mpr h
  refine ⟨by simp [PyData.canLay0], ?_, by simp [PyData.depth], ?_, ?_, by simp [PyData.hasDict]⟩
  · simp only [PyData.intsShort, decide_eq_true_eq]
    exact PyData.shown_int_le (by omega)
  · simp only [PyData.weight]
    split <;> omega
  · simp only [PyData.showable, decide_eq_true_eq]
    omega
theorem Fit.bool {k : Nat} (b : Bool) : Fit k 0 (.bool b) := ⟨by simp [PyData.canLay0], by simp [PyData.intsShort], by simp [PyData.depth], by simp [PyData.weight], by simp [PyData.showable], by simp [PyData.hasDict]⟩
theorem Fit.none {k : Nat} : Fit k 0 .none := ⟨by simp [PyData.canLay0], by simp [PyData.intsShort], by simp [PyData.depth], by simp [PyData.weight], by simp [PyData.showable], by simp [PyData.hasDict]⟩
theorem Fit.str {k : Nat} {x : Str} (h : PyData.strOk x = true) : Fit k x.cps.size (.str x) := ⟨by simpa [PyData.canLay0] using h, by simp [PyData.intsShort], by simp [PyData.depth], by simp [PyData.weight], by simp [PyData.showable], by simp [PyData.hasDict]⟩
theorem FitAll.ints {k : Nat} : ∀ {ns : List Int}, (∀ x ∈ ns, x.natAbs < 2 ^ 30) → FitAll k (32 * ns.length) (ns.map PyData.int)
  | [], _ => FitAll.nil
  | n :: ns, h => (FitAll.cons (Fit.int (h n List.mem_cons_self)) (FitAll.ints (ns := ns) fun x hx => h x (List.mem_cons_of_mem _ hx))).mono (Nat.le_refl _) (by simp; omega)
end Pl
namespace Pl
open PySem PySem.Spec PyProof.Rows L2
theorem Shw.v {x : V} {d : PyData} (h : Shw d) (n : ∀ i, x ≠ .int i := by intro _ z; cases z) : ShV x d := ⟨h.1, h.2.1, h.2.2.1, h.2.2.2, fun i e => absurd e (n i)⟩
def spEqualV (K : PySem.W.Frag) : Sp := fun vs H Q _ => ∃ (x y : V) (d e : PyData), vs = [x, y] ∧ Dp K H x d ∧ Dp K H y e ∧ ShV x d ∧ ShV y e ∧ Q (.bl (decide (V.str d.shown = V.str e.shown))) H
section
variable {P : Program} {w : World} {K : PySem.W.Frag} {mg : Str → Option Value} {base : Heap} {CShare : Addr}
abbrev st_l_is_equal : Stmt := top 45
theorem sc_l_is_equal : FnScope ["_law_actual", "_law_expected"] ["_law_actual", "_law_expected"] (defScope st_l_is_equal) := ⟨rfl, rfl, rfl, by decide +kernel, rfl, by decide +kernel, by decide +kernel⟩
theorem ok_equalV (B : Bn mg) (D : Df K mg "_law_is_equal" st_l_is_equal ["_law_actual", "_law_expected"]) : CalG P w K mg base 2 "_law_is_equal" ["_law_actual", "_law_expected"] (spEqualV K) := by
  refine D.calG sc_l_is_equal (fun vs H Q E h => ?_) (fun f cdv A out s H vs Q E gd hr h => ?_)
  · obtain ⟨x, y, d, e, rfl, _⟩ := h
    rfl
  obtain ⟨x, y, d, e, rfl, dp, dq, s1, s2, k⟩ := h
  refine ⟨_, (pss_one (ps_ret (pe_cmpR op_eq (pe_callB (call_reprV gd (un66 hr)) (by rfl) B.n_repr (by decide +kernel) (pa_cons (pv 0) pa_nil)) (pe_callB (call_reprV gd (un66 hr)) (by rfl) B.n_repr (by decide +kernel) (pa_cons (pv 1) pa_nil)) (nomark _)))), ?_⟩
  exact ⟨_, rfl, x, d, rfl, dp, s1, _, rfl, y, e, rfl, dq, s2, rfl, k⟩
end
end Pl
namespace Pl
open PySem PySem.Spec PyProof.Rows L2
theorem sqT_same {K : PySem.W.Frag} {H H' : Hp} {a : Addr} {xs : List V} (e : Same H H') (h : SqT K H a xs) : SqT K H' a xs := by
  rcases h with (h | ⟨o, h⟩) | h
  · exact .inl (.inl (e _ _ h))
  · exact .inl (.inr ⟨o, e _ _ h⟩)
  · exact .inr h
mutual
theorem dpSame {K : PySem.W.Frag} {H H' : Hp} (k : Same H H') : ∀ (d : PyData) (v : V), Dp K H v d → Dp K H' v d
  | .none, _, h => by cases h; exact .non
  | .bool b, _, h => by cases h; exact .bl b
  | .int i, _, h => by cases h; exact .int i
  | .str z, _, h => by cases h; exact .str z
  | .list ds, _, h => by
    cases h with
    | lst a b => exact .lst (k.seq a) (dpSameAll k ds _ b)
  | .tuple ds, _, h => by
    cases h with
    | tup a b => exact .tup (sqT_same k a) (dpSameAll k ds _ b)
  | .dict _, _, h => by cases h
theorem dpSameAll {K : PySem.W.Frag} {H H' : Hp} (k : Same H H') : ∀ (ds : List PyData) (vs : List V), DpAll K H vs ds → DpAll K H' vs ds
  | [], _, h => by cases h; exact .nil
  | d :: ds, _, h => by
    cases h with
    | cons a b => exact .cons (dpSame k d _ a) (dpSameAll k ds _ b)
end
end Pl
namespace Pl
open PySem PySem.Spec PyProof.Rows L2
section
variable {P : Program} {w : World} {K : PySem.W.Frag} {mg : Str → Option Value} {base : Heap} {CShare : Addr}
abbrev st_check_pair : Stmt := top 22
theorem sc_check_pair : FnScope ["one", "other"] ["one", "other"] (defScope st_check_pair) := ⟨rfl, rfl, rfl, by decide +kernel, rfl, by decide +kernel, by decide +kernel⟩
theorem ok_pair (B : Bn mg) (SShare : ShK K mg CShare) (m_len : MCal P w K mg base 2 CShare "__len__" ["self"] (spLen CShare)) (D : Df K mg "check_pair" st_check_pair ["one", "other"]) : Cal P w K mg base 4 "check_pair" ["one", "other"] (spPair CShare) := by
  refine D.cal sc_check_pair (fun vs H Q E h => ?_) (fun f cdv A out s H vs Q E hr h => ?_)
  · obtain ⟨s1, t1, s2, t2, ns, ms, rfl, _⟩ := h
    rfl
  obtain ⟨s1, t1, s2, t2, ns, ms, rfl, sh1, sh2, ln, k⟩ := h
  refine ⟨_, (pss_cons (ps_if (PW.pt (pw_or (pt_not (pt_val (pe_callB call_isi (by rfl) B.n_isinstance (by decide +kernel) (pa_cons (pv 0) (pa_cons (pe_glob (v := .ref CShare) rfl SShare.mgC rfl) pa_nil))))) (pw_or1 (pt_not (pt_val (pe_callB call_isi (by rfl) B.n_isinstance (by decide +kernel) (pa_cons (pv 1) (pa_cons (pe_glob (v := .ref CShare) rfl SShare.mgC rfl) pa_nil)))))))) (pss_one ps_never) pss_nil)
   (pss_one (ps_if (pt_cmpR op_ne (pe_callB (call_lenM m_len (hr.mono (by decide))) (by rfl) B.n_len (by decide +kernel) (pa_cons (pv 0) pa_nil)) (pe_callB (call_lenM m_len (hr.mono (by decide))) (by rfl) B.n_len (by decide +kernel) (pa_cons (pv 1) pa_nil)) (nomark _)) (pss_one ps_never) pss_nil))), ?_⟩
  obtain ⟨⟨d1, a1⟩, _, _, l1, _⟩ := id sh1
  obtain ⟨⟨d2, a2⟩, _, _, l2, _⟩ := id sh2
  have ty : ∀ {s d t : Addr}, H s = some (.ins CShare d (shF t)) → TyX K H (.ref s) (.ref CShare) := fun e => .base (.ins e SShare.cl SShare.ca SShare.cg SShare.ct SShare.mro)
  refine ⟨_, rfl, _, _, _, _, true, rfl, .own _, ty a1, SShare.kit, _, rfl, iteF ?_⟩
  refine ⟨_, rfl, _, _, _, _, true, rfl, .own _, ty a2, SShare.kit, _, rfl, iteF ?_⟩
  refine ⟨_, rfl, s1, d1, _, rfl, a1, s1, t1, ns, rfl, sh1, ns.length, rfl, by omega, ?_⟩
  refine ⟨_, rfl, s2, d2, _, rfl, a2, s2, t2, ms, rfl, sh2, ms.length, rfl, by omega, rfl, _, rfl, ?_⟩
  rw [ln]
  exact iteNS rfl k
end
end Pl
namespace Pl
open PySem PySem.Spec PyProof.Rows L2
/-! what the top has written of Division -/
structure Cd (mg : Str → Option Value) : Prop where
  c_FEWEST_PEOPLE : ∃ t, mg "FEWEST_PEOPLE" = some (.int 2 t)
  c_MOST_PEOPLE : ∃ t, mg "MOST_PEOPLE" = some (.int 4 t)
structure DvK (K : PySem.W.Frag) (mg : Str → Option Value) (C : Addr) : Prop where
  cl : Cls K C
  nP : NoAttr K C "by_person"
  mgC : mg "Division" = some (.ref C)
  mks : PySem.W.makesIn K C = true
  kc : PySem.W.keepIn K (.ref C) = true
  ca : PySem.W.findIn K (.ref C) "__class__" = some (some (.builtin "object.__class__"))
  cg : PySem.W.specialIn K (.builtin "object.__class__") "__get__" = some (some (.builtin "getset_descriptor.__get__"))
  ct : PySem.W.takesIn K (.builtin "object.__class__") = some true
  mro : PySem.W.mroIn K C (.type "object") = some true
  kit : PySem.W.kitOne K (.ref C) (.ref C) = some true
structure DvF (K : PySem.W.Frag) (C : Addr) : Prop where
  pg : PySem.W.plainGet K C Str.empty = true
  hd : PySem.W.hasDictIn K C = true
  po : PySem.W.plainOver K C = true
  sa : PySem.W.findIn K (.ref C) "__setattr__" = some (some (.builtin "object.__setattr__"))
  nP : PySem.W.findIn K (.ref C) "by_person" = some none
  mks : PySem.W.makesIn K C = true
  kc : PySem.W.keepIn K (.ref C) = true
  ca : PySem.W.findIn K (.ref C) "__class__" = some (some (.builtin "object.__class__"))
  cg : PySem.W.specialIn K (.builtin "object.__class__") "__get__" = some (some (.builtin "getset_descriptor.__get__"))
  ct : PySem.W.takesIn K (.builtin "object.__class__") = some true
  mro : PySem.W.mroIn K C (.type "object") = some true
  kit : PySem.W.kitOne K (.ref C) (.ref C) = some true
theorem DvF.k {K : PySem.W.Frag} {mg : Str → Option Value} {C : Addr} (s : DvF K C) (g : mg "Division" = some (.ref C)) : DvK K mg C :=
  ⟨⟨s.pg, s.hd, s.po, s.sa⟩, s.nP, g, s.mks, s.kc, s.ca, s.cg, s.ct, s.mro, s.kit⟩
/-- shares with these amounts stand at these places -/
inductive ShAll (C : Addr) (H : Hp) : List Addr → List (List Int) → Prop where
  | nil : ShAll C H [] []
  | cons {s t : Addr} {ns : List Int} {ss : List Addr} {rows : List (List Int)} (h : ShAt C H s t ns) (r : ShAll C H ss rows) : ShAll C H (s :: ss) (ns :: rows)
theorem ShAll.same {C : Addr} {H H' : Hp} (k : Same H H') : ∀ {ss : List Addr} {rows : List (List Int)}, ShAll C H ss rows → ShAll C H' ss rows
  | _, _, .nil => .nil
  | _, _, .cons h r => .cons (h.same k) (r.same k)
theorem ShAll.len {C : Addr} {H : Hp} : ∀ {ss : List Addr} {rows : List (List Int)}, ShAll C H ss rows → ss.length = rows.length
  | _, _, .nil => rfl
  | _, _, .cons h r => by rw [List.length_cons, List.length_cons, r.len]
theorem ShAll.get {C : Addr} {H : Hp} : ∀ {ss : List Addr} {rows : List (List Int)} {i : Nat} {s : Addr}, ShAll C H ss rows → ss[i]? = some s → ∃ t ns, rows[i]? = some ns ∧ ShAt C H s t ns
  | _, _, 0, _, .cons h r, e => by cases e; exact ⟨_, _, rfl, h⟩
  | _, _, i + 1, _, .cons h r, e => by
    obtain ⟨t, ns, a, b⟩ := r.get (i := i) e
    exact ⟨t, ns, a, b⟩
  | _, _, _, _, .nil, e => by cases e
theorem ShAll.snoc {C : Addr} {H : Hp} {s t : Addr} {ns : List Int} (x : ShAt C H s t ns) : ∀ {ss : List Addr} {rows : List (List Int)}, ShAll C H ss rows → ShAll C H (ss ++ [s]) (rows ++ [ns])
  | _, _, .nil => .cons x .nil
  | _, _, .cons h r => .cons h (r.snoc x)
/-- the amounts of a division -/
def Rows (rows : List (List Int)) : Prop := 2 ≤ rows.length ∧ rows.length ≤ 4 ∧ ∃ n, 2 ≤ n ∧ n ≤ 6 ∧ ∀ ns ∈ rows, ns.length = n ∧ Am ns
theorem Rows.ne {rows : List (List Int)} (h : Rows rows) : rows ≠ [] := fun e => by
  have := h.1
  rw [e] at this
  simp at this
theorem Rows.am {rows : List (List Int)} (h : Rows rows) : ∀ ns ∈ rows, Am ns := fun ns hn => by
  obtain ⟨_, _, n, _, _, q⟩ := h
  exact (q ns hn).2
theorem Rows.l2 {rows : List (List Int)} (h : Rows rows) {ns : List Int} (hn : ns ∈ rows) : 2 ≤ ns.length := by
  obtain ⟨_, _, n, a, _, q⟩ := h
  have := (q ns hn).1
  omega
theorem Rows.l6 {rows : List (List Int)} (h : Rows rows) {ns : List Int} (hn : ns ∈ rows) : ns.length ≤ 6 := by
  obtain ⟨_, _, n, _, a, q⟩ := h
  have := (q ns hn).1
  omega
theorem Rows.eq {rows : List (List Int)} (h : Rows rows) {ns ms : List Int} (hn : ns ∈ rows) (hm : ms ∈ rows) : ns.length = ms.length := by
  obtain ⟨_, _, n, _, a, q⟩ := h
  rw [(q ns hn).1, (q ms hm).1]
def dvF (t : Addr) : List (Str × V) := [("by_person", .ref t)]
theorem dvF_get (t : Addr) : (dvF t).lookup ("by_person" : Str) = some (.ref t) := by simp [dvF, List.lookup]
/-- a division with the amounts rows stands at d, its tuple of shares at t -/
def DvAt (CD C : Addr) (H : Hp) (d t : Addr) (ss : List Addr) (rows : List (List Int)) : Prop := (∃ dx, H d = some (.ins CD dx (dvF t))) ∧ H t = some (.tup (ss.map V.ref)) ∧ ShAll C H ss rows ∧ Rows rows
theorem DvAt.same {CD C : Addr} {H H' : Hp} {d t : Addr} {ss : List Addr} {rows : List (List Int)} (h : DvAt CD C H d t ss rows) (k : Same H H') : DvAt CD C H' d t ss rows := by
  obtain ⟨⟨dx, h1⟩, h2, h3, r⟩ := h
  exact ⟨⟨dx, k _ _ h1⟩, k _ _ h2, h3.same k, r⟩
def spDvInit (CD C : Addr) : Sp := fun vs H Q _ => ∃ (d p dx : Addr) (ss : List Addr) (rows : List (List Int)), vs = [.ref d, .ref p] ∧ H d = some (.ins CD dx []) ∧ H p = some (.tup (ss.map V.ref)) ∧ ShAll C H ss rows ∧ Rows rows ∧
  ∀ H', Kp d H H' → DvAt CD C H' d p ss rows → Q .non H'
theorem ShAll.kp {C d : Addr} {H H' : Hp} (k : Kp d H H') (hd : ∃ CD dx fs, H d = some (.ins CD dx fs) ∧ ∀ t, fs ≠ shF t) : ∀ {ss : List Addr} {rows : List (List Int)}, ShAll C H ss rows → ShAll C H' ss rows
  | _, _, .nil => .nil
  | _, _, .cons (s := s) (t := t) h r => by
    refine .cons (t := t) ?_ (r.kp k hd)
    obtain ⟨CD, dx, fs, e, nf⟩ := hd
    obtain ⟨⟨dx2, h1⟩, h2, q⟩ := h
    refine ⟨⟨dx2, k _ _ (fun z => ?_) h1⟩, k _ _ (fun z => ?_) h2, q⟩
    · rw [z, e] at h1
      injection h1 with h1
      injection h1 with _ _ h1
      exact nf _ h1
    · rw [z, e] at h2
      cases h2
end Pl
namespace Pl
open PySem PySem.Spec PyProof.Rows L2
def spSpaced : Sp := fun vs H Q _ => ∃ (t : Addr) (ns : List Int), vs = [.ref t] ∧ H t = some (.tup (ns.map V.int)) ∧ ns.length ≤ 6 ∧ Am ns ∧ ∀ H', Same H H' → Q (.str (line ns)) H'
def spReadAmount : Sp := fun vs H Q _ => ∃ n : Int, vs = [.str (wd n)] ∧ 0 ≤ n ∧ n ≤ 30 ∧ Q (.int n) H
def spReadShare (C : Addr) : Sp := fun vs H Q _ => ∃ ns : List Int, vs = [.str (line ns)] ∧ 2 ≤ ns.length ∧ ns.length ≤ 6 ∧ Am ns ∧ ∀ (s t : Addr) (H' : Hp), Same H H' → ShAt C H' s t ns → Q (.ref s) H'
theorem log_am {n : Int} (h0 : 0 ≤ n) (h1 : n ≤ 30) : n.natAbs.log2 < 1920 := by
  have h : n.natAbs < 2 ^ 1920 := Nat.lt_of_le_of_lt (show n.natAbs ≤ 30 by omega) (by decide +kernel)
  by_cases z : n.natAbs = 0
  · rw [z]; decide
  · exact (Nat.log2_lt z).mpr h
theorem words_len {ns : List Int} (am : Am ns) : ((ns.map wd).map (·.length)).sum ≤ 2 * ns.length := by
  induction ns with
  | nil => simp
  | cons n r ih =>
    have h1 := (wd_ok (am n List.mem_cons_self).1 (am n List.mem_cons_self).2).2.2
    rw [← TL.len_tl] at h1
    have h2 := ih fun x hx => am x (List.mem_cons_of_mem _ hx)
    simp only [List.map_cons, List.sum_cons, List.length_cons]
    omega
section
variable {P : Program} {w : World} {K : PySem.W.Frag} {mg : Str → Option Value} {base : Heap} {CShare CDivision : Addr}
abbrev st_spaced : Stmt := top 21
theorem sc_spaced : FnScope ["amounts", "amount"] ["amounts"] (defScope st_spaced) := ⟨rfl, rfl, rfl, by decide +kernel, rfl, by decide +kernel, by decide +kernel⟩
theorem ok_spaced (B : Bn mg) (D : Df K mg "spaced" st_spaced ["amounts"]) : Cal P w K mg base 2 "spaced" ["amounts"] spSpaced := by
  refine D.cal sc_spaced (fun vs H Q E h => ?_) (fun f cdv A out s H vs Q E hr h => ?_)
  · obtain ⟨t, ns, rfl, _⟩ := h
    rfl
  obtain ⟨t, ns, rfl, ht, l6, am, k⟩ := h
  refine ⟨_, (pss_one (ps_ret (pe_join pe_str (pe_lc (own := [("amount", 1)]) (g := gName 1) rfl sc_spaced.nd (pi_tup (pv 0)) (blkOk_by (N := ["amounts", "amount"]) (sc := defScope st_spaced) (by decide +kernel)) (fun _ _ _ _ _ => (pg_name (i := 1) sc_spaced.nd rfl (.inl rfl))) (fun _ _ _ _ _ => pts_nil) (fun _ _ _ _ _ => (pe_callTy call_str_int (by rfl) B.n_str (by decide +kernel) (pa_cons (pv 1) pa_nil))))))), ?_⟩
  refine ⟨⟨_, rfl⟩, _, rfl, t, rfl, ⟨_, SqT.of ht⟩, fun D hD => lc_tup (K := K) (a := t) (xs := ns.map V.int) (fun i H' => Same H H' ∧ H' D = some (.lst (((ns.map wd).take i).map V.str)))
    ⟨same_new (Same.refl H) hD, upd_same⟩ (fun i H' _ q => SqT.of (q.1 _ _ ht)) (fun i x H' hx q => ⟨rfl, tyes ?_⟩) (fun H' q => ?_)⟩
  · rw [List.getElem?_map] at hx
    cases e : ns[i]? with
    | none => rw [e] at hx; cases hx
    | some n =>
      rw [e] at hx
      obtain rfl : V.int n = x := Option.some.inj hx
      have a := am n (List.mem_of_getElem? e)
      refine ⟨_, rfl, n, rfl, log_am a.1 a.2, _, q.2, size_lt (by rw [List.length_map, List.length_take, List.length_map]; omega), same_put q.1 hD, ?_⟩
      have e2 : (ns.map wd)[i]? = some (wd n) := by rw [List.getElem?_map, e]; rfl
      rw [upd_same, List.take_add_one, e2, List.map_append]
      rfl
  · have e := q.2
    rw [List.length_map, ← List.length_map (f := wd), List.take_length] at e
    refine ⟨_, D, ns.map wd, rfl, rfl, .inl (SqL.of e), ?_, ?_⟩
    · have := words_len am
      have l1 : (" " : Str).length = 1 := rfl
      rw [l1, List.length_map]
      omega
    · rw [TL.join_eq]
      exact k H' q.1
abbrev st_read_amount : Stmt := top 29
theorem sc_read_amount : FnScope ["word", "amount"] ["word"] (defScope st_read_amount) := ⟨rfl, rfl, rfl, by decide +kernel, rfl, by decide +kernel, by decide +kernel⟩
theorem ok_readAmount (B : Bn mg) (SDivision : DvK K mg CDivision) (cv_MOST : CvK K CDivision "MOST" 30) (D : Df K mg "read_amount" st_read_amount ["word"]) : Cal P w K mg base 2 "read_amount" ["word"] spReadAmount := by
  refine D.cal sc_read_amount (fun vs H Q E h => ?_) (fun f cdv A out s H vs Q E hr h => ?_)
  · obtain ⟨n, rfl, _⟩ := h
    rfl
  obtain ⟨n, rfl, n0, n1, k⟩ := h
  refine ⟨_, (pss_cons (ps_for PassesOwn.never rfl (pi_range1 (by rfl) B.n_range (pa_cons (pe_op op_add (pe_cv cv_MOST (pe_glob (v := .ref CDivision) rfl SDivision.mgC rfl)) pe_int) pa_nil)) (pg_name (i := 1) sc_read_amount.nd rfl (.inl rfl))
   (pss_one (ps_if (pt_cmpR op_eq (pv 0) (pe_callTy call_str_int (by rfl) B.n_str (by decide +kernel) (pa_cons (pv 1) pa_nil)) (nomark _)) (pss_one (ps_ret (pv 1))) pss_nil)))
   (pss_one ps_never)), ?_⟩
  refine ⟨rfl, _, _, rfl, rfl, 31, rfl, by decide, by decide, ?_⟩
  refine for_range (lo := 0) (n := 31) (fun i σ H' => ∃ v : Option V, σ = [some (.str (wd n)), v] ∧ H' = H ∧ (i : Int) ≤ n) ⟨none, rfl, rfl, by omega⟩ ?_ (fun σ H' ⟨v, _, _, z⟩ => by omega)
  rintro i σ H1 hi ⟨v, rfl, rfl, le⟩
  refine ⟨_, rfl, _, rfl, (0 + i : Int), rfl, log_am (by omega) (by omega), rfl, _, rfl, ite2 (fun c => ?_) (fun c => ?_)⟩
  · have c1 : V.str (wd n) = V.str (wd (0 + i)) := of_decide_eq_true c
    have c2 : wd n = wd (0 + i) := V.str.inj c1
    have c3 := wd_inj n0 n1 (by omega) (by omega) c2
    refine ⟨_, rfl, ?_⟩
    rw [← c3]
    exact k
  · refine ⟨_, rfl, rfl, ?_⟩
    have : ¬ n = 0 + i := fun e => c (by rw [← e]; exact decide_eq_true rfl)
    omega
abbrev st_read_share : Stmt := top 28
theorem sc_read_share : FnScope ["line", "word"] ["line"] (defScope st_read_share) := ⟨rfl, rfl, rfl, by decide +kernel, rfl, by decide +kernel, by decide +kernel⟩
theorem ok_readShare (B : Bn mg) (SShare : ShK K mg CShare) (m_initShare : MCal P w K mg base 4 CShare "__init__" ["self", "amounts"] (spInit CShare)) (c_read_amount : Cal P w K mg base 2 "read_amount" ["word"] spReadAmount) (D : Df K mg "read_share" st_read_share ["line"]) : Cal P w K mg base 6 "read_share" ["line"] (spReadShare CShare) := by
  refine D.cal sc_read_share (fun vs H Q E h => ?_) (fun f cdv A out s H vs Q E hr h => ?_)
  · obtain ⟨ns, rfl, _⟩ := h
    rfl
  obtain ⟨ns, rfl, l2, l6, am, k⟩ := h
  refine ⟨_, (pss_one (ps_ret (pe_mk m_initShare SShare.mks SShare.kc SShare.mgC (hr.mono (by decide)) (pa_cons (pe_callTy call_tuple_of (by rfl) B.n_tuple (by decide +kernel) (pa_cons (pe_lc (own := [("word", 1)]) (g := gName 1) rfl sc_read_share.nd (pi_list (pe_m1 F.slot_str_split F.type_str_split mt_split (pv 0) pe_str)) (blkOk_by (N := ["line", "word"]) (sc := defScope st_read_share) (by decide +kernel)) (fun _ _ _ _ _ => (pg_name (i := 1) sc_read_share.nd rfl (.inl rfl))) (fun _ _ _ _ _ => pts_nil) (fun _ _ _ _ _ => (pe_fn c_read_amount (hr.mono (by decide)) (pa_cons (pv 1) pa_nil)))) pa_nil)) pa_nil)))), ?_⟩
  have ll := line_len am
  refine ⟨_, rfl, ⟨_, rfl⟩, _, _, rfl, rfl, rfl, Nat.le_trans (show (line ns).length + 2 ≤ 1000 by omega) (by decide), ?_⟩
  rw [split_line (by intro z; rw [z] at l2; simp at l2) am]
  intro p np
  refine ⟨p, rfl, ⟨_, SqL.of upd_same⟩, fun D hD => lc_list (K := K) (a := p) (xs := (ns.map wd).map V.str) (fun i H' => Same (upd H p (.lst ((ns.map wd).map V.str))) H' ∧ H' D = some (.lst ((ns.take i).map V.int)))
    ⟨same_new (Same.refl _) hD, upd_same⟩ (fun i H' _ q => SqL.of (q.1 _ _ upd_same)) (fun i x H' hx q => ⟨rfl, tyes ?_⟩) (fun H' q => ?_)⟩
  · rw [List.getElem?_map, List.getElem?_map] at hx
    cases e : ns[i]? with
    | none => rw [e] at hx; cases hx
    | some n =>
      rw [e] at hx
      obtain rfl : V.str (wd n) = x := Option.some.inj hx
      have a := am n (List.mem_of_getElem? e)
      refine ⟨_, rfl, n, rfl, a.1, a.2, _, q.2, size_lt (by rw [List.length_map, List.length_take]; omega), same_put q.1 hD, ?_⟩
      rw [upd_same, List.take_add_one, e, List.map_append]
      rfl
  · have e := q.2
    rw [List.length_map, List.length_map, List.take_length] at e
    have s1 : Same H H' := fun b o z => q.1 _ _ (by rw [upd_ne (ne_of_none z np)]; exact z)
    refine ⟨D, _, rfl, .inl ⟨SqL.of e, fun l hl x dx nx nd nex => ?_⟩⟩
    have s2 : Same H (upd H' l (.tup (ns.map V.int))) := same_new s1 hl
    exact mk_at nx nd upd_same l2 l6 am fun H3 k3 sh => k x l H3 (s2.trans k3) sh
abbrev st_DvInit : Stmt := inClass (top 26) 1
theorem sc_DvInit : FnScope ["self", "shares", "share"] ["self", "shares"] (defScope st_DvInit) := ⟨rfl, rfl, rfl, by decide +kernel, rfl, by decide +kernel, by decide +kernel⟩
theorem ok_dvInit (B : Bn mg) (Cc : Cd mg) (SDivision : DvK K mg CDivision) (c_check_pair : Cal P w K mg base 4 "check_pair" ["one", "other"] (spPair CShare)) (D : MhK K CDivision "__init__" "Division.__init__" st_DvInit) :
    MCalR P w K mg base CX0 5 CDivision "__init__" (spStar (spDvInit CDivision CShare)) := by
  refine D.star sc_DvInit (fun kV doc pm an cdv ct => StX.bind_star1 (B := fun us => bindArgs (PySem.W.fnOf "__init__" "Division.__init__" (defArgs st_DvInit) (defBody st_DvInit) (defScope st_DvInit) .none kV doc pm an cdv ct) ⟨us, []⟩) (fun a => rfl) (fun a r rs => rfl)) (fun f cdv A out s H vs Q E hr h => ?_)
  obtain ⟨d, p, dx, ss, rows, rfl, hd, hp, sh, rw_, k⟩ := h
  refine ⟨_, (pss_cons (ps_for PassesOwn.never rfl (pi_tup (pv 1)) (pg_name (i := 2) sc_DvInit.nd rfl (.inl rfl))
   (pss_one (ps_expr (pe_fn c_check_pair (hr.mono (by decide)) (pa_cons (pe_ix ix_tup (pv 1) pe_int (fun _ _ => rfl)) (pa_cons (pv 2) pa_nil))))))
   (pss_cons (ps_if (pt_not (pt_chain op_le op_le (pe_glob (v := .int 2) rfl Cc.c_FEWEST_PEOPLE.choose_spec ⟨_, rfl⟩) (pe_callB call_len_seq (by rfl) B.n_len (by decide +kernel) (pa_cons (pv 1) pa_nil)) (pe_glob (v := .int 4) rfl Cc.c_MOST_PEOPLE.choose_spec ⟨_, rfl⟩))) (pss_one ps_never) pss_nil)
   (pss_one (ps_fld (pv 0) (pv 1) rfl)))), ?_⟩
  have ln := sh.len
  refine ⟨_, rfl, p, rfl, ⟨_, SqT.of hp⟩, ?_⟩
  refine for_tup (K := K) (a := p) (xs := ss.map V.ref) (fun i σ H' => ∃ v : Option V, σ = [some (.ref d), some (.ref p), v] ∧ H' = H) ⟨none, rfl, rfl⟩ (fun i σ H' _ ⟨v, _, e⟩ => by rw [e]; exact SqT.of hp) ?_ ?_
  · rintro i x σ H1 hx ⟨v, rfl, rfl⟩
    rw [List.getElem?_map] at hx
    cases e : ss[i]? with
    | none => rw [e] at hx; cases hx
    | some s2 =>
      rw [e] at hx
      obtain rfl : V.ref s2 = x := Option.some.inj hx
      obtain ⟨t2, ms, em, sh2⟩ := sh.get e
      have l0 : 0 < ss.length := by have := rw_.1; omega
      have e0 : ss[0]? = some ss[0] := List.getElem?_eq_getElem l0
      obtain ⟨t1, ns, en, sh1⟩ := sh.get e0
      refine ⟨_, rfl, p, _, _, _, rfl, rfl, SqT.of hp, atI_nat (j := 0) (by rw [List.getElem?_map, e0]; rfl), ?_⟩
      exact ⟨_, rfl, ss[0], t1, s2, t2, ns, ms, rfl, sh1, sh2, rw_.eq (List.mem_of_getElem? en) (List.mem_of_getElem? em), _, rfl, rfl⟩
  · rintro σ H1 ⟨v, rfl, rfl⟩
    refine ⟨_, rfl, p, _, rfl, .inr (SqT.of hp), _, _, rfl, rfl, _, rfl, ?_⟩
    have a1 : decide ((2 : Int) ≤ ((ss.map V.ref).length : Int)) = true := by
      have := rw_.1
      simp
      omega
    have a2 : decide (((ss.map V.ref).length : Int) ≤ 4) = true := by
      have := rw_.2.1
      simp
      omega
    rw [a1]
    refine iteT ⟨_, _, rfl, rfl, _, rfl, ?_⟩
    rw [a2]
    refine iteF ?_
    refine ⟨_, rfl, _, rfl, d, CDivision, dx, _, rfl, hd, SDivision.cl, SDivision.nP, (by show 0 < 1000; decide), ?_⟩
    have tp : p ≠ d := ne_of hp hd (by intro z; cases z)
    have kp : Kp d H1 (upd H1 d (.ins CDivision dx (putF "by_person" (.ref p) []))) := Kp.upd
    exact k _ kp ⟨⟨dx, upd_same⟩, by rw [upd_ne tp]; exact hp, sh.kp kp ⟨_, _, _, hd, fun t z => by cases z⟩, rw_⟩
end
end Pl
namespace Pl
open PySem PySem.Spec PyProof.Rows L2
def spRead (CD C : Addr) : Sp := fun vs H Q _ => ∃ rows : List (List Int), vs = [.ref CD, .str (text rows)] ∧ Rows rows ∧ ∀ (d t : Addr) (ss : List Addr) (H' : Hp), Same H H' → DvAt CD C H' d t ss rows → Q (.ref d) H'
def spPeople (CD C : Addr) : Sp := fun vs H Q _ => ∃ (d t : Addr) (ss : List Addr) (rows : List (List Int)), vs = [.ref d] ∧ DvAt CD C H d t ss rows ∧ Q (.int rows.length) H
def spStates (CD C : Addr) : Sp := fun vs H Q _ => ∃ (d t : Addr) (ss : List Addr) (rows : List (List Int)), vs = [.ref d] ∧ DvAt CD C H d t ss rows ∧ ∀ ns ∈ rows, Q (.int ns.length) H
def spText (CD C : Addr) : Sp := fun vs H Q _ => ∃ (d t : Addr) (ss : List Addr) (rows : List (List Int)), vs = [.ref d] ∧ DvAt CD C H d t ss rows ∧ ∀ H', Same H H' → Q (.str (text rows)) H'
theorem Rows.tlen {rows : List (List Int)} (h : Rows rows) : (text rows).length ≤ 76 := text_len (m := 6) (k := 4) h.2.1 (fun ns hn => h.l6 hn) h.am
theorem ShAll.get2 {C : Addr} {H : Hp} : ∀ {ss : List Addr} {rows : List (List Int)} {i : Nat} {ns : List Int}, ShAll C H ss rows → rows[i]? = some ns → ∃ s t, ss[i]? = some s ∧ ShAt C H s t ns
  | _, _, 0, _, .cons h r, e => by cases e; exact ⟨_, _, rfl, h⟩
  | _, _, i + 1, _, .cons h r, e => by
    obtain ⟨t, ns, a, b⟩ := r.get2 (i := i) e
    exact ⟨t, ns, a, b⟩
  | _, _, _, _, .nil, e => by cases e
/-- shares are read one by one -/
def RInv (C D : Addr) (H0 : Hp) (rows : List (List Int)) (i : Nat) (H : Hp) : Prop := Same H0 H ∧ ∃ ss : List Addr, H D = some (.lst (ss.map V.ref)) ∧ ShAll C H ss (rows.take i)
theorem RInv.start {C D : Addr} {H0 : Hp} {rows : List (List Int)} (h : H0 D = none) : RInv C D H0 rows 0 (L2.upd H0 D (.lst [])) := ⟨same_new (Same.refl H0) h, [], upd_same, .nil⟩
theorem ShAt.put {C D : Addr} {H : Hp} {s t : Addr} {ns : List Int} {xs : List V} {o : HO} (h : ShAt C H s t ns) (e : H D = some (.lst xs)) : ShAt C (L2.upd H D o) s t ns := by
  obtain ⟨⟨dx, h1⟩, h2, r⟩ := h
  exact ⟨⟨dx, by rw [upd_ne (ne_of h1 e (by intro z; cases z))]; exact h1⟩, by rw [upd_ne (ne_of h2 e (by intro z; cases z))]; exact h2, r⟩
theorem ShAll.put {C D : Addr} {H : Hp} {xs : List V} {o : HO} (e : H D = some (.lst xs)) : ∀ {ss : List Addr} {rows : List (List Int)}, ShAll C H ss rows → ShAll C (L2.upd H D o) ss rows
  | _, _, .nil => .nil
  | _, _, .cons h r => .cons (h.put e) (r.put e)
theorem RInv.next {C D s t : Addr} {H0 H H' : Hp} {rows : List (List Int)} {i : Nat} {ns : List Int} (p : RInv C D H0 rows i H) (n : H0 D = none) (l : rows.length ≤ 900) (e : rows[i]? = some ns) (k : Same H H') (sh : ShAt C H' s t ns) :
    ∃ acc, H' D = some (.lst acc) ∧ acc.length < sizeLine ∧ RInv C D H0 rows (i + 1) (L2.upd H' D (.lst (acc ++ [.ref s]))) := by
  obtain ⟨s0, ss, hd, al⟩ := p
  have hd2 := k _ _ hd
  have hl := al.len
  refine ⟨_, hd2, size_lt ?_, same_put (s0.trans k) n, ss ++ [s], ?_, ?_⟩
  · rw [List.length_map, hl, List.length_take]; omega
  · rw [upd_same, List.map_append]; rfl
  · rw [List.take_add_one, e]
    exact ((al.same k).put hd2).snoc (sh.put hd2)
theorem sum_le {α : Type} {f : α → Str} {c : Nat} : ∀ {l : List α}, (∀ x ∈ l, (f x).length ≤ c) → ((l.map f).map (·.length)).sum ≤ c * l.length
  | [], _ => Nat.zero_le _
  | x :: r, h => by
    have h1 := h x List.mem_cons_self
    have h2 := sum_le fun y hy => h y (List.mem_cons_of_mem _ hy)
    simp only [List.map_cons, List.sum_cons, List.length_cons, Nat.mul_add, Nat.mul_one]
    omega
section
variable {P : Program} {w : World} {K : PySem.W.Frag} {mg : Str → Option Value} {base : Heap} {CShare CDivision : Addr}
abbrev st_Di_read : Stmt := inClass (top 26) 2
theorem sc_Di_read : FnScope ["cls", "text", "shares", "line"] ["cls", "text"] (defScope st_Di_read) := ⟨rfl, rfl, rfl, by decide +kernel, rfl, by decide +kernel, by decide +kernel⟩
theorem ok_read (B : Bn mg) (SDivision : DvK K mg CDivision) (c_read_share : Cal P w K mg base 6 "read_share" ["line"] (spReadShare CShare)) (m_initDivision : MCalR P w K mg base CX0 5 CDivision "__init__" (spStar (spDvInit CDivision CShare)))
    (D : CmK K CDivision "read" "Division.read" st_Di_read) : CmCal P w K mg base CX0 7 CDivision "read" (spRead CDivision CShare) := by
  refine D.cal (fun _ _ _ _ _ _ us hl => match us, hl with | [_, _], _ => rfl) sc_Di_read (fun vs H Q E h => ?_) (fun f cdv A out s H vs Q E hr h => ?_)
  · obtain ⟨rows, rfl, _⟩ := h
    rfl
  obtain ⟨rows, rfl, rw_, k⟩ := h
  refine ⟨_, (pss_cons (ps_if (PW.pt (pw_or (pt_not (pt_val (pe_callB call_isi (by rfl) B.n_isinstance (by decide +kernel) (pa_cons (pv 1) (pa_cons (pe_bltn (v := .ty "str") (by rfl) B.n_str (by decide +kernel) rfl) pa_nil))))) (pw_or1 (pt_not (pt_val (pe_m1 F.slot_str_endswith F.type_str_endswith mt_endswith (pv 1) pe_str)))))) (pss_one ps_never) pss_nil)
   (pss_one (ps_try_thru0 (pss_cons (ps_setLc (i := 2) (own := [("line", 3)]) (g := gName 3) rfl sc_Di_read.nd rfl rfl (sw_true rfl rfl rfl (by decide +kernel)) (pi_list (pe_m1 F.slot_str_split F.type_str_split mt_split (pe_slice sl_str (pv 1) po_none (po_some (pe_un un_neg pe_int))) pe_str)) (blkOk_by (N := ["cls", "text", "shares", "line"]) (sc := defScope st_Di_read) (by decide +kernel)) (fun _ _ _ _ _ => (pg_name (i := 3) sc_Di_read.nd rfl (.inl rfl))) (fun _ _ _ _ _ => pts_nil) (fun _ _ _ _ _ => (pe_fn c_read_share (hr.mono (by decide)) (pa_cons (pv 3) pa_nil))))
   (pss_one (ps_ret (pe_mkV m_initDivision pass0 SDivision.mks SDivision.kc (hr.mono (by decide)) (pv 0) (pv 2)))))))), ?_⟩
  refine ⟨_, rfl, _, _, _, _, true, rfl, .ty _, .base (.str _), kit_ty (by decide +kernel), _, rfl, iteF ?_⟩
  refine ⟨_, rfl, ⟨_, rfl⟩, _, _, rfl, rfl, ?_⟩
  rw [text_ends rw_.ne]
  refine ⟨_, rfl, iteF ?_⟩
  have tl := rw_.tlen
  refine ⟨_, rfl, 1, rfl, (-1), rfl, _, rfl, Nat.le_trans (show (text rows).length ≤ 1000 by omega) (by decide), ?_⟩
  rw [text_cut rw_.ne]
  have bl := body_len rw_.ne
  refine ⟨⟨_, rfl⟩, _, _, rfl, rfl, rfl, Nat.le_trans (show (body rows).length + 2 ≤ 1000 by omega) (by decide), ?_⟩
  rw [body_split rw_.ne rw_.am]
  intro p np
  refine ⟨p, rfl, ⟨_, SqL.of upd_same⟩, fun D hD => lc_list (K := K) (a := p) (xs := (rows.map line).map V.str) (RInv CShare D (upd H p (.lst ((rows.map line).map V.str))) rows)
    (RInv.start hD) (fun i H' _ q => SqL.of (q.1 _ _ upd_same)) (fun i x H' hx q => ⟨rfl, tyes ?_⟩) (fun H' q => ?_)⟩
  · rw [List.getElem?_map, List.getElem?_map] at hx
    cases e : rows[i]? with
    | none => rw [e] at hx; cases hx
    | some ns =>
      rw [e] at hx
      obtain rfl : V.str (line ns) = x := Option.some.inj hx
      have m := List.mem_of_getElem? e
      exact ⟨_, rfl, ns, rfl, rw_.l2 m, rw_.l6 m, rw_.am ns m, fun s t H2 k2 sh => q.next hD (by have := rw_.2.1; omega) e k2 sh⟩
  · obtain ⟨s0, ss, hd, al⟩ := q
    rw [List.length_map, List.length_map, List.take_length] at al
    have s1 : Same H H' := fun b o z => s0 _ _ (by rw [upd_ne (ne_of_none z np)]; exact z)
    refine ⟨_, rfl, rfl, _, rfl, D, _, rfl, .inr (SqL.of hd), fun x dx nx nd nex => ⟨_, _, rfl, ?_, fun q hq => ?_⟩⟩
    · have := al.len
      have := rw_.2.1
      exact size_of (by rw [List.length_map]; omega)
    have s2 : Same H' (upd (upd (upd H' dx (.own x)) x (.ins CDivision dx [])) q (.tup (ss.map V.ref))) := same_new (same_new (same_new (Same.refl _) nd) (by rw [upd_ne (Ne.symm nex)]; exact nx)) hq
    have xq : x ≠ q := fun z => by rw [← z, upd_same] at hq; cases hq
    refine ⟨x, q, dx, ss, rows, rfl, by rw [upd_ne xq, upd_same], upd_same, al.same s2, rw_, fun H3 kp dv => ⟨rfl, k x q ss H3 ?_ dv⟩⟩
    exact fun b o z => kp b o (ne_of_none (s1 b o z) nx) (s2 b o (s1 b o z))
abbrev st_Di_shares : Stmt := inClass (top 26) 3
theorem sc_Di_shares : FnScope ["self"] ["self"] (defScope st_Di_shares) := ⟨rfl, rfl, rfl, by decide +kernel, rfl, by decide +kernel, by decide +kernel⟩
theorem ok_pshares (SDivision : DvK K mg CDivision) (D : Ph K CDivision "shares" "Division.shares" st_Di_shares ["self"]) : PCal P w K mg base 2 CDivision "shares" ["self"] (getSp CDivision "by_person") := by
  refine D.cal sc_Di_shares (fun vs H Q E h => ?_) (fun f cdv A out s H vs Q E hr h => ?_)
  · obtain ⟨a, dx, fs, v, rfl, _⟩ := h
    rfl
  obtain ⟨a, dx, fs, v, rfl, h1, l, k⟩ := h
  refine ⟨_, (pss_one (ps_ret (pe_fld (pv 0) rfl))), ?_⟩
  exact ⟨_, rfl, a, CDivision, dx, _, _, rfl, h1, SDivision.cl, SDivision.nP, l, k⟩
abbrev st_Di_people : Stmt := inClass (top 26) 4
theorem sc_Di_people : FnScope ["self"] ["self"] (defScope st_Di_people) := ⟨rfl, rfl, rfl, by decide +kernel, rfl, by decide +kernel, by decide +kernel⟩
theorem ok_people (B : Bn mg) (SDivision : DvK K mg CDivision) (D : Ph K CDivision "people" "Division.people" st_Di_people ["self"]) : PCal P w K mg base 2 CDivision "people" ["self"] (spPeople CDivision CShare) := by
  refine D.cal sc_Di_people (fun vs H Q E h => ?_) (fun f cdv A out s H vs Q E hr h => ?_)
  · obtain ⟨d, t, ss, rows, rfl, _⟩ := h
    rfl
  obtain ⟨d, t, ss, rows, rfl, ⟨⟨dx, hd⟩, ht, al, rw_⟩, k⟩ := h
  refine ⟨_, (pss_one (ps_ret (pe_callB call_len_seq (by rfl) B.n_len (by decide +kernel) (pa_cons (pe_fld (pv 0) rfl) pa_nil)))), ?_⟩
  refine ⟨_, rfl, d, CDivision, dx, _, _, rfl, hd, SDivision.cl, SDivision.nP, dvF_get t, t, _, rfl, .inr (SqT.of ht), ?_⟩
  rw [List.length_map, al.len]
  exact k
abbrev st_Di_states : Stmt := inClass (top 26) 5
theorem sc_Di_states : FnScope ["self"] ["self"] (defScope st_Di_states) := ⟨rfl, rfl, rfl, by decide +kernel, rfl, by decide +kernel, by decide +kernel⟩
theorem ok_states (B : Bn mg) (SDivision : DvK K mg CDivision) (m_len : MCal P w K mg base 2 CShare "__len__" ["self"] (spLen CShare)) (D : Ph K CDivision "states" "Division.states" st_Di_states ["self"]) : PCal P w K mg base 4 CDivision "states" ["self"] (spStates CDivision CShare) := by
  refine D.cal sc_Di_states (fun vs H Q E h => ?_) (fun f cdv A out s H vs Q E hr h => ?_)
  · obtain ⟨d, t, ss, rows, rfl, _⟩ := h
    rfl
  obtain ⟨d, t, ss, rows, rfl, ⟨⟨dx, hd⟩, ht, al, rw_⟩, k⟩ := h
  refine ⟨_, (pss_one (ps_ret (pe_callB (call_lenM m_len (hr.mono (by decide))) (by rfl) B.n_len (by decide +kernel) (pa_cons (pe_ix ix_tup (pe_fld (pv 0) rfl) pe_int (fun _ _ => rfl)) pa_nil)))), ?_⟩
  have l0 : 0 < rows.length := by have := rw_.1; omega
  have e0 : rows[0]? = some rows[0] := List.getElem?_eq_getElem l0
  obtain ⟨s1, t1, es, sh⟩ := al.get2 e0
  have m := List.mem_of_getElem? e0
  have l6 := rw_.l6 m
  refine ⟨_, rfl, d, CDivision, dx, _, _, rfl, hd, SDivision.cl, SDivision.nP, dvF_get t, t, _, _, _, rfl, rfl, SqT.of ht, atI_nat (j := 0) (by rw [List.getElem?_map, es]; rfl), ?_⟩
  obtain ⟨d1, a1⟩ := sh.1
  exact ⟨s1, d1, _, rfl, a1, s1, t1, rows[0], rfl, sh, rows[0].length, rfl, by omega, k _ m⟩
abbrev st_Di_text : Stmt := inClass (top 26) 10
theorem sc_Di_text : FnScope ["self", "share"] ["self"] (defScope st_Di_text) := ⟨rfl, rfl, rfl, by decide +kernel, rfl, by decide +kernel, by decide +kernel⟩
theorem ok_text (B : Bn mg) (SShare : ShK K mg CShare) (SDivision : DvK K mg CDivision) (p_amounts : PCal P w K mg base 2 CShare "amounts" ["self"] (getSp CShare "by_state")) (c_spaced : Cal P w K mg base 2 "spaced" ["amounts"] spSpaced)
    (D : Mh K CDivision "text" "Division.text" st_Di_text ["self"]) : MCal P w K mg base 4 CDivision "text" ["self"] (spText CDivision CShare) := by
  refine D.cal sc_Di_text (fun vs H Q E h => ?_) (fun f cdv A out s H vs Q E hr h => ?_)
  · obtain ⟨d, t, ss, rows, rfl, _⟩ := h
    rfl
  obtain ⟨d, t, ss, rows, rfl, ⟨⟨dx, hd⟩, ht, al, rw_⟩, k⟩ := h
  refine ⟨_, (pss_one (ps_ret (pe_join pe_str (pe_lc (own := [("share", 1)]) (g := gName 1) rfl sc_Di_text.nd (pi_tup (pe_fld (pv 0) rfl)) (blkOk_by (N := ["self", "share"]) (sc := defScope st_Di_text) (by decide +kernel)) (fun _ _ _ _ _ => (pg_name (i := 1) sc_Di_text.nd rfl (.inl rfl))) (fun _ _ _ _ _ => pts_nil) (fun _ _ _ _ _ => (pe_js (.cons (pe_fmt (pe_fn c_spaced (hr.mono (by decide)) (pa_cons (pe_pr p_amounts SShare.cl (hr.mono (by decide)) (pv 1)) pa_nil))) (.cons pe_str .nil)))))))), ?_⟩
  have ln := al.len
  refine ⟨⟨_, rfl⟩, ?_⟩
  refine ⟨_, rfl, d, CDivision, dx, _, _, rfl, hd, SDivision.cl, SDivision.nP, dvF_get t, t, rfl, ⟨_, SqT.of ht⟩, fun D hD => lc_tup (K := K) (a := t) (xs := ss.map V.ref)
    (fun i H' => Same H H' ∧ H' D = some (.lst (((rows.map fun ns => line ns ++ "\n").take i).map V.str))) ⟨same_new (Same.refl H) hD, upd_same⟩ (fun i H' _ q => SqT.of (q.1 _ _ ht)) (fun i x H' hx q => ⟨rfl, tyes ?_⟩) (fun H' q => ?_)⟩
  · rw [List.getElem?_map] at hx
    cases e : ss[i]? with
    | none => rw [e] at hx; cases hx
    | some s1 =>
      rw [e] at hx
      obtain rfl : V.ref s1 = x := Option.some.inj hx
      obtain ⟨t1, ns, en, sh⟩ := al.get e
      obtain ⟨⟨d1, a1⟩, a2, _⟩ := id sh
      have m := List.mem_of_getElem? en
      have lb := line_len (rw_.am ns m)
      have l6 := rw_.l6 m
      refine ⟨_, rfl, s1, d1, _, rfl, q.1 _ _ a1, s1, d1, _, _, rfl, q.1 _ _ a1, shF_get t1, t1, ns, rfl, q.1 _ _ a2, l6, rw_.am ns m, fun H2 k2 => .inl ?_⟩
      have e0 : Str.empty ++ line ns = line ns := TL.ext_tl (by rw [TL.tl_append]; rfl)
      have lz : (line ns).length ≤ sizeLine := size_of (by omega)
      have lz2 : (line ns ++ "\n").length ≤ sizeLine := by
        rw [TL.len_tl, TL.tl_append, List.length_append, ← TL.len_tl]
        exact size_of (by show (line ns).length + 1 ≤ 1000; omega)
      refine ⟨_, rfl, lz, _, rfl, by rw [e0]; exact lz, _, rfl, by rw [e0]; exact lz2, ?_⟩
      rw [e0]
      refine ⟨_, k2 _ _ q.2, size_lt (by rw [List.length_map, List.length_take, List.length_map]; have := rw_.2.1; omega), same_put (q.1.trans k2) hD, ?_⟩
      have e2 : (rows.map fun ns => line ns ++ "\n")[i]? = some (line ns ++ "\n") := by rw [List.getElem?_map, en]; rfl
      rw [upd_same, List.take_add_one, e2, List.map_append]
      rfl
  · have e := q.2
    rw [List.length_map, ln, ← List.length_map (f := fun ns => line ns ++ "\n"), List.take_length] at e
    refine ⟨_, D, _, rfl, rfl, .inl (SqL.of e), ?_, ?_⟩
    · have z : ("" : Str).length = 0 := rfl
      rw [z, Nat.mul_zero, Nat.add_zero]
      refine Nat.le_trans (m := 19 * rows.length) ?_ (by have := rw_.2.1; omega)
      have all : ∀ ns ∈ rows, (line ns ++ "\n").length ≤ 19 := fun ns hn => by
        rw [TL.len_tl, TL.tl_append, List.length_append, ← TL.len_tl]
        have := line_len (rw_.am ns hn)
        have := rw_.l6 hn
        show (line ns).length + 1 ≤ 19
        omega
      exact sum_le all
    · rw [TL.join_eq]
      exact k H' q.1
end
end Pl
namespace Pl
open PySem PySem.Spec PyProof.Rows L2
def spDvItem (K : PySem.W.Frag) (CD C CP : Addr) : Sp := fun vs H Q E => ∃ (d t : Addr) (ss : List Addr) (rows : List (List Int)) (y : V), vs = [.ref d, y] ∧ DvAt CD C H d t ss rows ∧ Kd K H y ∧
  (∀ (i : Nat) (s : Addr), y = .int i → ss[i]? = some s → Q (.ref s) H) ∧ (isTo (rows.length - 1) y = false → E (.ref CP) none H)
section
variable {P : Program} {w : World} {K : PySem.W.Frag} {mg : Str → Option Value} {base : Heap} {CShare CDivision CNoPerson : Addr}
abbrev st_Di_getitem : Stmt := inClass (top 26) 7
theorem sc_Di_getitem : FnScope ["self", "at"] ["self", "at"] (defScope st_Di_getitem) := ⟨rfl, rfl, rfl, by decide +kernel, rfl, by decide +kernel, by decide +kernel⟩
theorem ok_dvItem (B : Bn mg) (SDivision : DvK K mg CDivision) (e_NoPerson : ExK K mg "NoPerson" CNoPerson) (c_is_integer_to : Cal P w K mg base 2 "is_integer_to" ["thing", "most"] (spIsInt K)) (D : Mh K CDivision "__getitem__" "Division.__getitem__" st_Di_getitem ["self", "at"]) :
    MCalX P w K mg base 3 CDivision "__getitem__" ["self", "at"] (spDvItem K CDivision CShare CNoPerson) := by
  refine D.calX sc_Di_getitem (fun vs H Q E h => ?_) (fun f cdv A out s H vs Q E hr h => ?_)
  · obtain ⟨d, t, ss, rows, y, rfl, _⟩ := h
    rfl
  obtain ⟨d, t, ss, rows, y, rfl, ⟨⟨dx, hd⟩, ht, al, rw_⟩, kd, k1, k2⟩ := h
  refine ⟨_, (pss_cons (ps_if (pt_not (pt_val (pe_fn c_is_integer_to (hr.mono (by decide)) (pa_cons (pv 1) (pa_cons (pe_op op_sub (pe_callB call_len_seq (by rfl) B.n_len (by decide +kernel) (pa_cons (pe_fld (pv 0) rfl) pa_nil)) pe_int) pa_nil))))) (pss_one (ps_err e_NoPerson (takes_of rfl rfl rfl rfl))) pss_nil)
   (pss_one (ps_ret (pe_ix ix_tup (pe_fld (pv 0) rfl) (pv 1) (fun _ _ => rfl))))), ?_⟩
  have ln := al.len
  refine ⟨_, rfl, _, rfl, d, CDivision, dx, _, _, rfl, hd, SDivision.cl, SDivision.nP, dvF_get t, t, _, rfl, .inr (SqT.of ht), _, _, rfl, rfl, y, _, rfl, kd, ?_⟩
  have em : (((ss.map V.ref).length : Nat) : Int) - 1 = (rows.length : Int) - 1 := by rw [List.length_map, ln]
  rw [em]
  cases e : isTo ((rows.length : Int) - 1) y with
  | false => exact ⟨_, rfl, iteT (k2 e)⟩
  | true =>
    refine ⟨_, rfl, iteF ?_⟩
    cases y <;> first | (simp [isTo] at e; done) | skip
    rename_i i
    simp only [isTo, Bool.and_eq_true, decide_eq_true_eq] at e
    have ei : ((i.toNat : Nat) : Int) = i := by omega
    have lt : i.toNat < ss.length := by omega
    have es : ss[i.toNat]? = some ss[i.toNat] := List.getElem?_eq_getElem lt
    refine ⟨_, rfl, d, CDivision, dx, _, _, rfl, hd, SDivision.cl, SDivision.nP, dvF_get t, _, rfl, t, _, _, _, rfl, rfl, SqT.of ht, ?_, k1 i.toNat _ (by rw [ei]) es⟩
    have z := atI_nat (xs := ss.map V.ref) (j := i.toNat) (v := V.ref ss[i.toNat]) (by rw [List.getElem?_map, es]; rfl)
    rw [ei] at z
    exact z
end
end Pl
namespace Pl
open PySem PySem.Spec PyProof.Rows L2
/-- how much more a person has in the second state -/
def rs (rows : List (List Int)) (p s t : Nat) : Int := (((rows[p]?).getD [])[t]?).getD 0 - (((rows[p]?).getD [])[s]?).getD 0
def spCheckD (CD C : Addr) : Sp := fun vs H Q _ => ∃ (d t : Addr) (ss : List Addr) (rows : List (List Int)), vs = [.ref d] ∧ DvAt CD C H d t ss rows ∧ Q .non H
def spRise (CD C : Addr) : Sp := fun vs H Q _ => ∃ (d t : Addr) (ss : List Addr) (rows : List (List Int)) (p a b : Nat), vs = [.ref d, .int p, .int a, .int b] ∧ DvAt CD C H d t ss rows ∧ p < rows.length ∧ (∀ ns ∈ rows, a < ns.length ∧ b < ns.length) ∧ Q (.int (rs rows p a b)) H
section
variable {P : Program} {w : World} {K : PySem.W.Frag} {mg : Str → Option Value} {base : Heap} {CShare CDivision CNoPerson : Addr}
abbrev st_check_division : Stmt := top 27
theorem sc_check_division : FnScope ["thing"] ["thing"] (defScope st_check_division) := ⟨rfl, rfl, rfl, by decide +kernel, rfl, by decide +kernel, by decide +kernel⟩
theorem ok_checkD (B : Bn mg) (SDivision : DvK K mg CDivision) (D : Df K mg "check_division" st_check_division ["thing"]) : Cal P w K mg base 1 "check_division" ["thing"] (spCheckD CDivision CShare) := by
  refine D.cal sc_check_division (fun vs H Q E h => ?_) (fun f cdv A out s H vs Q E hr h => ?_)
  · obtain ⟨d, t, ss, rows, rfl, _⟩ := h
    rfl
  obtain ⟨d, t, ss, rows, rfl, ⟨⟨dx, hd⟩, _⟩, k⟩ := h
  refine ⟨_, (pss_one (ps_if (pt_not (pt_val (pe_callB call_isi (by rfl) B.n_isinstance (by decide +kernel) (pa_cons (pv 0) (pa_cons (pe_glob (v := .ref CDivision) rfl SDivision.mgC rfl) pa_nil))))) (pss_one ps_never) pss_nil)), ?_⟩
  exact ⟨_, rfl, _, _, _, _, true, rfl, .own _, .base (.ins hd SDivision.cl SDivision.ca SDivision.cg SDivision.ct SDivision.mro), SDivision.kit, _, rfl, iteF k⟩
abbrev st_rise : Stmt := top 35
theorem sc_rise : FnScope ["division", "person", "state", "second", "amounts"] ["division", "person", "state", "second"] (defScope st_rise) := ⟨rfl, rfl, rfl, by decide +kernel, rfl, by decide +kernel, by decide +kernel⟩
theorem ok_rise (SShare : ShK K mg CShare) (SDivision : DvK K mg CDivision) (fiGD : ∀ f, PySem.W.findIn K (.ref CDivision) "__getitem__" = some (some (.ref f)) → PySem.W.fnIn K f = true) (p_amounts : PCal P w K mg base 2 CShare "amounts" ["self"] (getSp CShare "by_state"))
    (m_getitemD : MCalX P w K mg base 3 CDivision "__getitem__" ["self", "at"] (spDvItem K CDivision CShare CNoPerson)) (D : Df K mg "rise" st_rise ["division", "person", "state", "second"]) : Cal P w K mg base 5 "rise" ["division", "person", "state", "second"] (spRise CDivision CShare) := by
  refine D.cal sc_rise (fun vs H Q E h => ?_) (fun f cdv A out s H vs Q E hr h => ?_)
  · obtain ⟨d, t, ss, rows, p, a, b, rfl, _⟩ := h
    rfl
  obtain ⟨d, t, ss, rows, p, a, b, rfl, dv, lp, lab, k⟩ := h
  refine ⟨_, (pss_cons (ps_set (i := 4) sc_rise.nd rfl (.inl rfl) (pe_pr p_amounts SShare.cl (hr.mono (by decide)) (pe_subX m_getitemD passF fiGD (hr.mono (by decide)) (pv 0) (pv 1))))
   (pss_one (ps_ret (pe_op op_sub (pe_ix ix_tup (pv 4) (pv 3) (fun _ _ => rfl)) (pe_ix ix_tup (pv 4) (pv 2) (fun _ _ => rfl)))))), ?_⟩
  obtain ⟨⟨dx, hd⟩, ht, al, rw_⟩ := id dv
  have ep : rows[p]? = some rows[p] := List.getElem?_eq_getElem lp
  obtain ⟨s1, t1, es, sh⟩ := al.get2 ep
  obtain ⟨la, lb⟩ := lab _ (List.mem_of_getElem? ep)
  have ea : rows[p][a]? = some rows[p][a] := List.getElem?_eq_getElem la
  have eb : rows[p][b]? = some rows[p][b] := List.getElem?_eq_getElem lb
  refine ⟨_, rfl, _, rfl, d, dx, _, rfl, hd, d, t, ss, rows, .int p, rfl, dv, Kd.int _, fun i s2 ei es2 => ?_, fun no => ?_⟩
  · have ei : i = p := by
      have z := V.int.inj ei
      omega
    subst ei
    rw [es] at es2
    cases es2
    obtain ⟨⟨d1, a1⟩, a2, _⟩ := id sh
    refine ⟨s1, d1, _, rfl, a1, s1, d1, _, .ref t1, rfl, a1, shF_get t1, ?_⟩
    refine ⟨_, rfl, _, rfl, t1, _, _, _, rfl, rfl, SqT.of a2, atI_nat (j := b) (by rw [List.getElem?_map, eb]; rfl), _, rfl, _, rfl, t1, _, _, _, rfl, rfl, SqT.of a2, atI_nat (j := a) (by rw [List.getElem?_map, ea]; rfl), _, _, rfl, rfl, ?_⟩
    have e : rs rows i a b = rows[i][b] - rows[i][a] := by simp [rs, ep, ea, eb]
    rw [e] at k
    exact k
  · exact absurd no (by simp only [isTo]; simp; omega)
end
end Pl
namespace Pl
open PySem PySem.Spec PyProof.Rows L2
theorem size_lt' {n : Nat} (h : n ≤ 10000) : n < sizeLine := Nat.lt_of_le_of_lt h (by decide)
/-- triples of numbers in the heap -/
inductive TrL (H : Hp) : List V → List (Nat × Nat × Int) → Prop
  | nil : TrL H [] []
  | cons {q : Addr} {s t : Nat} {m : Int} {vs : List V} {ns : List (Nat × Nat × Int)} : H q = some (.tup [.int s, .int t, .int m]) → TrL H vs ns → TrL H (.ref q :: vs) ((s, t, m) :: ns)
theorem TrL.same {H H' : Hp} (k : Same H H') : ∀ {vs : List V} {ns : List (Nat × Nat × Int)}, TrL H vs ns → TrL H' vs ns
  | _, _, .nil => .nil
  | _, _, .cons h r => .cons (k _ _ h) (r.same k)
theorem TrL.put {H : Hp} {l : Addr} {ys : List V} {o : HO} (hl : H l = some (.lst ys)) : ∀ {vs : List V} {ns : List (Nat × Nat × Int)}, TrL H vs ns → TrL (L2.upd H l o) vs ns
  | _, _, .nil => .nil
  | _, _, .cons h r => .cons (by rw [upd_ne (ne_of h hl (by intro z; cases z))]; exact h) (r.put hl)
theorem TrL.len {H : Hp} : ∀ {vs : List V} {ns : List (Nat × Nat × Int)}, TrL H vs ns → vs.length = ns.length
  | _, _, .nil => rfl
  | _, _, .cons _ r => by rw [List.length_cons, List.length_cons, r.len]
theorem TrL.snoc {H : Hp} {q : Addr} {s t : Nat} {m : Int} (h : H q = some (.tup [.int s, .int t, .int m])) : ∀ {vs : List V} {ns : List (Nat × Nat × Int)}, TrL H vs ns → TrL H (vs ++ [.ref q]) (ns ++ [(s, t, m)])
  | _, _, .nil => .cons h .nil
  | _, _, .cons h' r => .cons h' (TrL.snoc h r)
theorem TrL.at {H : Hp} : ∀ {vs : List V} {ns : List (Nat × Nat × Int)} {i : Nat} {x : V}, TrL H vs ns → vs[i]? = some x → ∃ (q : Addr) (s t : Nat) (m : Int), x = .ref q ∧ H q = some (.tup [.int s, .int t, .int m]) ∧ ns[i]? = some (s, t, m)
  | _, _, _, _, .nil, e => by cases e
  | _, _, 0, _, .cons h r, e => by
    cases e
    exact ⟨_, _, _, _, rfl, h, rfl⟩
  | _, _, i + 1, _, .cons h r, e => r.at (i := i) (by simpa using e)
/-- a block over numbers that it takes in turn -/
theorem lrW {lo : Int} {n : Nat} {H0 : Hp} {R : Hp → Prop} {F : V → Hp → (Hp → Prop) → Prop} (Pv : Nat → Hp → Prop) (h0 : Pv 0 H0) (hs : ∀ i H, i < n → Pv i H → F (.int (lo + i)) H (Pv (i + 1))) (hd : ∀ H, Pv n H → R H) :
    ∃ W : Nat → Nat → Hp → Prop, (∃ m, W 0 m H0) ∧ ∀ i m H, W i m H → ((Itr lo n).stop i H ∧ R H) ∨ ((Itr lo n).go i H ∧ ∃ Nx : Hp → Prop, (∀ H', Nx H' → ∃ m', m' < m ∧ W (i + 1) m' H') ∧ ∀ x H', (Itr lo n).yld i H x H' → F x H' Nx) := by
  refine ⟨fun i m H => m = n - i ∧ i ≤ n ∧ Pv i H, ⟨n, by simp, Nat.zero_le _, h0⟩, ?_⟩
  rintro i m H ⟨rfl, hi, p⟩
  by_cases hlt : i < n
  · refine .inr ⟨hlt, Pv (i + 1), fun H' p' => ⟨n - (i + 1), by omega, rfl, hlt, p'⟩, fun x H' y => ?_⟩
    obtain ⟨e1, e2⟩ := y
    subst e1 e2
    exact hs i _ hlt p
  · have e : i = n := by omega
    subst e
    exact .inl ⟨Nat.le_refl _, hd H p⟩
theorem lcW {K : PySem.W.Frag} {a : Addr} {xs : List V} {H0 : Hp} {R : Hp → Prop} {F : V → Hp → (Hp → Prop) → Prop} (Pv : Nat → Hp → Prop) (h0 : Pv 0 H0) (hl : ∀ i H, i ≤ xs.length → Pv i H → SqL K H a xs)
    (hs : ∀ i x H, xs[i]? = some x → Pv i H → F x H (Pv (i + 1))) (hd : ∀ H, Pv xs.length H → R H) :
    ∃ W : Nat → Nat → Hp → Prop, (∃ m, W 0 m H0) ∧ ∀ i m H, W i m H →
      ((Itl K a).stop i H ∧ R H) ∨ ((Itl K a).go i H ∧ ∃ Nx : Hp → Prop, (∀ H', Nx H' → ∃ m', m' < m ∧ W (i + 1) m' H') ∧ ∀ x H', (Itl K a).yld i H x H' → F x H' Nx) := by
  refine ⟨fun i m H => m = xs.length - i ∧ i ≤ xs.length ∧ Pv i H, ⟨xs.length, by simp, Nat.zero_le _, h0⟩, ?_⟩
  rintro i m H ⟨rfl, hi, p⟩
  have q := hl i H hi p
  by_cases hlt : i < xs.length
  · refine .inr ⟨⟨xs, xs[i], q, by simp [hlt]⟩, Pv (i + 1), fun H' p' => ⟨xs.length - (i + 1), by omega, rfl, hlt, p'⟩, fun x H' y => ?_⟩
    obtain ⟨e, y⟩ := y
    subst e
    exact hs i x _ (y xs q) p
  · have e : i = xs.length := by omega
    subst e
    exact .inl ⟨⟨xs, q, Nat.le_refl _⟩, hd H p⟩
/-- the number of states -/
def wdt (rows : List (List Int)) : Nat := ((rows[0]?).getD []).length
theorem Rows.wdt {rows : List (List Int)} (h : Rows rows) {ns : List Int} (hn : ns ∈ rows) : ns.length = wdt rows := by
  have l0 : 0 < rows.length := by have := h.1; omega
  have e0 : rows[0]? = some rows[0] := List.getElem?_eq_getElem l0
  unfold Pl.wdt
  rw [e0]
  exact h.eq hn (List.mem_of_getElem? e0)
theorem Rows.w26 {rows : List (List Int)} (h : Rows rows) : 2 ≤ Pl.wdt rows ∧ Pl.wdt rows ≤ 6 := by
  have l0 : 0 < rows.length := by have := h.1; omega
  have m := List.getElem_mem l0
  rw [← h.wdt m]
  exact ⟨h.l2 m, h.l6 m⟩
/-- what the levels must keep -/
def IsNeeds (rows : List (List Int)) (ns : List (Nat × Nat × Int)) : Prop := ∀ s t m, (s, t, m) ∈ ns ↔ ∃ p, p < rows.length ∧ s < wdt rows ∧ t < wdt rows ∧ 1 ≤ rs rows p s t ∧ m = min (rs rows p s t) 2 - 1
def spNeeds (CD C : Addr) : Sp := fun vs H Q _ => ∃ (d t : Addr) (ss : List Addr) (rows : List (List Int)), vs = [.ref d] ∧ DvAt CD C H d t ss rows ∧
  ∀ (l : Addr) (ws : List V) (ns : List (Nat × Nat × Int)) (H' : Hp), Same H H' → H' l = some (.lst ws) → TrL H' ws ns → IsNeeds rows ns → ns.length ≤ 144 → Q (.ref l) H'
def NdI (D : Addr) (H0 : Hp) (ns : List (Nat × Nat × Int)) (i : Nat) (H : Hp) : Prop := Same H0 H ∧ ∃ (vs : List V) (ms : List (Nat × Nat × Int)), H D = some (.lst vs) ∧ TrL H vs ms ∧ ms.length ≤ i ∧ ∀ x, x ∈ ms ↔ ∃ s t b, (s, t, b) ∈ ns.take i ∧ 1 ≤ b ∧ x = (s, t, min b 2 - 1)
theorem mem_take_succ {α : Type} {l : List α} {i : Nat} {a x : α} (h : l[i]? = some a) : x ∈ l.take (i + 1) ↔ x ∈ l.take i ∨ x = a := by
  rw [List.take_add_one, h]
  simp
def RsI (rows : List (List Int)) (D : Addr) (H0 : Hp) (p s t : Nat) (H : Hp) : Prop := Same H0 H ∧ ∃ (vs : List V) (ns : List (Nat × Nat × Int)), H D = some (.lst vs) ∧ TrL H vs ns ∧ ns.length ≤ 36 * p + 6 * s + t ∧
  ∀ x, x ∈ ns ↔ ∃ p' s' t', x = (s', t', rs rows p' s' t') ∧ s' < wdt rows ∧ t' < wdt rows ∧ (p' < p ∨ (p' = p ∧ (s' < s ∨ (s' = s ∧ t' < t))))
theorem RsI.row {rows : List (List Int)} {D : Addr} {H0 H : Hp} {p s : Nat} (w6 : wdt rows ≤ 6) (h : RsI rows D H0 p s (wdt rows) H) : RsI rows D H0 p (s + 1) 0 H := by
  obtain ⟨sm, vs, ns, hd, tr, l, mem⟩ := h
  refine ⟨sm, vs, ns, hd, tr, by omega, fun x => (mem x).trans ⟨?_, ?_⟩⟩
  · rintro ⟨p', s', t', e, a, b, c⟩
    exact ⟨p', s', t', e, a, b, by omega⟩
  · rintro ⟨p', s', t', e, a, b, c⟩
    exact ⟨p', s', t', e, a, b, by omega⟩
theorem RsI.person {rows : List (List Int)} {D : Addr} {H0 H : Hp} {p : Nat} (w6 : wdt rows ≤ 6) (h : RsI rows D H0 p (wdt rows) 0 H) : RsI rows D H0 (p + 1) 0 0 H := by
  obtain ⟨sm, vs, ns, hd, tr, l, mem⟩ := h
  refine ⟨sm, vs, ns, hd, tr, by omega, fun x => (mem x).trans ⟨?_, ?_⟩⟩
  · rintro ⟨p', s', t', e, a, b, c⟩
    exact ⟨p', s', t', e, a, b, by omega⟩
  · rintro ⟨p', s', t', e, a, b, c⟩
    exact ⟨p', s', t', e, a, b, by omega⟩
theorem RsI.step {rows : List (List Int)} {D q : Addr} {H0 H H' : Hp} {p s t : Nat} (h : RsI rows D H0 p s t H) (nd : H0 D = none) (sm : Same H H') (hs : s < wdt rows) (ht : t < wdt rows) (hq : H' q = some (.tup [.int s, .int t, .int (rs rows p s t)])) (w6 : wdt rows ≤ 6) (p4 : p ≤ 4) :
    ∃ acc, H' D = some (.lst acc) ∧ acc.length < sizeLine ∧ RsI rows D H0 p s (t + 1) (L2.upd H' D (.lst (acc ++ [.ref q]))) := by
  obtain ⟨s0, vs, ns, hd, tr, l, mem⟩ := h
  have hd' := sm _ _ hd
  have lv := tr.len
  refine ⟨vs, hd', size_lt' (by omega), same_put (s0.trans sm) nd, vs ++ [.ref q], ns ++ [(s, t, rs rows p s t)], upd_same, ?_, by rw [List.length_append]; show _ + 1 ≤ _; omega, fun x => ?_⟩
  · exact TrL.snoc (by rw [upd_ne (ne_of hq hd' (by intro z; cases z))]; exact hq) ((tr.same sm).put hd')
  · rw [List.mem_append, mem, List.mem_singleton]
    constructor
    · rintro (⟨p', s', t', e, a, b, c⟩ | e)
      · exact ⟨p', s', t', e, a, b, by omega⟩
      · exact ⟨p, s, t, e, hs, ht, by omega⟩
    · rintro ⟨p', s', t', e, a, b, c⟩
      by_cases z : p' = p ∧ s' = s ∧ t' = t
      · obtain ⟨rfl, rfl, rfl⟩ := z
        exact .inr e
      · exact .inl ⟨p', s', t', e, a, b, by omega⟩
section
variable {P : Program} {w : World} {K : PySem.W.Frag} {mg : Str → Option Value} {base : Heap} {CShare CDivision CNoPerson : Addr}
abbrev st_level_needs : Stmt := top 38
theorem sc_level_needs : FnScope ["division", "states", "rises", "person", "state", "second", "by"] ["division"] (defScope st_level_needs) := ⟨rfl, rfl, rfl, by decide +kernel, rfl, by decide +kernel, by decide +kernel⟩
theorem ok_needs (B : Bn mg) (SDivision : DvK K mg CDivision) (p_people : PCal P w K mg base 2 CDivision "people" ["self"] (spPeople CDivision CShare)) (p_states : PCal P w K mg base 4 CDivision "states" ["self"] (spStates CDivision CShare)) (c_rise : Cal P w K mg base 5 "rise" ["division", "person", "state", "second"] (spRise CDivision CShare)) (D : Df K mg "level_needs" st_level_needs ["division"]) : Cal P w K mg base 6 "level_needs" ["division"] (spNeeds CDivision CShare) := by
  refine D.cal sc_level_needs (fun vs H Q E h => ?_) (fun f cdv A out s H vs Q E hr h => ?_)
  · obtain ⟨d, t, ss, rows, rfl, _⟩ := h
    rfl
  obtain ⟨d, t, ss, rows, rfl, dv, k⟩ := h
  refine ⟨_, (pss_cons (ps_set (i := 1) sc_level_needs.nd rfl (.inr rfl) (pe_listRg rfl (by rfl) B.n_list (prg_1 (by rfl) B.n_range (pe_pr p_states SDivision.cl (hr.mono (by decide)) (pv 0)))))
   (pss_cons (ps_setLcN (i := 2) (own := [("person", 3), ("state", 4), ("second", 5)]) (g := gName 3) rfl sc_level_needs.nd rfl rfl (sw_true rfl rfl rfl (by decide +kernel)) (pi_range1 (by rfl) B.n_range (pa_cons (pe_pr p_people SDivision.cl (hr.mono (by decide)) (pv 0)) pa_nil)) (blkOk_by (N := ["division", "states", "rises", "person", "state", "second", "by"]) (sc := defScope st_level_needs) (by decide +kernel)) (by decide) (fun _ _ _ _ _ => ⟨(pg_name (i := 3) sc_level_needs.nd rfl (.inl rfl)), pts_nil, (PIns.cons (us := [4, 5]) (pi_listK (K := K) (pv 1)) (pg_name (i := 4) sc_level_needs.nd rfl (.inl rfl)) pts_nil (by decide) (by intro _ _; rfl) (PIns.cons (us := [5]) (pi_listK (K := K) (pv 1)) (pg_name (i := 5) sc_level_needs.nd rfl (.inl rfl)) pts_nil (by decide) (by intro _ _; rfl) (.nil (pe_tup (pa_cons (pv 4) (pa_cons (pv 5) (pa_cons (pe_fn c_rise (hr.mono (by decide)) (pa_cons (pv 0) (pa_cons (pv 3) (pa_cons (pv 4) (pa_cons (pv 5) pa_nil))))) pa_nil)))))))⟩))
   (pss_one (ps_ret (pe_lc (own := [("state", 4), ("second", 5), ("by", 6)]) (g := gTup K 3 (gCons (gName 4) (gCons (gName 5) (gCons (gName 6) gNil)))) rfl sc_level_needs.nd (pi_list (pv 2)) (blkOk_by (N := ["division", "states", "rises", "person", "state", "second", "by"]) (sc := defScope st_level_needs) (by decide +kernel)) (fun _ _ _ _ _ => (pg_tup rfl (pgs_cons (pg_name (i := 4) sc_level_needs.nd rfl (.inl rfl)) (pgs_cons (pg_name (i := 5) sc_level_needs.nd rfl (.inl rfl)) (pgs_cons (pg_name (i := 6) sc_level_needs.nd rfl (.inl rfl)) pgs_nil))))) (fun _ _ _ _ _ => (pts_one (pt_cmpR op_ge (pv 6) pe_int (nomark _)))) (fun _ _ _ _ _ => (pe_tup (pa_cons (pv 4) (pa_cons (pv 5) (pa_cons (pe_op op_sub (pe_callB (call_min2 rfl) (by rfl) B.n_min (by decide +kernel) (pa_cons (pv 6) (pa_cons pe_int pa_nil))) pe_int) pa_nil)))))))))), ?_⟩
  obtain ⟨⟨dx, hd⟩, ht, al, rw_⟩ := id dv
  obtain ⟨w2, w6⟩ := rw_.w26
  have p24 := rw_.1
  have p4 := rw_.2.1
  refine ⟨_, rfl, d, dx, _, rfl, hd, d, t, ss, rows, rfl, dv, fun ns0 hn0 => ?_⟩
  rw [rw_.wdt hn0]
  refine ⟨_, rfl, RgOk.of_le (by omega) (by omega) (by omega) (by omega), fun S hS => ?_⟩
  generalize hH1 : upd H S _ = H1
  have k1 : Same H H1 := by rw [← hH1]; exact same_new (Same.refl H) hS
  have e1 : H1 S = some (.lst (rgV 0 (wdt rows : Int))) := by rw [← hH1, upd_same]
  clear hH1
  have dv1 := dv.same k1
  have rl : (rgV 0 (wdt rows : Int)).length = wdt rows := by rw [rgV_length]; omega
  have rg : ∀ {i : Nat} {x : V}, (rgV 0 (wdt rows : Int))[i]? = some x → i < wdt rows ∧ x = .int (i : Nat) := fun {i x} e => by
    have lt : i < wdt rows := by rw [← rl]; exact (List.getElem?_eq_some_iff.mp e).1
    refine ⟨lt, ?_⟩
    unfold rgV at e
    rw [List.getElem?_map, List.getElem?_range (by omega)] at e
    have z := Option.some.inj e
    rw [← z]
    simp
  refine ⟨_, rfl, d, dx, _, rfl, k1 _ _ hd, d, t, ss, rows, rfl, dv1, _, rfl, by omega, by omega, fun D hD => ?_⟩
  refine lrW (lo := 0) (fun i H' => RsI rows D H1 i 0 0 H') ⟨same_new (Same.refl _) hD, [], [], upd_same, .nil, Nat.le_refl _, fun x => ⟨fun z => (nomatch z), fun ⟨p', s', t', e, a, b, c⟩ => by omega⟩⟩ (fun i H2 hi r2 => ?_) (fun H2 r2 => ?_)
  · refine ⟨rfl, tyes ?_⟩
    refine ⟨_, rfl, S, rfl, ⟨_, SqL.of (r2.1 _ _ e1)⟩, ?_⟩
    refine lcW (fun j H' => RsI rows D H1 i j 0 H') r2 (fun j H' _ r => SqL.of (r.1 _ _ e1)) (fun j x H3 hx r3 => ?_) (fun H3 r3 => ?_)
    · obtain ⟨lj, rfl⟩ := rg hx
      refine ⟨rfl, tyes ?_⟩
      refine ⟨_, rfl, S, rfl, ⟨_, SqL.of (r3.1 _ _ e1)⟩, ?_⟩
      refine lcW (fun l H' => RsI rows D H1 i j l H') r3 (fun l H' _ r => SqL.of (r.1 _ _ e1)) (fun l x H4 hx r4 => ?_) (fun H4 r4 => ?_)
      · obtain ⟨ll, rfl⟩ := rg hx
        refine ⟨rfl, tyes ?_⟩
        refine ⟨_, rfl, _, rfl, _, rfl, _, rfl, _, rfl, _, rfl, d, t, ss, rows, i, j, l, by simp, dv1.same r4.1, by omega, fun ns hn => by rw [rw_.wdt hn]; exact ⟨lj, ll⟩, ?_⟩
        refine ⟨(by show 3 ≤ sizeLine; decide), fun q hq => ?_⟩
        exact r4.step hD (same_new (Same.refl _) hq) lj ll upd_same w6 (by omega)
      · rw [rl] at r4
        exact r4.row w6
    · rw [rl] at r3
      exact r3.person w6
  · have r2 : RsI rows D H1 rows.length 0 0 H2 := by simpa using r2
    obtain ⟨k2, vs, ns, hd2, tr, l, mem⟩ := r2
    have lv := tr.len
    refine ⟨_, rfl, D, rfl, ⟨_, SqL.of hd2⟩, fun D2 hD2 => lc_list (K := K) (a := D) (xs := vs) (NdI D2 H2 ns) ⟨same_new (Same.refl _) hD2, [], [], upd_same, .nil, Nat.le_refl _, fun x => ⟨fun z => (nomatch z), fun ⟨s', t', b, z, _⟩ => (nomatch z)⟩⟩ (fun i H3 _ r => SqL.of (r.1 _ _ hd2)) (fun i x H3 hx r3 => ?_) (fun H3 r3 => ?_)⟩
    · obtain ⟨k3, vs3, ms, h3, tr3, l3, mem3⟩ := r3
      obtain ⟨q, a, b, m, rfl, hq, en⟩ := tr.at hx
      have hq3 := k3 _ _ hq
      have lx : i < vs.length := (List.getElem?_eq_some_iff.mp hx).1
      refine ⟨q, _, rfl, SqT.of hq3, rfl, _, _, rfl, _, _, rfl, _, _, rfl, rfl, rfl, ?_⟩
      refine ⟨_, rfl, _, _, rfl, rfl, _, rfl, ?_⟩
      refine ite2 (fun c => ?_) (fun c => ?_)
      · have c2 : 1 ≤ m := of_decide_eq_true c
        refine ⟨_, rfl, _, rfl, _, rfl, _, _, rfl, _, _, rfl, rfl, (by show 3 ≤ sizeLine; decide), fun q2 hq2 => ?_⟩
        generalize hH4 : upd H3 q2 _ = H4
        have k4 : Same H3 H4 := by rw [← hH4]; exact same_new (Same.refl _) hq2
        have e4 : H4 q2 = some (.tup [.int a, .int b, .int (min m 2 - 1)]) := by
          rw [← hH4, upd_same]
          have : (if (2 : Int) < m then (2 : Int) else m) = min m 2 := by split <;> omega
          rw [this]
        clear hH4
        have h4 := k4 _ _ h3
        have l4 := tr3.len
        refine ⟨vs3, h4, size_lt' (by omega), same_put (k3.trans k4) hD2, vs3 ++ [.ref q2], ms ++ [(a, b, min m 2 - 1)], upd_same, TrL.snoc (by rw [upd_ne (ne_of e4 h4 (by intro z; cases z))]; exact e4) ((tr3.same k4).put h4), by rw [List.length_append]; show _ + 1 ≤ _; omega, fun x => ?_⟩
        rw [List.mem_append, mem3, List.mem_singleton]
        constructor
        · rintro (⟨s', t', b', hm, c, e⟩ | e)
          · exact ⟨s', t', b', (mem_take_succ en).mpr (.inl hm), c, e⟩
          · exact ⟨a, b, m, (mem_take_succ en).mpr (.inr rfl), c2, e⟩
        · rintro ⟨s', t', b', hm, c, e⟩
          rcases (mem_take_succ en).mp hm with hm | hm
          · exact .inl ⟨s', t', b', hm, c, e⟩
          · cases hm
            exact .inr e
      · have c2 : ¬ 1 ≤ m := fun z => c (decide_eq_true z)
        refine ⟨k3, vs3, ms, h3, tr3, by omega, fun x => (mem3 x).trans ⟨?_, ?_⟩⟩
        · rintro ⟨s', t', b', hm, c, e⟩
          exact ⟨s', t', b', (mem_take_succ en).mpr (.inl hm), c, e⟩
        · rintro ⟨s', t', b', hm, c, e⟩
          rcases (mem_take_succ en).mp hm with hm | hm
          · exact ⟨s', t', b', hm, c, e⟩
          · cases hm
            exact absurd c c2
    · obtain ⟨k3, vs3, ms, h3, tr3, l3, mem3⟩ := r3
      rw [lv] at l3 mem3
      rw [List.take_length] at mem3
      refine k D2 vs3 ms H3 ((k1.trans k2).trans k3) h3 tr3 (fun s' t' m => (mem3 _).trans ⟨?_, ?_⟩) (by omega)
      · rintro ⟨a, b, c, hm, c1, e⟩
        obtain ⟨p', a', b', e2, la, lb, lp⟩ := (mem _).mp hm
        cases e2
        cases e
        exact ⟨p', by omega, la, lb, c1, rfl⟩
      · rintro ⟨p', lp, la, lb, c1, e⟩
        exact ⟨s', t', rs rows p' s' t', (mem _).mpr ⟨p', s', t', rfl, la, lb, by omega⟩, c1, by rw [e]⟩
end
end Pl
namespace Pl
open PySem PySem.Spec PyProof.Rows L2
/-! the mathematics of levels -/
def gI (l : List Int) (i : Nat) : Int := (l[i]?).getD 0
theorem gI_of {l : List Int} {i : Nat} {x : Int} (h : l[i]? = some x) : gI l i = x := by unfold gI; rw [h]; rfl
theorem gI_at {l : List Int} {i : Nat} (h : i < l.length) : l[i]? = some (gI l i) := by unfold gI; rw [List.getElem?_eq_getElem h]; rfl
theorem gI_mem {l : List Int} {x : Int} (h : x ∈ l) : ∃ i, i < l.length ∧ gI l i = x := by
  obtain ⟨i, hi, e⟩ := List.getElem_of_mem h
  exact ⟨i, hi, gI_of (by rw [List.getElem?_eq_getElem hi, e])⟩
theorem gI_ext {a b : List Int} (l : a.length = b.length) (h : ∀ i, i < a.length → gI a i = gI b i) : a = b := by
  refine List.ext_getElem? fun i => ?_
  by_cases c : i < a.length
  · rw [gI_at c, gI_at (by omega), h i c]
  · rw [List.getElem?_eq_none (by omega), List.getElem?_eq_none (by omega)]
theorem sumG_le : ∀ {a b : List Int}, a.length = b.length → (∀ i, i < a.length → gI a i ≤ gI b i) → a.sum ≤ b.sum
  | [], [], _, _ => Int.le_refl _
  | x :: a, y :: b, l, h => by
    have h0 : x ≤ y := h 0 (by simp)
    have ih := sumG_le (a := a) (b := b) (by simpa using l) fun i hi => by simpa [gI] using h (i + 1) (by simpa using hi)
    rw [List.sum_cons, List.sum_cons]
    omega
theorem sumG_lt : ∀ {a b : List Int}, a.length = b.length → (∀ i, i < a.length → gI a i ≤ gI b i) → (∃ i, i < a.length ∧ gI a i < gI b i) → a.sum < b.sum
  | [], [], _, _, ⟨i, hi, _⟩ => by simp at hi
  | x :: a, y :: b, l, h, ⟨i, hi, lt⟩ => by
    have h0 : x ≤ y := h 0 (by simp)
    have ht : ∀ i, i < a.length → gI a i ≤ gI b i := fun i hi => by simpa [gI] using h (i + 1) (by simpa using hi)
    have l' : a.length = b.length := by simpa using l
    rw [List.sum_cons, List.sum_cons]
    cases i with
    | zero =>
      have z : x < y := lt
      have := sumG_le l' ht
      omega
    | succ i =>
      have := sumG_lt l' ht ⟨i, by simpa using hi, by simpa [gI] using lt⟩
      omega
theorem sum_le_mul {b : Int} : ∀ {a : List Int}, (∀ x ∈ a, x ≤ b) → a.sum ≤ b * a.length
  | [], _ => by simp
  | x :: a, h => by
    have := sum_le_mul (a := a) fun y hy => h y (List.mem_cons_of_mem _ hy)
    have h0 := h x List.mem_cons_self
    rw [List.sum_cons, List.length_cons, Int.natCast_add, Int.mul_add]
    omega
theorem sum_nn : ∀ {a : List Int}, (∀ x ∈ a, 0 ≤ x) → 0 ≤ a.sum
  | [], _ => by simp
  | x :: a, h => by
    have := sum_nn (a := a) fun y hy => h y (List.mem_cons_of_mem _ hy)
    have h0 := h x List.mem_cons_self
    rw [List.sum_cons]
    omega
theorem filt_len (p : Int → Bool) : ∀ (g : List Int), (g.filter p).length + (g.filter fun x => !p x).length = g.length
  | [] => rfl
  | x :: g => by
    have := filt_len p g
    cases e : p x <;> simp [List.filter_cons, e] <;> omega
theorem filt_split (k : Nat) : ∀ (g : List Int), (g.filter fun x => decide (x < (k : Int) + 1)).length = (g.filter fun x => decide (x < (k : Int))).length + (g.filter fun x => decide (x = (k : Int))).length
  | [] => rfl
  | x :: g => by
    have ih := filt_split k g
    rw [List.filter_cons, List.filter_cons, List.filter_cons]
    by_cases a : x < (k : Int)
    · have b : x < (k : Int) + 1 := by omega
      have c : ¬ x = (k : Int) := by omega
      simp [a, b, c, ih]
      omega
    · by_cases c : x = (k : Int)
      · subst c
        have b : (k : Int) < (k : Int) + 1 := by omega
        have d : ¬ (k : Int) < (k : Int) := by omega
        rw [if_pos (by simpa using b), if_neg (by simpa using d), if_pos (by simp)]
        rw [List.length_cons, List.length_cons, ih]
        omega
      · have b : ¬ x < (k : Int) + 1 := by omega
        simp [a, b, c, ih]
theorem pigeon : ∀ (k : Nat) (g : List Int), (∀ u : Nat, u < k → (u : Int) ∈ g) → k ≤ (g.filter fun x => decide (x < (k : Int))).length
  | 0, g, _ => Nat.zero_le _
  | k + 1, g, h => by
    have ih := pigeon k g fun u hu => h u (by omega)
    have hk := h k (by omega)
    have e := filt_split k g
    have : 0 < (g.filter fun x => decide (x = (k : Int))).length := List.length_pos_of_mem (List.mem_filter.mpr ⟨hk, by simp⟩)
    have e2 : ((k + 1 : Nat) : Int) = (k : Int) + 1 := by omega
    rw [e2, e]
    omega
/-- what the numbers of the states must keep -/
def Sol (C : Nat → Nat → Int → Prop) (n : Nat) (g : List Int) : Prop := g.length = n ∧ (∀ i, i < n → 0 ≤ gI g i) ∧ ∀ s t m, C s t m → gI g s + m ≤ gI g t
def Cok (C : Nat → Nat → Int → Prop) (n : Nat) : Prop := ∀ s t m, C s t m → s < n ∧ t < n ∧ 0 ≤ m ∧ m ≤ 1
theorem gap_of {g : List Int} {i : Nat} (hi : i < g.length) (big : (g.length : Int) ≤ gI g i) : ∃ u : Nat, u < g.length ∧ (u : Int) ∉ g := by
  refine Classical.byContradiction fun z => ?_
  have all : ∀ u : Nat, u < g.length → (u : Int) ∈ g := fun u hu => Classical.byContradiction fun y => z ⟨u, hu, y⟩
  have a := pigeon g.length g all
  have b := filt_len (fun x => decide (x < (g.length : Int))) g
  have m : gI g i ∈ g := List.mem_of_getElem? (gI_at hi)
  have : 0 < (g.filter fun x => !decide (x < (g.length : Int))).length := List.length_pos_of_mem (List.mem_filter.mpr ⟨m, by simp; omega⟩)
  omega
theorem low_sol {C : Nat → Nat → Int → Prop} {n : Nat} (hC : Cok C n) : ∀ (k : Nat) (g : List Int), Sol C n g → g.sum.toNat ≤ k → ∃ g', Sol C n g' ∧ ∀ i, i < n → gI g' i < n := by
  intro k
  induction k with
  | zero =>
    intro g sg hk
    by_cases c : ∀ i, i < n → gI g i < n
    · exact ⟨g, sg, c⟩
    · exfalso
      obtain ⟨i, hi⟩ := Classical.not_forall.mp c
      obtain ⟨hi, hb⟩ := Classical.not_imp.mp hi
      obtain ⟨l, nn, _⟩ := sg
      have z := sumG_lt (a := List.replicate n 0) (b := g) (by simp [l]) (fun j hj => by
        have hj : j < n := by simpa using hj
        have := nn j hj
        have e : gI (List.replicate n (0 : Int)) j = 0 := gI_of (by rw [List.getElem?_replicate]; simp [hj])
        omega) ⟨i, by simpa using hi, by
        have e : gI (List.replicate n (0 : Int)) i = 0 := gI_of (by rw [List.getElem?_replicate]; simp [hi])
        omega⟩
      have e : (List.replicate n (0 : Int)).sum = 0 := by simp
      omega
  | succ k ih =>
    intro g sg hk
    by_cases c : ∀ i, i < n → gI g i < n
    · exact ⟨g, sg, c⟩
    · obtain ⟨i, hi⟩ := Classical.not_forall.mp c
      obtain ⟨hi, hb⟩ := Classical.not_imp.mp hi
      obtain ⟨l, nn, st⟩ := sg
      subst l
      obtain ⟨u, hu, nu⟩ := gap_of hi (by omega)
      have ne : ∀ j, j < g.length → gI g j ≠ u := fun j hj e => nu (by rw [← e]; exact List.mem_of_getElem? (gI_at hj))
      have ev : ∀ j, j < g.length → gI (g.map fun x => if (u : Int) + 1 ≤ x then x - 1 else x) j = if (u : Int) + 1 ≤ gI g j then gI g j - 1 else gI g j := fun j hj => gI_of (by rw [List.getElem?_map, gI_at hj]; rfl)
      refine ih (g.map fun x => if (u : Int) + 1 ≤ x then x - 1 else x) ⟨by simp, fun j hj => ?_, fun s t m cs => ?_⟩ ?_
      · rw [ev j hj]
        have := nn j hj
        split <;> omega
      · obtain ⟨ls, lt, m0, m1⟩ := hC s t m cs
        rw [ev s ls, ev t lt]
        have := st s t m cs
        have := ne s ls
        have := ne t lt
        split <;> split <;> omega
      · have z := sumG_lt (a := g.map fun x => if (u : Int) + 1 ≤ x then x - 1 else x) (b := g) (by simp) (fun j hj => by
          rw [ev j (by simpa using hj)]
          split <;> omega) ⟨i, by simpa using hi, by
          rw [ev i hi]
          rw [if_pos (by omega)]
          omega⟩
        have z2 : 0 ≤ (g.map fun x => if (u : Int) + 1 ≤ x then x - 1 else x).sum := sum_nn fun x hx => by
          obtain ⟨j, hj, e⟩ := gI_mem hx
          have hj : j < g.length := by simpa using hj
          rw [← e, ev j hj]
          have := nn j hj
          split <;> omega
        omega
/-- the smallest numbers -/
def Least (C : Nat → Nat → Int → Prop) (n : Nat) (h : List Int) : Prop := Sol C n h ∧ ∀ g, Sol C n g → ∀ i, i < n → gI h i ≤ gI g i
theorem Least.uniq {C : Nat → Nat → Int → Prop} {n : Nat} {a b : List Int} (h : Least C n a) (k : Least C n b) : a = b :=
  gI_ext (by rw [h.1.1, k.1.1]) fun i hi => by
    rw [h.1.1] at hi
    exact Int.le_antisymm (h.2 b k.1 i hi) (k.2 a h.1 i hi)
/-- below all solutions -/
def Below (C : Nat → Nat → Int → Prop) (n : Nat) (h : List Int) : Prop := h.length = n ∧ (∀ i, i < n → 0 ≤ gI h i) ∧ ∀ g, Sol C n g → ∀ i, i < n → gI h i ≤ gI g i
theorem Below.none {C : Nat → Nat → Int → Prop} {n : Nat} (hC : Cok C n) {h : List Int} (b : Below C n h) {i : Nat} (hi : i < n) (big : (n : Int) ≤ gI h i) : ∀ g, ¬ Sol C n g := fun g sg => by
  obtain ⟨g', sg', lt⟩ := low_sol hC _ g sg (Nat.le_refl _)
  have := b.2.2 g' sg' i hi
  have := lt i hi
  omega
theorem Below.sum {C : Nat → Nat → Int → Prop} {n : Nat} (hC : Cok C n) {h : List Int} (b : Below C n h) (big : (n : Int) * n ≤ h.sum) (n0 : 0 < n) : ∀ g, ¬ Sol C n g := fun g sg => by
  obtain ⟨g', sg', lt⟩ := low_sol hC _ g sg (Nat.le_refl _)
  have a := sumG_le (a := h) (b := g') (by rw [b.1, sg'.1]) fun i hi => b.2.2 g' sg' i (by rw [← b.1]; exact hi)
  have c := sum_le_mul (a := g') (b := (n : Int) - 1) fun x hx => by
    obtain ⟨j, hj, e⟩ := gI_mem hx
    rw [sg'.1] at hj
    have := lt j hj
    omega
  rw [sg'.1, Int.sub_mul] at c
  omega
theorem Below.least {C : Nat → Nat → Int → Prop} {n : Nat} {h : List Int} (b : Below C n h) (s : ∀ s t m, C s t m → gI h s + m ≤ gI h t) : Least C n h := ⟨⟨b.1, b.2.1, s⟩, b.2.2⟩
end Pl
namespace Pl
open PySem PySem.Spec PyProof.Rows L2
def BlI (D : Addr) (H1 : Hp) (T : Nat → Prop) (i : Nat) (H : Hp) : Prop := Same H1 H ∧ ∃ bs : List Bool, H D = some (.lst (bs.map V.bl)) ∧ bs.length = i ∧ ∀ j b, bs[j]? = some b → (b = true ↔ T j)
theorem BlI.start {D : Addr} {H1 : Hp} {T : Nat → Prop} (h : H1 D = none) : BlI D H1 T 0 (upd H1 D (.lst [])) := ⟨same_new (Same.refl H1) h, [], upd_same, rfl, fun j b e => by simp at e⟩
theorem BlI.next {D : Addr} {H1 H H' : Hp} {T : Nat → Prop} {i : Nat} (q : BlI D H1 T i H) (k : Same H H') (h : H1 D = none) (li : i ≤ 1000000) {b : Bool} (hb : b = true ↔ T i) : ∃ acc, H' D = some (.lst acc) ∧ acc.length < sizeLine ∧ BlI D H1 T (i + 1) (upd H' D (.lst (acc ++ [.bl b]))) := by
  obtain ⟨s, bs, e, l, t⟩ := q
  refine ⟨_, k _ _ e, Nat.lt_of_le_of_lt (show _ ≤ 1000000 by rw [List.length_map]; omega) (by decide), same_put (s.trans k) h, bs ++ [b], ?_, by simp [l], fun j c ej => ?_⟩
  · rw [upd_same, List.map_append]
    rfl
  · by_cases z : j < bs.length
    · rw [List.getElem?_append_left z] at ej
      exact t j c ej
    · rw [List.getElem?_append_right (by omega)] at ej
      have z2 : j - bs.length = 0 := by
        have := (List.getElem?_eq_some_iff.mp ej).1
        simp at this
        omega
      rw [z2] at ej
      have e3 : b = c := by simpa using ej
      subst e3
      have : j = i := by omega
      rw [this]
      exact hb
theorem BlI.all {D : Addr} {H1 H : Hp} {T : Nat → Prop} {n : Nat} (q : BlI D H1 T n H) : ∃ bs : List Bool, H D = some (.lst (bs.map V.bl)) ∧ (bs.all id = true ↔ ∀ j, j < n → T j) := by
  obtain ⟨s, bs, e, l, t⟩ := q
  refine ⟨bs, e, ?_⟩
  rw [List.all_eq_true]
  constructor
  · intro h j hj
    have ej : bs[j]? = some bs[j] := List.getElem?_eq_getElem (by omega)
    exact (t j _ ej).mp (h _ (List.mem_of_getElem? ej))
  · intro h b hb
    obtain ⟨j, hj, e⟩ := List.getElem_of_mem hb
    exact (t j b (by rw [List.getElem?_eq_getElem hj, e])).mpr (h j (by omega))
end Pl
namespace Pl
open PySem PySem.Spec PyProof.Rows L2
def NdC (rows : List (List Int)) (s t : Nat) (m : Int) : Prop := ∃ p, p < rows.length ∧ s < wdt rows ∧ t < wdt rows ∧ 1 ≤ rs rows p s t ∧ m = min (rs rows p s t) 2 - 1
theorem ndC_ok (rows : List (List Int)) : Cok (NdC rows) (wdt rows) := fun s t m ⟨p, _, a, b, c, e⟩ => ⟨a, b, by omega, by omega⟩
theorem getI {l : List Int} {i : Nat} (h : i < l.length) : atI (l.map V.int) (i : Int) = some (.int (gI l i)) := atI_nat (j := i) (by rw [List.getElem?_map, gI_at h]; rfl)
def spMeets : Sp := fun vs H Q _ => ∃ (h l : Addr) (hs : List Int) (ws : List V) (ns : List (Nat × Nat × Int)), vs = [.ref h, .ref l] ∧ H h = some (.tup (hs.map V.int)) ∧ H l = some (.lst ws) ∧ TrL H ws ns ∧ ns.length ≤ 144 ∧ (∀ s t m, (s, t, m) ∈ ns → s < hs.length ∧ t < hs.length) ∧
  ∀ (b : Bool) (H' : Hp), Same H H' → (b = true ↔ ∀ s t m, (s, t, m) ∈ ns → gI hs s + m ≤ gI hs t) → Q (.bl b) H'
section
variable {P : Program} {w : World} {K : PySem.W.Frag} {mg : Str → Option Value} {base : Heap} {CShare CDivision CNoPerson : Addr}
abbrev st_meets : Stmt := top 39
theorem sc_meets : FnScope ["heights", "needs", "state", "second", "more"] ["heights", "needs"] (defScope st_meets) := ⟨rfl, rfl, rfl, by decide +kernel, rfl, by decide +kernel, by decide +kernel⟩
theorem ok_meets (B : Bn mg) (D : Df K mg "meets" st_meets ["heights", "needs"]) : Cal P w K mg base 1 "meets" ["heights", "needs"] spMeets := by
  refine D.cal sc_meets (fun vs H Q E h => ?_) (fun f cdv A out s H vs Q E hr h => ?_)
  · obtain ⟨h, l, hs, ws, ns, rfl, _⟩ := h
    rfl
  obtain ⟨h, l, hs, ws, ns, rfl, hh, hl, tr, n1, bd, k⟩ := h
  refine ⟨_, (pss_one (ps_ret (pe_callB (cr_all rfl) (by rfl) B.n_all (by decide +kernel) (pa_cons (pe_lc (own := [("state", 2), ("second", 3), ("more", 4)]) (g := gTup K 3 (gCons (gName 2) (gCons (gName 3) (gCons (gName 4) gNil)))) rfl sc_meets.nd (pi_list (pv 1)) (blkOk_by (N := ["heights", "needs", "state", "second", "more"]) (sc := defScope st_meets) (by decide +kernel)) (fun _ _ _ _ _ => (pg_tup rfl (pgs_cons (pg_name (i := 2) sc_meets.nd rfl (.inl rfl)) (pgs_cons (pg_name (i := 3) sc_meets.nd rfl (.inl rfl)) (pgs_cons (pg_name (i := 4) sc_meets.nd rfl (.inl rfl)) pgs_nil))))) (fun _ _ _ _ _ => pts_nil) (fun _ _ _ _ _ => (pe_cmpR op_ge (pe_ix (show IxR _ (rIxT K) from ix_tup) (pv 0) (pv 3) (fun _ _ => rfl)) (pe_op op_add (pe_ix (show IxR _ (rIxT K) from ix_tup) (pv 0) (pv 2) (fun _ _ => rfl)) (pv 4)) (nomark _)))) pa_nil)))), ?_⟩
  have lv := tr.len
  refine ⟨_, rfl, l, rfl, ⟨_, SqL.of hl⟩, fun D hD => lc_list (K := K) (a := l) (xs := ws) (BlI D H fun j => ∀ s t m, ns[j]? = some (s, t, m) → gI hs s + m ≤ gI hs t) (BlI.start hD) (fun i H' _ q => SqL.of (q.1 _ _ hl)) (fun i x H' hx q => ?_) (fun H' q => ?_)⟩
  · obtain ⟨r, a, b, m, rfl, hr2, en⟩ := tr.at hx
    obtain ⟨la, lb⟩ := bd a b m (List.mem_of_getElem? en)
    have lx : i < ws.length := (List.getElem?_eq_some_iff.mp hx).1
    have hh' := q.1 _ _ hh
    refine ⟨r, _, rfl, SqT.of (q.1 _ _ hr2), rfl, _, _, rfl, _, _, rfl, _, _, rfl, rfl, rfl, tyes ?_⟩
    refine ⟨_, rfl, _, rfl, h, _, _, _, rfl, rfl, SqT.of hh', getI lb, _, rfl, _, rfl, h, _, _, _, rfl, rfl, SqT.of hh', getI la, _, rfl, _, _, rfl, rfl, _, _, rfl, rfl, ?_⟩
    refine q.next (Same.refl _) hD (by omega) ?_
    rw [decide_eq_true_eq]
    constructor
    · intro z s t m' e
      rw [en] at e
      cases e
      exact z
    · intro z
      exact z a b m en
  · obtain ⟨bs, e, ev⟩ := q.all
    refine ⟨D, bs, rfl, SqL.of e, k _ H' q.1 ?_⟩
    rw [ev]
    constructor
    · intro z s t m hm
      obtain ⟨j, hj, e⟩ := List.getElem_of_mem hm
      exact z j (by omega) s t m (by rw [List.getElem?_eq_getElem hj, e])
    · intro z j hj s t m e
      exact z s t m (List.mem_of_getElem? e)
end
end Pl
namespace Pl
open PySem PySem.Spec PyProof.Rows L2
theorem Kd.of {K : PySem.W.Frag} {H : Hp} {x : V} {T : String} (t : TyX K H x (.type T)) (h1 : PySem.W.kitOne K (.type T) (.type "int") = some false) (h2 : PySem.W.kitOne K (.type T) (.type "bool") = some false) (e : isInt x = false) : Kd K H x := ⟨_, false, false, t, h1, h2, by rw [e]; rfl⟩
theorem Kd.non {K : PySem.W.Frag} {H : Hp} : Kd K H .non := Kd.of (.base .non) (kit_ty (by decide +kernel)) (kit_ty (by decide +kernel)) rfl
theorem Kd.bl {K : PySem.W.Frag} {H : Hp} (b : Bool) : Kd K H (.bl b) := ⟨_, true, true, .base (.bl b), kit_ty (by decide +kernel), kit_ty (by decide +kernel), rfl⟩
theorem Kd.str {K : PySem.W.Frag} {H : Hp} (z : Str) : Kd K H (.str z) := Kd.of (.base (.str z)) (kit_ty (by decide +kernel)) (kit_ty (by decide +kernel)) rfl
theorem Kd.tup {K : PySem.W.Frag} {H : Hp} {a : Addr} {xs : List V} (e : H a = some (.tup xs)) : Kd K H (.ref a) := Kd.of (.base (.tup e)) (kit_ty (by decide +kernel)) (kit_ty (by decide +kernel)) rfl
theorem Kd.lst {K : PySem.W.Frag} {H : Hp} {a : Addr} {xs : List V} (e : H a = some (.lst xs)) : Kd K H (.ref a) := Kd.of (.base (.lst e)) (kit_ty (by decide +kernel)) (kit_ty (by decide +kernel)) rfl
theorem Kd.dK {K : PySem.W.Frag} {H : Hp} {a : Addr} {xs : List (Key × V)} (e : H a = some (.dK xs)) : Kd K H (.ref a) := Kd.of (.base (.dK e)) (kit_ty (by decide +kernel)) (kit_ty (by decide +kernel)) rfl
end Pl
namespace Pl
open PySem PySem.Spec PyProof.Rows L2
theorem un1 {k : Nat} {A : Around} (hr : Room k A) : A.units + 1 < cLine := Nat.lt_of_le_of_lt (Nat.add_le_add_left (show 1 ≤ 64 by decide) _) hr.units
def nI (l : List Nat) : List Int := l.map (fun x : Nat => ((x : Nat) : Int))
def iV (l : List Nat) : List V := l.map (fun x : Nat => V.int ((x : Nat) : Int))
theorem iV_eq (l : List Nat) : iV l = (nI l).map V.int := by
  unfold iV nI
  rw [List.map_map]
  rfl
theorem nI_inj {a b : List Nat} (h : nI a = nI b) : a = b := (List.map_inj_right (f := fun x : Nat => ((x : Nat) : Int)) (fun _ _ e => Int.ofNat.inj e)).mp h
theorem iV_len (l : List Nat) : (iV l).length = l.length := List.length_map _
theorem iV_at {l : List Nat} {i : Nat} {x : V} (h : (iV l)[i]? = some x) : ∃ s, x = .int (s : Nat) ∧ l[i]? = some s := by
  unfold iV at h
  rw [List.getElem?_map] at h
  cases e : l[i]? with
  | none => rw [e] at h; cases h
  | some y => rw [e] at h; cases h; exact ⟨y, rfl, rfl⟩
/-- the steps of a chain, the last to the first -/
def stp (ss : List Nat) : List (Nat × Nat) := ss.zip (ss.drop 1 ++ ss.take 1)
theorem stp_len {ss : List Nat} (h : 1 ≤ ss.length) : (stp ss).length = ss.length := by
  unfold stp
  rw [List.length_zip, List.length_append, List.length_drop, List.length_take]
  omega
theorem stp_mem {ss : List Nat} {i s t : Nat} (h : (stp ss)[i]? = some (s, t)) : s ∈ ss ∧ t ∈ ss := by
  have m := List.mem_of_getElem? h
  unfold stp at m
  have z := List.of_mem_zip m
  refine ⟨z.1, ?_⟩
  rcases List.mem_append.mp z.2 with q | q
  · exact List.mem_of_mem_drop q
  · exact List.mem_of_mem_take q
/-- the first of the people who rises by so much -/
def fr (rows : List (List Int)) (ps : List Nat) (l : Int) (s t : Nat) : Option Nat := ps.find? fun p => decide (l ≤ rs rows p s t)
def ov : Option Nat → V
  | none => .non
  | some p => .int (p : Nat)
theorem fr_some {rows : List (List Int)} {ps : List Nat} {l : Int} {s t p : Nat} (h : fr rows ps l s t = some p) : p ∈ ps ∧ l ≤ rs rows p s t :=
  ⟨List.mem_of_find?_eq_some h, by simpa using List.find?_some h⟩
theorem fr_none {rows : List (List Int)} {ps : List Nat} {l : Int} {s t : Nat} (h : fr rows ps l s t = none) : ∀ q ∈ ps, ¬ l ≤ rs rows q s t := fun q hq => by
  have := List.find?_eq_none.mp h q hq
  simpa using this
theorem fr_least {rows : List (List Int)} {l : Int} {s t p : Nat} : ∀ {ps : List Nat}, ps.Pairwise (· < ·) → fr rows ps l s t = some p → ∀ q ∈ ps, l ≤ rs rows q s t → p ≤ q
  | [], _, h, _, _, _ => nomatch h
  | x :: ps, pw, h, q, hq, hl => by
    unfold fr at h
    rw [List.find?_cons] at h
    rw [List.pairwise_cons] at pw
    cases c : decide (l ≤ rs rows x s t) with
    | true =>
      rw [c] at h
      have e : x = p := by simpa using h
      subst e
      rcases List.mem_cons.mp hq with rfl | hq
      · exact Nat.le_refl _
      · exact Nat.le_of_lt (pw.1 q hq)
    | false =>
      rw [c] at h
      rcases List.mem_cons.mp hq with rfl | hq
      · exact absurd hl (of_decide_eq_false c)
      · exact fr_least pw.2 (by unfold fr; simpa using h) q hq hl
/-- people who make a ring of the states -/
def Fits (rows : List (List Int)) (ps ss g : List Nat) : Prop := g.length = ss.length ∧ (∀ (i p s t : Nat), g[i]? = some p → (stp ss)[i]? = some (s, t) → p ∈ ps ∧ 1 ≤ rs rows p s t) ∧ ∃ (i p s t : Nat), g[i]? = some p ∧ (stp ss)[i]? = some (s, t) ∧ 2 ≤ rs rows p s t
theorem lx_of_le : ∀ {a b : List Nat}, a.length = b.length → (∀ (i x y : Nat), a[i]? = some x → b[i]? = some y → x ≤ y) → lx (nI b) (nI a) = false
  | [], [], _, _ => rfl
  | [], _ :: _, h, _ => nomatch h
  | _ :: _, [], h, _ => nomatch h
  | a :: as, b :: bs, h, le => by
    have l0 := le 0 a b rfl rfl
    have ih : lx (nI bs) (nI as) = false := lx_of_le (by simpa using h) fun i x y e1 e2 => le (i + 1) x y (by simpa using e1) (by simpa using e2)
    show (decide ((b : Int) < a) || (decide ((b : Int) = a) && lx (nI bs) (nI as))) = false
    rw [ih, Bool.and_false, Bool.or_false]
    exact decide_eq_false (by omega)
/-- the candidates: one steep, all others the first who rise -/
def Cnd (rows : List (List Int)) (ps ss bs : List Nat) (k : Nat) (g : List Nat) : Prop := ∃ (i w s t : Nat), i < k ∧ (stp ss)[i]? = some (s, t) ∧ fr rows ps 2 s t = some w ∧ g = bs.take i ++ [w] ++ bs.drop (i + 1)
def Bas (rows : List (List Int)) (ps ss bs : List Nat) : Prop := bs.length = (stp ss).length ∧ ∀ (i s t : Nat), (stp ss)[i]? = some (s, t) → ∃ b, bs[i]? = some b ∧ fr rows ps 1 s t = some b
theorem set_at {bs : List Nat} {i w j : Nat} (hi : i < bs.length) : (bs.take i ++ [w] ++ bs.drop (i + 1))[j]? = if j = i then some w else bs[j]? := by
  have lt : (bs.take i).length = i := by rw [List.length_take]; omega
  by_cases c : j < i
  · rw [List.append_assoc, List.getElem?_append_left (by omega), List.getElem?_take, if_pos c, if_neg (by omega)]
  · by_cases c2 : j = i
    · subst c2
      rw [if_pos rfl, List.append_assoc, List.getElem?_append_right (by omega), lt, Nat.sub_self]
      rfl
    · rw [if_neg c2, List.getElem?_append_right (by simp; omega), List.getElem?_drop]
      congr 1
      rw [List.length_append, lt]
      show i + 1 + (j - (i + 1)) = j
      omega
theorem set_len {bs : List Nat} {i w : Nat} (hi : i < bs.length) : (bs.take i ++ [w] ++ bs.drop (i + 1)).length = bs.length := by
  rw [List.length_append, List.length_append, List.length_take, List.length_drop]
  show _ + 1 + _ = _
  omega
theorem Cnd.fits {rows : List (List Int)} {ps ss bs g : List Nat} (l1 : 1 ≤ ss.length) (b : Bas rows ps ss bs) (c : Cnd rows ps ss bs (stp ss).length g) : Fits rows ps ss g := by
  obtain ⟨i, w, s, t, li, es, ew, rfl⟩ := c
  have lb : i < bs.length := by rw [b.1]; exact li
  obtain ⟨wm, wr⟩ := fr_some ew
  refine ⟨by rw [set_len lb, b.1, stp_len l1], fun j p s' t' ep et => ?_, i, w, s, t, by rw [set_at lb, if_pos rfl], es, wr⟩
  rw [set_at lb] at ep
  by_cases z : j = i
  · subst z
    rw [if_pos rfl] at ep
    rw [es] at et
    cases ep
    cases et
    exact ⟨wm, by omega⟩
  · rw [if_neg z] at ep
    obtain ⟨b', e1, e2⟩ := b.2 j s' t' et
    rw [e1] at ep
    cases ep
    exact fr_some e2
theorem Fits.cnd {rows : List (List Int)} {ps ss bs g : List Nat} (pw : ps.Pairwise (· < ·)) (l1 : 1 ≤ ss.length) (b : Bas rows ps ss bs) (f : Fits rows ps ss g) : ∃ c, Cnd rows ps ss bs (stp ss).length c ∧ lx (nI g) (nI c) = false := by
  obtain ⟨lg, all, i, p, s, t, ep, es, r2⟩ := f
  have li : i < (stp ss).length := (List.getElem?_eq_some_iff.mp es).1
  have lb : i < bs.length := by rw [b.1]; exact li
  cases e : fr rows ps 2 s t with
  | none => exact absurd r2 (fr_none e p (all i p s t ep es).1)
  | some w =>
    refine ⟨_, ⟨i, w, s, t, li, es, e, rfl⟩, lx_of_le (by rw [set_len lb, b.1, stp_len l1, lg]) fun j x y ex ey => ?_⟩
    rw [set_at lb] at ex
    have lj : j < (stp ss).length := by
      have := (List.getElem?_eq_some_iff.mp ey).1
      rw [stp_len l1]
      omega
    have ej : (stp ss)[j]? = some (stp ss)[j] := List.getElem?_eq_getElem lj
    generalize (stp ss)[j] = st at ej
    obtain ⟨s', t'⟩ := st
    obtain ⟨ym, yr⟩ := all j y s' t' ey ej
    by_cases z : j = i
    · subst z
      rw [if_pos rfl] at ex
      cases ex
      rw [ey] at ep
      cases ep
      exact fr_least pw e _ ym r2
    · rw [if_neg z] at ex
      obtain ⟨b', e1, e2⟩ := b.2 j s' t' ej
      rw [e1] at ex
      cases ex
      exact fr_least pw e2 _ ym yr
/-- the least of the candidates is the least of all -/
theorem cnd_least {rows : List (List Int)} {ps ss bs g : List Nat} (pw : ps.Pairwise (· < ·)) (l1 : 1 ≤ ss.length) (b : Bas rows ps ss bs) (mn : ∀ c, Cnd rows ps ss bs (stp ss).length c → lx (nI c) (nI g) = false) : ∀ g', Fits rows ps ss g' → lx (nI g') (nI g) = false := fun g' f => by
  obtain ⟨c, hc, le⟩ := f.cnd pw l1 b
  cases d : lx (nI g') (nI g) with
  | false => rfl
  | true =>
    have n := mn c hc
    cases f2 : lx (nI c) (nI g') with
    | false =>
      have e := lx_tri f2 le
      rw [e, d] at n
      cases n
    | true =>
      rw [lx_trans f2 d] at n
      cases n
theorem no_base {rows : List (List Int)} {ps ss : List Nat} {i s t : Nat} (l1 : 1 ≤ ss.length) (es : (stp ss)[i]? = some (s, t)) (e : fr rows ps 1 s t = none) : ∀ g, ¬ Fits rows ps ss g := fun g ⟨lg, all, _⟩ => by
  have li : i < (stp ss).length := (List.getElem?_eq_some_iff.mp es).1
  rw [stp_len l1, ← lg] at li
  obtain ⟨a, r⟩ := all i g[i] s t (List.getElem?_eq_getElem li) es
  exact fr_none e _ a r
/-- a ring of these people -/
def IsRing (rows : List (List Int)) (ps ss g : List Nat) : Prop := ss.Nodup ∧ (∀ s ∈ ss, s < wdt rows) ∧ 1 ≤ ss.length ∧ Fits rows ps ss g
/-- the first of the shortest -/
def FstR (rows : List (List Int)) (ps ss g : List Nat) : Prop := IsRing rows ps ss g ∧ ∀ ss' g', IsRing rows ps ss' g' → ss.length ≤ ss'.length ∧ (ss'.length = ss.length → lx (nI ss') (nI ss) = false ∧ (ss' = ss → lx (nI g') (nI g) = false))
theorem FstR.uniq {rows : List (List Int)} {ps ss g ss' g' : List Nat} (a : FstR rows ps ss g) (b : FstR rows ps ss' g') : ss = ss' ∧ g = g' := by
  obtain ⟨a1, a2⟩ := a
  obtain ⟨b1, b2⟩ := b
  have l1 := (a2 _ _ b1).1
  have l2 := (b2 _ _ a1).1
  obtain ⟨x1, x2⟩ := (a2 _ _ b1).2 (by omega)
  obtain ⟨y1, y2⟩ := (b2 _ _ a1).2 (by omega)
  have e := nI_inj (lx_tri y1 x1)
  subst e
  exact ⟨rfl, nI_inj (lx_tri (y2 rfl) (x2 rfl))⟩
/-- a chain of states to which somebody rises -/
def Chn (rows : List (List Int)) (ps ss : List Nat) : Prop := ss.Nodup ∧ (∀ s ∈ ss, s < wdt rows) ∧ ∀ (i s t : Nat), ss[i]? = some s → ss[i + 1]? = some t → fr rows ps 1 s t ≠ none
theorem stp_in {ss : List Nat} {i s t : Nat} (hs : ss[i]? = some s) (ht : ss[i + 1]? = some t) : (stp ss)[i]? = some (s, t) := by
  unfold stp
  have l := (List.getElem?_eq_some_iff.mp ht).1
  rw [List.getElem?_zip_eq_some]
  refine ⟨hs, ?_⟩
  rw [List.getElem?_append_left (by rw [List.length_drop]; omega), List.getElem?_drop, Nat.add_comm]
  exact ht
theorem IsRing.chn {rows : List (List Int)} {ps ss g : List Nat} (h : IsRing rows ps ss g) : Chn rows ps ss := by
  obtain ⟨nd, lt, l1, lg, all, _⟩ := h
  refine ⟨nd, lt, fun i s t hs ht e => ?_⟩
  have li : i < g.length := by rw [lg]; exact (List.getElem?_eq_some_iff.mp hs).1
  obtain ⟨a, r⟩ := all i g[i] s t (List.getElem?_eq_getElem li) (stp_in hs ht)
  exact fr_none e _ a r
theorem nodup_le : ∀ {n : Nat} {ss : List Nat}, ss.Nodup → (∀ s ∈ ss, s < n) → ss.length ≤ n
  | 0, [], _, _ => Nat.le_refl _
  | 0, s :: _, _, lt => absurd (lt s List.mem_cons_self) (Nat.not_lt_zero s)
  | n + 1, ss, nd, lt => by
    have ih := nodup_le (n := n) (ss := ss.erase n) (nd.erase n) fun s hs => by
      obtain ⟨a, b⟩ := nd.mem_erase_iff.mp hs
      have := lt s b
      omega
    have le : ss.length ≤ (ss.erase n).length + 1 := by
      rw [List.length_erase]
      split <;> omega
    omega
end Pl
namespace Pl
open PySem PySem.Spec PyProof.Rows L2
theorem tcl {wi : TI} {g : TG} {tt : TT} {us : List Nat} {t : TIn} {σ σ' : L2.St} {H : Hp} {D : Addr} {Nx : Hp → Prop} (e : σ = σ') (h : tClause wi g tt us t σ' H D Nx) : tClause wi g tt us t σ H D Nx := e ▸ h
end Pl
namespace Pl
open PySem PySem.Spec PyProof.Rows L2
theorem alloc {H H' : Hp} {p : Addr} {o : HO} (e : L2.upd H p o = H') (n : H p = none) : Same H H' ∧ H' p = some o := by
  subst e
  exact ⟨same_new (Same.refl H) n, upd_same⟩
theorem fr_at {rows : List (List Int)} {l : Int} {s t : Nat} : ∀ {ps : List Nat} {i p : Nat}, ps[i]? = some p → l ≤ rs rows p s t → (∀ (j q : Nat), j < i → ps[j]? = some q → ¬ l ≤ rs rows q s t) → fr rows ps l s t = some p
  | [], _, _, h, _, _ => by cases h
  | x :: ps, 0, p, h, c, _ => by
    cases h
    unfold fr
    rw [List.find?_cons, decide_eq_true c]
  | x :: ps, i + 1, p, h, c, no => by
    have n0 := no 0 x (Nat.zero_lt_succ _) rfl
    have ih : fr rows ps l s t = some p := fr_at (i := i) (by simpa using h) c fun j q hj e => no (j + 1) q (by omega) (by simpa using e)
    unfold fr at ih ⊢
    rw [List.find?_cons, decide_eq_false n0]
    exact ih
theorem fr_no {rows : List (List Int)} {l : Int} {s t : Nat} {ps : List Nat} (no : ∀ (j q : Nat), ps[j]? = some q → ¬ l ≤ rs rows q s t) : fr rows ps l s t = none := by
  unfold fr
  rw [List.find?_eq_none]
  intro q hq
  obtain ⟨j, hj⟩ := List.mem_iff_getElem?.mp hq
  have := no j q hj
  simpa using this
def spRiser (CD C : Addr) : Sp := fun vs H Q _ => ∃ (d t : Addr) (ss : List Addr) (rows : List (List Int)) (pl : Addr) (ps : List Nat) (l : Int) (s u : Nat), vs = [.ref d, .ref pl, .int l, .int s, .int u] ∧ DvAt CD C H d t ss rows ∧ H pl = some (.lst (iV ps)) ∧ (∀ p ∈ ps, p < rows.length) ∧ s < wdt rows ∧ u < wdt rows ∧ ∀ H', Same H H' → Q (ov (fr rows ps l s u)) H'
/-- the dict of the first risers -/
def IsR (H : Hp) (D : Addr) (rows : List (List Int)) (ps : List Nat) (l : Int) : Prop := ∃ kvs : List (List Key × V), H D = some (.dT kvs) ∧ ∀ s t : Nat, s < wdt rows → t < wdt rows → valV kvs [.inl (s : Int), .inl (t : Int)] = some (ov (fr rows ps l s t))
theorem IsR.same {H H' : Hp} {D : Addr} {rows : List (List Int)} {ps : List Nat} {l : Int} (h : IsR H D rows ps l) (k : Same H H') : IsR H' D rows ps l := by
  obtain ⟨kvs, e, a⟩ := h
  exact ⟨kvs, k _ _ e, a⟩
theorem IsR.get {H : Hp} {D b : Addr} {rows : List (List Int)} {ps : List Nat} {l : Int} (h : IsR H D rows ps l) {s t : Nat} (ls : s < wdt rows) (lt : t < wdt rows) (eb : H b = some (.tup [.int (s : Nat), .int (t : Nat)])) : DGet H D (.ref b) (some (ov (fr rows ps l s t))) := by
  obtain ⟨kvs, e, a⟩ := h
  rw [← a s t ls lt]
  exact DGet.t (k := [.inl (s : Int), .inl (t : Int)]) e eb
def spRisers (CD C : Addr) : Sp := fun vs H Q _ => ∃ (d t : Addr) (ss : List Addr) (rows : List (List Int)) (pl : Addr) (ps : List Nat) (l : Int), vs = [.ref d, .ref pl, .int l] ∧ DvAt CD C H d t ss rows ∧ H pl = some (.lst (iV ps)) ∧ (∀ p ∈ ps, p < rows.length) ∧ ∀ (D : Addr) (H' : Hp), Same H H' → IsR H' D rows ps l → Q (.ref D) H'
def RsD (rows : List (List Int)) (ps : List Nat) (l : Int) (D : Addr) (H0 : Hp) (i j : Nat) (H : Hp) : Prop := Same H0 H ∧ ∃ kvs : List (List Key × V), H D = some (.dT kvs) ∧ kvs.length ≤ 6 * i + j ∧ ∀ s t : Nat, s < wdt rows → t < wdt rows → (s < i ∨ (s = i ∧ t < j)) → valV kvs [.inl (s : Int), .inl (t : Int)] = some (ov (fr rows ps l s t))
end Pl
namespace Pl
open PySem PySem.Spec PyProof.Rows L2
theorem cut_drop {xs : List V} {n : Nat} (h : n ≤ xs.length) : cutV xs (some (n : Int)) none = xs.drop n := by
  unfold cutV
  rw [HT.sIx_none, HT.sIx_nat, Nat.min_eq_left h, List.take_of_length_le (by rw [List.length_drop]; exact Nat.le_refl _)]
theorem slT {K : PySem.W.Frag} {a : Addr} {xs : List V} {lo hi : Option Int} {H : Hp} {Q : VK} (h : H a = some (.tup xs)) (k : ∀ p H', Same H H' → H' p = some (.tup (cutV xs lo hi)) → Q (.ref p) H') : rSlA K (.ref a) lo hi H Q := by
  refine ⟨a, xs, rfl, SqT.of h, fun w => k a H (Same.refl H) ?_, fun _ p np => k p _ (same_new (Same.refl H) np) upd_same⟩
  rw [h]
  unfold cutV
  rw [w.1, w.2, List.drop_zero, Nat.sub_zero, List.take_length]
theorem caT {K : PySem.W.Frag} {a b : Addr} {xs ys : List V} {H : Hp} {Q : VK} (h1 : H a = some (.tup xs)) (h2 : H b = some (.tup ys)) (l : xs.length + ys.length ≤ 1000) (k : ∀ p H', Same H H' → H' p = some (.tup (xs ++ ys)) → Q (.ref p) H') : rCatA K (.ref a) (.ref b) H Q := by
  refine ⟨a, b, xs, ys, rfl, rfl, SqT.of h1, SqT.of h2, Nat.le_of_lt (size_lt' (by omega)), fun z => k b H (Same.refl H) (by rw [z]; exact h2), fun _ z => k a H (Same.refl H) (by rw [z, List.append_nil]; exact h1), fun _ _ p np => k p _ (same_new (Same.refl H) np) upd_same⟩
/-- steps in the heap -/
inductive StL (H : Hp) : List V → List (Nat × Nat) → Prop
  | nil : StL H [] []
  | cons {q : Addr} {s t : Nat} {ws : List V} {st : List (Nat × Nat)} : H q = some (.tup [.int (s : Nat), .int (t : Nat)]) → StL H ws st → StL H (.ref q :: ws) ((s, t) :: st)
theorem StL.of {H : Hp} : ∀ {a b : List Nat} {ws : List V}, PrA H ws (iV a) (iV b) → StL H ws (a.zip b)
  | [], [], _, h => by
    cases h
    exact .nil
  | [], _ :: _, _, h => by cases h
  | _ :: _, [], _, h => by cases h
  | x :: a, y :: b, _, h => by
    cases h with
    | cons e r => exact .cons e (StL.of (a := a) (b := b) r)
theorem StL.same {H H' : Hp} (k : Same H H') : ∀ {ws : List V} {st : List (Nat × Nat)}, StL H ws st → StL H' ws st
  | _, _, .nil => .nil
  | _, _, .cons e r => .cons (k _ _ e) (r.same k)
theorem StL.len {H : Hp} : ∀ {ws : List V} {st : List (Nat × Nat)}, StL H ws st → ws.length = st.length
  | _, _, .nil => rfl
  | _, _, .cons e r => by rw [List.length_cons, List.length_cons, r.len]
theorem StL.at {H : Hp} : ∀ {ws : List V} {st : List (Nat × Nat)} {i : Nat} {x : V}, StL H ws st → ws[i]? = some x → ∃ (q : Addr) (s t : Nat), x = .ref q ∧ H q = some (.tup [.int (s : Nat), .int (t : Nat)]) ∧ st[i]? = some (s, t)
  | _, _, _, _, .nil, e => by cases e
  | _, _, 0, _, .cons h r, e => by
    cases e
    exact ⟨_, _, _, rfl, h, rfl⟩
  | _, _, i + 1, _, .cons h r, e => r.at (i := i) (by simpa using e)
def spSteps : Sp := fun vs H Q _ => ∃ (q : Addr) (ss : List Nat), vs = [.ref q] ∧ H q = some (.tup (iV ss)) ∧ 1 ≤ ss.length ∧ ss.length ≤ 100 ∧ ∀ (L : Addr) (ws : List V) (H' : Hp), Same H H' → H' L = some (.lst ws) → StL H' ws (stp ss) → Q (.ref L) H'
def spPeopleF : Sp := fun vs H Q _ => ∃ (q R S : Addr) (rows : List (List Int)) (ps ss : List Nat), vs = [.ref q, .ref R, .ref S] ∧ H q = some (.tup (iV ss)) ∧ 1 ≤ ss.length ∧ ss.length ≤ 100 ∧ (∀ s ∈ ss, s < wdt rows) ∧ ps.Pairwise (· < ·) ∧ IsR H R rows ps 1 ∧ IsR H S rows ps 2 ∧
  (∀ H', Same H H' → (∀ g, ¬ Fits rows ps ss g) → Q .non H') ∧ (∀ (r : Addr) (g : List Nat) (H' : Hp), Same H H' → H' r = some (.tup (iV g)) → Fits rows ps ss g → (∀ g', Fits rows ps ss g' → lx (nI g') (nI g) = false) → Q (.ref r) H')
theorem inNon : ∀ {os : List (Option Nat)}, inV .non (os.map ov) = true ↔ none ∈ os
  | [] => by simp [inV]
  | none :: os => by simp [inV, ov, eqV]
  | some p :: os => by
    have ih := inNon (os := os)
    unfold inV at ih ⊢
    rw [List.map_cons, List.any_cons]
    show (eqV (V.int p) .non || _) = true ↔ _
    rw [show eqV (V.int p) .non = false from rfl, Bool.false_or, ih]
    simp
theorem flatOv : ∀ os : List (Option Nat), (os.map ov).all flatV = true
  | [] => rfl
  | none :: os => by
    rw [List.map_cons, List.all_cons, flatOv os]
    rfl
  | some p :: os => by
    rw [List.map_cons, List.all_cons, flatOv os]
    rfl
theorem somes : ∀ {os : List (Option Nat)}, none ∉ os → ∃ bs : List Nat, os = bs.map some
  | [], _ => ⟨[], rfl⟩
  | none :: os, h => absurd List.mem_cons_self h
  | some p :: os, h => by
    obtain ⟨bs, e⟩ := somes (os := os) fun z => h (List.mem_cons_of_mem _ z)
    exact ⟨p :: bs, by rw [e]; rfl⟩
/-- tuples of numbers in the heap -/
inductive RwN (H : Hp) : List V → List (List Nat) → Prop
  | nil : RwN H [] []
  | cons {q : Addr} {g : List Nat} {vs : List V} {gs : List (List Nat)} : H q = some (.tup (iV g)) → RwN H vs gs → RwN H (.ref q :: vs) (g :: gs)
theorem RwN.same {H H' : Hp} (k : Same H H') : ∀ {vs : List V} {gs : List (List Nat)}, RwN H vs gs → RwN H' vs gs
  | _, _, .nil => .nil
  | _, _, .cons h r => .cons (k _ _ h) (r.same k)
theorem RwN.put {H : Hp} {l : Addr} {ys : List V} {o : HO} (hl : H l = some (.lst ys)) : ∀ {vs : List V} {gs : List (List Nat)}, RwN H vs gs → RwN (L2.upd H l o) vs gs
  | _, _, .nil => .nil
  | _, _, .cons h r => .cons (by rw [upd_ne (ne_of h hl (by intro z; cases z))]; exact h) (r.put hl)
theorem RwN.len {H : Hp} : ∀ {vs : List V} {gs : List (List Nat)}, RwN H vs gs → vs.length = gs.length
  | _, _, .nil => rfl
  | _, _, .cons _ r => by rw [List.length_cons, List.length_cons, r.len]
theorem RwN.app {H : Hp} {ws : List V} {hs : List (List Nat)} (h2 : RwN H ws hs) : ∀ {vs : List V} {gs : List (List Nat)}, RwN H vs gs → RwN H (vs ++ ws) (gs ++ hs)
  | _, _, .nil => h2
  | _, _, .cons h r => .cons h (RwN.app h2 r)
theorem RwN.snoc {H : Hp} {q : Addr} {g : List Nat} {vs : List V} {gs : List (List Nat)} (r : RwN H vs gs) (h : H q = some (.tup (iV g))) : RwN H (vs ++ [.ref q]) (gs ++ [g]) := RwN.app (.cons h .nil) r
theorem RwN.at {H : Hp} : ∀ {vs : List V} {gs : List (List Nat)} {i : Nat} {x : V}, RwN H vs gs → vs[i]? = some x → ∃ (q : Addr) (g : List Nat), x = .ref q ∧ H q = some (.tup (iV g)) ∧ gs[i]? = some g
  | _, _, _, _, .nil, e => by cases e
  | _, _, 0, _, .cons h r, e => by
    cases e
    exact ⟨_, _, rfl, h, rfl⟩
  | _, _, i + 1, _, .cons h r, e => r.at (i := i) (by simpa using e)
theorem RwN.dp {K : PySem.W.Frag} {H : Hp} : ∀ {vs : List V} {gs : List (List Nat)}, RwN H vs gs → DpAll K H vs ((gs.map nI).map tpD)
  | _, _, .nil => .nil
  | _, _, .cons (g := g) h r => by
    rw [iV_eq] at h
    exact .cons (.tup (SqT.of h) (dpInts _ _ _)) r.dp
section
variable {P : Program} {w : World} {K : PySem.W.Frag} {mg : Str → Option Value} {base : Heap} {CShare CDivision CNoPerson : Addr}
abbrev st_steps_around : Stmt := top 37
theorem sc_steps_around : FnScope ["states"] ["states"] (defScope st_steps_around) := ⟨rfl, rfl, rfl, by decide +kernel, rfl, by decide +kernel, by decide +kernel⟩
theorem ok_steps (B : Bn mg) (D : Df K mg "steps_around" st_steps_around ["states"]) : Cal P w K mg base 1 "steps_around" ["states"] spSteps := by
  refine D.cal sc_steps_around (fun vs H Q E h => ?_) (fun f cdv A out s H vs Q E hr h => ?_)
  · obtain ⟨q, ss, rfl, _⟩ := h
    rfl
  obtain ⟨q, ss, rfl, hq, l1, l100, k⟩ := h
  refine ⟨_, (pss_one (ps_ret (pe_listZip rfl (by rfl) B.n_list (by rfl) B.n_zip (pa_cons (pv 0) (pa_cons (pe_op op_catA (pe_slice sl_tupA (pv 0) (po_some pe_int) po_none) (pe_slice sl_tupA (pv 0) po_none (po_some pe_int))) pa_nil))))), ?_⟩
  have li := iV_len ss
  have c1t : cutV (iV ss) none (some (1 : Int)) = iV (ss.take 1) := by
    rw [show cutV (iV ss) none (some (1 : Int)) = (iV ss).take 1 from cut_take (n := 1) (by omega)]
    unfold iV
    rw [List.map_take]
  have c1d : cutV (iV ss) (some (1 : Int)) none = iV (ss.drop 1) := by
    rw [show cutV (iV ss) (some (1 : Int)) none = (iV ss).drop 1 from cut_drop (n := 1) (by omega)]
    unfold iV
    rw [List.map_drop]
  refine ⟨_, rfl, _, rfl, _, rfl, ?_⟩
  try unfold tNoPart
  refine slT (K := K) (lo := some (1 : Int)) (hi := none) hq fun p1 H1 k1 e1 => ?_
  rw [c1d] at e1
  refine ⟨_, rfl, _, rfl, slT (K := K) (lo := none) (hi := some (1 : Int)) (k1 _ _ hq) fun p2 H2 k2 e2 => ?_⟩
  rw [c1t] at e2
  refine caT (k2 _ _ e1) e2 (by rw [iV_len, iV_len, List.length_drop, List.length_take]; omega) fun p3 H3 k3 e3 => ?_
  have e3 : H3 p3 = some (.tup (iV (ss.drop 1 ++ ss.take 1))) := by
    rw [e3]
    unfold iV
    rw [List.map_append]
  have kk := k1.trans (k2.trans k3)
  refine ⟨q, p3, _, _, rfl, SqT.of (kk _ _ hq), SqT.of e3, by rw [iV_len, iV_len, List.length_append, List.length_drop, List.length_take]; omega, fun L ws H4 k4 _ hL pr => ?_⟩
  exact k L ws H4 (kk.trans k4) hL (StL.of pr)
end
end Pl
namespace Pl
open PySem PySem.Spec PyProof.Rows L2
theorem lx_app : ∀ {a b : List Int} (x y : List Int), a.length = b.length → lx a b = true → lx (a ++ x) (b ++ y) = true
  | [], [], _, _, _, h => nomatch h
  | [], _ :: _, _, _, h, _ => nomatch h
  | _ :: _, [], _, _, h, _ => nomatch h
  | a :: as, b :: bs, x, y, hl, h => by
    simp only [List.cons_append, lx, Bool.or_eq_true, Bool.and_eq_true, decide_eq_true_eq] at h ⊢
    rcases h with h | ⟨h1, h2⟩
    · exact .inl h
    · exact .inr ⟨h1, lx_app x y (by simpa using hl) h2⟩
theorem lx_pre : ∀ (a : List Int) {x y : List Int}, lx (a ++ x) (a ++ y) = lx x y
  | [], _, _ => rfl
  | a :: as, x, y => by
    simp only [List.cons_append, lx, lx_pre as]
    simp
theorem lx_asym {a b : List Int} (h : lx a b = true) : lx b a = false := by
  cases c : lx b a with
  | false => rfl
  | true =>
    have := lx_trans h c
    rw [lx_irr] at this
    cases this
theorem nI_app (a b : List Nat) : nI (a ++ b) = nI a ++ nI b := by
  unfold nI
  rw [List.map_append]
theorem nI_len (a : List Nat) : (nI a).length = a.length := List.length_map _
/-- a state that makes the chain longer -/
def Ext (rows : List (List Int)) (ps c : List Nat) (s : Nat) : Prop := s ∉ c ∧ ∃ e, c[c.length - 1]? = some e ∧ fr rows ps 1 e s ≠ none
theorem Chn.take {rows : List (List Int)} {ps ss : List Nat} (h : Chn rows ps ss) (k : Nat) : Chn rows ps (ss.take k) := by
  obtain ⟨nd, lt, st⟩ := h
  refine ⟨nd.sublist (List.take_sublist k ss), fun s hs => lt s (List.mem_of_mem_take hs), fun i s t hs ht => ?_⟩
  rw [List.getElem?_take] at hs ht
  by_cases c : i < k
  · by_cases c2 : i + 1 < k
    · rw [if_pos c] at hs
      rw [if_pos c2] at ht
      exact st i s t hs ht
    · rw [if_neg c2] at ht; cases ht
  · rw [if_neg c] at hs; cases hs
theorem Chn.snoc {rows : List (List Int)} {ps c : List Nat} {s : Nat} (h : Chn rows ps c) (ls : s < wdt rows) (e : Ext rows ps c s) : Chn rows ps (c ++ [s]) := by
  obtain ⟨nd, lt, st⟩ := h
  obtain ⟨no, x, ex, rx⟩ := e
  refine ⟨List.nodup_append.mpr ⟨nd, by simp, fun a ha b hb => ?_⟩, fun a ha => ?_, fun i a b ha hb => ?_⟩
  · rw [List.mem_singleton.mp hb]
    intro z
    exact no (z ▸ ha)
  · rcases List.mem_append.mp ha with z | z
    · exact lt a z
    · rw [List.mem_singleton.mp z]; exact ls
  · have lx := (List.getElem?_eq_some_iff.mp hb).1
    rw [List.length_append] at lx
    have lx : i + 1 < c.length + 1 := lx
    rw [List.getElem?_append_left (by omega)] at ha
    by_cases z : i + 1 < c.length
    · rw [List.getElem?_append_left z] at hb
      exact st i a b ha hb
    · have z2 : i = c.length - 1 := by omega
      rw [List.getElem?_append_right (by omega), show i + 1 - c.length = 0 by omega] at hb
      have : s = b := by simpa using hb
      subst this
      rw [z2, ex] at ha
      cases ha
      exact rx
theorem Chn.split {rows : List (List Int)} {ps g : List Nat} {k : Nat} (h : Chn rows ps g) (l : g.length = k + 1) (k1 : 1 ≤ k) : ∃ c s, Chn rows ps c ∧ c.length = k ∧ s < wdt rows ∧ Ext rows ps c s ∧ g = c ++ [s] := by
  have lk : k < g.length := by omega
  have eg : g = g.take k ++ [g[k]] := by
    have z : g.take (k + 1) = g := List.take_of_length_le (by omega)
    refine z.symm.trans ?_
    rw [List.take_add_one, List.getElem?_eq_getElem lk]
    rfl
  have lc : (g.take k).length = k := by rw [List.length_take]; omega
  refine ⟨g.take k, g[k], h.take k, lc, h.2.1 _ (List.getElem_mem lk), ⟨fun z => ?_, g[k - 1], ?_, ?_⟩, eg⟩
  · have nd := h.1
    rw [eg, List.nodup_append] at nd
    exact nd.2.2 _ z _ (List.mem_singleton.mpr rfl) rfl
  · rw [lc, List.getElem?_take, if_pos (by omega)]
    exact List.getElem?_eq_getElem (by omega)
  · refine h.2.2 (k - 1) _ _ (List.getElem?_eq_getElem (by omega)) ?_
    rw [show k - 1 + 1 = k by omega]
    exact List.getElem?_eq_getElem lk
/-- all chains of one length, in order -/
def Chs (rows : List (List Int)) (ps : List Nat) (k : Nat) (cs : List (List Nat)) : Prop := (∀ c, c ∈ cs ↔ Chn rows ps c ∧ c.length = k) ∧ cs.Pairwise fun a b => lx (nI a) (nI b) = true
def spLonger (CD C : Addr) : Sp := fun vs H Q _ => ∃ (d t : Addr) (ss : List Addr) (rows : List (List Int)) (cl R : Addr) (ws : List V) (cs : List (List Nat)) (ps : List Nat) (k : Nat), vs = [.ref d, .ref cl, .ref R] ∧ DvAt CD C H d t ss rows ∧ H cl = some (.lst ws) ∧ RwN H ws cs ∧ IsR H R rows ps 1 ∧ Chs rows ps k cs ∧ 1 ≤ k ∧ k ≤ 6 ∧ cs.length ≤ 6 ^ k ∧
  ∀ (L : Addr) (us : List V) (gs : List (List Nat)) (H' : Hp), Same H H' → H' L = some (.lst us) → RwN H' us gs → Chs rows ps (k + 1) gs → gs.length ≤ 6 ^ (k + 1) → Q (.ref L) H'
/-- a chain of the row before, with a state that comes later, or an earlier one -/
def Old (rows : List (List Int)) (ps : List Nat) (cs : List (List Nat)) (i j : Nat) (g : List Nat) : Prop := ∃ (a s : Nat) (c : List Nat), cs[a]? = some c ∧ (a < i ∨ (a = i ∧ s < j)) ∧ s < wdt rows ∧ Ext rows ps c s ∧ g = c ++ [s]
def LcI (rows : List (List Int)) (ps : List Nat) (cs : List (List Nat)) (D : Addr) (H0 : Hp) (i j : Nat) (H : Hp) : Prop := Same H0 H ∧ ∃ (us : List V) (gs : List (List Nat)), H D = some (.lst us) ∧ RwN H us gs ∧ gs.length ≤ 6 * i + j ∧ (∀ g, g ∈ gs ↔ Old rows ps cs i j g) ∧ gs.Pairwise fun a b => lx (nI a) (nI b) = true
theorem LcI.skip {rows : List (List Int)} {ps : List Nat} {cs : List (List Nat)} {D : Addr} {H0 H H' : Hp} {i j : Nat} {c : List Nat} (h : LcI rows ps cs D H0 i j H) (k : Same H H') (ec : cs[i]? = some c) (no : ¬ Ext rows ps c j) : LcI rows ps cs D H0 i (j + 1) H' := by
  obtain ⟨s, us, gs, hd, rn, l, mem, pw⟩ := h
  refine ⟨s.trans k, us, gs, k _ _ hd, rn.same k, by omega, fun g => (mem g).trans ⟨fun ⟨a, s, c', e1, z, r⟩ => ⟨a, s, c', e1, by omega, r⟩, fun ⟨a, s, c', e1, z, ls, ex, e⟩ => ⟨a, s, c', e1, ?_, ls, ex, e⟩⟩, pw⟩
  by_cases y : a = i ∧ s = j
  · obtain ⟨rfl, rfl⟩ := y
    rw [ec] at e1
    cases e1
    exact absurd ex no
  · omega
theorem LcI.add {rows : List (List Int)} {ps : List Nat} {cs : List (List Nat)} {D q : Addr} {H0 H H' : Hp} {i j k0 : Nat} {c : List Nat} (h : LcI rows ps cs D H0 i j H) (nD : H0 D = none) (k : Same H H') (chs : Chs rows ps k0 cs) (ec : cs[i]? = some c) (lj : j < wdt rows) (ex : Ext rows ps c j) (hq : H' q = some (.tup (iV (c ++ [j])))) (sz : 6 * i + j ≤ 900000) :
    ∃ acc, H' D = some (.lst acc) ∧ acc.length < sizeLine ∧ LcI rows ps cs D H0 i (j + 1) (L2.upd H' D (.lst (acc ++ [.ref q]))) := by
  obtain ⟨s, us, gs, hd, rn, l, mem, pw⟩ := h
  have hd' := k _ _ hd
  have lu := rn.len
  refine ⟨us, hd', Nat.lt_of_le_of_lt (show us.length ≤ 1000000 by omega) (by decide), same_put (s.trans k) nD, us ++ [.ref q], gs ++ [c ++ [j]], upd_same, ((rn.same k).put hd').snoc (by rw [upd_ne (ne_of hq hd' (by intro z; cases z))]; exact hq), by rw [List.length_append]; show _ + 1 ≤ _; omega, fun g => ?_, ?_⟩
  · rw [List.mem_append, mem, List.mem_singleton]
    constructor
    · rintro (⟨a, s, c', e1, z, r⟩ | e)
      · exact ⟨a, s, c', e1, by omega, r⟩
      · exact ⟨i, j, c, ec, by omega, lj, ex, e⟩
    · rintro ⟨a, s, c', e1, z, ls, ex', e⟩
      by_cases y : a = i ∧ s = j
      · obtain ⟨rfl, rfl⟩ := y
        rw [ec] at e1
        cases e1
        exact .inr e
      · exact .inl ⟨a, s, c', e1, by omega, ls, ex', e⟩
  · refine List.pairwise_append.mpr ⟨pw, List.pairwise_singleton _ _, fun a ha b hb => ?_⟩
    rw [List.mem_singleton.mp hb]
    obtain ⟨x, s, c', e1, z, ls, ex', rfl⟩ := (mem a).mp ha
    rw [nI_app, nI_app]
    rcases z with z | ⟨rfl, z⟩
    · refine lx_app _ _ ?_ ?_
      · rw [nI_len, nI_len, ((chs.1 c').mp (List.mem_of_getElem? e1)).2, ((chs.1 c).mp (List.mem_of_getElem? ec)).2]
      · obtain ⟨l1, g1⟩ := List.getElem?_eq_some_iff.mp e1
        obtain ⟨l2, g2⟩ := List.getElem?_eq_some_iff.mp ec
        have z2 := List.pairwise_iff_getElem.mp chs.2 x i l1 l2 z
        rw [g1, g2] at z2
        exact z2
    · rw [ec] at e1
      cases e1
      rw [lx_pre]
      show (decide ((s : Int) < j) || _) = true
      rw [decide_eq_true (by omega), Bool.true_or]
theorem inNat : ∀ {c : List Nat} {s : Nat}, inV (.int (s : Nat)) (iV c) = true ↔ s ∈ c
  | [], s => by simp [inV, iV]
  | x :: c, s => by
    have ih := inNat (c := c) (s := s)
    unfold inV iV at ih ⊢
    rw [List.map_cons, List.any_cons]
    show (((x : Int) == (s : Int)) || _) = true ↔ _
    rw [Bool.or_eq_true, ih, List.mem_cons]
    simp
    constructor
    · rintro (z | z)
      · exact .inl (by omega)
      · exact .inr z
    · rintro (z | z)
      · exact .inl (by omega)
      · exact .inr z
theorem flatI : ∀ c : List Nat, (iV c).all flatV = true
  | [] => rfl
  | x :: c => by
    have ih := flatI c
    unfold iV at ih ⊢
    rw [List.map_cons, List.all_cons, ih]
    rfl
theorem atI_end {xs : List V} {x : V} (h : xs[xs.length - 1]? = some x) : atI xs (-1) = some x := by
  have : xs ≠ [] := fun e => by subst e; simp at h
  obtain ⟨ys, y, rfl⟩ : ∃ ys y, xs = ys ++ [y] := ⟨xs.dropLast, xs.getLast this, (List.dropLast_concat_getLast this).symm⟩
  rw [List.length_append, List.length_singleton, Nat.add_sub_cancel, List.getElem?_append_right (Nat.le_refl _), Nat.sub_self] at h
  cases h
  exact atI_last _ _
end Pl
namespace Pl
open PySem PySem.Spec PyProof.Rows L2
def spIsPair (K : PySem.W.Frag) : Sp := fun vs H Q _ => ∃ x : V, vs = [x] ∧ ((∃ ty, TyX K H x ty ∧ PySem.W.kitOne K ty (.type "tuple") = some false ∧ Q (.bl false) H) ∨ (∃ (p : Addr) (xs : List V), x = .ref p ∧ H p = some (.tup xs) ∧ Q (.bl (decide (xs.length = 2))) H))
def spNums (K : PySem.W.Frag) : Sp := fun vs H Q _ => ∃ (x : V) (m : Int), vs = [x, .int m] ∧ ((∃ ty, TyX K H x ty ∧ PySem.W.kitOne K ty (.type "tuple") = some false ∧ Q (.bl false) H) ∨ (∃ (p : Addr) (xs : List V), x = .ref p ∧ H p = some (.tup xs) ∧ xs.length ≤ 100 ∧ (∀ y ∈ xs, Kd K H y) ∧ ∀ H', Same H H' → Q (.bl (xs.all (isTo (m - 1)))) H'))
theorem nums_iV {n : Nat} : ∀ {xs : List V}, xs.all (isTo ((n : Int) - 1)) = true ↔ ∃ ss : List Nat, xs = iV ss ∧ ∀ s ∈ ss, s < n
  | [] => ⟨fun _ => ⟨[], rfl, fun _ h => (nomatch h)⟩, fun _ => rfl⟩
  | x :: xs => by
    rw [List.all_cons, Bool.and_eq_true, nums_iV]
    constructor
    · rintro ⟨hx, ss, rfl, lt⟩
      cases x <;> first | (simp [isTo] at hx; done) | skip
      rename_i i
      have hi : 0 ≤ i ∧ i ≤ (n : Int) - 1 := by simpa [isTo] using hx
      refine ⟨i.toNat :: ss, ?_, fun s hs => ?_⟩
      · show V.int i :: _ = V.int ((i.toNat : Nat) : Int) :: _
        rw [show ((i.toNat : Nat) : Int) = i by omega]
        rfl
      · rcases List.mem_cons.mp hs with rfl | hs
        · omega
        · exact lt s hs
    · rintro ⟨ss, e, lt⟩
      cases ss with
      | nil => cases e
      | cons s ss =>
        obtain ⟨e1, e2⟩ := List.cons.inj e
        subst e1
        have ls := lt s List.mem_cons_self
        refine ⟨?_, ss, e2, fun t ht => lt t (List.mem_cons_of_mem _ ht)⟩
        simp only [isTo, Bool.and_eq_true, decide_eq_true_eq]
        omega
theorem perm_of_sub : ∀ {ks ns : List Int}, ks.Nodup → (∀ k ∈ ks, k ∈ ns) → ks.length = ns.length → ks.Perm ns
  | [], ns, _, _, l => by
    rw [List.length_eq_zero_iff.mp l.symm]
  | k :: ks, ns, nd, sub, l => by
    rw [List.nodup_cons] at nd
    have hk := sub k List.mem_cons_self
    have ih := perm_of_sub (ks := ks) (ns := ns.erase k) nd.2 (fun x hx => (List.mem_erase_of_ne (fun z => nd.1 (by rw [← z]; exact hx))).mpr (sub x (List.mem_cons_of_mem _ hx))) (by
      rw [List.length_erase_of_mem hk]
      have : ks.length + 1 = ns.length := l
      omega)
    exact (ih.cons k).trans (List.perm_cons_erase hk).symm
theorem len_set {ks ns : List Int} (nd : ks.Nodup) (m : ∀ k, k ∈ ks ↔ k ∈ ns) : ks.length = ns.length ↔ ns.Nodup := by
  constructor
  · intro l
    exact (perm_of_sub nd (fun k hk => (m k).mp hk) l).nodup_iff.mp nd
  · intro h
    exact ((List.perm_ext_iff_of_nodup nd h).mpr m).length_eq
theorem nI_nodup {l : List Nat} : (nI l).Nodup ↔ l.Nodup := by
  unfold nI
  rw [List.nodup_iff_pairwise_ne, List.nodup_iff_pairwise_ne, List.pairwise_map]
  constructor
  · exact fun h => h.imp fun {a b} z e => z (by rw [e])
  · exact fun h => h.imp fun {a b} z e => z (by omega)
/-- the two tuples are a ring -/
def RgX (rows : List (List Int)) (xs zs : List V) : Prop := ∃ ss g : List Nat, xs = iV ss ∧ zs = iV g ∧ IsRing rows (List.range rows.length) ss g
def NoTu (K : PySem.W.Frag) (H : Hp) (x : V) : Prop := ∃ ty, TyX K H x ty ∧ PySem.W.kitOne K ty (.type "tuple") = some false
def spShowR (K : PySem.W.Frag) (CD C : Addr) : Sp := fun vs H Q _ => ∃ (d t : Addr) (ss : List Addr) (rows : List (List Int)) (x : V), vs = [.ref d, x] ∧ DvAt CD C H d t ss rows ∧
  ((NoTu K H x ∧ Q (.bl false) H) ∨ (∃ (p : Addr) (xs : List V), x = .ref p ∧ H p = some (.tup xs) ∧ xs.length ≠ 2 ∧ Q (.bl false) H) ∨
   (∃ (p : Addr) (y z : V), x = .ref p ∧ H p = some (.tup [y, z]) ∧
     ((NoTu K H y ∧ Q (.bl false) H) ∨
      (∃ (q : Addr) (xs : List V), y = .ref q ∧ H q = some (.tup xs) ∧ xs.length ≤ 100 ∧ (∀ v ∈ xs, Kd K H v) ∧
        ((NoTu K H z ∧ ∀ H', Same H H' → Q (.bl false) H') ∨
         (∃ (r : Addr) (zs : List V), z = .ref r ∧ H r = some (.tup zs) ∧ zs.length ≤ 100 ∧ (∀ v ∈ zs, Kd K H v) ∧ ∀ (b : Bool) (H' : Hp), Same H H' → (b = true ↔ RgX rows xs zs) → Q (.bl b) H'))))))
theorem iV_inj {a b : List Nat} (h : iV a = iV b) : a = b := by
  rw [iV_eq, iV_eq] at h
  exact nI_inj ((List.map_inj_right (f := V.int) (fun _ _ h => V.int.inj h)).mp h)
theorem RgX.at {rows : List (List Int)} {ss g : List Nat} : RgX rows (iV ss) (iV g) ↔ IsRing rows (List.range rows.length) ss g := by
  constructor
  · rintro ⟨ss', g', e1, e2, ir⟩
    rw [iV_inj e1, iV_inj e2]
    exact ir
  · exact fun ir => ⟨ss, g, rfl, rfl, ir⟩
theorem RgX.nums {rows : List (List Int)} {xs zs : List V} (h : RgX rows xs zs) : xs.all (isTo ((wdt rows : Int) - 1)) = true ∧ zs.all (isTo ((rows.length : Int) - 1)) = true := by
  obtain ⟨ss, g, rfl, rfl, nd, lt, l1, lg, all, _⟩ := h
  refine ⟨nums_iV.mpr ⟨ss, rfl, lt⟩, nums_iV.mpr ⟨g, rfl, fun p hp => ?_⟩⟩
  obtain ⟨j, hj⟩ := List.mem_iff_getElem?.mp hp
  have lj : j < (stp ss).length := by
    rw [stp_len l1, ← lg]
    exact (List.getElem?_eq_some_iff.mp hj).1
  exact List.mem_range.mp (all j p (stp ss)[j].1 (stp ss)[j].2 hj (List.getElem?_eq_getElem lj)).1
section
variable {P : Program} {w : World} {K : PySem.W.Frag} {mg : Str → Option Value} {base : Heap} {CShare CDivision CNoPerson : Addr}
abbrev st_is_pair : Stmt := top 4
theorem sc_is_pair : FnScope ["thing"] ["thing"] (defScope st_is_pair) := ⟨rfl, rfl, rfl, by decide +kernel, rfl, by decide +kernel, by decide +kernel⟩
theorem ok_isPair (B : Bn mg) (D : Df K mg "is_pair" st_is_pair ["thing"]) : Cal P w K mg base 1 "is_pair" ["thing"] (spIsPair K) := by
  refine D.cal sc_is_pair (fun vs H Q E h => ?_) (fun f cdv A out s H vs Q E hr h => ?_)
  · obtain ⟨x, rfl, _⟩ := h
    rfl
  obtain ⟨x, rfl, h⟩ := h
  refine ⟨_, (pss_one (ps_ret (pe_and (pe_callB call_isi (by rfl) B.n_isinstance (by decide +kernel) (pa_cons (pv 0) (pa_cons (pe_bltn (v := .ty "tuple") (by rfl) B.n_tuple (by decide +kernel) rfl) pa_nil))) (pe_one (pe_cmpR op_eq (pe_callB call_len_seq (by rfl) B.n_len (by decide +kernel) (pa_cons (pv 0) pa_nil)) pe_int (nomark _)))))), ?_⟩
  rcases h with ⟨ty, tx, kt, k⟩ | ⟨p, xs, rfl, hp, k⟩
  · exact ⟨_, rfl, _, _, _, _, false, rfl, .ty _, tx, kt, _, rfl, iteF k⟩
  · refine ⟨_, rfl, _, _, _, _, true, rfl, .ty _, .base (.tup hp), kit_ty (by decide +kernel), _, rfl, iteT ?_⟩
    refine ⟨_, rfl, p, _, rfl, .inr (SqT.of hp), rfl, ?_⟩
    have e : decide (V.int (xs.length : Int) = V.int 2) = decide (xs.length = 2) := by
      by_cases c : xs.length = 2
      · rw [decide_eq_true c, decide_eq_true (by rw [c]; rfl)]
      · rw [decide_eq_false c, decide_eq_false (fun z => c (by have := V.int.inj z; omega))]
    rw [e]
    exact k
abbrev st_is_numbers : Stmt := top 36
theorem sc_is_numbers : FnScope ["thing", "many", "number"] ["thing", "many"] (defScope st_is_numbers) := ⟨rfl, rfl, rfl, by decide +kernel, rfl, by decide +kernel, by decide +kernel⟩
theorem ok_nums (B : Bn mg) (c_is_integer_to : Cal P w K mg base 2 "is_integer_to" ["thing", "most"] (spIsInt K)) (D : Df K mg "is_numbers" st_is_numbers ["thing", "many"]) : Cal P w K mg base 3 "is_numbers" ["thing", "many"] (spNums K) := by
  refine D.cal sc_is_numbers (fun vs H Q E h => ?_) (fun f cdv A out s H vs Q E hr h => ?_)
  · obtain ⟨x, m, rfl, _⟩ := h
    rfl
  obtain ⟨x, m, rfl, h⟩ := h
  refine ⟨_, (pss_one (ps_ret (pe_and (pe_callB call_isi (by rfl) B.n_isinstance (by decide +kernel) (pa_cons (pv 0) (pa_cons (pe_bltn (v := .ty "tuple") (by rfl) B.n_tuple (by decide +kernel) rfl) pa_nil))) (pe_one (pe_callB (cr_all rfl) (by rfl) B.n_all (by decide +kernel) (pa_cons (pe_lc (own := [("number", 2)]) (g := gName 2) rfl sc_is_numbers.nd (pi_tup (pv 0)) (blkOk_by (N := ["thing", "many", "number"]) (sc := defScope st_is_numbers) (by decide +kernel)) (fun _ _ _ _ _ => (pg_name (i := 2) sc_is_numbers.nd rfl (.inl rfl))) (fun _ _ _ _ _ => pts_nil) (fun _ _ _ _ _ => (pe_fn c_is_integer_to (hr.mono (by decide)) (pa_cons (pv 2) (pa_cons (pe_op op_sub (pv 1) pe_int) pa_nil))))) pa_nil)))))), ?_⟩
  rcases h with ⟨ty, tx, kt, k⟩ | ⟨p, xs, rfl, hp, l100, kd, k⟩
  · exact ⟨_, rfl, _, _, _, _, false, rfl, .ty _, tx, kt, _, rfl, iteF k⟩
  · refine ⟨_, rfl, _, _, _, _, true, rfl, .ty _, .base (.tup hp), kit_ty (by decide +kernel), _, rfl, iteT ?_⟩
    refine ⟨_, rfl, p, rfl, ⟨_, SqT.of hp⟩, fun D hD => lc_tup (K := K) (a := p) (xs := xs) (fun i H' => Same H H' ∧ H' D = some (.lst (((xs.take i).map (isTo (m - 1))).map V.bl))) ⟨same_new (Same.refl _) hD, upd_same⟩ (fun i H' _ q => SqT.of (q.1 _ _ hp)) (fun i x H' hx ⟨k1, h1⟩ => ⟨rfl, tyes ?_⟩) (fun H' ⟨k1, h1⟩ => ?_)⟩
    · have il := (List.getElem?_eq_some_iff.mp hx).1
      refine ⟨_, rfl, _, rfl, _, _, rfl, rfl, _, _, rfl, (kd x (List.mem_of_getElem? hx)).same k1, _, h1, size_lt' (by rw [List.length_map, List.length_map, List.length_take]; omega), same_put k1 hD, ?_⟩
      rw [upd_same, List.take_add_one, hx, List.map_append, List.map_append]
      rfl
    · rw [List.take_length] at h1
      refine ⟨D, _, rfl, SqL.of h1, ?_⟩
      have e : (xs.map (isTo (m - 1))).all id = xs.all (isTo (m - 1)) := by
        rw [List.all_map]
        rfl
      rw [e]
      exact k H' k1
abbrev st_shows_ring : Stmt := top 32
theorem sc_shows_ring : FnScope ["division", "thing", "states", "people", "steps", "rises", "person", "state", "second"] ["division", "thing"] (defScope st_shows_ring) := ⟨rfl, rfl, rfl, by decide +kernel, rfl, by decide +kernel, by decide +kernel⟩
theorem ok_showR (B : Bn mg) (n_set : mg "set" = none) (cSR : ∃ t, mg "SHORTEST_RING" = some (.int 2 t)) (SDivision : DvK K mg CDivision) (p_people : PCal P w K mg base 2 CDivision "people" ["self"] (spPeople CDivision CShare)) (p_states : PCal P w K mg base 4 CDivision "states" ["self"] (spStates CDivision CShare)) (c_check_division : Cal P w K mg base 1 "check_division" ["thing"] (spCheckD CDivision CShare)) (c_is_pair : Cal P w K mg base 1 "is_pair" ["thing"] (spIsPair K)) (c_is_numbers : Cal P w K mg base 3 "is_numbers" ["thing", "many"] (spNums K)) (c_steps_around : Cal P w K mg base 1 "steps_around" ["states"] spSteps) (c_rise : Cal P w K mg base 5 "rise" ["division", "person", "state", "second"] (spRise CDivision CShare)) (D : Df K mg "shows_ring" st_shows_ring ["division", "thing"]) : Cal P w K mg base 7 "shows_ring" ["division", "thing"] (spShowR K CDivision CShare) := by
  refine D.cal sc_shows_ring (fun vs H Q E h => ?_) (fun f cdv A out s H vs Q E hr h => ?_)
  · obtain ⟨d, t, ss, rows, x, rfl, _⟩ := h
    rfl
  obtain ⟨d, t, ss, rows, x, rfl, dv, h⟩ := h
  refine ⟨_, (pss_cons (ps_expr (pe_fn c_check_division (hr.mono (by decide)) (pa_cons (pv 0) pa_nil)))
   (pss_cons (ps_if (pt_not (pt_val (pe_fn c_is_pair (hr.mono (by decide)) (pa_cons (pv 1) pa_nil)))) (pss_one (ps_ret pe_bl)) pss_nil)
   (pss_cons (ps_asg (pv 1) (pg_tup rfl (pgs_cons (pg_name (i := 2) sc_shows_ring.nd rfl (.inl rfl)) (pgs_cons (pg_name (i := 3) sc_shows_ring.nd rfl (.inl rfl)) pgs_nil))))
   (pss_cons (ps_if (PW.pt (pw_or (pt_not (pt_val (pe_fn c_is_numbers (hr.mono (by decide)) (pa_cons (pv 2) (pa_cons (pe_pr p_states SDivision.cl (hr.mono (by decide)) (pv 0)) pa_nil))))) (pw_or1 (pt_not (pt_val (pe_fn c_is_numbers (hr.mono (by decide)) (pa_cons (pv 3) (pa_cons (pe_pr p_people SDivision.cl (hr.mono (by decide)) (pv 0)) pa_nil)))))))) (pss_one (ps_ret pe_bl)) pss_nil)
   (pss_cons (ps_if (PW.pt (pw_or (pt_cmpR op_lt (pe_callB call_len_seq (by rfl) B.n_len (by decide +kernel) (pa_cons (pv 2) pa_nil)) (pe_glob (v := .int 2) rfl cSR.choose_spec ⟨_, rfl⟩) (nomark _)) (pw_or (pt_cmpR op_ne (pe_callB call_len_seq (by rfl) B.n_len (by decide +kernel) (pa_cons (pv 2) pa_nil)) (pe_callB call_len_seq (by rfl) B.n_len (by decide +kernel) (pa_cons (pv 3) pa_nil)) (nomark _)) (pw_or1 (pt_cmpR op_ne (pe_callB call_len_seq (by rfl) B.n_len (by decide +kernel) (pa_cons (pv 2) pa_nil)) (pe_lenSetT (by rfl) B.n_len (by rfl) n_set (pv 2)) (nomark _)))))) (pss_one (ps_ret pe_bl)) pss_nil)
   (pss_cons (ps_set (i := 4) sc_shows_ring.nd rfl (.inl rfl) (pe_fn c_steps_around (hr.mono (by decide)) (pa_cons (pv 2) pa_nil)))
   (pss_cons (ps_setLc (i := 5) (own := [("person", 6), ("state", 7), ("second", 8)]) (g := gTup K 2 (gCons (gName 6) (gCons (gTup K 2 (gCons (gName 7) (gCons (gName 8) gNil))) gNil))) rfl sc_shows_ring.nd rfl rfl (sw_true rfl rfl rfl (by decide +kernel)) (pi_zipM (by rfl) B.n_zip (pa_cons (pv 3) (pa_cons (pv 4) pa_nil))) (blkOk_by (N := ["division", "thing", "states", "people", "steps", "rises", "person", "state", "second"]) (sc := defScope st_shows_ring) (by decide +kernel)) (fun _ _ _ _ _ => (pg_tup rfl (pgs_cons (pg_name (i := 6) sc_shows_ring.nd rfl (.inl rfl)) (pgs_cons (pg_tup rfl (pgs_cons (pg_name (i := 7) sc_shows_ring.nd rfl (.inl rfl)) (pgs_cons (pg_name (i := 8) sc_shows_ring.nd rfl (.inl rfl)) pgs_nil))) pgs_nil)))) (fun _ _ _ _ _ => pts_nil) (fun _ _ _ _ _ => (pe_fn c_rise (hr.mono (by decide)) (pa_cons (pv 0) (pa_cons (pv 6) (pa_cons (pv 7) (pa_cons (pv 8) pa_nil)))))))
   (pss_one (ps_ret (pe_and (pe_cmpR op_ge (pe_callB (cr_min rfl) (by rfl) B.n_min (by decide +kernel) (pa_cons (pv 5) pa_nil)) pe_int (nomark _)) (pe_one (pe_cmpR op_ge (pe_callB (cr_max rfl) (by rfl) B.n_max (by decide +kernel) (pa_cons (pv 5) pa_nil)) pe_int (nomark _))))))))))))), ?_⟩
  obtain ⟨⟨dx, hd⟩, ht, al, rw_⟩ := id dv
  obtain ⟨w2, w6⟩ := rw_.w26
  have p2 := rw_.1
  have p4 := rw_.2.1
  refine ⟨_, rfl, d, t, ss, rows, rfl, dv, ?_⟩
  rcases h with ⟨⟨ty, tx, kt⟩, k⟩ | ⟨p, xs, rfl, hp, ne, k⟩ | ⟨p, y, z, rfl, hp, h⟩
  · exact ⟨_, rfl, x, rfl, .inl ⟨ty, tx, kt, _, rfl, iteT k⟩⟩
  · refine ⟨_, rfl, _, rfl, .inr ⟨p, xs, rfl, hp, _, rfl, ?_⟩⟩
    rw [decide_eq_false ne]
    exact iteT k
  refine ⟨_, rfl, _, rfl, .inr ⟨p, _, rfl, hp, _, rfl, ?_⟩⟩
  refine iteF ?_
  refine ⟨_, rfl, p, _, rfl, SqT.of hp, rfl, _, _, rfl, _, _, rfl, rfl, ?_⟩
  rcases h with ⟨⟨ty, tx, kt⟩, k⟩ | ⟨q, xs, rfl, hq, l100, kd, h⟩
  · refine ⟨_, rfl, _, rfl, d, dx, _, rfl, hd, d, t, ss, rows, rfl, dv, fun ns0 hn0 => ?_⟩
    exact ⟨_, _, rfl, .inl ⟨ty, tx, kt, _, rfl, iteT k⟩⟩
  refine ⟨_, rfl, _, rfl, d, dx, _, rfl, hd, d, t, ss, rows, rfl, dv, fun ns0 hn0 => ?_⟩
  rw [rw_.wdt hn0]
  refine ⟨_, _, rfl, .inr ⟨q, xs, rfl, hq, l100, kd, fun H1 k1 => ?_⟩⟩
  cases e1 : xs.all (isTo ((wdt rows : Int) - 1)) with
  | false =>
    refine ⟨_, rfl, iteT ?_⟩
    rcases h with ⟨_, k⟩ | ⟨r, zs, rfl, hr1, _, _, k⟩
    · exact k H1 k1
    · refine k false H1 k1 ⟨fun z => (nomatch z), fun z => ?_⟩
      rw [z.nums.1] at e1
      cases e1
  | true =>
    refine ⟨_, rfl, iteF ?_⟩
    rcases h with ⟨⟨ty, tx, kt⟩, k⟩ | ⟨r, zs, rfl, hr1, z100, kz, k⟩
    · refine ⟨_, rfl, _, rfl, d, dx, _, rfl, k1 _ _ hd, d, t, ss, rows, rfl, dv.same k1, ?_⟩
      exact ⟨_, _, rfl, .inl ⟨ty, TyX.same k1 tx, kt, _, rfl, iteT (k H1 k1)⟩⟩
    refine ⟨_, rfl, _, rfl, d, dx, _, rfl, k1 _ _ hd, d, t, ss, rows, rfl, dv.same k1, ?_⟩
    refine ⟨_, _, rfl, .inr ⟨r, zs, rfl, k1 _ _ hr1, z100, fun v hv => (kz v hv).same k1, fun H2 k2 => ?_⟩⟩
    have k02 := k1.trans k2
    cases e2 : zs.all (isTo ((rows.length : Int) - 1)) with
    | false =>
      refine ⟨_, rfl, iteT (k false H2 k02 ⟨fun z => (nomatch z), fun z => ?_⟩)⟩
      rw [z.nums.2] at e2
      cases e2
    | true =>
      refine ⟨_, rfl, iteF ?_⟩
      obtain ⟨s1, rfl, lts⟩ := nums_iV.mp e1
      obtain ⟨g1, rfl, ltg⟩ := nums_iV.mp e2
      have hq2 := k02 _ _ hq
      have hr2 := k02 _ _ hr1
      have il := iV_len s1
      have ig := iV_len g1
      refine ⟨_, rfl, q, _, rfl, .inr (SqT.of hq2), _, _, rfl, rfl, _, rfl, ?_⟩
      have bad : ∀ H', Same H H' → ¬ IsRing rows (List.range rows.length) s1 g1 → Q (.bl false) H' := fun H' k' n => k false H' k' ⟨fun z => (nomatch z), fun z => absurd (RgX.at.mp z) n⟩
      refine ite2 (fun c => ?_) (fun c => ?_)
      · have c1 : ((iV s1).length : Int) < 2 := of_decide_eq_true c
        refine bad H2 k02 fun ir => ?_
        obtain ⟨_, _, l1, lg, all, _⟩ := ir
        have l1' : s1.length = 1 := by omega
        obtain ⟨s, rfl⟩ := List.length_eq_one_iff.mp l1'
        have l0 : 0 < g1.length := by rw [lg]; show 0 < 1; decide
        have z := (all 0 g1[0] s s (List.getElem?_eq_getElem l0) rfl).2
        unfold rs at z
        omega
      have c1 : 2 ≤ s1.length := by
        have : ¬ ((iV s1).length : Int) < 2 := fun z => c (decide_eq_true z)
        omega
      refine ⟨_, rfl, q, _, rfl, .inr (SqT.of hq2), _, rfl, r, _, rfl, .inr (SqT.of hr2), rfl, _, rfl, ?_⟩
      refine ite2 (fun c => ?_) (fun c => ?_)
      · refine bad H2 k02 fun ir => ?_
        have lg := ir.2.2.2.1
        rw [il, ig, lg] at c
        simp at c
      have c2 : g1.length = s1.length := by
        have z : V.int ((iV s1).length : Int) = V.int ((iV g1).length : Int) := by simpa using c
        have := V.int.inj z
        omega
      refine ⟨_, rfl, q, _, rfl, .inr (SqT.of hq2), _, rfl, q, nI s1, rfl, SqT.of (by rw [hq2, iV_eq]), by rw [nI_len]; omega, fun ks nd m => ?_⟩
      have ls := len_set nd m
      rw [nI_len, nI_nodup] at ls
      refine ⟨rfl, _, rfl, ?_⟩
      refine ite2 (fun c => ?_) (fun c => ?_)
      · refine bad H2 k02 fun ir => ?_
        have z := ls.mpr ir.1
        rw [il, z] at c
        simp at c
      have nds : s1.Nodup := by
        refine ls.mp ?_
        have z : V.int ((iV s1).length : Int) = V.int (ks.length : Int) := by simpa using c
        have := V.int.inj z
        omega
      have l6 := nodup_le nds lts
      have lst := stp_len (ss := s1) (by omega)
      refine ⟨_, rfl, q, s1, rfl, hq2, by omega, by omega, fun L ws H3 k3 hL st => ?_⟩
      have lw := st.len
      have k03 := k02.trans k3
      have hr3 := k3 _ _ hr2
      refine ⟨_, rfl, _, rfl, r, L, _, _, rfl, SqT.of hr3, SqL.of hL, fun D hD => lc_it (walk_zipM (K := K) (a := r) (b := L) (xs := iV g1) (ys := ws) (by rw [ig, lw, lst, c2])) (fun i H' => Same H3 H' ∧ ∃ us : List Int, H' D = some (.lst (us.map V.int)) ∧ us.length = i ∧ ∀ (j p a b : Nat), j < i → g1[j]? = some p → (stp s1)[j]? = some (a, b) → us[j]? = some (rs rows p a b)) ⟨same_new (Same.refl _) hD, [], upd_same, rfl, fun j _ _ _ hj => absurd hj (Nat.not_lt_zero j)⟩ (fun i H' _ r' => ⟨SqT.of (r'.1 _ _ hr3), SqL.of (r'.1 _ _ hL)⟩) ?_ (fun H4 q4 => ?_)⟩
      · rintro i x H4 H5 hi ⟨k4, us, h4, lu, ok⟩ ⟨T, x', y', rfl, nT, rfl, ex, ey⟩
        obtain ⟨p1, rfl, ep⟩ := iV_at ex
        obtain ⟨u, a, b, rfl, hu, en⟩ := st.at ey
        have la := lts a (stp_mem en).1
        have lb := lts b (stp_mem en).2
        have lp := ltg p1 (List.mem_of_getElem? ep)
        generalize hH5 : upd H4 T _ = H5
        obtain ⟨k5, hT⟩ := alloc hH5 nT
        clear hH5
        have k45 := k4.trans k5
        refine ⟨T, _, rfl, SqT.of hT, rfl, _, _, rfl, _, _, rfl, ⟨u, _, rfl, SqT.of (k45 _ _ hu), rfl, _, _, rfl, _, _, rfl, rfl, rfl, rfl, tyes ?_⟩⟩
        have li : i < g1.length := (List.getElem?_eq_some_iff.mp ep).1
        refine ⟨_, rfl, _, rfl, _, rfl, _, rfl, d, t, ss, rows, p1, a, b, rfl, dv.same (k03.trans k45), lp, fun ns hn => by rw [rw_.wdt hn]; exact ⟨la, lb⟩, ?_⟩
        refine ⟨_, k5 _ _ h4, size_lt' (by rw [List.length_map]; omega), same_put k45 hD, us ++ [rs rows p1 a b], by rw [upd_same, List.map_append]; rfl, by rw [List.length_append, lu]; rfl, fun j p a' b' hj ep' en' => ?_⟩
        by_cases z : j < i
        · rw [List.getElem?_append_left (by omega)]
          exact ok j p a' b' z ep' en'
        · have z : j = i := by omega
          subst z
          rw [ep] at ep'
          rw [en] at en'
          cases ep'
          cases en'
          rw [List.getElem?_append_right (by omega), lu, Nat.sub_self]
          rfl
      · obtain ⟨k4, us, h4, lu, ok⟩ := q4
        rw [ig] at lu ok
        have k04 := k03.trans k4
        have uat : ∀ (j p a b : Nat), g1[j]? = some p → (stp s1)[j]? = some (a, b) → us[j]? = some (rs rows p a b) := fun j p a b ep en => ok j p a b (List.getElem?_eq_some_iff.mp ep).1 ep en
        have umem : ∀ x ∈ us, ∃ (j p a b : Nat), g1[j]? = some p ∧ (stp s1)[j]? = some (a, b) ∧ x = rs rows p a b := fun x hx => by
          obtain ⟨j, hj⟩ := List.mem_iff_getElem?.mp hx
          have lj : j < us.length := (List.getElem?_eq_some_iff.mp hj).1
          have e1 : g1[j]? = some g1[j] := List.getElem?_eq_getElem (by omega)
          have e2 : (stp s1)[j]? = some (stp s1)[j] := List.getElem?_eq_getElem (by omega)
          have e3 := uat j _ _ _ e1 e2
          rw [hj] at e3
          exact ⟨j, _, _, _, e1, e2, Option.some.inj e3⟩
        refine ⟨_, rfl, D, us, rfl, SqL.of h4, by omega, fun mn hmn mnle => ?_⟩
        refine ⟨_, _, rfl, rfl, ?_⟩
        have base : IsRing rows (List.range rows.length) s1 g1 ↔ 1 ≤ mn ∧ ∃ x ∈ us, 2 ≤ x := by
          constructor
          · rintro ⟨_, _, _, _, all, j, p, a, b, ep, en, r2⟩
            obtain ⟨j', p', a', b', ep', en', e⟩ := umem mn hmn
            exact ⟨by rw [e]; exact (all j' p' a' b' ep' en').2, _, List.mem_of_getElem? (uat j p a b ep en), r2⟩
          · rintro ⟨m1, x, hx, x2⟩
            obtain ⟨j, p, a, b, ep, en, rfl⟩ := umem x hx
            exact ⟨nds, lts, by omega, c2, fun j' p' a' b' ep' en' => ⟨List.mem_range.mpr (ltg p' (List.mem_of_getElem? ep')), Int.le_trans m1 (mnle _ (List.mem_of_getElem? (uat j' p' a' b' ep' en')))⟩, j, p, a, b, ep, en, x2⟩
        refine ⟨_, rfl, ?_⟩
        cases em : decide (1 ≤ mn) with
        | false => exact iteF (bad H4 k04 fun ir => absurd (base.mp ir).1 (of_decide_eq_false em))
        | true =>
          refine iteT ⟨_, rfl, D, us, rfl, SqL.of h4, by omega, fun mx hmx mxge => ⟨_, _, rfl, rfl, k _ H4 k04 ?_⟩⟩
          rw [RgX.at, base, decide_eq_true_eq]
          constructor
          · intro z
            exact ⟨of_decide_eq_true em, mx, hmx, z⟩
          · rintro ⟨_, x, hx, x2⟩
            have := mxge x hx
            omega
end
end Pl
namespace Pl
open PySem PySem.Spec PyProof.Rows L2
/-- as many ints as states, and high enough -/
def LvD (rows : List (List Int)) (xs : List V) : Prop := ∃ hs : List Int, xs = hs.map V.int ∧ hs.length = wdt rows ∧ ∀ s t m, NdC rows s t m → gI hs s + m ≤ gI hs t
theorem ints_of : ∀ {xs : List V}, (∀ (j : Nat) (x : V), xs[j]? = some x → isInt x = true) → ∃ hs : List Int, xs = hs.map V.int
  | [], _ => ⟨[], rfl⟩
  | x :: xs, h => by
    obtain ⟨hs, e⟩ := ints_of (xs := xs) fun j y e => h (j + 1) y (by simpa using e)
    have hx := h 0 x rfl
    cases x <;> first | (simp [isInt] at hx; done) | skip
    rename_i i
    exact ⟨i :: hs, by rw [e]; rfl⟩
theorem ints_is {hs : List Int} {j : Nat} {x : V} (e : (hs.map V.int)[j]? = some x) : isInt x = true := by
  rw [List.getElem?_map] at e
  cases z : hs[j]? with
  | none => rw [z] at e; cases e
  | some y => rw [z] at e; cases e; rfl
def spShowV (K : PySem.W.Frag) (CD C : Addr) : Sp := fun vs H Q _ => ∃ (d t : Addr) (ss : List Addr) (rows : List (List Int)) (x : V), vs = [.ref d, x] ∧ DvAt CD C H d t ss rows ∧
  ((∃ ty, TyX K H x ty ∧ PySem.W.kitOne K ty (.type "tuple") = some false ∧ Q (.bl false) H) ∨
   (∃ (p : Addr) (xs : List V), x = .ref p ∧ H p = some (.tup xs) ∧ xs.length ≤ 100 ∧ (∀ y ∈ xs, Kd K H y) ∧ ∀ (b : Bool) (H' : Hp), Same H H' → (b = true ↔ LvD rows xs) → Q (.bl b) H'))
section
variable {P : Program} {w : World} {K : PySem.W.Frag} {mg : Str → Option Value} {base : Heap} {CShare CDivision CNoPerson : Addr}
abbrev st_shows_levels : Stmt := top 33
theorem sc_shows_levels : FnScope ["division", "thing", "level"] ["division", "thing"] (defScope st_shows_levels) := ⟨rfl, rfl, rfl, by decide +kernel, rfl, by decide +kernel, by decide +kernel⟩
theorem ok_showV (B : Bn mg) (SDivision : DvK K mg CDivision) (p_states : PCal P w K mg base 4 CDivision "states" ["self"] (spStates CDivision CShare)) (c_check_division : Cal P w K mg base 1 "check_division" ["thing"] (spCheckD CDivision CShare)) (c_is_integer : Cal P w K mg base 1 "is_integer" ["thing"] (spIsI K)) (c_level_needs : Cal P w K mg base 6 "level_needs" ["division"] (spNeeds CDivision CShare)) (c_meets : Cal P w K mg base 1 "meets" ["heights", "needs"] spMeets) (D : Df K mg "shows_levels" st_shows_levels ["division", "thing"]) : Cal P w K mg base 7 "shows_levels" ["division", "thing"] (spShowV K CDivision CShare) := by
  refine D.cal sc_shows_levels (fun vs H Q E h => ?_) (fun f cdv A out s H vs Q E hr h => ?_)
  · obtain ⟨d, t, ss, rows, x, rfl, _⟩ := h
    rfl
  obtain ⟨d, t, ss, rows, x, rfl, dv, h⟩ := h
  refine ⟨_, (pss_cons (ps_expr (pe_fn c_check_division (hr.mono (by decide)) (pa_cons (pv 0) pa_nil)))
   (pss_cons (ps_if (PW.pt (pw_or (pt_not (pt_val (pe_callB call_isi (by rfl) B.n_isinstance (by decide +kernel) (pa_cons (pv 1) (pa_cons (pe_bltn (v := .ty "tuple") (by rfl) B.n_tuple (by decide +kernel) rfl) pa_nil))))) (pw_or1 (pt_cmpR op_ne (pe_callB call_len_seq (by rfl) B.n_len (by decide +kernel) (pa_cons (pv 1) pa_nil)) (pe_pr p_states SDivision.cl (hr.mono (by decide)) (pv 0)) (nomark _))))) (pss_one (ps_ret pe_bl)) pss_nil)
   (pss_one (ps_ret (pe_and (pe_callB (cr_all rfl) (by rfl) B.n_all (by decide +kernel) (pa_cons (pe_lc (own := [("level", 2)]) (g := gName 2) rfl sc_shows_levels.nd (pi_tup (pv 1)) (blkOk_by (N := ["division", "thing", "level"]) (sc := defScope st_shows_levels) (by decide +kernel)) (fun _ _ _ _ _ => (pg_name (i := 2) sc_shows_levels.nd rfl (.inl rfl))) (fun _ _ _ _ _ => pts_nil) (fun _ _ _ _ _ => (pe_fn c_is_integer (hr.mono (by decide)) (pa_cons (pv 2) pa_nil)))) pa_nil)) (pe_one (pe_fn c_meets (hr.mono (by decide)) (pa_cons (pv 1) (pa_cons (pe_fn c_level_needs (hr.mono (by decide)) (pa_cons (pv 0) pa_nil)) pa_nil))))))))), ?_⟩
  obtain ⟨⟨dx, hd⟩, ht, al, rw_⟩ := id dv
  obtain ⟨w2, w6⟩ := rw_.w26
  have hC := ndC_ok rows
  refine ⟨_, rfl, d, t, ss, rows, rfl, dv, ?_⟩
  rcases h with ⟨ty, tx, kt, k⟩ | ⟨p, xs, rfl, hp, l100, kd, k⟩
  · exact ⟨_, rfl, _, _, _, _, false, rfl, .ty _, tx, kt, _, rfl, iteT k⟩
  refine ⟨_, rfl, _, _, _, _, true, rfl, .ty _, .base (.tup hp), kit_ty (by decide +kernel), _, rfl, iteF ?_⟩
  refine ⟨_, rfl, p, _, rfl, .inr (SqT.of hp), _, rfl, d, dx, _, rfl, hd, d, t, ss, rows, rfl, dv, fun ns0 hn0 => ?_⟩
  rw [rw_.wdt hn0]
  refine ⟨rfl, _, rfl, ?_⟩
  refine ite2 (fun c => ?_) (fun c => ?_)
  · refine k false H (Same.refl H) ⟨fun z => (nomatch z), fun ⟨hs, e, z, _⟩ => ?_⟩
    have z2 : xs.length = wdt rows := by rw [e, List.length_map, z]
    rw [z2] at c
    simp at c
  have lh : xs.length = wdt rows := by
    have z : V.int (xs.length : Int) = V.int (wdt rows : Int) := by simpa using c
    have := V.int.inj z
    omega
  refine ⟨_, rfl, p, rfl, ⟨_, SqT.of hp⟩, fun D hD => lc_tup (K := K) (a := p) (xs := xs) (BlI D H fun j => ∀ x, xs[j]? = some x → isInt x = true) (BlI.start hD) (fun i H' _ q => SqT.of (q.1 _ _ hp)) (fun i x H' hx q => ⟨rfl, tyes ?_⟩) (fun H' q => ?_)⟩
  · have il := (List.getElem?_eq_some_iff.mp hx).1
    refine ⟨_, rfl, _, rfl, (kd x (List.mem_of_getElem? hx)).same q.1, q.next (Same.refl _) hD (by omega) (b := isInt x) ⟨fun z y hy => ?_, fun z => z x hx⟩⟩
    rw [hx] at hy
    cases hy
    exact z
  · have k1 := q.1
    obtain ⟨bs, e, ev⟩ := q.all
    refine ⟨D, bs, rfl, SqL.of e, ?_⟩
    cases ea : bs.all id with
    | false =>
      refine ⟨_, rfl, iteF (k false H' k1 ⟨fun z => (nomatch z), fun ⟨hs, e2, _⟩ => ?_⟩)⟩
      have : bs.all id = true := ev.mpr fun j _ x hx => ints_is (by rw [← e2]; exact hx)
      rw [ea] at this
      cases this
    | true =>
      obtain ⟨hs, rfl⟩ := ints_of fun j x hx => ev.mp ea j (List.getElem?_eq_some_iff.mp hx).1 x hx
      rw [List.length_map] at lh
      refine ⟨_, rfl, iteT ?_⟩
      refine ⟨_, rfl, _, rfl, d, t, ss, rows, rfl, dv.same k1, fun l ws ns H2 k2 hl tr hn n1 => ?_⟩
      have kk := k1.trans k2
      refine ⟨p, l, hs, ws, ns, rfl, kk _ _ hp, hl, tr, n1, fun s t m hm => ?_, fun b H3 k3 hb => k b H3 (kk.trans k3) (hb.trans ⟨fun z => ⟨hs, rfl, lh, fun s t m c => z s t m ((hn s t m).mpr c)⟩, fun ⟨gs, e3, _, z⟩ s t m hm => ?_⟩)⟩
      · have z := hC s t m ((hn s t m).mp hm)
        rw [lh]
        exact ⟨z.1, z.2.1⟩
      · have : hs = gs := (List.map_inj_right (f := V.int) (fun _ _ h => V.int.inj h)).mp e3
        subst this
        exact z s t m ((hn s t m).mp hm)
end
end Pl
namespace Pl
open PySem PySem.Spec PyProof.Rows L2
/-! tuples as they stand or as they are known -/
theorem sqT_ty {K : PySem.W.Frag} {H : Hp} {p : Addr} {xs : List V} (h : SqT K H p xs) : TyX K H (.ref p) (.type "tuple") := by
  rcases h with (h | ⟨o, h⟩) | ⟨o, its, n, h, c, _⟩
  · exact .base (.tup h)
  · exact .fTuple h
  · exact .kTuple h c
theorem slQ {K : PySem.W.Frag} {a : Addr} {xs : List V} {lo hi : Option Int} {H : Hp} {Q : VK} (h : SqT K H a xs) (k : ∀ p H', Same H H' → SqT K H' p (cutV xs lo hi) → Q (.ref p) H') : rSlA K (.ref a) lo hi H Q := by
  refine ⟨a, xs, rfl, h, fun w => k a H (Same.refl H) ?_, fun _ p np => k p _ (same_new (Same.refl H) np) (SqT.of upd_same)⟩
  have e : cutV xs lo hi = xs := by
    unfold cutV
    rw [w.1, w.2, List.drop_zero, Nat.sub_zero, List.take_length]
  rw [e]
  exact h
theorem caQ {K : PySem.W.Frag} {a b : Addr} {xs ys : List V} {H : Hp} {Q : VK} (h1 : SqT K H a xs) (h2 : SqT K H b ys) (l : xs.length + ys.length ≤ 1000) (k : ∀ p H', Same H H' → SqT K H' p (xs ++ ys) → Q (.ref p) H') : rCatA K (.ref a) (.ref b) H Q :=
  ⟨a, b, xs, ys, rfl, rfl, h1, h2, Nat.le_of_lt (size_lt' (by omega)), fun z => k b H (Same.refl H) (by rw [z]; exact h2), fun _ z => k a H (Same.refl H) (by rw [z, List.append_nil]; exact h1), fun _ _ p np => k p _ (same_new (Same.refl H) np) (SqT.of upd_same)⟩
def spStepsF (K : PySem.W.Frag) : Sp := fun vs H Q _ => ∃ (q : Addr) (ss : List Nat), vs = [.ref q] ∧ SqT K H q (iV ss) ∧ 1 ≤ ss.length ∧ ss.length ≤ 100 ∧ ∀ (L : Addr) (ws : List V) (H' : Hp), Same H H' → H' L = some (.lst ws) → StL H' ws (stp ss) → Q (.ref L) H'
def spMeetsF (K : PySem.W.Frag) : Sp := fun vs H Q _ => ∃ (h l : Addr) (hs : List Int) (ws : List V) (ns : List (Nat × Nat × Int)), vs = [.ref h, .ref l] ∧ SqT K H h (hs.map V.int) ∧ H l = some (.lst ws) ∧ TrL H ws ns ∧ ns.length ≤ 144 ∧ (∀ s t m, (s, t, m) ∈ ns → s < hs.length ∧ t < hs.length) ∧
  ∀ (b : Bool) (H' : Hp), Same H H' → (b = true ↔ ∀ s t m, (s, t, m) ∈ ns → gI hs s + m ≤ gI hs t) → Q (.bl b) H'
def spIsPairF (K : PySem.W.Frag) : Sp := fun vs H Q _ => ∃ x : V, vs = [x] ∧ ((∃ ty, TyX K H x ty ∧ PySem.W.kitOne K ty (.type "tuple") = some false ∧ Q (.bl false) H) ∨ (∃ (p : Addr) (xs : List V), x = .ref p ∧ SqT K H p xs ∧ Q (.bl (decide (xs.length = 2))) H))
def spNumsF (K : PySem.W.Frag) : Sp := fun vs H Q _ => ∃ (x : V) (m : Int), vs = [x, .int m] ∧ ((∃ ty, TyX K H x ty ∧ PySem.W.kitOne K ty (.type "tuple") = some false ∧ Q (.bl false) H) ∨ (∃ (p : Addr) (xs : List V), x = .ref p ∧ SqT K H p xs ∧ xs.length ≤ 100 ∧ (∀ y ∈ xs, Kd K H y) ∧ ∀ H', Same H H' → Q (.bl (xs.all (isTo (m - 1)))) H'))
def spShowRF (K : PySem.W.Frag) (CD C : Addr) : Sp := fun vs H Q _ => ∃ (d t : Addr) (ss : List Addr) (rows : List (List Int)) (x : V), vs = [.ref d, x] ∧ DvAt CD C H d t ss rows ∧
  ((NoTu K H x ∧ Q (.bl false) H) ∨ (∃ (p : Addr) (xs : List V), x = .ref p ∧ SqT K H p xs ∧ xs.length ≠ 2 ∧ Q (.bl false) H) ∨
   (∃ (p : Addr) (y z : V), x = .ref p ∧ SqT K H p [y, z] ∧
     ((NoTu K H y ∧ Q (.bl false) H) ∨
      (∃ (q : Addr) (xs : List V), y = .ref q ∧ SqT K H q xs ∧ xs.length ≤ 100 ∧ (∀ v ∈ xs, Kd K H v) ∧
        ((NoTu K H z ∧ ∀ H', Same H H' → Q (.bl false) H') ∨
         (∃ (r : Addr) (zs : List V), z = .ref r ∧ SqT K H r zs ∧ zs.length ≤ 100 ∧ (∀ v ∈ zs, Kd K H v) ∧ ∀ (b : Bool) (H' : Hp), Same H H' → (b = true ↔ RgX rows xs zs) → Q (.bl b) H'))))))
def spShowVF (K : PySem.W.Frag) (CD C : Addr) : Sp := fun vs H Q _ => ∃ (d t : Addr) (ss : List Addr) (rows : List (List Int)) (x : V), vs = [.ref d, x] ∧ DvAt CD C H d t ss rows ∧
  ((∃ ty, TyX K H x ty ∧ PySem.W.kitOne K ty (.type "tuple") = some false ∧ Q (.bl false) H) ∨
   (∃ (p : Addr) (xs : List V), x = .ref p ∧ SqT K H p xs ∧ xs.length ≤ 100 ∧ (∀ y ∈ xs, Kd K H y) ∧ ∀ (b : Bool) (H' : Hp), Same H H' → (b = true ↔ LvD rows xs) → Q (.bl b) H'))
section
variable {P : Program} {w : World} {K : PySem.W.Frag} {mg : Str → Option Value} {base : Heap} {CShare CDivision CNoPerson : Addr}
theorem ok_stepsF (B : Bn mg) (D : Df K mg "steps_around" st_steps_around ["states"]) : Cal P w K mg base 1 "steps_around" ["states"] (spStepsF K) := by
  refine D.cal sc_steps_around (fun vs H Q E h => ?_) (fun f cdv A out s H vs Q E hr h => ?_)
  · obtain ⟨q, ss, rfl, _⟩ := h
    rfl
  obtain ⟨q, ss, rfl, hq, l1, l100, k⟩ := h
  refine ⟨_, (pss_one (ps_ret (pe_listZip rfl (by rfl) B.n_list (by rfl) B.n_zip (pa_cons (pv 0) (pa_cons (pe_op op_catA (pe_slice sl_tupA (pv 0) (po_some pe_int) po_none) (pe_slice sl_tupA (pv 0) po_none (po_some pe_int))) pa_nil))))), ?_⟩
  have li := iV_len ss
  have c1t : cutV (iV ss) none (some (1 : Int)) = iV (ss.take 1) := by
    rw [show cutV (iV ss) none (some (1 : Int)) = (iV ss).take 1 from cut_take (n := 1) (by omega)]
    unfold iV
    rw [List.map_take]
  have c1d : cutV (iV ss) (some (1 : Int)) none = iV (ss.drop 1) := by
    rw [show cutV (iV ss) (some (1 : Int)) none = (iV ss).drop 1 from cut_drop (n := 1) (by omega)]
    unfold iV
    rw [List.map_drop]
  refine ⟨_, rfl, _, rfl, _, rfl, ?_⟩
  try unfold tNoPart
  refine slQ (K := K) (lo := some (1 : Int)) (hi := none) hq fun p1 H1 k1 e1 => ?_
  rw [c1d] at e1
  refine ⟨_, rfl, _, rfl, slQ (K := K) (lo := none) (hi := some (1 : Int)) (sqT_same k1 hq) fun p2 H2 k2 e2 => ?_⟩
  rw [c1t] at e2
  refine caQ (sqT_same k2 e1) e2 (by rw [iV_len, iV_len, List.length_drop, List.length_take]; omega) fun p3 H3 k3 e3 => ?_
  have e3 : SqT K H3 p3 (iV (ss.drop 1 ++ ss.take 1)) := by
    unfold iV at e3 ⊢
    rw [List.map_append]
    exact e3
  have kk := k1.trans (k2.trans k3)
  refine ⟨q, p3, _, _, rfl, sqT_same kk hq, e3, by rw [iV_len, iV_len, List.length_append, List.length_drop, List.length_take]; omega, fun L ws H4 k4 _ hL pr => ?_⟩
  exact k L ws H4 (kk.trans k4) hL (StL.of pr)
theorem ok_meetsF (B : Bn mg) (D : Df K mg "meets" st_meets ["heights", "needs"]) : Cal P w K mg base 1 "meets" ["heights", "needs"] (spMeetsF K) := by
  refine D.cal sc_meets (fun vs H Q E h => ?_) (fun f cdv A out s H vs Q E hr h => ?_)
  · obtain ⟨h, l, hs, ws, ns, rfl, _⟩ := h
    rfl
  obtain ⟨h, l, hs, ws, ns, rfl, hh, hl, tr, n1, bd, k⟩ := h
  refine ⟨_, (pss_one (ps_ret (pe_callB (cr_all rfl) (by rfl) B.n_all (by decide +kernel) (pa_cons (pe_lc (own := [("state", 2), ("second", 3), ("more", 4)]) (g := gTup K 3 (gCons (gName 2) (gCons (gName 3) (gCons (gName 4) gNil)))) rfl sc_meets.nd (pi_list (pv 1)) (blkOk_by (N := ["heights", "needs", "state", "second", "more"]) (sc := defScope st_meets) (by decide +kernel)) (fun _ _ _ _ _ => (pg_tup rfl (pgs_cons (pg_name (i := 2) sc_meets.nd rfl (.inl rfl)) (pgs_cons (pg_name (i := 3) sc_meets.nd rfl (.inl rfl)) (pgs_cons (pg_name (i := 4) sc_meets.nd rfl (.inl rfl)) pgs_nil))))) (fun _ _ _ _ _ => pts_nil) (fun _ _ _ _ _ => (pe_cmpR op_ge (pe_ix (show IxR _ (rIxT K) from ix_tup) (pv 0) (pv 3) (fun _ _ => rfl)) (pe_op op_add (pe_ix (show IxR _ (rIxT K) from ix_tup) (pv 0) (pv 2) (fun _ _ => rfl)) (pv 4)) (nomark _)))) pa_nil)))), ?_⟩
  have lv := tr.len
  refine ⟨_, rfl, l, rfl, ⟨_, SqL.of hl⟩, fun D hD => lc_list (K := K) (a := l) (xs := ws) (BlI D H fun j => ∀ s t m, ns[j]? = some (s, t, m) → gI hs s + m ≤ gI hs t) (BlI.start hD) (fun i H' _ q => SqL.of (q.1 _ _ hl)) (fun i x H' hx q => ?_) (fun H' q => ?_)⟩
  · obtain ⟨r, a, b, m, rfl, hr2, en⟩ := tr.at hx
    obtain ⟨la, lb⟩ := bd a b m (List.mem_of_getElem? en)
    have lx : i < ws.length := (List.getElem?_eq_some_iff.mp hx).1
    have hh' := sqT_same q.1 hh
    refine ⟨r, _, rfl, SqT.of (q.1 _ _ hr2), rfl, _, _, rfl, _, _, rfl, _, _, rfl, rfl, rfl, tyes ?_⟩
    refine ⟨_, rfl, _, rfl, h, _, _, _, rfl, rfl, hh', getI lb, _, rfl, _, rfl, h, _, _, _, rfl, rfl, hh', getI la, _, rfl, _, _, rfl, rfl, _, _, rfl, rfl, ?_⟩
    refine q.next (Same.refl _) hD (by omega) ?_
    rw [decide_eq_true_eq]
    constructor
    · intro z s t m' e
      rw [en] at e
      cases e
      exact z
    · intro z
      exact z a b m en
  · obtain ⟨bs, e, ev⟩ := q.all
    refine ⟨D, bs, rfl, SqL.of e, k _ H' q.1 ?_⟩
    rw [ev]
    constructor
    · intro z s t m hm
      obtain ⟨j, hj, e⟩ := List.getElem_of_mem hm
      exact z j (by omega) s t m (by rw [List.getElem?_eq_getElem hj, e])
    · intro z j hj s t m e
      exact z s t m (List.mem_of_getElem? e)
theorem ok_isPairF (B : Bn mg) (D : Df K mg "is_pair" st_is_pair ["thing"]) : Cal P w K mg base 1 "is_pair" ["thing"] (spIsPairF K) := by
  refine D.cal sc_is_pair (fun vs H Q E h => ?_) (fun f cdv A out s H vs Q E hr h => ?_)
  · obtain ⟨x, rfl, _⟩ := h
    rfl
  obtain ⟨x, rfl, h⟩ := h
  refine ⟨_, (pss_one (ps_ret (pe_and (pe_callB call_isi (by rfl) B.n_isinstance (by decide +kernel) (pa_cons (pv 0) (pa_cons (pe_bltn (v := .ty "tuple") (by rfl) B.n_tuple (by decide +kernel) rfl) pa_nil))) (pe_one (pe_cmpR op_eq (pe_callB call_len_seq (by rfl) B.n_len (by decide +kernel) (pa_cons (pv 0) pa_nil)) pe_int (nomark _)))))), ?_⟩
  rcases h with ⟨ty, tx, kt, k⟩ | ⟨p, xs, rfl, hp, k⟩
  · exact ⟨_, rfl, _, _, _, _, false, rfl, .ty _, tx, kt, _, rfl, iteF k⟩
  · refine ⟨_, rfl, _, _, _, _, true, rfl, .ty _, sqT_ty hp, kit_ty (by decide +kernel), _, rfl, iteT ?_⟩
    refine ⟨_, rfl, p, _, rfl, .inr (hp), rfl, ?_⟩
    have e : decide (V.int (xs.length : Int) = V.int 2) = decide (xs.length = 2) := by
      by_cases c : xs.length = 2
      · rw [decide_eq_true c, decide_eq_true (by rw [c]; rfl)]
      · rw [decide_eq_false c, decide_eq_false (fun z => c (by have := V.int.inj z; omega))]
    rw [e]
    exact k
theorem ok_numsF (B : Bn mg) (c_is_integer_to : Cal P w K mg base 2 "is_integer_to" ["thing", "most"] (spIsInt K)) (D : Df K mg "is_numbers" st_is_numbers ["thing", "many"]) : Cal P w K mg base 3 "is_numbers" ["thing", "many"] (spNumsF K) := by
  refine D.cal sc_is_numbers (fun vs H Q E h => ?_) (fun f cdv A out s H vs Q E hr h => ?_)
  · obtain ⟨x, m, rfl, _⟩ := h
    rfl
  obtain ⟨x, m, rfl, h⟩ := h
  refine ⟨_, (pss_one (ps_ret (pe_and (pe_callB call_isi (by rfl) B.n_isinstance (by decide +kernel) (pa_cons (pv 0) (pa_cons (pe_bltn (v := .ty "tuple") (by rfl) B.n_tuple (by decide +kernel) rfl) pa_nil))) (pe_one (pe_callB (cr_all rfl) (by rfl) B.n_all (by decide +kernel) (pa_cons (pe_lc (own := [("number", 2)]) (g := gName 2) rfl sc_is_numbers.nd (pi_tup (pv 0)) (blkOk_by (N := ["thing", "many", "number"]) (sc := defScope st_is_numbers) (by decide +kernel)) (fun _ _ _ _ _ => (pg_name (i := 2) sc_is_numbers.nd rfl (.inl rfl))) (fun _ _ _ _ _ => pts_nil) (fun _ _ _ _ _ => (pe_fn c_is_integer_to (hr.mono (by decide)) (pa_cons (pv 2) (pa_cons (pe_op op_sub (pv 1) pe_int) pa_nil))))) pa_nil)))))), ?_⟩
  rcases h with ⟨ty, tx, kt, k⟩ | ⟨p, xs, rfl, hp, l100, kd, k⟩
  · exact ⟨_, rfl, _, _, _, _, false, rfl, .ty _, tx, kt, _, rfl, iteF k⟩
  · refine ⟨_, rfl, _, _, _, _, true, rfl, .ty _, sqT_ty hp, kit_ty (by decide +kernel), _, rfl, iteT ?_⟩
    refine ⟨_, rfl, p, rfl, ⟨_, hp⟩, fun D hD => lc_tup (K := K) (a := p) (xs := xs) (fun i H' => Same H H' ∧ H' D = some (.lst (((xs.take i).map (isTo (m - 1))).map V.bl))) ⟨same_new (Same.refl _) hD, upd_same⟩ (fun i H' _ q => sqT_same q.1 hp) (fun i x H' hx ⟨k1, h1⟩ => ⟨rfl, tyes ?_⟩) (fun H' ⟨k1, h1⟩ => ?_)⟩
    · have il := (List.getElem?_eq_some_iff.mp hx).1
      refine ⟨_, rfl, _, rfl, _, _, rfl, rfl, _, _, rfl, (kd x (List.mem_of_getElem? hx)).same k1, _, h1, size_lt' (by rw [List.length_map, List.length_map, List.length_take]; omega), same_put k1 hD, ?_⟩
      rw [upd_same, List.take_add_one, hx, List.map_append, List.map_append]
      rfl
    · rw [List.take_length] at h1
      refine ⟨D, _, rfl, SqL.of h1, ?_⟩
      have e : (xs.map (isTo (m - 1))).all id = xs.all (isTo (m - 1)) := by
        rw [List.all_map]
        rfl
      rw [e]
      exact k H' k1
theorem ok_showRF (B : Bn mg) (n_set : mg "set" = none) (cSR : ∃ t, mg "SHORTEST_RING" = some (.int 2 t)) (SDivision : DvK K mg CDivision) (p_people : PCal P w K mg base 2 CDivision "people" ["self"] (spPeople CDivision CShare)) (p_states : PCal P w K mg base 4 CDivision "states" ["self"] (spStates CDivision CShare)) (c_check_division : Cal P w K mg base 1 "check_division" ["thing"] (spCheckD CDivision CShare)) (c_is_pair : Cal P w K mg base 1 "is_pair" ["thing"] (spIsPairF K)) (c_is_numbers : Cal P w K mg base 3 "is_numbers" ["thing", "many"] (spNumsF K)) (c_steps_around : Cal P w K mg base 1 "steps_around" ["states"] (spStepsF K)) (c_rise : Cal P w K mg base 5 "rise" ["division", "person", "state", "second"] (spRise CDivision CShare)) (D : Df K mg "shows_ring" st_shows_ring ["division", "thing"]) : Cal P w K mg base 7 "shows_ring" ["division", "thing"] (spShowRF K CDivision CShare) := by
  refine D.cal sc_shows_ring (fun vs H Q E h => ?_) (fun f cdv A out s H vs Q E hr h => ?_)
  · obtain ⟨d, t, ss, rows, x, rfl, _⟩ := h
    rfl
  obtain ⟨d, t, ss, rows, x, rfl, dv, h⟩ := h
  refine ⟨_, (pss_cons (ps_expr (pe_fn c_check_division (hr.mono (by decide)) (pa_cons (pv 0) pa_nil)))
   (pss_cons (ps_if (pt_not (pt_val (pe_fn c_is_pair (hr.mono (by decide)) (pa_cons (pv 1) pa_nil)))) (pss_one (ps_ret pe_bl)) pss_nil)
   (pss_cons (ps_asg (pv 1) (pg_tup rfl (pgs_cons (pg_name (i := 2) sc_shows_ring.nd rfl (.inl rfl)) (pgs_cons (pg_name (i := 3) sc_shows_ring.nd rfl (.inl rfl)) pgs_nil))))
   (pss_cons (ps_if (PW.pt (pw_or (pt_not (pt_val (pe_fn c_is_numbers (hr.mono (by decide)) (pa_cons (pv 2) (pa_cons (pe_pr p_states SDivision.cl (hr.mono (by decide)) (pv 0)) pa_nil))))) (pw_or1 (pt_not (pt_val (pe_fn c_is_numbers (hr.mono (by decide)) (pa_cons (pv 3) (pa_cons (pe_pr p_people SDivision.cl (hr.mono (by decide)) (pv 0)) pa_nil)))))))) (pss_one (ps_ret pe_bl)) pss_nil)
   (pss_cons (ps_if (PW.pt (pw_or (pt_cmpR op_lt (pe_callB call_len_seq (by rfl) B.n_len (by decide +kernel) (pa_cons (pv 2) pa_nil)) (pe_glob (v := .int 2) rfl cSR.choose_spec ⟨_, rfl⟩) (nomark _)) (pw_or (pt_cmpR op_ne (pe_callB call_len_seq (by rfl) B.n_len (by decide +kernel) (pa_cons (pv 2) pa_nil)) (pe_callB call_len_seq (by rfl) B.n_len (by decide +kernel) (pa_cons (pv 3) pa_nil)) (nomark _)) (pw_or1 (pt_cmpR op_ne (pe_callB call_len_seq (by rfl) B.n_len (by decide +kernel) (pa_cons (pv 2) pa_nil)) (pe_lenSetT (by rfl) B.n_len (by rfl) n_set (pv 2)) (nomark _)))))) (pss_one (ps_ret pe_bl)) pss_nil)
   (pss_cons (ps_set (i := 4) sc_shows_ring.nd rfl (.inl rfl) (pe_fn c_steps_around (hr.mono (by decide)) (pa_cons (pv 2) pa_nil)))
   (pss_cons (ps_setLc (i := 5) (own := [("person", 6), ("state", 7), ("second", 8)]) (g := gTup K 2 (gCons (gName 6) (gCons (gTup K 2 (gCons (gName 7) (gCons (gName 8) gNil))) gNil))) rfl sc_shows_ring.nd rfl rfl (sw_true rfl rfl rfl (by decide +kernel)) (pi_zipM (by rfl) B.n_zip (pa_cons (pv 3) (pa_cons (pv 4) pa_nil))) (blkOk_by (N := ["division", "thing", "states", "people", "steps", "rises", "person", "state", "second"]) (sc := defScope st_shows_ring) (by decide +kernel)) (fun _ _ _ _ _ => (pg_tup rfl (pgs_cons (pg_name (i := 6) sc_shows_ring.nd rfl (.inl rfl)) (pgs_cons (pg_tup rfl (pgs_cons (pg_name (i := 7) sc_shows_ring.nd rfl (.inl rfl)) (pgs_cons (pg_name (i := 8) sc_shows_ring.nd rfl (.inl rfl)) pgs_nil))) pgs_nil)))) (fun _ _ _ _ _ => pts_nil) (fun _ _ _ _ _ => (pe_fn c_rise (hr.mono (by decide)) (pa_cons (pv 0) (pa_cons (pv 6) (pa_cons (pv 7) (pa_cons (pv 8) pa_nil)))))))
   (pss_one (ps_ret (pe_and (pe_cmpR op_ge (pe_callB (cr_min rfl) (by rfl) B.n_min (by decide +kernel) (pa_cons (pv 5) pa_nil)) pe_int (nomark _)) (pe_one (pe_cmpR op_ge (pe_callB (cr_max rfl) (by rfl) B.n_max (by decide +kernel) (pa_cons (pv 5) pa_nil)) pe_int (nomark _))))))))))))), ?_⟩
  obtain ⟨⟨dx, hd⟩, ht, al, rw_⟩ := id dv
  obtain ⟨w2, w6⟩ := rw_.w26
  have p2 := rw_.1
  have p4 := rw_.2.1
  refine ⟨_, rfl, d, t, ss, rows, rfl, dv, ?_⟩
  rcases h with ⟨⟨ty, tx, kt⟩, k⟩ | ⟨p, xs, rfl, hp, ne, k⟩ | ⟨p, y, z, rfl, hp, h⟩
  · exact ⟨_, rfl, x, rfl, .inl ⟨ty, tx, kt, _, rfl, iteT k⟩⟩
  · refine ⟨_, rfl, _, rfl, .inr ⟨p, xs, rfl, hp, _, rfl, ?_⟩⟩
    rw [decide_eq_false ne]
    exact iteT k
  refine ⟨_, rfl, _, rfl, .inr ⟨p, _, rfl, hp, _, rfl, ?_⟩⟩
  refine iteF ?_
  refine ⟨_, rfl, p, _, rfl, hp, rfl, _, _, rfl, _, _, rfl, rfl, ?_⟩
  rcases h with ⟨⟨ty, tx, kt⟩, k⟩ | ⟨q, xs, rfl, hq, l100, kd, h⟩
  · refine ⟨_, rfl, _, rfl, d, dx, _, rfl, hd, d, t, ss, rows, rfl, dv, fun ns0 hn0 => ?_⟩
    exact ⟨_, _, rfl, .inl ⟨ty, tx, kt, _, rfl, iteT k⟩⟩
  refine ⟨_, rfl, _, rfl, d, dx, _, rfl, hd, d, t, ss, rows, rfl, dv, fun ns0 hn0 => ?_⟩
  rw [rw_.wdt hn0]
  refine ⟨_, _, rfl, .inr ⟨q, xs, rfl, hq, l100, kd, fun H1 k1 => ?_⟩⟩
  cases e1 : xs.all (isTo ((wdt rows : Int) - 1)) with
  | false =>
    refine ⟨_, rfl, iteT ?_⟩
    rcases h with ⟨_, k⟩ | ⟨r, zs, rfl, hr1, _, _, k⟩
    · exact k H1 k1
    · refine k false H1 k1 ⟨fun z => (nomatch z), fun z => ?_⟩
      rw [z.nums.1] at e1
      cases e1
  | true =>
    refine ⟨_, rfl, iteF ?_⟩
    rcases h with ⟨⟨ty, tx, kt⟩, k⟩ | ⟨r, zs, rfl, hr1, z100, kz, k⟩
    · refine ⟨_, rfl, _, rfl, d, dx, _, rfl, k1 _ _ hd, d, t, ss, rows, rfl, dv.same k1, ?_⟩
      exact ⟨_, _, rfl, .inl ⟨ty, TyX.same k1 tx, kt, _, rfl, iteT (k H1 k1)⟩⟩
    refine ⟨_, rfl, _, rfl, d, dx, _, rfl, k1 _ _ hd, d, t, ss, rows, rfl, dv.same k1, ?_⟩
    refine ⟨_, _, rfl, .inr ⟨r, zs, rfl, sqT_same k1 hr1, z100, fun v hv => (kz v hv).same k1, fun H2 k2 => ?_⟩⟩
    have k02 := k1.trans k2
    cases e2 : zs.all (isTo ((rows.length : Int) - 1)) with
    | false =>
      refine ⟨_, rfl, iteT (k false H2 k02 ⟨fun z => (nomatch z), fun z => ?_⟩)⟩
      rw [z.nums.2] at e2
      cases e2
    | true =>
      refine ⟨_, rfl, iteF ?_⟩
      obtain ⟨s1, rfl, lts⟩ := nums_iV.mp e1
      obtain ⟨g1, rfl, ltg⟩ := nums_iV.mp e2
      have hq2 := sqT_same k02 hq
      have hr2 := sqT_same k02 hr1
      have il := iV_len s1
      have ig := iV_len g1
      refine ⟨_, rfl, q, _, rfl, .inr (hq2), _, _, rfl, rfl, _, rfl, ?_⟩
      have bad : ∀ H', Same H H' → ¬ IsRing rows (List.range rows.length) s1 g1 → Q (.bl false) H' := fun H' k' n => k false H' k' ⟨fun z => (nomatch z), fun z => absurd (RgX.at.mp z) n⟩
      refine ite2 (fun c => ?_) (fun c => ?_)
      · have c1 : ((iV s1).length : Int) < 2 := of_decide_eq_true c
        refine bad H2 k02 fun ir => ?_
        obtain ⟨_, _, l1, lg, all, _⟩ := ir
        have l1' : s1.length = 1 := by omega
        obtain ⟨s, rfl⟩ := List.length_eq_one_iff.mp l1'
        have l0 : 0 < g1.length := by rw [lg]; show 0 < 1; decide
        have z := (all 0 g1[0] s s (List.getElem?_eq_getElem l0) rfl).2
        unfold rs at z
        omega
      have c1 : 2 ≤ s1.length := by
        have : ¬ ((iV s1).length : Int) < 2 := fun z => c (decide_eq_true z)
        omega
      refine ⟨_, rfl, q, _, rfl, .inr (hq2), _, rfl, r, _, rfl, .inr (hr2), rfl, _, rfl, ?_⟩
      refine ite2 (fun c => ?_) (fun c => ?_)
      · refine bad H2 k02 fun ir => ?_
        have lg := ir.2.2.2.1
        rw [il, ig, lg] at c
        simp at c
      have c2 : g1.length = s1.length := by
        have z : V.int ((iV s1).length : Int) = V.int ((iV g1).length : Int) := by simpa using c
        have := V.int.inj z
        omega
      refine ⟨_, rfl, q, _, rfl, .inr (hq2), _, rfl, q, nI s1, rfl, (iV_eq s1 ▸ hq2), by rw [nI_len]; omega, fun ks nd m => ?_⟩
      have ls := len_set nd m
      rw [nI_len, nI_nodup] at ls
      refine ⟨rfl, _, rfl, ?_⟩
      refine ite2 (fun c => ?_) (fun c => ?_)
      · refine bad H2 k02 fun ir => ?_
        have z := ls.mpr ir.1
        rw [il, z] at c
        simp at c
      have nds : s1.Nodup := by
        refine ls.mp ?_
        have z : V.int ((iV s1).length : Int) = V.int (ks.length : Int) := by simpa using c
        have := V.int.inj z
        omega
      have l6 := nodup_le nds lts
      have lst := stp_len (ss := s1) (by omega)
      refine ⟨_, rfl, q, s1, rfl, hq2, by omega, by omega, fun L ws H3 k3 hL st => ?_⟩
      have lw := st.len
      have k03 := k02.trans k3
      have hr3 := sqT_same k3 hr2
      refine ⟨_, rfl, _, rfl, r, L, _, _, rfl, hr3, SqL.of hL, fun D hD => lc_it (walk_zipM (K := K) (a := r) (b := L) (xs := iV g1) (ys := ws) (by rw [ig, lw, lst, c2])) (fun i H' => Same H3 H' ∧ ∃ us : List Int, H' D = some (.lst (us.map V.int)) ∧ us.length = i ∧ ∀ (j p a b : Nat), j < i → g1[j]? = some p → (stp s1)[j]? = some (a, b) → us[j]? = some (rs rows p a b)) ⟨same_new (Same.refl _) hD, [], upd_same, rfl, fun j _ _ _ hj => absurd hj (Nat.not_lt_zero j)⟩ (fun i H' _ r' => ⟨sqT_same r'.1 hr3, SqL.of (r'.1 _ _ hL)⟩) ?_ (fun H4 q4 => ?_)⟩
      · rintro i x H4 H5 hi ⟨k4, us, h4, lu, ok⟩ ⟨T, x', y', rfl, nT, rfl, ex, ey⟩
        obtain ⟨p1, rfl, ep⟩ := iV_at ex
        obtain ⟨u, a, b, rfl, hu, en⟩ := st.at ey
        have la := lts a (stp_mem en).1
        have lb := lts b (stp_mem en).2
        have lp := ltg p1 (List.mem_of_getElem? ep)
        generalize hH5 : upd H4 T _ = H5
        obtain ⟨k5, hT⟩ := alloc hH5 nT
        clear hH5
        have k45 := k4.trans k5
        refine ⟨T, _, rfl, SqT.of hT, rfl, _, _, rfl, _, _, rfl, ⟨u, _, rfl, SqT.of (k45 _ _ hu), rfl, _, _, rfl, _, _, rfl, rfl, rfl, rfl, tyes ?_⟩⟩
        have li : i < g1.length := (List.getElem?_eq_some_iff.mp ep).1
        refine ⟨_, rfl, _, rfl, _, rfl, _, rfl, d, t, ss, rows, p1, a, b, rfl, dv.same (k03.trans k45), lp, fun ns hn => by rw [rw_.wdt hn]; exact ⟨la, lb⟩, ?_⟩
        refine ⟨_, k5 _ _ h4, size_lt' (by rw [List.length_map]; omega), same_put k45 hD, us ++ [rs rows p1 a b], by rw [upd_same, List.map_append]; rfl, by rw [List.length_append, lu]; rfl, fun j p a' b' hj ep' en' => ?_⟩
        by_cases z : j < i
        · rw [List.getElem?_append_left (by omega)]
          exact ok j p a' b' z ep' en'
        · have z : j = i := by omega
          subst z
          rw [ep] at ep'
          rw [en] at en'
          cases ep'
          cases en'
          rw [List.getElem?_append_right (by omega), lu, Nat.sub_self]
          rfl
      · obtain ⟨k4, us, h4, lu, ok⟩ := q4
        rw [ig] at lu ok
        have k04 := k03.trans k4
        have uat : ∀ (j p a b : Nat), g1[j]? = some p → (stp s1)[j]? = some (a, b) → us[j]? = some (rs rows p a b) := fun j p a b ep en => ok j p a b (List.getElem?_eq_some_iff.mp ep).1 ep en
        have umem : ∀ x ∈ us, ∃ (j p a b : Nat), g1[j]? = some p ∧ (stp s1)[j]? = some (a, b) ∧ x = rs rows p a b := fun x hx => by
          obtain ⟨j, hj⟩ := List.mem_iff_getElem?.mp hx
          have lj : j < us.length := (List.getElem?_eq_some_iff.mp hj).1
          have e1 : g1[j]? = some g1[j] := List.getElem?_eq_getElem (by omega)
          have e2 : (stp s1)[j]? = some (stp s1)[j] := List.getElem?_eq_getElem (by omega)
          have e3 := uat j _ _ _ e1 e2
          rw [hj] at e3
          exact ⟨j, _, _, _, e1, e2, Option.some.inj e3⟩
        refine ⟨_, rfl, D, us, rfl, SqL.of h4, by omega, fun mn hmn mnle => ?_⟩
        refine ⟨_, _, rfl, rfl, ?_⟩
        have base : IsRing rows (List.range rows.length) s1 g1 ↔ 1 ≤ mn ∧ ∃ x ∈ us, 2 ≤ x := by
          constructor
          · rintro ⟨_, _, _, _, all, j, p, a, b, ep, en, r2⟩
            obtain ⟨j', p', a', b', ep', en', e⟩ := umem mn hmn
            exact ⟨by rw [e]; exact (all j' p' a' b' ep' en').2, _, List.mem_of_getElem? (uat j p a b ep en), r2⟩
          · rintro ⟨m1, x, hx, x2⟩
            obtain ⟨j, p, a, b, ep, en, rfl⟩ := umem x hx
            exact ⟨nds, lts, by omega, c2, fun j' p' a' b' ep' en' => ⟨List.mem_range.mpr (ltg p' (List.mem_of_getElem? ep')), Int.le_trans m1 (mnle _ (List.mem_of_getElem? (uat j' p' a' b' ep' en')))⟩, j, p, a, b, ep, en, x2⟩
        refine ⟨_, rfl, ?_⟩
        cases em : decide (1 ≤ mn) with
        | false => exact iteF (bad H4 k04 fun ir => absurd (base.mp ir).1 (of_decide_eq_false em))
        | true =>
          refine iteT ⟨_, rfl, D, us, rfl, SqL.of h4, by omega, fun mx hmx mxge => ⟨_, _, rfl, rfl, k _ H4 k04 ?_⟩⟩
          rw [RgX.at, base, decide_eq_true_eq]
          constructor
          · intro z
            exact ⟨of_decide_eq_true em, mx, hmx, z⟩
          · rintro ⟨_, x, hx, x2⟩
            have := mxge x hx
            omega
theorem ok_showVF (B : Bn mg) (SDivision : DvK K mg CDivision) (p_states : PCal P w K mg base 4 CDivision "states" ["self"] (spStates CDivision CShare)) (c_check_division : Cal P w K mg base 1 "check_division" ["thing"] (spCheckD CDivision CShare)) (c_is_integer : Cal P w K mg base 1 "is_integer" ["thing"] (spIsI K)) (c_level_needs : Cal P w K mg base 6 "level_needs" ["division"] (spNeeds CDivision CShare)) (c_meets : Cal P w K mg base 1 "meets" ["heights", "needs"] (spMeetsF K)) (D : Df K mg "shows_levels" st_shows_levels ["division", "thing"]) : Cal P w K mg base 7 "shows_levels" ["division", "thing"] (spShowVF K CDivision CShare) := by
  refine D.cal sc_shows_levels (fun vs H Q E h => ?_) (fun f cdv A out s H vs Q E hr h => ?_)
  · obtain ⟨d, t, ss, rows, x, rfl, _⟩ := h
    rfl
  obtain ⟨d, t, ss, rows, x, rfl, dv, h⟩ := h
  refine ⟨_, (pss_cons (ps_expr (pe_fn c_check_division (hr.mono (by decide)) (pa_cons (pv 0) pa_nil)))
   (pss_cons (ps_if (PW.pt (pw_or (pt_not (pt_val (pe_callB call_isi (by rfl) B.n_isinstance (by decide +kernel) (pa_cons (pv 1) (pa_cons (pe_bltn (v := .ty "tuple") (by rfl) B.n_tuple (by decide +kernel) rfl) pa_nil))))) (pw_or1 (pt_cmpR op_ne (pe_callB call_len_seq (by rfl) B.n_len (by decide +kernel) (pa_cons (pv 1) pa_nil)) (pe_pr p_states SDivision.cl (hr.mono (by decide)) (pv 0)) (nomark _))))) (pss_one (ps_ret pe_bl)) pss_nil)
   (pss_one (ps_ret (pe_and (pe_callB (cr_all rfl) (by rfl) B.n_all (by decide +kernel) (pa_cons (pe_lc (own := [("level", 2)]) (g := gName 2) rfl sc_shows_levels.nd (pi_tup (pv 1)) (blkOk_by (N := ["division", "thing", "level"]) (sc := defScope st_shows_levels) (by decide +kernel)) (fun _ _ _ _ _ => (pg_name (i := 2) sc_shows_levels.nd rfl (.inl rfl))) (fun _ _ _ _ _ => pts_nil) (fun _ _ _ _ _ => (pe_fn c_is_integer (hr.mono (by decide)) (pa_cons (pv 2) pa_nil)))) pa_nil)) (pe_one (pe_fn c_meets (hr.mono (by decide)) (pa_cons (pv 1) (pa_cons (pe_fn c_level_needs (hr.mono (by decide)) (pa_cons (pv 0) pa_nil)) pa_nil))))))))), ?_⟩
  obtain ⟨⟨dx, hd⟩, ht, al, rw_⟩ := id dv
  obtain ⟨w2, w6⟩ := rw_.w26
  have hC := ndC_ok rows
  refine ⟨_, rfl, d, t, ss, rows, rfl, dv, ?_⟩
  rcases h with ⟨ty, tx, kt, k⟩ | ⟨p, xs, rfl, hp, l100, kd, k⟩
  · exact ⟨_, rfl, _, _, _, _, false, rfl, .ty _, tx, kt, _, rfl, iteT k⟩
  refine ⟨_, rfl, _, _, _, _, true, rfl, .ty _, sqT_ty hp, kit_ty (by decide +kernel), _, rfl, iteF ?_⟩
  refine ⟨_, rfl, p, _, rfl, .inr (hp), _, rfl, d, dx, _, rfl, hd, d, t, ss, rows, rfl, dv, fun ns0 hn0 => ?_⟩
  rw [rw_.wdt hn0]
  refine ⟨rfl, _, rfl, ?_⟩
  refine ite2 (fun c => ?_) (fun c => ?_)
  · refine k false H (Same.refl H) ⟨fun z => (nomatch z), fun ⟨hs, e, z, _⟩ => ?_⟩
    have z2 : xs.length = wdt rows := by rw [e, List.length_map, z]
    rw [z2] at c
    simp at c
  have lh : xs.length = wdt rows := by
    have z : V.int (xs.length : Int) = V.int (wdt rows : Int) := by simpa using c
    have := V.int.inj z
    omega
  refine ⟨_, rfl, p, rfl, ⟨_, hp⟩, fun D hD => lc_tup (K := K) (a := p) (xs := xs) (BlI D H fun j => ∀ x, xs[j]? = some x → isInt x = true) (BlI.start hD) (fun i H' _ q => sqT_same q.1 hp) (fun i x H' hx q => ⟨rfl, tyes ?_⟩) (fun H' q => ?_)⟩
  · have il := (List.getElem?_eq_some_iff.mp hx).1
    refine ⟨_, rfl, _, rfl, (kd x (List.mem_of_getElem? hx)).same q.1, q.next (Same.refl _) hD (by omega) (b := isInt x) ⟨fun z y hy => ?_, fun z => z x hx⟩⟩
    rw [hx] at hy
    cases hy
    exact z
  · have k1 := q.1
    obtain ⟨bs, e, ev⟩ := q.all
    refine ⟨D, bs, rfl, SqL.of e, ?_⟩
    cases ea : bs.all id with
    | false =>
      refine ⟨_, rfl, iteF (k false H' k1 ⟨fun z => (nomatch z), fun ⟨hs, e2, _⟩ => ?_⟩)⟩
      have : bs.all id = true := ev.mpr fun j _ x hx => ints_is (by rw [← e2]; exact hx)
      rw [ea] at this
      cases this
    | true =>
      obtain ⟨hs, rfl⟩ := ints_of fun j x hx => ev.mp ea j (List.getElem?_eq_some_iff.mp hx).1 x hx
      rw [List.length_map] at lh
      refine ⟨_, rfl, iteT ?_⟩
      refine ⟨_, rfl, _, rfl, d, t, ss, rows, rfl, dv.same k1, fun l ws ns H2 k2 hl tr hn n1 => ?_⟩
      have kk := k1.trans k2
      refine ⟨p, l, hs, ws, ns, rfl, sqT_same kk hp, hl, tr, n1, fun s t m hm => ?_, fun b H3 k3 hb => k b H3 (kk.trans k3) (hb.trans ⟨fun z => ⟨hs, rfl, lh, fun s t m c => z s t m ((hn s t m).mpr c)⟩, fun ⟨gs, e3, _, z⟩ s t m hm => ?_⟩)⟩
      · have z := hC s t m ((hn s t m).mp hm)
        rw [lh]
        exact ⟨z.1, z.2.1⟩
      · have : hs = gs := (List.map_inj_right (f := V.int) (fun _ _ h => V.int.inj h)).mp e3
        subst this
        exact z s t m ((hn s t m).mp hm)
end
end Pl
namespace Pl
open PySem PySem.Spec PyProof.Rows L2
/-- every row with one more number -/
def grow (f : List Nat → List Nat) (cs : List (List Nat)) : List (List Nat) := cs.flatMap fun c => (f c).map fun s => c ++ [s]
theorem grow_cons (f : List Nat → List Nat) (c : List Nat) (cs : List (List Nat)) : grow f (c :: cs) = ((f c).map fun s => c ++ [s]) ++ grow f cs := rfl
theorem grow_app (f : List Nat → List Nat) : ∀ (a b : List (List Nat)), grow f (a ++ b) = grow f a ++ grow f b
  | [], b => rfl
  | c :: a, b => by rw [List.cons_append, grow_cons, grow_cons, grow_app f a b, List.append_assoc]
theorem mem_grow {f : List Nat → List Nat} {cs : List (List Nat)} {g : List Nat} : g ∈ grow f cs ↔ ∃ c s, c ∈ cs ∧ s ∈ f c ∧ g = c ++ [s] := by
  unfold grow
  rw [List.mem_flatMap]
  constructor
  · rintro ⟨c, hc, h⟩
    obtain ⟨s, hs, e⟩ := List.mem_map.mp h
    exact ⟨c, s, hc, hs, e.symm⟩
  · rintro ⟨c, s, hc, hs, e⟩
    exact ⟨c, hc, List.mem_map.mpr ⟨s, hs, e.symm⟩⟩
def Srt (cs : List (List Nat)) : Prop := cs.Pairwise fun a b => lx (nI a) (nI b) = true
theorem grow_srt {f : List Nat → List Nat} {k : Nat} : ∀ {cs : List (List Nat)}, (∀ c ∈ cs, c.length = k) → Srt cs → (∀ c ∈ cs, (f c).Pairwise (· < ·)) → Srt (grow f cs)
  | [], _, _, _ => .nil
  | c :: cs, hl, pw, hf => by
    unfold Srt at pw
    rw [List.pairwise_cons] at pw
    rw [grow_cons]
    refine List.pairwise_append.mpr ⟨?_, grow_srt (fun c hc => hl c (List.mem_cons_of_mem _ hc)) pw.2 fun c hc => hf c (List.mem_cons_of_mem _ hc), fun a ha b hb => ?_⟩
    · rw [List.pairwise_map]
      refine (hf c List.mem_cons_self).imp fun {a b} h => ?_
      rw [nI_app, nI_app, lx_pre]
      show (decide ((a : Int) < b) || _) = true
      rw [decide_eq_true (by omega), Bool.true_or]
    · obtain ⟨s, _, rfl⟩ := List.mem_map.mp ha
      obtain ⟨c', s', hc', _, rfl⟩ := mem_grow.mp hb
      rw [nI_app, nI_app]
      exact lx_app _ _ (by rw [nI_len, nI_len, hl c List.mem_cons_self, hl c' (List.mem_cons_of_mem _ hc')]) (pw.1 c' hc')
theorem grow_size {f : List Nat → List Nat} {m : Nat} : ∀ {cs : List (List Nat)}, (∀ c ∈ cs, (f c).length ≤ m) → (grow f cs).length ≤ m * cs.length
  | [], _ => Nat.zero_le _
  | c :: cs, h => by
    have h1 := h c List.mem_cons_self
    have h2 := grow_size fun c hc => h c (List.mem_cons_of_mem _ hc)
    rw [grow_cons, List.length_append, List.length_map, List.length_cons, Nat.mul_add, Nat.mul_one]
    omega
/-- tuples of different states, in order -/
def oth (n : Nat) (c : List Nat) : List Nat := (List.range n).filter fun s => decide (s ∉ c)
def tps (n : Nat) : Nat → List (List Nat)
  | 0 => [[]]
  | k + 1 => grow (oth n) (tps n k)
theorem mem_tps {n : Nat} : ∀ {k : Nat} {g : List Nat}, g ∈ tps n k ↔ g.Nodup ∧ (∀ s ∈ g, s < n) ∧ g.length = k
  | 0, g => by
    constructor
    · intro h
      rw [List.mem_singleton.mp h]
      exact ⟨List.nodup_nil, (fun s hs => nomatch hs), rfl⟩
    · rintro ⟨_, _, h⟩
      rw [List.length_eq_zero_iff.mp h]
      exact List.mem_singleton.mpr rfl
  | k + 1, g => by
    show g ∈ grow (oth n) (tps n k) ↔ _
    rw [mem_grow]
    constructor
    · rintro ⟨c, s, hc, hs, rfl⟩
      obtain ⟨nd, lt, l⟩ := mem_tps.mp hc
      obtain ⟨h1, h2⟩ := List.mem_filter.mp hs
      have h2 : s ∉ c := of_decide_eq_true h2
      refine ⟨List.nodup_append.mpr ⟨nd, by simp, fun a ha b hb => ?_⟩, fun a ha => ?_, by rw [List.length_append, l]; rfl⟩
      · rw [List.mem_singleton.mp hb]
        intro z
        exact h2 (z ▸ ha)
      · rcases List.mem_append.mp ha with z | z
        · exact lt a z
        · rw [List.mem_singleton.mp z]; exact List.mem_range.mp h1
    · rintro ⟨nd, lt, l⟩
      have ne : g ≠ [] := fun e => by rw [e] at l; cases l
      have eg := (List.dropLast_concat_getLast ne).symm
      rw [eg, List.nodup_append] at nd
      refine ⟨g.dropLast, g.getLast ne, mem_tps.mpr ⟨nd.1, fun s hs => lt s ((List.dropLast_sublist _).subset hs), by rw [List.length_dropLast, l]; rfl⟩, List.mem_filter.mpr ⟨List.mem_range.mpr (lt _ (List.getLast_mem ne)), decide_eq_true fun z => ?_⟩, eg⟩
      exact nd.2.2 _ z _ (List.mem_singleton.mpr rfl) rfl
theorem srt_tps (n : Nat) : ∀ k, Srt (tps n k)
  | 0 => List.pairwise_singleton _ _
  | k + 1 => grow_srt (k := k) (fun c hc => (mem_tps.mp hc).2.2) (srt_tps n k) fun c _ => List.Pairwise.filter _ List.pairwise_lt_range
theorem len_tps {n : Nat} (h : n ≤ 6) : ∀ k, (tps n k).length ≤ 6 ^ k
  | 0 => Nat.le_refl _
  | k + 1 => by
    have ih := len_tps h k
    have z : (grow (oth n) (tps n k)).length ≤ 6 * (tps n k).length := grow_size fun c _ => Nat.le_trans (List.length_filter_le _ _) (by rw [List.length_range]; exact h)
    show (grow (oth n) (tps n k)).length ≤ _
    rw [Nat.pow_succ]
    omega
/-- people of each place, in order -/
def pls (ab : Nat → List Nat) : Nat → List (List Nat)
  | 0 => [[]]
  | k + 1 => grow (fun _ => ab k) (pls ab k)
theorem mem_pls {ab : Nat → List Nat} : ∀ {k : Nat} {g : List Nat}, g ∈ pls ab k ↔ g.length = k ∧ ∀ (i p : Nat), g[i]? = some p → p ∈ ab i
  | 0, g => by
    constructor
    · intro h
      rw [List.mem_singleton.mp h]
      exact ⟨rfl, fun i p e => by cases e⟩
    · rintro ⟨h, _⟩
      rw [List.length_eq_zero_iff.mp h]
      exact List.mem_singleton.mpr rfl
  | k + 1, g => by
    show g ∈ grow (fun _ => ab k) (pls ab k) ↔ _
    rw [mem_grow]
    constructor
    · rintro ⟨c, s, hc, hs, rfl⟩
      obtain ⟨l, al⟩ := mem_pls.mp hc
      refine ⟨by rw [List.length_append, l]; rfl, fun i p e => ?_⟩
      by_cases z : i < c.length
      · rw [List.getElem?_append_left z] at e
        exact al i p e
      · have li := (List.getElem?_eq_some_iff.mp e).1
        rw [List.length_append] at li
        have li : i < c.length + 1 := li
        have zi : i = c.length := by omega
        subst zi
        rw [List.getElem?_append_right (Nat.le_refl _), Nat.sub_self] at e
        have : s = p := by simpa using e
        subst this
        rw [l]
        exact hs
    · rintro ⟨l, al⟩
      have ne : g ≠ [] := fun e => by rw [e] at l; cases l
      have eg := (List.dropLast_concat_getLast ne).symm
      have ld : g.dropLast.length = k := by rw [List.length_dropLast, l]; rfl
      refine ⟨g.dropLast, g.getLast ne, mem_pls.mpr ⟨ld, fun i p e => al i p ?_⟩, al k _ ?_, eg⟩
      · rw [eg, List.getElem?_append_left (List.getElem?_eq_some_iff.mp e).1]
        exact e
      · rw [List.getLast_eq_getElem, List.getElem?_eq_getElem (by omega)]
        congr 1
        simp [l]
theorem srt_pls {ab : Nat → List Nat} (ha : ∀ i, (ab i).Pairwise (· < ·)) : ∀ k, Srt (pls ab k)
  | 0 => List.pairwise_singleton _ _
  | k + 1 => grow_srt (k := k) (fun c hc => (mem_pls.mp hc).1) (srt_pls ha k) fun c _ => ha k
theorem len_pls {ab : Nat → List Nat} (ha : ∀ i, (ab i).length ≤ 4) : ∀ k, (pls ab k).length ≤ 4 ^ k
  | 0 => Nat.le_refl _
  | k + 1 => by
    have ih := len_pls ha k
    have z : (grow (fun _ => ab k) (pls ab k)).length ≤ 4 * (pls ab k).length := grow_size fun c _ => ha k
    show (grow (fun _ => ab k) (pls ab k)).length ≤ _
    rw [Nat.pow_succ]
    omega
def sA (ss : List Nat) (i : Nat) : Nat := (ss[i]?).getD 0
def sB (ss : List Nat) (i : Nat) : Nat := (ss[(i + 1) % ss.length]?).getD 0
theorem sA_at {ss : List Nat} {i : Nat} (h : i < ss.length) : ss[i]? = some (sA ss i) := by
  unfold sA
  rw [List.getElem?_eq_getElem h]
  rfl
theorem sB_at {ss : List Nat} {i : Nat} (h : i < ss.length) : ss[(i + 1) % ss.length]? = some (sB ss i) := by
  unfold sB
  rw [List.getElem?_eq_getElem (Nat.mod_lt _ (by omega))]
  rfl
theorem stp_at {ss : List Nat} {i : Nat} (h : i < ss.length) : (stp ss)[i]? = some (sA ss i, sB ss i) := by
  unfold stp
  rw [List.getElem?_zip_eq_some]
  refine ⟨sA_at h, ?_⟩
  rw [← sB_at h]
  by_cases c : i + 1 < ss.length
  · rw [List.getElem?_append_left (by rw [List.length_drop]; omega), List.getElem?_drop, Nat.mod_eq_of_lt c, Nat.add_comm]
  · have e : i + 1 = ss.length := by omega
    rw [List.getElem?_append_right (by rw [List.length_drop]; omega), List.length_drop, e, Nat.mod_self, show i - (ss.length - 1) = 0 by omega, List.getElem?_take, if_pos (by decide)]
/-- who rises at a place -/
def able (rows : List (List Int)) (ss : List Nat) (i : Nat) : List Nat := (List.range rows.length).filter fun p => decide (1 ≤ rs rows p (sA ss i) (sB ss i))
def rss (rows : List (List Int)) (ss g : List Nat) : List Int := (List.range ss.length).map fun i => rs rows ((g[i]?).getD 0) (sA ss i) (sB ss i)
/-- somebody rises by two -/
def Big (rows : List (List Int)) (ss g : List Nat) : Prop := ∃ i, i < ss.length ∧ 2 ≤ rs rows ((g[i]?).getD 0) (sA ss i) (sB ss i)
theorem fits_pls {rows : List (List Int)} {ss g : List Nat} (l1 : 1 ≤ ss.length) : Fits rows (List.range rows.length) ss g ↔ g ∈ pls (able rows ss) ss.length ∧ Big rows ss g := by
  rw [mem_pls]
  constructor
  · rintro ⟨lg, all, i, p, s, t, ep, es, r2⟩
    have ga : ∀ j q, g[j]? = some q → j < ss.length := fun j q e => by
      rw [← lg]
      exact (List.getElem?_eq_some_iff.mp e).1
    refine ⟨⟨lg, fun j q e => ?_⟩, i, ga i p ep, ?_⟩
    · obtain ⟨m, r⟩ := all j q _ _ e (stp_at (ga j q e))
      exact List.mem_filter.mpr ⟨m, decide_eq_true r⟩
    · rw [stp_at (ga i p ep)] at es
      cases es
      rw [ep]
      exact r2
  · rintro ⟨⟨lg, al⟩, i, li, r2⟩
    have li' : i < g.length := by omega
    refine ⟨lg, fun j q s t eq es => ?_, i, g[i], _, _, List.getElem?_eq_getElem li', stp_at li, ?_⟩
    · have lj : j < ss.length := by
        rw [← lg]
        exact (List.getElem?_eq_some_iff.mp eq).1
      rw [stp_at lj] at es
      cases es
      obtain ⟨m, r⟩ := List.mem_filter.mp (al j q eq)
      exact ⟨m, of_decide_eq_true r⟩
    · rw [List.getElem?_eq_getElem li'] at r2
      exact r2
theorem srt_first {cs : List (List Nat)} {c : List Nat} (h : Srt (c :: cs)) : ∀ b ∈ c :: cs, lx (nI b) (nI c) = false := fun b hb => by
  rcases List.mem_cons.mp hb with rfl | hb
  · exact lx_irr _
  · exact lx_asym ((List.pairwise_cons.mp h).1 b hb)
/-- if somebody rises by two, and each place has someone, there is a ring -/
theorem big_some {rows : List (List Int)} {ss : List Nat} {i p : Nat} (li : i < ss.length) (lp : p < rows.length) (r2 : 2 ≤ rs rows p (sA ss i) (sB ss i)) (ne : pls (able rows ss) ss.length ≠ []) : ∃ g, g ∈ pls (able rows ss) ss.length ∧ Big rows ss g := by
  obtain ⟨g0, h0⟩ := List.exists_mem_of_ne_nil _ ne
  obtain ⟨lg, al⟩ := mem_pls.mp h0
  refine ⟨g0.set i p, mem_pls.mpr ⟨by rw [List.length_set, lg], fun j q e => ?_⟩, i, li, ?_⟩
  · by_cases z : j = i
    · subst z
      rw [List.getElem?_set_self (by omega)] at e
      cases e
      exact List.mem_filter.mpr ⟨List.mem_range.mpr lp, decide_eq_true (by omega)⟩
    · rw [List.getElem?_set_ne (fun e => z e.symm)] at e
      exact al j q e
  · rw [List.getElem?_set_self (by omega)]
    exact r2
theorem no_one {rows : List (List Int)} {ps ss g : List Nat} (h : IsRing rows ps ss g) : 2 ≤ ss.length := by
  obtain ⟨_, _, l1, lg, all, _⟩ := h
  by_cases c : ss.length = 1
  · obtain ⟨s, rfl⟩ := List.length_eq_one_iff.mp c
    have l0 : 0 < g.length := by rw [lg]; show 0 < 1; decide
    have z := (all 0 g[0] s s (List.getElem?_eq_getElem l0) rfl).2
    unfold rs at z
    omega
  · omega
end Pl
namespace Pl
open PySem PySem.Spec PyProof.Rows L2
/-- tuples of these amounts stand at these places -/
def TpAll (H : Hp) (ts : List Addr) (rows : List (List Int)) : Prop := ts.length = rows.length ∧ ∀ (j : Nat) (t : Addr) (ns : List Int), ts[j]? = some t → rows[j]? = some ns → H t = some (.tup (ns.map V.int))
theorem TpAll.same {H H' : Hp} {ts : List Addr} {rows : List (List Int)} (h : TpAll H ts rows) (k : Same H H') : TpAll H' ts rows := ⟨h.1, fun j t ns a b => k _ _ (h.2 j t ns a b)⟩
theorem TpAll.nil {H : Hp} : TpAll H [] [] := ⟨rfl, fun j t ns a => by simp at a⟩
theorem TpAll.snoc {H : Hp} {ts : List Addr} {rows : List (List Int)} {t : Addr} {ns : List Int} (h : TpAll H ts rows) (e : H t = some (.tup (ns.map V.int))) : TpAll H (ts ++ [t]) (rows ++ [ns]) := by
  refine ⟨by simp [h.1], fun j u ms a b => ?_⟩
  rcases Nat.lt_trichotomy j ts.length with q | q | q
  · rw [List.getElem?_append_left q] at a
    rw [List.getElem?_append_left (by rw [← h.1]; exact q)] at b
    exact h.2 j u ms a b
  · have e1 : (ts ++ [t])[j]? = some t := by rw [q]; simp
    have e2 : (rows ++ [ns])[j]? = some ns := by rw [q, h.1]; simp
    rw [e1] at a
    rw [e2] at b
    cases a
    cases b
    exact e
  · rw [List.getElem?_eq_none (by simp; omega)] at a
    cases a
theorem TpAll.get {H : Hp} {ts : List Addr} {rows : List (List Int)} (h : TpAll H ts rows) {t : Addr} (m : t ∈ ts) : ∃ ns ∈ rows, H t = some (.tup (ns.map V.int)) := by
  obtain ⟨j, lt, e⟩ := List.getElem_of_mem m
  have l2 : j < rows.length := by rw [← h.1]; exact lt
  exact ⟨rows[j], List.getElem_mem l2, h.2 j t _ (by rw [← e]; exact List.getElem?_eq_getElem lt) (List.getElem?_eq_getElem l2)⟩
theorem TpAll.put {D : Addr} {H : Hp} {ts : List Addr} {rows : List (List Int)} {xs : List V} {o : HO} (h : TpAll H ts rows) (e : H D = some (.lst xs)) : TpAll (L2.upd H D o) ts rows :=
  ⟨h.1, fun j t ns a b => by
    have z := h.2 j t ns a b
    rw [upd_ne (ne_of z e (by intro z; cases z))]
    exact z⟩
/-- rows are drawn one by one -/
def LInv (a D : Addr) (H0 : Hp) (n i : Nat) (H : Hp) : Prop := Src H a ∧ Kp a H0 H ∧ ∃ (ts : List Addr) (rows : List (List Int)), rows.length = i ∧ (∀ ns ∈ rows, ns.length = n ∧ Am ns) ∧ H D = some (.lst (ts.map V.ref)) ∧ TpAll H ts rows
theorem LInv.start {a D : Addr} {H0 : Hp} {n : Nat} (s : Src H0 a) (h : H0 D = none) : LInv a D H0 n 0 (L2.upd H0 D (.lst [])) := ⟨s.upd h, (Kp.refl a H0).new h, [], [], rfl, fun _ h => (nomatch h), upd_same, .nil⟩
theorem TpAll.kp {a : Addr} {H H' : Hp} {ts : List Addr} {rows : List (List Int)} (h : TpAll H ts rows) (s : Src H a) (k : Kp a H H') : TpAll H' ts rows := ⟨h.1, fun j t ns x y => by
  have z := h.2 j t ns x y
  exact k _ _ (s.neT z) z⟩
theorem LInv.next {a D t : Addr} {H0 H H' : Hp} {n i : Nat} {ns : List Int} (p : LInv a D H0 n i H) (s0 : Src H0 a) (hD : H0 D = none) (hi : i ≤ 100) (s : Src H' a) (k : Kp a H H') (ht : H' t = some (.tup (ns.map V.int))) (ln : ns.length = n) (am : Am ns) :
    ∃ acc, H' D = some (.lst acc) ∧ acc.length < sizeLine ∧ LInv a D H0 n (i + 1) (L2.upd H' D (.lst (acc ++ [.ref t]))) := by
  obtain ⟨s1, k1, ts, rows, e, q, hd, tp⟩ := p
  have da : D ≠ a := s0.ne hD
  have hd2 := k _ _ da hd
  have tp2 := tp.kp s1 k
  refine ⟨_, hd2, size_lt (by rw [List.length_map, tp.1, e]; omega), s.put da, (k1.trans k).put hD, ts ++ [t], rows ++ [ns], by simp [e], fun ms hm => ?_, ?_, ?_⟩
  · rcases List.mem_append.mp hm with h | h
    · exact q ms h
    · rw [List.mem_singleton.mp h]
      exact ⟨ln, am⟩
  · rw [upd_same, List.map_append]
    rfl
  · exact (tp2.put hd2).snoc (by rw [upd_ne (ne_of ht hd2 (by intro z; cases z))]; exact ht)
theorem LInv.done {a D : Addr} {H0 H : Hp} {n i : Nat} (p : LInv a D H0 n i H) (i2 : 2 ≤ i) (i4 : i ≤ 4) (n2 : 2 ≤ n) (n6 : n ≤ 6) : ∃ (ts : List Addr) (rows : List (List Int)), Rows rows ∧ TpAll H ts rows ∧ H D = some (.lst (ts.map V.ref)) ∧ Src H a ∧ Kp a H0 H := by
  obtain ⟨s1, k1, ts, rows, e, q, hd, tp⟩ := p
  exact ⟨ts, rows, ⟨by omega, by omega, n, n2, n6, q⟩, tp, hd, s1, k1⟩
/-- lists of amounts are drawn one by one -/
def SInv (a D : Addr) (H0 : Hp) (n i : Nat) (H : Hp) : Prop := Src H a ∧ Kp a H0 H ∧ ∃ ts : List Addr, ts.length = i ∧ H D = some (.lst (ts.map V.ref)) ∧ ∀ t ∈ ts, t ≠ a ∧ t ≠ D ∧ ∃ ns : List Int, H t = some (.lst (ns.map V.int)) ∧ ns.length = n ∧ Am ns
theorem SInv.start {a D : Addr} {H0 : Hp} {n : Nat} (s : Src H0 a) (h : H0 D = none) : SInv a D H0 n 0 (L2.upd H0 D (.lst [])) := ⟨s.upd h, (Kp.refl a H0).new h, [], rfl, upd_same, fun _ h => (nomatch h)⟩
theorem SInv.next {a D t : Addr} {H0 H H' : Hp} {n i : Nat} {ns : List Int} (p : SInv a D H0 n i H) (s0 : Src H0 a) (hD : H0 D = none) (hi : i ≤ 100) (s : Src H' a) (k : Kp a H H') (nt : H' t = none) (ln : ns.length = n) (am : Am ns) :
    ∃ acc, (L2.upd H' t (.lst (ns.map V.int))) D = some (.lst acc) ∧ acc.length < sizeLine ∧ SInv a D H0 n (i + 1) (L2.upd (L2.upd H' t (.lst (ns.map V.int))) D (.lst (acc ++ [.ref t]))) := by
  obtain ⟨s1, k1, ts, e, hd, al⟩ := p
  have da : D ≠ a := s0.ne hD
  have hd2 := k _ _ da hd
  have dt : D ≠ t := fun z => by rw [z, nt] at hd2; cases hd2
  have ta : t ≠ a := s.ne nt
  refine ⟨ts.map V.ref, by rw [upd_ne dt]; exact hd2, size_lt (by rw [List.length_map, e]; omega), (s.upd nt).put da, ((k1.trans k).new nt).put hD, ts ++ [t], by simp [e], by rw [upd_same, List.map_append]; rfl, fun u hu => ?_⟩
  rcases List.mem_append.mp hu with h | h
  · obtain ⟨b1, b2, ms, b3, b4⟩ := al u h
    have b5 := k _ _ b1 b3
    exact ⟨b1, b2, ms, by rw [upd_ne b2, upd_ne (ne_of_none b5 nt)]; exact b5, b4⟩
  · rw [List.mem_singleton.mp h]
    exact ⟨ta, Ne.symm dt, ns, by rw [upd_ne (Ne.symm dt), upd_same], ln, am⟩
/-- a list of lists of amounts -/
def SF (a F : Addr) (n i : Nat) (H : Hp) : Prop := F ≠ a ∧ ∃ ts : List Addr, ts.length = i ∧ H F = some (.lst (ts.map V.ref)) ∧ ∀ t ∈ ts, t ≠ a ∧ t ≠ F ∧ ∃ ns : List Int, H t = some (.lst (ns.map V.int)) ∧ ns.length = n ∧ Am ns
theorem SInv.sf {a D : Addr} {H0 H : Hp} {n i : Nat} (p : SInv a D H0 n i H) (s0 : Src H0 a) (hD : H0 D = none) : SF a D n i H := by
  obtain ⟨_, _, ts, e, hd, al⟩ := p
  exact ⟨s0.ne hD, ts, e, hd, al⟩
theorem SF.kp {a F : Addr} {H H' : Hp} {n i : Nat} (h : SF a F n i H) (k : Kp a H H') : SF a F n i H' := by
  obtain ⟨fa, ts, e, hf, al⟩ := h
  refine ⟨fa, ts, e, k _ _ fa hf, fun t ht => ?_⟩
  obtain ⟨b1, b2, ns, b3, b4⟩ := al t ht
  exact ⟨b1, b2, ns, k _ _ b1 b3, b4⟩
def spOrd : Sp := fun vs H Q _ => ∃ (a : Addr) (p n : Nat) (m : Int), vs = [.ref a, .int p, .int n, .int m] ∧ Src H a ∧ 2 ≤ p ∧ p ≤ 4 ∧ 2 ≤ n ∧ n ≤ 6 ∧ 0 ≤ m ∧ m ≤ 30 ∧ ∀ (F : Addr) (H' : Hp), Src H' a → Kp a H H' → SF a F n p H' → (∀ ts : List Addr, H' F = some (.lst (ts.map V.ref)) → ∀ t ∈ ts, H t = none) → Q (.ref F) H'
def spLines : Sp := fun vs H Q _ => ∃ (a : Addr) (p n : Nat), vs = [.ref a, .int p, .int n] ∧ Src H a ∧ 2 ≤ p ∧ p ≤ 4 ∧ 2 ≤ n ∧ n ≤ 6 ∧
  ∀ (l : Addr) (ts : List Addr) (rows : List (List Int)) (H' : Hp), Rows rows → TpAll H' ts rows → H' l = some (.lst (ts.map V.ref)) → l ≠ a → Src H' a → Kp a H H' → wdt rows = n → Q (.ref l) H'
end Pl
namespace Pl
open PySem PySem.Spec PyProof.Rows L2
theorem fzO.sq {K : PySem.W.Frag} {H : Hp} {q : Addr} {xs : List V} {u : HO} (f : fzO xs u) (h : H q = some u) : SqT K H q xs := by
  obtain ⟨o, _, rfl⟩ := f
  exact .inl (.inr ⟨o, h⟩)
theorem fzO.fz {H : Hp} {q : Addr} {xs : List V} {u : HO} (f : fzO xs u) (h : H q = some u) : Fz H q xs := by
  obtain ⟨o, e, rfl⟩ := f
  exact ⟨o, e, h⟩
theorem fzO.ne {H : Hp} {a b : Addr} {xs ys : List V} {u : HO} (f : fzO xs u) (h : H a = some u) (h2 : H b = some (.lst ys)) : a ≠ b := by
  obtain ⟨o, _, rfl⟩ := f
  exact ne_of h h2 (by intro z; cases z)
theorem Fz.same {H H' : Hp} {q : Addr} {xs : List V} (h : Fz H q xs) (k : Same H H') : Fz H' q xs := by
  obtain ⟨o, e, h⟩ := h
  exact ⟨o, e, k _ _ h⟩
theorem Fz.out {H : Hp} {q : Addr} {xs : List V} (h : Fz H q xs) : ∃ u, fzO xs u ∧ H q = some u := by
  obtain ⟨o, e, h⟩ := h
  exact ⟨_, ⟨o, e, rfl⟩, h⟩
theorem caF {K : PySem.W.Frag} {a b : Addr} {xs ys : List V} {u1 u2 : HO} {H : Hp} {Q : VK} (h1 : H a = some u1) (f1 : fzO xs u1) (h2 : H b = some u2) (f2 : fzO ys u2) (l : xs.length + ys.length ≤ 1000) (k : ∀ (p : Addr) (H' : Hp) (u : HO), Same H H' → H' p = some u → fzO (xs ++ ys) u → Q (.ref p) H') : rCatF K (.ref a) (.ref b) H Q :=
  ⟨a, b, xs, ys, rfl, rfl, f1.sq h1, f2.sq h2, Nat.le_of_lt (size_lt' (by omega)), fun z => k b H u2 (Same.refl H) h2 (by rw [z]; exact f2), fun _ z => k a H u1 (Same.refl H) h1 (by rw [z, List.append_nil]; exact f1), fun _ _ p u np f => k p _ u (same_new (Same.refl H) np) upd_same f⟩
theorem slF {K : PySem.W.Frag} {a : Addr} {xs : List V} {u : HO} {lo hi : Option Int} {H : Hp} {Q : VK} (h : H a = some u) (f : fzO xs u) (k : ∀ (p : Addr) (H' : Hp) (u : HO), Same H H' → H' p = some u → fzO (cutV xs lo hi) u → Q (.ref p) H') : rSlF K (.ref a) lo hi H Q := by
  refine ⟨a, xs, rfl, f.sq h, fun w => k a H u (Same.refl H) h ?_, fun _ p u np f => k p _ u (same_new (Same.refl H) np) upd_same f⟩
  have e : cutV xs lo hi = xs := by
    unfold cutV
    rw [w.1, w.2, List.drop_zero, Nat.sub_zero, List.take_length]
  rw [e]
  exact f
theorem iV_app (a b : List Nat) : iV (a ++ b) = iV a ++ iV b := by
  unfold iV
  rw [List.map_append]
/-- tuples of numbers in the heap -/
inductive RwF (H : Hp) : List V → List (List Nat) → Prop
  | nil : RwF H [] []
  | cons {q : Addr} {g : List Nat} {u : HO} {vs : List V} {gs : List (List Nat)} : fzO (iV g) u → H q = some u → RwF H vs gs → RwF H (.ref q :: vs) (g :: gs)
theorem RwF.same {H H' : Hp} (k : Same H H') : ∀ {vs : List V} {gs : List (List Nat)}, RwF H vs gs → RwF H' vs gs
  | _, _, .nil => .nil
  | _, _, .cons f h r => .cons f (k _ _ h) (r.same k)
theorem RwF.put {H : Hp} {l : Addr} {ys : List V} {o : HO} (hl : H l = some (.lst ys)) : ∀ {vs : List V} {gs : List (List Nat)}, RwF H vs gs → RwF (L2.upd H l o) vs gs
  | _, _, .nil => .nil
  | _, _, .cons f h r => .cons f (by rw [upd_ne (f.ne h hl)]; exact h) (r.put hl)
theorem RwF.len {H : Hp} : ∀ {vs : List V} {gs : List (List Nat)}, RwF H vs gs → vs.length = gs.length
  | _, _, .nil => rfl
  | _, _, .cons _ _ r => by rw [List.length_cons, List.length_cons, r.len]
theorem RwF.app {H : Hp} {ws : List V} {hs : List (List Nat)} (h2 : RwF H ws hs) : ∀ {vs : List V} {gs : List (List Nat)}, RwF H vs gs → RwF H (vs ++ ws) (gs ++ hs)
  | _, _, .nil => h2
  | _, _, .cons f h r => .cons f h (RwF.app h2 r)
theorem RwF.snoc {H : Hp} {q : Addr} {g : List Nat} {u : HO} {vs : List V} {gs : List (List Nat)} (r : RwF H vs gs) (f : fzO (iV g) u) (h : H q = some u) : RwF H (vs ++ [.ref q]) (gs ++ [g]) := RwF.app (.cons f h .nil) r
theorem RwF.at {H : Hp} : ∀ {vs : List V} {gs : List (List Nat)} {i : Nat} {x : V}, RwF H vs gs → vs[i]? = some x → ∃ (q : Addr) (g : List Nat) (u : HO), x = .ref q ∧ fzO (iV g) u ∧ H q = some u ∧ gs[i]? = some g
  | _, _, _, _, .nil, e => by cases e
  | _, _, 0, _, .cons f h r, e => by
    cases e
    exact ⟨_, _, _, rfl, f, h, rfl⟩
  | _, _, i + 1, _, .cons _ _ r, e => r.at (i := i) (by simpa using e)
theorem RwF.dp {K : PySem.W.Frag} {H : Hp} : ∀ {vs : List V} {gs : List (List Nat)}, RwF H vs gs → DpAll K H vs ((gs.map nI).map tpD)
  | _, _, .nil => .nil
  | _, _, .cons (g := g) f h r => by
    rw [iV_eq] at f
    exact .cons (.tup (f.sq h) (dpInts _ _ _)) r.dp
def spTuples : Sp := fun vs H Q _ => ∃ n k : Nat, vs = [.int n, .int k] ∧ n ≤ 6 ∧ k ≤ 6 ∧ ∀ (F : Addr) (ws : List V) (H' : Hp), Same H H' → H' F = some (.lst ws) → RwF H' ws (tps n k) → Q (.ref F) H'
def spRises (K : PySem.W.Frag) : Sp := fun vs H Q _ => ∃ (l q r : Addr) (ts : List Addr) (rows : List (List Int)) (ss g : List Nat), vs = [.ref l, .ref q, .ref r] ∧ H l = some (.lst (ts.map V.ref)) ∧ TpAll H ts rows ∧ Rows rows ∧ SqT K H q (iV ss) ∧ SqT K H r (iV g) ∧ g.length = ss.length ∧ ss.length ≤ 6 ∧ (∀ s ∈ ss, s < wdt rows) ∧ (∀ p ∈ g, p < rows.length) ∧
  ∀ (F : Addr) (H' : Hp), Same H H' → H' F = some (.lst ((rss rows ss g).map V.int)) → Q (.ref F) H'
theorem iV_get {l : List Nat} {i s : Nat} (h : l[i]? = some s) : atI (iV l) (i : Int) = some (.int (s : Nat)) := atI_nat (j := i) (by unfold iV; rw [List.getElem?_map, h]; rfl)
theorem tp_get {H : Hp} {ts : List Addr} {rows : List (List Int)} (tp : TpAll H ts rows) {p : Nat} (lp : p < rows.length) : ∃ (t : Addr) (ns : List Int), ts[p]? = some t ∧ rows[p]? = some ns ∧ H t = some (.tup (ns.map V.int)) := by
  have l := tp.1
  have e1 : ts[p]? = some ts[p] := List.getElem?_eq_getElem (by omega)
  have e2 : rows[p]? = some rows[p] := List.getElem?_eq_getElem lp
  exact ⟨_, _, e1, e2, tp.2 p _ _ e1 e2⟩
section
variable {P : Program} {w : World} {K : PySem.W.Frag} {mg : Str → Option Value} {base : Heap} {CShare CDivision CNoPerson : Addr}
abbrev st_l_tuples : Stmt := top 53
theorem sc_l_tuples : FnScope ["_law_many", "_law_long", "_law_found", "_law_turn", "_law_longer", "_law_old", "_law_one"] ["_law_many", "_law_long"] (defScope st_l_tuples) := ⟨rfl, rfl, rfl, by decide +kernel, rfl, by decide +kernel, by decide +kernel⟩
theorem ok_tuples (B : Bn mg) (D : Df K mg "_law_tuples" st_l_tuples ["_law_many", "_law_long"]) : Cal P w K mg base 2 "_law_tuples" ["_law_many", "_law_long"] spTuples := by
  refine D.cal sc_l_tuples (fun vs H Q E h => ?_) (fun f cdv A out s H vs Q E hr h => ?_)
  · obtain ⟨n, k, rfl, _⟩ := h
    rfl
  obtain ⟨n, k0, rfl, n6, k6, k⟩ := h
  refine ⟨_, (pss_cons (ps_set (i := 2) sc_l_tuples.nd rfl (.inl rfl) (pe_lst (pa_cons (pe_tupF pa_nil) pa_nil)))
   (pss_cons (ps_for PassesOwn.never rfl (pi_range1 (by rfl) B.n_range (pa_cons (pv 1) pa_nil)) (pg_name (i := 3) sc_l_tuples.nd rfl (.inl rfl))
   (pss_cons (ps_set (i := 4) sc_l_tuples.nd rfl (.inl rfl) (pe_lst pa_nil))
   (pss_cons (ps_for PassesOwn.never rfl (pi_list (pv 2)) (pg_name (i := 5) sc_l_tuples.nd rfl (.inr rfl))
   (pss_one (ps_expr (pe_bm PySem.F.plainAttrs_list PySem.F.slot_list_extend PySem.F.type_list_extend mt_extend (pv 4) (pa_cons (pe_lc (own := [("_law_one", 6)]) (g := gName 6) rfl sc_l_tuples.nd (pi_range1 (by rfl) B.n_range (pa_cons (pv 0) pa_nil)) (blkOk_by (N := ["_law_many", "_law_long", "_law_found", "_law_turn", "_law_longer", "_law_old", "_law_one"]) (sc := defScope st_l_tuples) (by decide +kernel)) (fun _ _ _ _ _ => (pg_name (i := 6) sc_l_tuples.nd rfl (.inl rfl))) (fun _ _ _ _ _ => (pts_one (pt_cmpR (show OpR _ (compareOp .NotIn) (rIn K true) from op_notIn_seq) (pv 6) (pv 5) (by rfl)))) (fun _ _ _ _ _ => (pe_op (show OpR _ (binaryOp .Add) (rCatF K) from op_catF) (pv 5) (pe_tupF (pa_cons (pv 6) pa_nil))))) pa_nil)))))
   (pss_one (ps_set (i := 2) sc_l_tuples.nd rfl (.inl rfl) (pv 4))))))
   (pss_one (ps_ret (pv 2))))), ?_⟩
  refine ⟨Nat.zero_le _, fun e u0 he f0 => ?_⟩
  generalize hH1 : upd H e _ = H1
  obtain ⟨k1, e1⟩ := alloc hH1 he
  clear hH1
  refine ⟨(by show 1 ≤ sizeLine; decide), fun F hF => ?_⟩
  generalize hH2 : upd H1 F _ = H2
  obtain ⟨k2, e2⟩ := alloc hH2 hF
  clear hH2
  refine ⟨_, rfl, k0, rfl, by omega, by omega, ?_⟩
  refine for_range (lo := 0) (n := k0) (fun i σ H' => ∃ (v3 v4 v5 : Option V) (F' : Addr) (ws : List V), σ = [some (.int n), some (.int k0), some (.ref F'), v3, v4, v5, none] ∧ Same H H' ∧ H' F' = some (.lst ws) ∧ RwF H' ws (tps n i))
    ⟨none, none, none, F, _, rfl, k1.trans k2, e2, .cons f0 (k2 _ _ e1) .nil⟩ ?_ ?_
  · rintro i σ H3 hi ⟨v3, v4, v5, F', ws, rfl, k3, hF3, rn⟩
    have lw := rn.len
    have lt := len_tps n6 i
    have l6 : 6 ^ i ≤ 7776 := Nat.le_trans (Nat.pow_le_pow_right (by decide) (show i ≤ 5 by omega)) (by decide)
    generalize htp : tps n i = gs at *
    refine ⟨Nat.zero_le _, fun L hL => ?_⟩
    have hLH : H L = none := by
      cases z : H L with
      | none => rfl
      | some o => rw [k3 _ _ z] at hL; cases hL
    generalize hH4 : upd H3 L _ = H4
    obtain ⟨k4, e4⟩ := alloc hH4 hL
    clear hH4
    have hF4 := k4 _ _ hF3
    refine ⟨_, rfl, F', rfl, ⟨_, SqL.of hF4⟩, for_list (K := K) (a := F') (xs := ws) (fun j σ H' => ∃ v5 : Option V, σ = [some (.int n), some (.int k0), some (.ref F'), some (.int (0 + i)), some (.ref L), v5, none] ∧ Same H3 H' ∧ ∃ vs : List V, H' L = some (.lst vs) ∧ RwF H' vs (grow (oth n) (gs.take j))) ⟨v5, rfl, k4, [], e4, .nil⟩ (fun j σ H' _ ⟨_, _, q, _⟩ => SqL.of (q _ _ hF3)) ?_ ?_⟩
    · rintro j x σ H5 hx ⟨v5, rfl, k5, vs, hL5, r5⟩
      obtain ⟨q, c, uq, rfl, fq, hq, en⟩ := rn.at hx
      have hq5 := k5 _ _ hq
      have lj : j < ws.length := (List.getElem?_eq_some_iff.mp hx).1
      have lc : c.length = i := (mem_tps.mp (by rw [htp]; exact List.mem_of_getElem? en)).2.2
      refine ⟨_, rfl, .inl ⟨rfl, _, SqL.of hL5⟩, _, rfl, n, rfl, by omega, by omega, fun D hD => lc_range (lo := 0) (n := n) (fun a H' => Same H5 H' ∧ ∃ us : List V, H' D = some (.lst us) ∧ RwF H' us (((List.range a).filter fun s => decide (s ∉ c)).map fun s => c ++ [s])) ⟨same_new (Same.refl _) hD, [], upd_same, .nil⟩ (fun a H6 ha q6 => ⟨rfl, ?_⟩) (fun H6 q6 => ?_)⟩
      · obtain ⟨k6', us, h6, r6⟩ := q6
        have e0 : ((0 : Int) + a) = ((a : Nat) : Int) := by omega
        rw [e0]
        have hq6 := k6' _ _ hq5
        refine ⟨_, rfl, _, rfl, q, _, rfl, .inr (fq.sq hq6), rfl, flatI c, _, rfl, ?_⟩
        have fl : (List.range (a + 1)).filter (fun s => decide (s ∉ c)) = (List.range a).filter (fun s => decide (s ∉ c)) ++ (if a ∈ c then [] else [a]) := by
          rw [List.range_succ, List.filter_append]
          congr 1
          by_cases z : a ∈ c <;> simp [z]
        cases ein : inV (.int (a : Nat)) (iV c) with
        | true =>
          have m := inNat.mp ein
          refine iteF ⟨k6', us, h6, ?_⟩
          rw [fl, if_pos m, List.append_nil]
          exact r6
        | false =>
          have m : a ∉ c := fun z => by
            rw [inNat.mpr z] at ein
            cases ein
          refine iteT ?_
          refine ⟨_, rfl, _, rfl, (by show 1 ≤ sizeLine; decide), fun z uz hz fz => ?_⟩
          generalize hH7 : upd H6 z _ = H7
          obtain ⟨k7, e7⟩ := alloc hH7 hz
          clear hH7
          refine caF (k7 _ _ hq6) fq e7 fz (by rw [iV_len, lc]; show _ + 1 ≤ 1000; omega) fun y H8 u8 k8 e8 f8 => ?_
          have f8 : fzO (iV (c ++ [a])) u8 := by
            rw [iV_app]
            exact f8
          have k68 := k7.trans k8
          have h8 := k68 _ _ h6
          have lu := r6.len
          rw [List.length_map] at lu
          have lf := List.length_filter_le (fun s => decide (s ∉ c)) (List.range a)
          rw [List.length_range] at lf
          refine ⟨us, h8, size_lt' (by omega), same_put (k6'.trans k68) hD, us ++ [.ref y], upd_same, ?_⟩
          rw [fl, if_neg m, List.map_append]
          exact ((r6.same k68).put h8).snoc f8 (by rw [upd_ne (f8.ne e8 h8)]; exact e8)
      · obtain ⟨k6', us, h6, r6⟩ := q6
        have hL6 := k6' _ _ hL5
        have lv := r5.len
        have lu := r6.len
        have z1 : (grow (oth n) (gs.take j)).length ≤ 6 * (gs.take j).length := grow_size fun c _ => Nat.le_trans (List.length_filter_le _ _) (by rw [List.length_range]; exact n6)
        have z2 : (gs.take j).length ≤ gs.length := by rw [List.length_take]; omega
        rw [List.length_map] at lu
        have lf := List.length_filter_le (fun s => decide (s ∉ c)) (List.range n)
        rw [List.length_range] at lf
        refine ⟨L, D, _, _, rfl, rfl, hL6, h6, Nat.le_of_lt (Nat.lt_of_le_of_lt (show vs.length + us.length ≤ 1000000 by omega) (by decide)), ?_⟩
        refine ⟨_, rfl, same_put (k5.trans k6') hL, vs ++ us, upd_same, ?_⟩
        have eg : grow (oth n) (gs.take (j + 1)) = grow (oth n) (gs.take j) ++ ((oth n c).map fun s => c ++ [s]) := by
          rw [List.take_add_one, en, grow_app]
          show _ ++ grow (oth n) [c] = _
          rw [grow_cons]
          show _ ++ (_ ++ []) = _
          rw [List.append_nil]
        rw [eg]
        exact RwF.app (r6.put hL6) ((r5.same k6').put hL6)
    · rintro σ H5 ⟨v5, rfl, k5, vs, hL5, r5⟩
      rw [lw, List.take_length] at r5
      refine ⟨_, rfl, _, _, _, L, vs, rfl, k3.trans k5, hL5, ?_⟩
      show RwF H5 vs (grow (oth n) (tps n i))
      rw [htp]
      exact r5
  · rintro σ H3 ⟨v3, v4, v5, F', ws, rfl, k3, hF3, rn⟩
    exact ⟨_, rfl, k F' ws H3 k3 hF3 rn⟩
abbrev st_l_rises : Stmt := top 54
theorem sc_l_rises : FnScope ["_law_lines_here", "_law_states", "_law_people_here", "_law_found", "_law_at", "_law_row", "_law_end"] ["_law_lines_here", "_law_states", "_law_people_here"] (defScope st_l_rises) := ⟨rfl, rfl, rfl, by decide +kernel, rfl, by decide +kernel, by decide +kernel⟩
theorem ok_lrises (B : Bn mg) (D : Df K mg "_law_rises" st_l_rises ["_law_lines_here", "_law_states", "_law_people_here"]) : Cal P w K mg base 2 "_law_rises" ["_law_lines_here", "_law_states", "_law_people_here"] (spRises K) := by
  refine D.cal sc_l_rises (fun vs H Q E h => ?_) (fun f cdv A out s H vs Q E hr h => ?_)
  · obtain ⟨l, q, r, ts, rows, ss, g, rfl, _⟩ := h
    rfl
  obtain ⟨l, q, r, ts, rows, ss, g, rfl, hl, tp, rw_, hq, hr', lg, l6, lt, lp, k⟩ := h
  refine ⟨_, (pss_cons (ps_set (i := 3) sc_l_rises.nd rfl (.inl rfl) (pe_lst pa_nil))
   (pss_cons (ps_for PassesOwn.never rfl (pi_range1 (by rfl) B.n_range (pa_cons (pe_callB call_len_seq (by rfl) B.n_len (by decide +kernel) (pa_cons (pv 1) pa_nil)) pa_nil)) (pg_name (i := 4) sc_l_rises.nd rfl (.inl rfl))
   (pss_cons (ps_par (i := 5) (j := 6) (by rfl) sc_l_rises.nd rfl rfl (by decide) rfl rfl (pa_cons (pe_ix ix_list (pv 0) (pe_ix ix_tup (pv 2) (pv 4) (fun _ _ => rfl)) (fun _ _ => rfl)) (pa_cons (pe_ix ix_tup (pv 1) (pe_op op_mod (pe_op op_add (pv 4) pe_int) (pe_callB call_len_seq (by rfl) B.n_len (by decide +kernel) (pa_cons (pv 1) pa_nil))) (fun _ _ => rfl)) pa_nil)) (by rfl))
   (pss_one (ps_expr (pe_bm PySem.F.plainAttrs_list PySem.F.slot_list_append PySem.F.type_list_append mt_append (pv 3) (pa_cons (pe_op op_sub (pe_ix ix_tup (pv 5) (pv 6) (fun _ _ => rfl)) (pe_ix ix_tup (pv 5) (pe_ix ix_tup (pv 1) (pv 4) (fun _ _ => rfl)) (fun _ _ => rfl))) pa_nil))))))
   (pss_one (ps_ret (pv 3))))), ?_⟩
  refine ⟨Nat.zero_le _, fun F hF => ?_⟩
  generalize hH1 : upd H F _ = H1
  obtain ⟨k1, e1⟩ := alloc hH1 hF
  clear hH1
  have il := iV_len ss
  refine ⟨_, rfl, q, _, rfl, .inr (sqT_same k1 hq), _, rfl, by omega, by omega, ?_⟩
  rw [show ((iV ss).length : Int).toNat = ss.length by omega]
  refine for_range (lo := 0) (n := ss.length) (fun i σ H' => ∃ v4 v5 v6 : Option V, σ = [some (.ref l), some (.ref q), some (.ref r), some (.ref F), v4, v5, v6] ∧ Same H H' ∧ H' F = some (.lst (((rss rows ss g).take i).map V.int))) ⟨none, none, none, rfl, k1, e1⟩ ?_ ?_
  · rintro i σ H2 hi ⟨v4, v5, v6, rfl, k2, h2⟩
    have e0 : ((0 : Int) + i) = ((i : Nat) : Int) := by omega
    rw [e0]
    have gi : g[i]? = some g[i] := List.getElem?_eq_getElem (by omega)
    generalize g[i] = p at gi
    obtain ⟨t1, ns, et, en, hn⟩ := tp_get tp (lp p (List.mem_of_getElem? gi))
    have hn2 := k2 _ _ hn
    have lw := rw_.wdt (List.mem_of_getElem? en)
    have la : sA ss i < wdt rows := lt _ (List.mem_of_getElem? (sA_at hi))
    have lb : sB ss i < wdt rows := lt _ (List.mem_of_getElem? (sB_at hi))
    have hq2 := sqT_same k2 hq
    have em : (((i : Nat) : Int) + 1) % ((iV ss).length : Int) = (((i + 1) % ss.length : Nat) : Int) := by
      rw [il, Int.natCast_emod]
      rfl
    refine ⟨_, rfl, _, rfl, _, rfl, r, _, _, _, rfl, rfl, sqT_same k2 hr', iV_get gi, l, _, _, _, rfl, rfl, SqL.of (k2 _ _ hl), atI_nat (j := p) (by rw [List.getElem?_map, et]; rfl), ?_⟩
    refine ⟨_, rfl, _, rfl, _, _, rfl, rfl, _, rfl, q, _, rfl, .inr (hq2), _, _, rfl, rfl, by omega, q, _, _, _, rfl, rfl, hq2, by rw [em]; exact iV_get (sB_at hi), ?_⟩
    refine ⟨_, _, rfl, ?_⟩
    refine ⟨_, rfl, .inl ⟨rfl, _, SqL.of h2⟩, ?_⟩
    refine ⟨_, rfl, _, rfl, t1, _, _, _, rfl, rfl, SqT.of hn2, getI (by omega), _, rfl, _, rfl, _, rfl, q, _, _, _, rfl, rfl, hq2, iV_get (sA_at hi), t1, _, _, _, rfl, rfl, SqT.of hn2, getI (by omega), _, _, rfl, rfl, ?_⟩
    refine ⟨F, _, _, rfl, rfl, h2, size_lt' (by rw [List.length_map, List.length_take]; omega), ?_⟩
    refine ⟨_, _, _, rfl, same_put k2 hF, ?_⟩
    have er : (rss rows ss g)[i]? = some (gI ns (sB ss i) - gI ns (sA ss i)) := by
      unfold rss
      rw [List.getElem?_map, List.getElem?_range hi]
      show some (rs rows ((g[i]?).getD 0) _ _) = _
      rw [gi]
      unfold rs gI
      simp [en]
    rw [upd_same, List.take_add_one, er, List.map_append]
    rfl
  · rintro σ H2 ⟨v4, v5, v6, rfl, k2, h2⟩
    have z : (rss rows ss g).take ss.length = rss rows ss g := List.take_of_length_le (by unfold rss; simp)
    rw [z] at h2
    exact ⟨_, rfl, k F H2 k2 h2⟩
end
end Pl
namespace Pl
open PySem PySem.Spec PyProof.Rows L2
theorem canTp : ∀ gs : List (List Int), PyData.canLayAll0 (gs.map tpD) = true
  | [] => rfl
  | g :: gs => by
    have h := canTp gs
    have h2 : ∀ l : List Int, PyData.canLayAll0 (l.map PyData.int) = true := fun l => by
      induction l with
      | nil => rfl
      | cons x l ih => simp only [List.map_cons, PyData.canLayAll0, PyData.canLay0, ih, Bool.and_self]
    simp only [List.map_cons, PyData.canLayAll0, tpD, PyData.canLay0, h2 g, Bool.true_and]
    exact h
theorem shapedTps (gs : List (List Int)) : SeqAt.shaped (.list (gs.map tpD)) = true := by
  show (PyData.canLay0 (.list (gs.map tpD)) && decide (PyData.depth (.list (gs.map tpD)) ≤ 64)) = true
  have h1 := canTp gs
  have h2 := depthTp gs
  have c : PyData.canLay0 (.list (gs.map tpD)) = true := by
    simp only [PyData.canLay0]
    exact h1
  have d : PyData.depth (.list (gs.map tpD)) ≤ 64 := by
    simp only [PyData.depth]
    omega
  rw [c, decide_eq_true d]
  rfl
theorem eqvNil (ds : List PyData) : PyData.eqv (.list ds) (.list []) = decide (ds = []) := by
  cases ds <;> simp [PyData.eqv, PyData.eqvAll]
theorem pls_nil {ab : Nat → List Nat} {i : Nat} (h : pls ab i = []) : ∀ k, i ≤ k → pls ab k = [] := fun k le => by
  induction k with
  | zero =>
    have : i = 0 := by omega
    subst this
    exact h
  | succ k ih =>
    by_cases c : i = k + 1
    · subst c
      exact h
    · show grow _ (pls ab k) = []
      rw [ih (by omega)]
      rfl
def bigB (rows : List (List Int)) (ss g : List Nat) : Bool := (rss rows ss g).any fun x => decide (2 ≤ x)
theorem bigB_iff {rows : List (List Int)} {ss g : List Nat} : bigB rows ss g = true ↔ Big rows ss g := by
  unfold bigB rss Big
  rw [List.any_eq_true]
  constructor
  · rintro ⟨x, hx, h⟩
    obtain ⟨i, hi, rfl⟩ := List.mem_map.mp hx
    exact ⟨i, List.mem_range.mp hi, of_decide_eq_true h⟩
  · rintro ⟨i, hi, h⟩
    exact ⟨_, List.mem_map.mpr ⟨i, List.mem_range.mpr hi, rfl⟩, decide_eq_true h⟩
theorem able_lt {rows : List (List Int)} {ss : List Nat} (i : Nat) : (able rows ss i).Pairwise (· < ·) := List.Pairwise.filter _ List.pairwise_lt_range
theorem able_len {rows : List (List Int)} {ss : List Nat} (h : rows.length ≤ 4) (i : Nat) : (able rows ss i).length ≤ 4 := Nat.le_trans (List.length_filter_le _ _) (by rw [List.length_range]; exact h)
def spLPeople (K : PySem.W.Frag) : Sp := fun vs H Q _ => ∃ (l q : Addr) (ts : List Addr) (rows : List (List Int)) (ss : List Nat), vs = [.ref l, .ref q] ∧ H l = some (.lst (ts.map V.ref)) ∧ TpAll H ts rows ∧ Rows rows ∧ SqT K H q (iV ss) ∧ 1 ≤ ss.length ∧ ss.length ≤ 6 ∧ (∀ s ∈ ss, s < wdt rows) ∧
  (∀ H', Same H H' → (∀ g, ¬ Fits rows (List.range rows.length) ss g) → Q .non H') ∧ (∀ (r : Addr) (g : List Nat) (u : HO) (H' : Hp), Same H H' → fzO (iV g) u → H' r = some u → Fits rows (List.range rows.length) ss g → (∀ g', Fits rows (List.range rows.length) ss g' → lx (nI g') (nI g) = false) → Q (.ref r) H')
section
variable {P : Program} {w : World} {K : PySem.W.Frag} {mg : Str → Option Value} {base : Heap} {CShare CDivision CNoPerson : Addr}
abbrev st_l_people : Stmt := top 55
theorem sc_l_people : FnScope ["_law_lines_here", "_law_states", "_law_found", "_law_long", "_law_best", "_law_at", "_law_gains", "_law_able", "_law_longer", "_law_old", "_law_row", "_law_person", "_law_people_here"] ["_law_lines_here", "_law_states"] (defScope st_l_people) := ⟨rfl, rfl, rfl, by decide +kernel, rfl, by decide +kernel, by decide +kernel⟩
theorem ok_lpeople (B : Bn mg) (c_l_rises : Cal P w K mg base 2 "_law_rises" ["_law_lines_here", "_law_states", "_law_people_here"] (spRises K)) (D : Df K mg "_law_people" st_l_people ["_law_lines_here", "_law_states"]) : Cal P w K mg base 3 "_law_people" ["_law_lines_here", "_law_states"] (spLPeople K) := by
  refine D.cal sc_l_people (fun vs H Q E h => ?_) (fun f cdv A out s H vs Q E hr h => ?_)
  · obtain ⟨l, q, ts, rows, ss, rfl, _⟩ := h
    rfl
  obtain ⟨l, q, ts, rows, ss, rfl, hl, tp, rw_, hq, l1, l6, lt, kN, kY⟩ := h
  refine ⟨_, (pss_cons (ps_asg (pe_tup (pa_cons (pe_lst (pa_cons (pe_tupF pa_nil) pa_nil)) (pa_cons (pe_callB call_len_seq (by rfl) B.n_len (by decide +kernel) (pa_cons (pv 1) pa_nil)) (pa_cons pe_int pa_nil)))) (pg_tup rfl (pgs_cons (pg_name (i := 2) sc_l_people.nd rfl (.inl rfl)) (pgs_cons (pg_name (i := 3) sc_l_people.nd rfl (.inr rfl)) (pgs_cons (pg_name (i := 4) sc_l_people.nd rfl (.inl rfl)) pgs_nil)))))
   (pss_cons (ps_for PassesOwn.never rfl (pi_range1 (by rfl) B.n_range (pa_cons (pv 3) pa_nil)) (pg_name (i := 5) sc_l_people.nd rfl (.inr rfl))
   (pss_cons (ps_set (i := 6) sc_l_people.nd rfl (.inr rfl) (pe_lc (own := [("_law_row", 10)]) (g := gName 10) rfl sc_l_people.nd (pi_list (pv 0)) (blkOk_by (N := ["_law_lines_here", "_law_states", "_law_found", "_law_long", "_law_best", "_law_at", "_law_gains", "_law_able", "_law_longer", "_law_old", "_law_row", "_law_person", "_law_people_here"]) (sc := defScope st_l_people) (by decide +kernel)) (fun _ _ _ _ _ => (pg_name (i := 10) sc_l_people.nd rfl (.inl rfl))) (fun _ _ _ _ _ => pts_nil) (fun _ _ _ _ _ => (pe_op op_sub (pe_ix (show IxR _ (rIxT K) from ix_tup) (pv 10) (pe_ix (show IxR _ (rIxT K) from ix_tup) (pv 1) (pe_op op_mod (pe_op op_add (pv 5) pe_int) (pv 3)) (fun _ _ => rfl)) (fun _ _ => rfl)) (pe_ix (show IxR _ (rIxT K) from ix_tup) (pv 10) (pe_ix (show IxR _ (rIxT K) from ix_tup) (pv 1) (pv 5) (fun _ _ => rfl)) (fun _ _ => rfl))))))
   (pss_cons (ps_setLc (i := 7) (own := [("_law_person", 11)]) (g := gName 11) rfl sc_l_people.nd rfl rfl (sw_true rfl rfl rfl (by decide +kernel)) (pi_range1 (by rfl) B.n_range (pa_cons (pe_callB call_len_seq (by rfl) B.n_len (by decide +kernel) (pa_cons (pv 0) pa_nil)) pa_nil)) (blkOk_by (N := ["_law_lines_here", "_law_states", "_law_found", "_law_long", "_law_best", "_law_at", "_law_gains", "_law_able", "_law_longer", "_law_old", "_law_row", "_law_person", "_law_people_here"]) (sc := defScope st_l_people) (by decide +kernel)) (fun _ _ _ _ _ => (pg_name (i := 11) sc_l_people.nd rfl (.inl rfl))) (fun _ _ _ _ _ => (pts_one (pt_cmpR op_ge (pe_ix (show IxR _ (rIxL K) from ix_list) (pv 6) (pv 11) (fun _ _ => rfl)) pe_int (nomark _)))) (fun _ _ _ _ _ => (pv 11)))
   (pss_cons (ps_par (i := 4) (j := 8) (by rfl) sc_l_people.nd rfl rfl (by decide) rfl rfl (pa_cons (pe_callB (call_max2 rfl) (by rfl) B.n_max (by decide +kernel) (pa_cons (pv 4) (pa_cons (pe_callB (cr_max rfl) (by rfl) B.n_max (by decide +kernel) (pa_cons (pv 6) pa_nil)) pa_nil))) (pa_cons (pe_lst pa_nil) pa_nil)) (by rfl))
   (pss_cons (ps_for PassesOwn.never rfl (pi_list (pv 2)) (pg_name (i := 9) sc_l_people.nd rfl (.inr rfl))
   (pss_one (ps_expr (pe_bm PySem.F.plainAttrs_list PySem.F.slot_list_extend PySem.F.type_list_extend mt_extend (pv 8) (pa_cons (pe_lc (own := [("_law_person", 11)]) (g := gName 11) rfl sc_l_people.nd (pi_list (pv 7)) (blkOk_by (N := ["_law_lines_here", "_law_states", "_law_found", "_law_long", "_law_best", "_law_at", "_law_gains", "_law_able", "_law_longer", "_law_old", "_law_row", "_law_person", "_law_people_here"]) (sc := defScope st_l_people) (by decide +kernel)) (fun _ _ _ _ _ => (pg_name (i := 11) sc_l_people.nd rfl (.inl rfl))) (fun _ _ _ _ _ => pts_nil) (fun _ _ _ _ _ => (pe_op (show OpR _ (binaryOp .Add) (rCatF K) from op_catF) (pv 9) (pe_tupF (pa_cons (pv 11) pa_nil))))) pa_nil)))))
   (pss_cons (ps_set (i := 2) sc_l_people.nd rfl (.inl rfl) (pv 8))
   (pss_one (ps_if (pt_cmpR (op_eqD hr.units) (pv 2) (pe_lst pa_nil) (nomark _)) (pss_one (ps_ret pe_non)) pss_nil))))))))
   (pss_cons (ps_if (pt_cmpR op_lt (pv 4) pe_int (nomark _)) (pss_one (ps_ret pe_non)) pss_nil)
   (pss_one (ps_ret (pe_ix ix_list (pe_lc (own := [("_law_people_here", 12)]) (g := gName 12) rfl sc_l_people.nd (pi_list (pv 2)) (blkOk_by (N := ["_law_lines_here", "_law_states", "_law_found", "_law_long", "_law_best", "_law_at", "_law_gains", "_law_able", "_law_longer", "_law_old", "_law_row", "_law_person", "_law_people_here"]) (sc := defScope st_l_people) (by decide +kernel)) (fun _ _ _ _ _ => (pg_name (i := 12) sc_l_people.nd rfl (.inl rfl))) (fun _ _ _ _ _ => (pts_one (pt_cmpR op_ge (pe_callB (show CallR _ (.builtin "max") (rMax K) from cr_max rfl) (by rfl) B.n_max (by decide +kernel) (pa_cons (pe_fn c_l_rises (hr.mono (by decide)) (pa_cons (pv 0) (pa_cons (pv 1) (pa_cons (pv 12) pa_nil)))) pa_nil)) pe_int (nomark _)))) (fun _ _ _ _ _ => (pv 12))) pe_int (fun _ _ => rfl))))))), ?_⟩
  have p2 := rw_.1
  have p4 := rw_.2.1
  have ln := tp.1
  have il := iV_len ss
  refine ⟨Nat.zero_le _, fun e u0 he f0 => ?_⟩
  generalize hH1 : upd H e _ = H1
  obtain ⟨k1, e1⟩ := alloc hH1 he
  clear hH1
  refine ⟨(by show 1 ≤ sizeLine; decide), fun F hF => ?_⟩
  generalize hH2 : upd H1 F _ = H2
  obtain ⟨k2, e2⟩ := alloc hH2 hF
  clear hH2
  refine ⟨_, rfl, q, _, rfl, .inr (sqT_same (k1.trans k2) hq), ?_⟩
  refine ⟨(by show 3 ≤ sizeLine; decide), fun T hT => ?_⟩
  generalize hH3 : upd H2 T _ = H3
  obtain ⟨k3, eT⟩ := alloc hH3 hT
  clear hH3
  refine ⟨T, _, rfl, SqT.of eT, rfl, _, _, rfl, _, _, rfl, _, _, rfl, rfl, ?_⟩
  rw [il]
  have k03 := k1.trans (k2.trans k3)
  refine ⟨_, rfl, _, rfl, by omega, by omega, ?_⟩
  rw [show ((ss.length : Nat) : Int).toNat = ss.length by omega]
  refine for_range (lo := 0) (n := ss.length) (fun i σ H' => ∃ (v5 v6 v7 v8 v9 : Option V) (F' : Addr) (ws : List V) (best : Int), σ = [some (.ref l), some (.ref q), some (.ref F'), some (.int (ss.length : Nat)), some (.int best), v5, v6, v7, v8, v9, none, none, none] ∧ Same H H' ∧ H' F' = some (.lst ws) ∧ RwF H' ws (pls (able rows ss) i) ∧ pls (able rows ss) i ≠ [] ∧ (2 ≤ best ↔ ∃ j p, j < i ∧ p < rows.length ∧ 2 ≤ rs rows p (sA ss j) (sB ss j)))
    ⟨none, none, none, none, none, F, _, 0, rfl, k03, k3 _ _ e2, .cons f0 ((k2.trans k3) _ _ e1) .nil, (fun z => nomatch z), ⟨fun z => by omega, fun ⟨j, p, z, _⟩ => absurd z (Nat.not_lt_zero j)⟩⟩ ?_ ?_
  · rintro i σ H4 hi ⟨v5, v6, v7, v8, v9, F', ws, best, rfl, k4, hF4, rn, ne, hb⟩
    have e0 : ((0 : Int) + i) = ((i : Nat) : Int) := by omega
    rw [e0]
    have lw := rn.len
    have lpl := len_pls (able_len (ss := ss) p4) i
    have l4 : 4 ^ i ≤ 1024 := Nat.le_trans (Nat.pow_le_pow_right (by decide) (show i ≤ 5 by omega)) (by decide)
    have hl4 := k4 _ _ hl
    have hq4 := sqT_same k4 hq
    have la : sA ss i < wdt rows := lt _ (List.mem_of_getElem? (sA_at hi))
    have lb : sB ss i < wdt rows := lt _ (List.mem_of_getElem? (sB_at hi))
    have em : (((i : Nat) : Int) + 1) % (((ss.length : Nat)) : Int) = (((i + 1) % ss.length : Nat) : Int) := by
      rw [Int.natCast_emod]
      rfl
    refine ⟨_, rfl, l, rfl, ⟨_, SqL.of hl4⟩, fun D hD => lc_list (K := K) (a := l) (xs := ts.map V.ref) (fun c H' => Same H4 H' ∧ H' D = some (.lst (((List.range c).map fun p => rs rows p (sA ss i) (sB ss i)).map V.int))) ⟨same_new (Same.refl _) hD, upd_same⟩ (fun c H' _ r => SqL.of (r.1 _ _ hl4)) (fun c x H5 hx ⟨k5, h5⟩ => ⟨rfl, tyes ?_⟩) (fun H5 q5 => ?_)⟩
    · have lc : c < rows.length := by
        have := (List.getElem?_eq_some_iff.mp hx).1
        rw [List.length_map] at this
        omega
      obtain ⟨t1, ns, et, en, hn⟩ := tp_get tp lc
      rw [List.getElem?_map, et] at hx
      obtain rfl : V.ref t1 = x := Option.some.inj hx
      have lw' := rw_.wdt (List.mem_of_getElem? en)
      have hn5 := (k4.trans k5) _ _ hn
      have hq5 := sqT_same k5 hq4
      refine ⟨_, rfl, _, rfl, _, rfl, _, _, rfl, rfl, _, rfl, _, _, rfl, rfl, by omega, q, _, _, _, rfl, rfl, hq5, by rw [em]; exact iV_get (sB_at hi), t1, _, _, _, rfl, rfl, SqT.of hn5, getI (by omega), ?_⟩
      refine ⟨_, rfl, _, rfl, _, rfl, q, _, _, _, rfl, rfl, hq5, iV_get (sA_at hi), t1, _, _, _, rfl, rfl, SqT.of hn5, getI (by omega), _, _, rfl, rfl, ?_⟩
      refine ⟨_, h5, size_lt' (by rw [List.length_map, List.length_map, List.length_range]; omega), same_put k5 hD, ?_⟩
      rw [upd_same, List.range_succ, List.map_append, List.map_append]
      have er : rs rows c (sA ss i) (sB ss i) = gI ns (sB ss i) - gI ns (sA ss i) := by
        unfold rs gI
        simp [en]
      show _ = some (HO.lst (_ ++ [V.int (rs rows c (sA ss i) (sB ss i))]))
      rw [er]
    obtain ⟨k5, h5⟩ := q5
    rw [List.length_map, ln] at h5
    have hl5 := k5 _ _ hl4
    have gat : ∀ p, p < rows.length → atI (((List.range rows.length).map fun p => rs rows p (sA ss i) (sB ss i)).map V.int) (p : Int) = some (.int (rs rows p (sA ss i) (sB ss i))) := fun p lp => atI_nat (j := p) (by rw [List.getElem?_map, List.getElem?_map, List.getElem?_range lp]; rfl)
    refine ⟨_, rfl, l, _, rfl, .inl (SqL.of hl5), ?_⟩
    rw [List.length_map, ln]
    refine ⟨_, rfl, by omega, by omega, fun D2 hD2 => lc_range (lo := 0) (n := rows.length) (fun a H' => Same H5 H' ∧ H' D2 = some (.lst (iV ((List.range a).filter fun p => decide (1 ≤ rs rows p (sA ss i) (sB ss i)))))) ⟨same_new (Same.refl _) hD2, upd_same⟩ (fun a H6 ha ⟨k6, h6⟩ => ⟨rfl, ?_⟩) (fun H6 q6 => ?_)⟩
    · have e00 : ((0 : Int) + a) = ((a : Nat) : Int) := by omega
      rw [e00]
      refine ⟨_, rfl, _, rfl, D, _, _, _, rfl, rfl, SqL.of (k6 _ _ h5), gat a ha, _, _, rfl, rfl, _, rfl, ?_⟩
      have fl : (List.range (a + 1)).filter (fun p => decide (1 ≤ rs rows p (sA ss i) (sB ss i))) = (List.range a).filter (fun p => decide (1 ≤ rs rows p (sA ss i) (sB ss i))) ++ (if 1 ≤ rs rows a (sA ss i) (sB ss i) then [a] else []) := by
        rw [List.range_succ, List.filter_append]
        congr 1
        by_cases z : 1 ≤ rs rows a (sA ss i) (sB ss i) <;> simp [z]
      refine ite2 (fun c => ?_) (fun c => ?_)
      · have c1 : 1 ≤ rs rows a (sA ss i) (sB ss i) := of_decide_eq_true c
        have lf := List.length_filter_le (fun p => decide (1 ≤ rs rows p (sA ss i) (sB ss i))) (List.range a)
        rw [List.length_range] at lf
        refine ⟨_, rfl, _, h6, size_lt' (by rw [iV_len]; omega), same_put k6 hD2, ?_⟩
        rw [upd_same, fl, if_pos c1]
        unfold iV
        rw [List.map_append]
        rfl
      · have c1 : ¬ 1 ≤ rs rows a (sA ss i) (sB ss i) := fun z => c (decide_eq_true z)
        refine ⟨k6, ?_⟩
        rw [fl, if_neg c1, List.append_nil]
        exact h6
    obtain ⟨k6, h6⟩ := q6
    have h6 : H6 D2 = some (.lst (iV (able rows ss i))) := h6
    have k46 := k5.trans k6
    refine ⟨_, rfl, _, rfl, D, (List.range rows.length).map fun p => rs rows p (sA ss i) (sB ss i), rfl, SqL.of (k6 _ _ h5), by rw [List.length_map, List.length_range]; omega, fun m hm mx => ?_⟩
    refine ⟨_, _, rfl, ?_⟩
    refine ⟨Nat.zero_le _, fun L hL => ?_⟩
    generalize hH7 : upd H6 L _ = H7
    obtain ⟨k7, e7⟩ := alloc hH7 hL
    clear hH7
    generalize hb2 : (if m > best then m else best) = b2
    have hb' : 2 ≤ b2 ↔ ∃ j p, j < i + 1 ∧ p < rows.length ∧ 2 ≤ rs rows p (sA ss j) (sB ss j) := by
      have hm2 : 2 ≤ m ↔ ∃ p, p < rows.length ∧ 2 ≤ rs rows p (sA ss i) (sB ss i) := by
        constructor
        · intro z
          obtain ⟨p, hp, rfl⟩ := List.mem_map.mp hm
          exact ⟨p, List.mem_range.mp hp, z⟩
        · rintro ⟨p, hp, z⟩
          have := mx _ (List.mem_map.mpr ⟨p, List.mem_range.mpr hp, rfl⟩)
          omega
      have e : 2 ≤ b2 ↔ 2 ≤ best ∨ 2 ≤ m := by
        rw [← hb2]
        split <;> omega
      rw [e, hb, hm2]
      constructor
      · rintro (⟨j, p, lj, r⟩ | ⟨p, r⟩)
        · exact ⟨j, p, by omega, r⟩
        · exact ⟨i, p, by omega, r⟩
      · rintro ⟨j, p, lj, r⟩
        by_cases z : j = i
        · subst z
          exact .inr ⟨p, r⟩
        · exact .inl ⟨j, p, by omega, r⟩
    refine ⟨_, _, rfl, ?_⟩
    have k47 := k46.trans k7
    have hF7 := k47 _ _ hF4
    have h67 := k7 _ _ h6
    generalize hgs : pls (able rows ss) i = gs at *
    have hL4 : H4 L = none := by
      cases z : H4 L with
      | none => rfl
      | some o => rw [k46 _ _ z] at hL; cases hL
    refine ⟨_, rfl, F', rfl, ⟨_, SqL.of hF7⟩, for_list (K := K) (a := F') (xs := ws) (fun j σ H' => ∃ v9 : Option V, σ = [some (.ref l), some (.ref q), some (.ref F'), some (.int (ss.length : Nat)), some (.int b2), some (.int (i : Nat)), some (.ref D), some (.ref D2), some (.ref L), v9, none, none, none] ∧ Same H6 H' ∧ ∃ vs : List V, H' L = some (.lst vs) ∧ RwF H' vs (grow (fun _ => able rows ss i) (gs.take j))) ⟨v9, rfl, k7, [], e7, .nil⟩ (fun j σ H' _ ⟨_, _, z, _⟩ => SqL.of (z _ _ (k46 _ _ hF4))) ?_ ?_⟩
    · rintro j x σ H8 hx ⟨v9, rfl, k8, vs, hL8, r8⟩
      obtain ⟨u, c, uu, rfl, fu, hu, en⟩ := rn.at hx
      have lj : j < ws.length := (List.getElem?_eq_some_iff.mp hx).1
      have hu8 := (k46.trans k8) _ _ hu
      have lc : c.length = i := (mem_pls.mp (by rw [hgs]; exact List.mem_of_getElem? en)).1
      have h68 := k8 _ _ h6
      refine ⟨_, rfl, .inl ⟨rfl, _, SqL.of hL8⟩, _, rfl, D2, rfl, ⟨_, SqL.of h68⟩, fun D3 hD3 => lc_list (K := K) (a := D2) (xs := iV (able rows ss i)) (fun a H' => Same H8 H' ∧ ∃ us : List V, H' D3 = some (.lst us) ∧ RwF H' us (((able rows ss i).take a).map fun p => c ++ [p])) ⟨same_new (Same.refl _) hD3, [], upd_same, .nil⟩ (fun a H' _ r => SqL.of (r.1 _ _ h68)) (fun a x H9 hx9 ⟨k9, us, h9, r9⟩ => ⟨rfl, tyes ?_⟩) (fun H9 q9 => ?_)⟩
      · obtain ⟨p, rfl, ep⟩ := iV_at hx9
        have hu9 := k9 _ _ hu8
        refine ⟨_, rfl, _, rfl, (by show 1 ≤ sizeLine; decide), fun z uz hz fz => ?_⟩
        generalize hHa : upd H9 z _ = Ha
        obtain ⟨ka, ea⟩ := alloc hHa hz
        clear hHa
        refine caF (ka _ _ hu9) fu ea fz (by rw [iV_len, lc]; show _ + 1 ≤ 1000; omega) fun y Hb ub kb eb fb => ?_
        have fb : fzO (iV (c ++ [p])) ub := by
          rw [iV_app]
          exact fb
        have kab := ka.trans kb
        have hb9 := kab _ _ h9
        have lu := r9.len
        have lab := able_len (ss := ss) p4 i
        rw [List.length_map, List.length_take] at lu
        refine ⟨us, hb9, size_lt' (by omega), same_put (k9.trans kab) hD3, us ++ [.ref y], upd_same, ?_⟩
        rw [List.take_add_one, ep, List.map_append]
        exact ((r9.same kab).put hb9).snoc fb (by rw [upd_ne (fb.ne eb hb9)]; exact eb)
      · obtain ⟨k9, us, h9, r9⟩ := q9
        rw [iV_len, List.take_length] at r9
        have hL9 := k9 _ _ hL8
        have lv := r8.len
        have lu := r9.len
        have lab := able_len (ss := ss) p4 i
        have z1 : (grow (fun _ => able rows ss i) (gs.take j)).length ≤ 4 * (gs.take j).length := grow_size fun c _ => lab
        have z2 : (gs.take j).length ≤ gs.length := by rw [List.length_take]; omega
        rw [List.length_map] at lu
        refine ⟨L, D3, _, _, rfl, rfl, hL9, h9, Nat.le_of_lt (size_lt' (by omega)), ?_⟩
        refine ⟨_, rfl, same_put (k8.trans k9) hL, vs ++ us, upd_same, ?_⟩
        have eg : grow (fun _ => able rows ss i) (gs.take (j + 1)) = grow (fun _ => able rows ss i) (gs.take j) ++ ((able rows ss i).map fun s => c ++ [s]) := by
          rw [List.take_add_one, en, grow_app]
          show _ ++ grow (fun _ => able rows ss i) [c] = _
          rw [grow_cons]
          show _ ++ (_ ++ []) = _
          rw [List.append_nil]
        rw [eg]
        exact RwF.app (r9.put hL9) ((r8.same k9).put hL9)
    · rintro σ H8 ⟨v9, rfl, k8, vs, hL8, r8⟩
      rw [lw, List.take_length] at r8
      have ep : pls (able rows ss) (i + 1) = grow (fun _ => able rows ss i) gs := by
        show grow _ (pls (able rows ss) i) = _
        rw [hgs]
      rw [← ep] at r8
      refine ⟨_, rfl, ?_⟩
      refine ⟨_, rfl, Nat.zero_le _, fun z hz => ?_⟩
      generalize hH9 : upd H8 z _ = H9
      obtain ⟨k9, e9⟩ := alloc hH9 hz
      clear hH9
      have kk := (k4.trans k46).trans (k8.trans k9)
      have r9 := r8.same k9
      refine ⟨_, _, .lst (SqL.of (k9 _ _ hL8)) r9.dp, .lst (SqL.of e9) .nil, shapedTps _, rfl, _, rfl, ?_⟩
      rw [eqvNil]
      refine ite2 (fun c => ?_) (fun c => ?_)
      · have c1 : pls (able rows ss) (i + 1) = [] := List.map_eq_nil_iff.mp (List.map_eq_nil_iff.mp (of_decide_eq_true c))
        refine kN H9 kk fun g f => ?_
        have m := ((fits_pls l1).mp f).1
        rw [pls_nil c1 ss.length hi] at m
        cases m
      · refine ⟨_, _, _, _, _, L, vs, b2, rfl, kk, k9 _ _ hL8, r9, fun z => ?_, hb'⟩
        rw [z] at c
        exact c (decide_eq_true rfl)
  · rintro σ H4 ⟨v5, v6, v7, v8, v9, F', ws, best, rfl, k4, hF4, rn, ne, hb⟩
    refine ⟨_, rfl, _, _, rfl, rfl, _, rfl, ?_⟩
    refine ite2 (fun c => ?_) (fun c => ?_)
    · have c1 : best < 2 := of_decide_eq_true c
      refine kN H4 k4 fun g f => ?_
      obtain ⟨m, i, hi, r2⟩ := (fits_pls l1).mp f
      obtain ⟨lg, al⟩ := mem_pls.mp m
      have gi : g[i]? = some g[i] := List.getElem?_eq_getElem (by omega)
      have lp := List.mem_range.mp (List.mem_filter.mp (al i _ gi)).1
      rw [gi] at r2
      have := hb.mpr ⟨i, g[i], hi, lp, r2⟩
      omega
    · have c1 : 2 ≤ best := by
        have : ¬ best < 2 := fun z => c (decide_eq_true z)
        omega
      obtain ⟨j0, p0, lj, lp0, r0⟩ := hb.mp c1
      obtain ⟨gb, hgb, bgb⟩ := big_some lj lp0 r0 ne
      have lw := rn.len
      have lpl := len_pls (able_len (ss := ss) p4) ss.length
      have l4 : 4 ^ ss.length ≤ 4096 := Nat.le_trans (Nat.pow_le_pow_right (by decide) l6) (by decide)
      have srt := srt_pls (able_lt (rows := rows) (ss := ss)) ss.length
      have mp : ∀ g, g ∈ pls (able rows ss) ss.length → g.length = ss.length ∧ ∀ p ∈ g, p < rows.length := fun g hg => by
        obtain ⟨a, b⟩ := mem_pls.mp hg
        refine ⟨a, fun p hp => ?_⟩
        obtain ⟨j, hj⟩ := List.mem_iff_getElem?.mp hp
        exact List.mem_range.mp (List.mem_filter.mp (b j p hj)).1
      have fp : ∀ g, Fits rows (List.range rows.length) ss g ↔ g ∈ (pls (able rows ss) ss.length).filter (bigB rows ss) := fun g => by
        rw [fits_pls l1, List.mem_filter, bigB_iff]
      have mgb := (fp gb).mp ((fits_pls l1).mpr ⟨hgb, bgb⟩)
      have srtF : Srt ((pls (able rows ss) ss.length).filter (bigB rows ss)) := List.Pairwise.filter _ srt
      generalize hgs : pls (able rows ss) ss.length = gs at *
      refine ⟨_, rfl, F', rfl, ⟨_, SqL.of hF4⟩, fun D hD => lc_list (K := K) (a := F') (xs := ws) (fun a H' => Same H4 H' ∧ ∃ us : List V, H' D = some (.lst us) ∧ RwF H' us ((gs.take a).filter (bigB rows ss))) ⟨same_new (Same.refl _) hD, [], upd_same, .nil⟩ (fun a H' _ r => SqL.of (r.1 _ _ hF4)) (fun a x H5 hx ⟨k5, us, h5, r5⟩ => ⟨rfl, ?_⟩) (fun H5 q5 => ?_)⟩
      · obtain ⟨u, g, uu, rfl, fu, hu, en⟩ := rn.at hx
        obtain ⟨lg, lp⟩ := mp g (List.mem_of_getElem? en)
        have k45 := k4.trans k5
        refine ⟨_, rfl, _, rfl, _, rfl, l, q, u, ts, rows, ss, g, rfl, k45 _ _ hl, tp.same k45, rw_, sqT_same k45 hq, fu.sq (k5 _ _ hu), lg, l6, lt, lp, fun G H6 k6 hG => ?_⟩
        refine ⟨G, _, rfl, SqL.of hG, by unfold rss; rw [List.length_map, List.length_range]; omega, fun m hm mx => ?_⟩
        have hbm : bigB rows ss g = true ↔ 2 ≤ m := by
          unfold bigB
          rw [List.any_eq_true]
          constructor
          · rintro ⟨y, hy, z⟩
            have := mx y hy
            have : 2 ≤ y := of_decide_eq_true z
            omega
          · intro z
            exact ⟨m, hm, decide_eq_true z⟩
        have h6 := k6 _ _ h5
        have r6 := r5.same k6
        have fl : (gs.take (a + 1)).filter (bigB rows ss) = (gs.take a).filter (bigB rows ss) ++ (if bigB rows ss g = true then [g] else []) := by
          rw [List.take_add_one, en, List.filter_append]
          congr 1
          by_cases z : bigB rows ss g = true <;> simp [z]
        refine ⟨_, _, rfl, rfl, _, rfl, ?_⟩
        refine ite2 (fun c => ?_) (fun c => ?_)
        · have c2 : bigB rows ss g = true := hbm.mpr (of_decide_eq_true c)
          have lu := r6.len
          have lf := List.length_filter_le (bigB rows ss) (gs.take a)
          have lta : (gs.take a).length ≤ gs.length := by rw [List.length_take]; omega
          refine ⟨_, rfl, us, h6, size_lt' (by omega), same_put (k5.trans k6) hD, us ++ [.ref u], upd_same, ?_⟩
          rw [fl, if_pos c2]
          have hu6 := (k5.trans k6) _ _ hu
          exact (r6.put h6).snoc fu (by rw [upd_ne (fu.ne hu6 h6)]; exact hu6)
        · have c2 : ¬ bigB rows ss g = true := fun z => c (decide_eq_true (hbm.mp z))
          refine ⟨k5.trans k6, us, h6, ?_⟩
          rw [fl, if_neg c2, List.append_nil]
          exact r6
      · obtain ⟨k5, us, h5, r5⟩ := q5
        rw [lw, List.take_length] at r5
        generalize hfs : gs.filter (bigB rows ss) = fs at *
        cases fs with
        | nil => cases mgb
        | cons g0 fs =>
          cases r5 with
          | cons f0 h0 rr =>
            refine ⟨D, _, _, _, rfl, rfl, SqL.of h5, atI_nat (j := 0) rfl, ?_⟩
            exact kY _ g0 _ H5 (k4.trans k5) f0 h0 ((fp g0).mpr List.mem_cons_self) fun g' f' => srt_first srtF g' ((fp g').mp f')
end
end Pl
namespace Pl
open PySem PySem.Spec PyProof.Rows L2
def spLRing : Sp := fun vs H Q _ => ∃ (l : Addr) (ts : List Addr) (rows : List (List Int)), vs = [.ref l] ∧ H l = some (.lst (ts.map V.ref)) ∧ TpAll H ts rows ∧ Rows rows ∧
  (∀ H', Same H H' → (∀ ss g, ¬ IsRing rows (List.range rows.length) ss g) → Q .non H') ∧ (∀ (T q r : Addr) (ss g : List Nat) (H' : Hp), Same H H' → H' T = some (.tup [.ref q, .ref r]) → Fz H' q (iV ss) → Fz H' r (iV g) → FstR rows (List.range rows.length) ss g → Q (.ref T) H')
section
variable {P : Program} {w : World} {K : PySem.W.Frag} {mg : Str → Option Value} {base : Heap} {CShare CDivision CNoPerson : Addr}
abbrev st_l_ring : Stmt := top 56
theorem sc_l_ring : FnScope ["_law_lines_here", "_law_many", "_law_long", "_law_states", "_law_people_here"] ["_law_lines_here"] (defScope st_l_ring) := ⟨rfl, rfl, rfl, by decide +kernel, rfl, by decide +kernel, by decide +kernel⟩
theorem ok_lring (B : Bn mg) (c_l_tuples : Cal P w K mg base 2 "_law_tuples" ["_law_many", "_law_long"] spTuples) (c_l_people : Cal P w K mg base 3 "_law_people" ["_law_lines_here", "_law_states"] (spLPeople K)) (D : Df K mg "_law_ring" st_l_ring ["_law_lines_here"]) : Cal P w K mg base 4 "_law_ring" ["_law_lines_here"] spLRing := by
  refine D.cal sc_l_ring (fun vs H Q E h => ?_) (fun f cdv A out s H vs Q E hr h => ?_)
  · obtain ⟨l, ts, rows, rfl, _⟩ := h
    rfl
  obtain ⟨l, ts, rows, rfl, hl, tp, rw_, kN, kY⟩ := h
  refine ⟨_, (pss_cons (ps_set (i := 1) sc_l_ring.nd rfl (.inl rfl) (pe_callB call_len_seq (by rfl) B.n_len (by decide +kernel) (pa_cons (pe_ix ix_list (pv 0) pe_int (fun _ _ => rfl)) pa_nil)))
   (pss_cons (ps_for PassesOwn.never rfl (pi_range2 (by rfl) B.n_range (pa_cons pe_int (pa_cons (pe_op op_add (pv 1) pe_int) pa_nil))) (pg_name (i := 2) sc_l_ring.nd rfl (.inl rfl))
   (pss_one (ps_for PassesOwn.never rfl (pi_list (pe_fn c_l_tuples (hr.mono (by decide)) (pa_cons (pv 1) (pa_cons (pv 2) pa_nil)))) (pg_name (i := 3) sc_l_ring.nd rfl (.inl rfl))
   (pss_cons (ps_set (i := 4) sc_l_ring.nd rfl (.inl rfl) (pe_fn c_l_people (hr.mono (by decide)) (pa_cons (pv 0) (pa_cons (pv 3) pa_nil))))
   (pss_one (ps_if (pt_cmpR op_notN (pv 4) pe_non (nomark _)) (pss_one (ps_ret (pe_tup (pa_cons (pv 3) (pa_cons (pv 4) pa_nil))))) pss_nil))))))
   (pss_one (ps_ret pe_non)))), ?_⟩
  obtain ⟨w2, w6⟩ := rw_.w26
  have l2 := rw_.1
  have ln := tp.1
  have t0 : ts[0]? = some ts[0] := List.getElem?_eq_getElem (by omega)
  have r0 : rows[0]? = some rows[0] := List.getElem?_eq_getElem (by omega)
  have ew : (rows[0].map V.int).length = wdt rows := by rw [List.length_map, rw_.wdt (List.mem_of_getElem? r0)]
  have ht0 := tp.2 0 _ _ t0 r0
  have a0 : atI (ts.map V.ref) 0 = some (.ref ts[0]) := atI_nat (j := 0) (by rw [List.getElem?_map, t0]; rfl)
  refine ⟨_, rfl, l, _, _, _, rfl, rfl, SqL.of hl, a0, ts[0], _, rfl, .inr (SqT.of ht0), ?_⟩
  rw [ew]
  refine ⟨_, rfl, _, _, rfl, rfl, ?_⟩
  refine ⟨_, _, rfl, ⟨by omega, by omega, by omega, by omega⟩, ?_⟩
  have er : ((wdt rows : Int) + 1 - 2).toNat = wdt rows - 1 := by omega
  rw [er]
  refine for_range (lo := 2) (n := wdt rows - 1) (fun i σ H' => ∃ v2 v3 v4 : Option V, σ = [some (.ref l), some (.int (wdt rows)), v2, v3, v4] ∧ Same H H' ∧ ∀ ss g, IsRing rows (List.range rows.length) ss g → i + 2 ≤ ss.length) ⟨none, none, none, rfl, Same.refl H, fun ss g h => no_one h⟩ ?_ ?_
  · rintro i σ H1 hi ⟨v2, v3, v4, rfl, k1, sho⟩
    have e2 : ((2 : Int) + i) = ((i + 2 : Nat) : Int) := by omega
    rw [e2]
    refine ⟨_, rfl, _, rfl, wdt rows, i + 2, rfl, w6, by omega, fun F ws H2 k2 hF rn => ?_⟩
    have lw := rn.len
    have srt := srt_tps (wdt rows) (i + 2)
    have k02 := k1.trans k2
    have mt : ∀ g, g ∈ tps (wdt rows) (i + 2) ↔ g.Nodup ∧ (∀ s ∈ g, s < wdt rows) ∧ g.length = i + 2 := fun g => mem_tps
    generalize tps (wdt rows) (i + 2) = cs at *
    refine ⟨F, rfl, ⟨_, SqL.of hF⟩, for_list (K := K) (a := F) (xs := ws) (fun j σ H' => ∃ v3 v4 : Option V, σ = [some (.ref l), some (.int (wdt rows)), some (.int ((i + 2 : Nat) : Int)), v3, v4] ∧ Same H2 H' ∧ ∀ (a : Nat) (c : List Nat), a < j → cs[a]? = some c → ∀ g, ¬ Fits rows (List.range rows.length) c g) ⟨v3, v4, rfl, Same.refl _, fun a c ha => absurd ha (Nat.not_lt_zero a)⟩ (fun j σ H' _ ⟨_, _, _, z, _⟩ => SqL.of (z _ _ hF)) ?_ ?_⟩
    · rintro j x σ H3 hx ⟨v3, v4, rfl, k3, no⟩
      obtain ⟨q, c, uq, rfl, fq, hq, ec⟩ := rn.at hx
      obtain ⟨nd, ltc, lc⟩ := (mt c).mp (List.mem_of_getElem? ec)
      have k03 := k02.trans k3
      have hq3 := k3 _ _ hq
      refine ⟨_, rfl, _, rfl, l, q, ts, rows, c, rfl, k03 _ _ hl, tp.same k03, rw_, fq.sq hq3, by omega, by omega, ltc, fun H4 k4 nf => ?_, fun r g ur H4 k4 fr4 hr4 fits least => ?_⟩
      · refine ⟨_, rfl, rfl, _, rfl, iteF ⟨_, _, rfl, k3.trans k4, fun a c' ha ea => ?_⟩⟩
        by_cases z : a < j
        · exact no a c' z ea
        · have : a = j := by omega
          subst this
          rw [ec] at ea
          cases ea
          exact nf
      · refine ⟨_, rfl, rfl, _, rfl, iteT ?_⟩
        refine ⟨_, rfl, _, rfl, (by show 2 ≤ sizeLine; decide), fun T hT => ?_⟩
        generalize hH5 : upd H4 T _ = H5
        obtain ⟨k5, eT⟩ := alloc hH5 hT
        clear hH5
        refine kY T q r c g H5 (k03.trans (k4.trans k5)) eT (fq.fz ((k4.trans k5) _ _ hq3)) (fr4.fz (k5 _ _ hr4)) ⟨⟨nd, ltc, by omega, fits⟩, fun ss' g' h' => ?_⟩
        refine ⟨by rw [lc]; exact sho ss' g' h', fun le => ?_⟩
        rw [lc] at le
        obtain ⟨a, ea⟩ := List.mem_iff_getElem?.mp ((mt ss').mpr ⟨h'.1, h'.2.1, le⟩)
        refine ⟨?_, fun e => ?_⟩
        · by_cases z : a < j
          · exact absurd h'.2.2.2 (no a ss' z ea g')
          · by_cases z2 : a = j
            · subst z2
              rw [ec] at ea
              cases ea
              exact lx_irr _
            · obtain ⟨l1, g1⟩ := List.getElem?_eq_some_iff.mp ec
              obtain ⟨l2', g2⟩ := List.getElem?_eq_some_iff.mp ea
              have z3 := List.pairwise_iff_getElem.mp srt j a l1 l2' (by omega)
              rw [g1, g2] at z3
              exact lx_asym z3
        · subst e
          exact least g' h'.2.2.2
    · rintro σ H3 ⟨v3, v4, rfl, k3, no⟩
      rw [lw] at no
      refine ⟨_, _, _, rfl, k02.trans k3, fun ss' g' h' => ?_⟩
      have lk := sho ss' g' h'
      by_cases z : ss'.length = i + 2
      · obtain ⟨a, ea⟩ := List.mem_iff_getElem?.mp ((mt ss').mpr ⟨h'.1, h'.2.1, z⟩)
        exact absurd h'.2.2.2 (no a ss' (List.getElem?_eq_some_iff.mp ea).1 ea g')
      · omega
  · rintro σ H1 ⟨v2, v3, v4, rfl, k1, sho⟩
    refine kN H1 k1 fun ss g h => ?_
    have := sho ss g h
    have := nodup_le h.1 h.2.1
    omega
end
end Pl
namespace Pl
open PySem PySem.Spec PyProof.Rows L2
theorem fold_max : ∀ (ns : List Int) (n : Int), (ns.foldl max n ∈ n :: ns) ∧ ∀ y ∈ n :: ns, y ≤ ns.foldl max n
  | [], n => ⟨List.mem_cons_self, fun y hy => by rw [List.mem_singleton.mp hy]; exact Int.le_refl _⟩
  | m :: ns, n => by
    obtain ⟨a, b⟩ := fold_max ns (max n m)
    rw [List.foldl_cons]
    refine ⟨?_, fun y hy => ?_⟩
    · rcases List.mem_cons.mp a with h | h
      · rw [h]
        rcases Int.le_total n m with c | c
        · rw [Int.max_eq_right c]; simp
        · rw [Int.max_eq_left c]; simp
      · simp [h]
    · have z := b (max n m) List.mem_cons_self
      rcases List.mem_cons.mp hy with h | h
      · rw [h]; omega
      · rcases List.mem_cons.mp h with h | h
        · rw [h]; omega
        · exact b y (List.mem_cons_of_mem _ h)
theorem rep_flat (x : V) : ∀ n : Nat, (List.replicate n [x]).flatten = List.replicate n x
  | 0 => rfl
  | n + 1 => by rw [List.replicate_succ, List.flatten_cons, rep_flat x n]; rfl
theorem Below.zero {C : Nat → Nat → Int → Prop} {n : Nat} : Below C n (List.replicate n 0) := by
  have e : ∀ i, i < n → gI (List.replicate n (0 : Int)) i = 0 := fun i hi => gI_of (by rw [List.getElem?_replicate]; simp [hi])
  exact ⟨by simp, fun i hi => by rw [e i hi]; exact Int.le_refl _, fun g sg i hi => by rw [e i hi]; exact sg.2.1 i hi⟩
end Pl
namespace Pl
open PySem PySem.Spec PyProof.Rows L2
section
variable {P : Program} {w : World} {K : PySem.W.Frag} {mg : Str → Option Value} {base : Heap} {CShare CDivision CNoPerson : Addr}
abbrev st_l_orderly : Stmt := top 46
theorem sc_l_orderly : FnScope ["_law_source_here", "_law_people_here", "_law_many", "_law_most", "_law_states", "_law_left", "_law_turn", "_law_found", "_law_amounts", "_law_row", "_law_at"] ["_law_source_here", "_law_people_here", "_law_many", "_law_most"] (defScope st_l_orderly) := ⟨rfl, rfl, rfl, by decide +kernel, rfl, by decide +kernel, by decide +kernel⟩
theorem ok_orderly (B : Bn mg) (c_l_draw : Cal P w K mg base 2 "_law_draw" ["_law_source_here", "_law_many"] spDraw) (D : Df K mg "_law_orderly" st_l_orderly ["_law_source_here", "_law_people_here", "_law_many", "_law_most"]) : Cal P w K mg base 3 "_law_orderly" ["_law_source_here", "_law_people_here", "_law_many", "_law_most"] spOrd := by
  refine D.cal sc_l_orderly (fun vs H Q E h => ?_) (fun f cdv A out s H vs Q E hr h => ?_)
  · obtain ⟨a, p, n, m, rfl, _⟩ := h
    rfl
  obtain ⟨a, p, n, m, rfl, src, p2, p4, n2, n6, m0, m30, k⟩ := h
  refine ⟨_, (pss_cons (ps_par (i := 4) (j := 5) (by rfl) sc_l_orderly.nd rfl rfl (by decide) rfl rfl (pa_cons (pe_lst pa_nil) (pa_cons (pe_lc (own := [("_law_at", 10)]) (g := gName 10) rfl sc_l_orderly.nd (pi_range1 (by rfl) B.n_range (pa_cons (pv 2) pa_nil)) (blkOk_by (N := ["_law_source_here", "_law_people_here", "_law_many", "_law_most", "_law_states", "_law_left", "_law_turn", "_law_found", "_law_amounts", "_law_row", "_law_at"]) (sc := defScope st_l_orderly) (by decide +kernel)) (fun _ _ _ _ _ => (pg_name (i := 10) sc_l_orderly.nd rfl (.inl rfl))) (fun _ _ _ _ _ => pts_nil) (fun _ _ _ _ _ => (pv 10))) pa_nil)) (by rfl))
   (pss_cons (ps_for PassesOwn.never rfl (pi_range1 (by rfl) B.n_range (pa_cons (pv 2) pa_nil)) (pg_name (i := 6) sc_l_orderly.nd rfl (.inl rfl))
   (pss_one (ps_expr (pe_bm PySem.F.plainAttrs_list PySem.F.slot_list_append PySem.F.type_list_append mt_append (pv 4) (pa_cons (pe_bm PySem.F.plainAttrs_list PySem.F.slot_list_pop PySem.F.type_list_pop mt_popAt (pv 5) (pa_cons (pe_fn c_l_draw (hr.mono (by decide)) (pa_cons (pv 0) (pa_cons (pe_callB call_len_seq (by rfl) B.n_len (by decide +kernel) (pa_cons (pv 5) pa_nil)) pa_nil))) pa_nil)) pa_nil)))))
   (pss_cons (ps_set (i := 7) sc_l_orderly.nd rfl (.inl rfl) (pe_lst pa_nil))
   (pss_cons (ps_for PassesOwn.never rfl (pi_range1 (by rfl) B.n_range (pa_cons (pv 1) pa_nil)) (pg_name (i := 6) sc_l_orderly.nd rfl (.inl rfl))
   (pss_cons (ps_set (i := 8) sc_l_orderly.nd rfl (.inl rfl) (pe_callB cr_sorted (by rfl) B.n_sorted (by decide +kernel) (pa_cons (pe_lc (own := [("_law_at", 10)]) (g := gName 10) rfl sc_l_orderly.nd (pi_range1 (by rfl) B.n_range (pa_cons (pv 2) pa_nil)) (blkOk_by (N := ["_law_source_here", "_law_people_here", "_law_many", "_law_most", "_law_states", "_law_left", "_law_turn", "_law_found", "_law_amounts", "_law_row", "_law_at"]) (sc := defScope st_l_orderly) (by decide +kernel)) (fun _ _ _ _ _ => (pg_name (i := 10) sc_l_orderly.nd rfl (.inl rfl))) (fun _ _ _ _ _ => pts_nil) (fun _ _ _ _ _ => (pe_fn c_l_draw (hr.mono (by decide)) (pa_cons (pv 0) (pa_cons (pe_op op_add (pv 3) pe_int) pa_nil))))) pa_nil)))
   (pss_cons (ps_set (i := 9) sc_l_orderly.nd rfl (.inl rfl) (pe_op op_rep (pe_lst (pa_cons pe_int pa_nil)) (pv 2)))
   (pss_cons (ps_for PassesOwn.never rfl (pi_range1 (by rfl) B.n_range (pa_cons (pv 2) pa_nil)) (pg_name (i := 10) sc_l_orderly.nd rfl (.inl rfl))
   (pss_one (ps_asg (pe_ix ix_list (pv 8) (pv 10) (fun _ _ => rfl)) (pg_sub (pv 9) (pe_ix ix_list (pv 4) (pv 10) (fun _ _ => rfl)) set_list))))
   (pss_one (ps_expr (pe_bm PySem.F.plainAttrs_list PySem.F.slot_list_append PySem.F.type_list_append mt_append (pv 7) (pa_cons (pv 9) pa_nil))))))))
   (pss_one (ps_ret (pv 7))))))), ?_⟩
  refine ⟨Nat.zero_le _, fun q hq => ?_⟩
  have qa : q ≠ a := src.ne hq
  generalize hH1 : upd H q _ = H1
  have k1 : Kp a H H1 := by rw [← hH1]; exact (Kp.refl a H).new hq
  have s1 : Src H1 a := by rw [← hH1]; exact src.upd hq
  have e1 : H1 q = some (.lst []) := by rw [← hH1, upd_same]
  clear hH1
  refine ⟨_, rfl, n, rfl, by omega, by omega, fun l hl => ?_⟩
  refine lc_range (lo := 0) (n := n) (fun i H' => Same H1 H' ∧ ∃ js : List Int, js.length = i ∧ (∀ x ∈ js, 0 ≤ x ∧ x < n) ∧ H' l = some (.lst (js.map V.int))) ⟨same_new (Same.refl _) hl, [], rfl, fun x hx => (nomatch hx), upd_same⟩ (fun i H' hi ⟨sm, js, lj, bj, hj⟩ => ⟨rfl, tyes ⟨_, rfl, _, hj, size_lt (by rw [List.length_map]; omega), same_put sm hl, js ++ [(0 + i : Int)], by simp [lj], fun x hx => ?_, by rw [upd_same, List.map_append]; rfl⟩⟩) (fun H2 ⟨sm, js, lj, bj, hj⟩ => ⟨_, _, rfl, ?_⟩)
  · rcases List.mem_append.mp hx with z | z
    · exact bj x z
    · rw [List.mem_singleton.mp z]; omega
  have la : l ≠ a := s1.ne hl
  have ql : q ≠ l := fun e => by rw [← e, e1] at hl; cases hl
  have s2 := s1.same sm
  have k2 : Kp a H H2 := k1.trans (Kp.of sm)
  have hq2 := sm _ _ e1
  have H0l : H l = none := k1.free la hl
  refine ⟨_, rfl, n, rfl, by omega, by omega, ?_⟩
  refine for_range (lo := 0) (n := n) (fun i σ H' => ∃ (v6 : Option V) (ms rest : List Int), σ = [some (.ref a), some (.int p), some (.int n), some (.int m), some (.ref q), some (.ref l), v6, none, none, none, none] ∧ Src H' a ∧ Kp a H H' ∧ ms.length = i ∧ rest.length + i = n ∧ (∀ x ∈ ms, 0 ≤ x ∧ x < n) ∧ (∀ x ∈ rest, 0 ≤ x ∧ x < n) ∧ H' l = some (.lst (rest.map V.int)) ∧ H' q = some (.lst (ms.map V.int)))
    ⟨none, [], js, rfl, s2, k2, rfl, by omega, fun x hx => (nomatch hx), bj, hj, hq2⟩ ?_ ?_
  · rintro i σ H3 hi ⟨v6, ms, rest, rfl, s3, k3, ml, rl, bm, br, h3, h4⟩
    refine ⟨_, rfl, .inl ⟨rfl, _, SqL.of h4⟩, _, rfl, .inl ⟨rfl, _, SqL.of h3⟩, _, rfl, _, rfl, l, _, rfl, .inl (SqL.of h3), ?_⟩
    refine ⟨a, rest.length, by rw [List.length_map]; rfl, s3, by omega, by omega, fun r H5 r0 r1 s5 k5 => ?_⟩
    have h3' := k5 _ _ la h3
    have h4' := k5 _ _ qa h4
    have lt : r.toNat < rest.length := by omega
    have ex : rest[r.toNat]? = some rest[r.toNat] := List.getElem?_eq_getElem lt
    have bx := br _ (List.mem_of_getElem? ex)
    refine ⟨l, _, r, r.toNat, .int rest[r.toNat], rfl, rfl, h3', by omega, by omega, ?_, by rw [List.getElem?_map, ex]; rfl, ?_⟩
    · rw [List.length_map]
      exact (ixN_seq (n := rest.length) (i := r) (j := r.toNat) (by unfold ixN; rw [if_pos r0, if_pos (by omega)])).1
    · have q5 : (upd H5 l (.lst ((rest.map V.int).eraseIdx r.toNat))) q = some (.lst (ms.map V.int)) := by rw [upd_ne ql]; exact h4'
      refine ⟨q, _, _, rfl, rfl, q5, size_lt (by rw [List.length_map]; omega), ?_⟩
      refine ⟨_, ms ++ [rest[r.toNat]], rest.eraseIdx r.toNat, rfl, (s5.put la).put qa, ((k3.trans k5).put H0l).put hq, by simp [ml], ?_, fun x hx => ?_, fun x hx => br x (List.mem_of_mem_eraseIdx hx), ?_, ?_⟩
      · rw [List.length_eraseIdx, if_pos lt]; omega
      · rcases List.mem_append.mp hx with z | z
        · exact bm x z
        · rw [List.mem_singleton.mp z]; exact bx
      · rw [upd_ne ql.symm, upd_same, map_erase]
      · rw [upd_same, List.map_append]; rfl
  rintro σ H3 ⟨v6, ms, rest, rfl, s3, k3, ml, rl, bm, br, h3, h4⟩
  clear h3 rl br hj hq2 s2 k2 bj e1
  refine ⟨Nat.zero_le _, fun F hF => ?_⟩
  have Fa : F ≠ a := s3.ne hF
  have qF : q ≠ F := fun e => by rw [← e, h4] at hF; cases hF
  have H0F : H F = none := k3.free Fa hF
  generalize hH4 : upd H3 F _ = H4
  have k4 : Kp a H H4 := by rw [← hH4]; exact k3.new hF
  have s4 : Src H4 a := by rw [← hH4]; exact s3.upd hF
  have hq4 : H4 q = some (.lst (ms.map V.int)) := by rw [← hH4, upd_ne qF]; exact h4
  have e4 : H4 F = some (.lst []) := by rw [← hH4, upd_same]
  clear hH4
  refine ⟨_, rfl, p, rfl, by omega, by omega, ?_⟩
  refine for_range (lo := 0) (n := p) (fun i σ H' => ∃ (v6 v8 v9 v10 : Option V) (ts : List Addr), σ = [some (.ref a), some (.int p), some (.int n), some (.int m), some (.ref q), some (.ref l), v6, some (.ref F), v8, v9, v10] ∧ Src H' a ∧ Kp a H H' ∧ H' q = some (.lst (ms.map V.int)) ∧ ts.length = i ∧ H' F = some (.lst (ts.map V.ref)) ∧ ∀ t ∈ ts, t ≠ a ∧ t ≠ F ∧ H t = none ∧ ∃ ns : List Int, H' t = some (.lst (ns.map V.int)) ∧ ns.length = n ∧ Am ns)
    ⟨v6, none, none, none, [], rfl, s4, k4, hq4, rfl, e4, fun t ht => (nomatch ht)⟩ ?_ ?_
  · clear hq4 e4 s4 k4 h4 s3 k3
    rintro i σ H5 hi ⟨v6, v8, v9, v10, ts, rfl, s5, k5, hq5, lt, hF5, al⟩
    refine ⟨_, rfl, n, rfl, by omega, by omega, fun D hD => lc_range (lo := 0) (n := n) (AInv a D H5) (AInv.start s5 hD) (fun j H6 hj p6 => ⟨rfl, tyes ?_⟩) (fun H6 p6 => ?_)⟩
    · refine ⟨_, rfl, _, rfl, _, _, rfl, rfl, ?_⟩
      exact ⟨a, m + 1, rfl, p6.src, by omega, by omega, fun r H7 r0 r1 s7 k7 => p6.next (by omega) hD (s5.ne hD) s7 k7 r0 (by omega)⟩
    obtain ⟨ys, ly, amy, s6, k6, hd6⟩ := p6
    refine ⟨D, ys, rfl, SqL.of hd6, by omega, fun ys' A1 pm sd hA1 => ?_⟩
    have amy' : Am ys' := fun r hr => amy r (pm.mem_iff.mp hr)
    have ly' : ys'.length = n := by rw [pm.length_eq, ly]
    have A1a : A1 ≠ a := s6.ne hA1
    generalize hH7 : upd H6 A1 _ = H7
    have k7 : Kp a H5 H7 := by rw [← hH7]; exact k6.new hA1
    have s7 : Src H7 a := by rw [← hH7]; exact s6.upd hA1
    have e7 : H7 A1 = some (.lst (ys'.map V.int)) := by rw [← hH7, upd_same]
    clear hH7
    refine ⟨(by show 1 ≤ sizeLine; decide), fun z hz => ?_⟩
    generalize hH8 : upd H7 z _ = H8
    obtain ⟨k8, e8⟩ : Same H7 H8 ∧ H8 z = some (.lst [.int 0]) := by rw [← hH8]; exact ⟨same_new (Same.refl _) hz, upd_same⟩
    clear hH8
    refine ⟨_, rfl, z, _, _, rfl, rfl, e8, by omega, by omega, Nat.le_trans (show 1 * _ ≤ 100 by omega) (by decide), fun R hR => ?_⟩
    generalize hH9 : upd H8 R _ = H9
    obtain ⟨k9, e9⟩ : Same H8 H9 ∧ H9 R = some (.lst ((List.replicate n (0 : Int)).map V.int)) := by
      rw [← hH9]
      refine ⟨same_new (Same.refl _) hR, ?_⟩
      rw [upd_same, rep_flat, List.map_replicate]
      rfl
    clear hH9
    have k79 := k8.trans k9
    have s9 := s7.same k79
    have k59 : Kp a H5 H9 := k7.trans (Kp.of k79)
    have e79 := k79 _ _ e7
    have hR5 : H5 R = none := (k7.trans (Kp.of k8)).free ((s7.same k8).ne hR) hR
    have Ra : R ≠ a := (s7.same k8).ne hR
    have RA1 : R ≠ A1 := fun e => by rw [e, k8 _ _ e7] at hR; cases hR
    have hq9 := k59 _ _ qa hq5
    have qR : q ≠ R := fun e => by rw [← e, hq5] at hR5; cases hR5
    have FR : F ≠ R := fun e => by rw [← e, hF5] at hR5; cases hR5
    refine ⟨_, rfl, n, rfl, by omega, by omega, ?_⟩
    refine for_range (lo := 0) (n := n) (fun j σ H' => ∃ (v10 : Option V) (zs : List Int), σ = [some (.ref a), some (.int p), some (.int n), some (.int m), some (.ref q), some (.ref l), some (.int (0 + i)), some (.ref F), some (.ref A1), some (.ref R), v10] ∧ Src H' a ∧ Kp R H9 H' ∧ zs.length = n ∧ Am zs ∧ H' R = some (.lst (zs.map V.int)))
      ⟨v10, List.replicate n 0, rfl, s9, Kp.refl _ _, by simp, fun x hx => by rw [(List.mem_replicate.mp hx).2]; decide, e9⟩ ?_ ?_
    · rintro j σ H10 hj ⟨v10, zs, rfl, s10, k10, lz, amz, h10⟩
      have eA := k10 _ _ (Ne.symm RA1) e79
      have eq := k10 _ _ qR hq9
      obtain ⟨x, ex, mx, ax⟩ := at_int (ms := ys') (r := (0 + j : Int)) (by omega) (by omega)
      obtain ⟨y, ey, my, ay⟩ := at_int (ms := ms) (r := (0 + j : Int)) (by omega) (by omega)
      obtain ⟨y0, y1⟩ := bm y my
      refine ⟨_, rfl, _, rfl, A1, _, _, _, rfl, rfl, SqL.of eA, ax, _, rfl, _, rfl, _, rfl, q, _, _, _, rfl, rfl, SqL.of eq, ay, R, _, _, y.toNat, rfl, rfl, h10, ix_of y0 (by rw [List.length_map]; omega), ?_⟩
      refine ⟨_, zs.set y.toNat x, rfl, s10.put Ra, k10.trans Kp.upd, by rw [List.length_set]; exact lz, am_set amz (amy' x mx).1 (amy' x mx).2, ?_⟩
      rw [upd_same, List.map_set]
    · rintro σ H10 ⟨v10, zs, rfl, s10, k10, lz, amz, h10⟩
      have hF10 := k10 _ _ FR (k59 _ _ Fa hF5)
      refine ⟨_, rfl, .inl ⟨rfl, _, SqL.of hF10⟩, _, rfl, F, _, _, rfl, rfl, hF10, size_lt (by rw [List.length_map]; omega), ?_⟩
      have k510 : Kp a H5 H10 := fun b o n e => k10 _ _ (ne_of_none e hR5) (k59 _ _ n e)
      refine ⟨_, _, _, _, ts ++ [R], rfl, s10.put Fa, (k5.trans k510).put H0F, ?_, by simp [lt], by rw [upd_same, List.map_append]; rfl, fun t ht => ?_⟩
      · rw [upd_ne qF]
        exact k10 _ _ qR hq9
      · rcases List.mem_append.mp ht with h | h
        · obtain ⟨b1, b2, b0, ns, b3, b4⟩ := al t h
          exact ⟨b1, b2, b0, ns, by rw [upd_ne b2]; exact k510 _ _ b1 b3, b4⟩
        · rw [List.mem_singleton.mp h]
          exact ⟨Ra, FR.symm, k5.free Ra hR5, zs, by rw [upd_ne FR.symm]; exact h10, lz, amz⟩
  · rintro σ H5 ⟨v6, v8, v9, v10, ts, rfl, s5, k5, hq5, lt, hF5, al⟩
    exact ⟨_, rfl, k F H5 s5 k5 ⟨Fa, ts, lt, hF5, fun t ht => ⟨(al t ht).1, (al t ht).2.1, (al t ht).2.2.2⟩⟩ fun ts' e t ht => by
      rw [hF5] at e
      have e2 : ts.map V.ref = ts'.map V.ref := by
        have e := Option.some.inj e
        injection e
      have e3 : ts = ts' := (List.map_inj_right (f := V.ref) (fun _ _ z => by injection z)).mp e2
      subst e3
      exact (al t ht).2.2.1⟩
end
end Pl
namespace Pl
open PySem PySem.Spec PyProof.Rows L2
/-- a further list of amounts behind those before it -/
theorem SInv.push {a D t : Addr} {H0 H H' : Hp} {n i : Nat} {ns : List Int} (p : SInv a D H0 n i H) (s0 : Src H0 a) (hD : H0 D = none) (hi : i ≤ 100) (s : Src H' a) (k : Kp a H H') (nt : H t = none) (ta : t ≠ a) (ht : H' t = some (.lst (ns.map V.int))) (ln : ns.length = n) (am : Am ns) :
    ∃ acc, H' D = some (.lst acc) ∧ acc.length < sizeLine ∧ SInv a D H0 n (i + 1) (L2.upd H' D (.lst (acc ++ [.ref t]))) := by
  obtain ⟨s1, k1, ts, e, hd, al⟩ := p
  have da : D ≠ a := s0.ne hD
  have hd2 := k _ _ da hd
  have dt : D ≠ t := fun z => by rw [z, nt] at hd; cases hd
  refine ⟨ts.map V.ref, hd2, size_lt (by rw [List.length_map, e]; omega), s.put da, (k1.trans k).put hD, ts ++ [t], by simp [e], by rw [upd_same, List.map_append]; rfl, fun u hu => ?_⟩
  rcases List.mem_append.mp hu with h | h
  · obtain ⟨b1, b2, ms, b3, b4⟩ := al u h
    exact ⟨b1, b2, ms, by rw [upd_ne b2]; exact k _ _ b1 b3, b4⟩
  · rw [List.mem_singleton.mp h]
    exact ⟨ta, Ne.symm dt, ns, by rw [upd_ne (Ne.symm dt)]; exact ht, ln, am⟩
section
variable {P : Program} {w : World} {K : PySem.W.Frag} {mg : Str → Option Value} {base : Heap} {CShare CDivision CNoPerson : Addr}
abbrev st_l_lines : Stmt := top 47
theorem sc_l_lines : FnScope ["_law_source_here", "_law_people_here", "_law_many", "_law_way", "_law_base", "_law_most", "_law_found", "_law_person", "_law_at", "_law_shift", "_law_row"] ["_law_source_here", "_law_people_here", "_law_many"] (defScope st_l_lines) := ⟨rfl, rfl, rfl, by decide +kernel, rfl, by decide +kernel, by decide +kernel⟩
theorem ok_lines (B : Bn mg) (c_l_draw : Cal P w K mg base 2 "_law_draw" ["_law_source_here", "_law_many"] spDraw) (c_l_orderly : Cal P w K mg base 3 "_law_orderly" ["_law_source_here", "_law_people_here", "_law_many", "_law_most"] spOrd) (D : Df K mg "_law_lines" st_l_lines ["_law_source_here", "_law_people_here", "_law_many"]) : Cal P w K mg base 4 "_law_lines" ["_law_source_here", "_law_people_here", "_law_many"] spLines := by
  refine D.cal sc_l_lines (fun vs H Q E h => ?_) (fun f cdv A out s H vs Q E hr h => ?_)
  · obtain ⟨a, p, n, rfl, _⟩ := h
    rfl
  obtain ⟨a, p, n, rfl, src, p2, p4, n2, n6, k⟩ := h
  refine ⟨_, (pss_cons (ps_asg (pe_tup (pa_cons (pe_fn c_l_draw (hr.mono (by decide)) (pa_cons (pv 0) (pa_cons pe_int pa_nil))) (pa_cons (pe_fn c_l_draw (hr.mono (by decide)) (pa_cons (pv 0) (pa_cons pe_int pa_nil))) pa_nil))) (pg_tup rfl (pgs_cons (pg_name (i := 3) sc_l_lines.nd rfl (.inl rfl)) (pgs_cons (pg_name (i := 4) sc_l_lines.nd rfl (.inr rfl)) pgs_nil))))
   (pss_cons (ps_if (pt_cmpR op_lt (pv 3) pe_int (nomark _)) (pss_cons (ps_set (i := 5) sc_l_lines.nd rfl (.inr rfl) (pe_ix ix_list (pe_lst (pa_cons pe_int (pa_cons pe_int (pa_cons pe_int (pa_cons pe_int (pa_cons pe_int pa_nil)))))) (pv 3) (fun _ _ => rfl)))
   (pss_one (ps_setLc (i := 6) (own := [("_law_person", 7)]) (g := gName 7) rfl sc_l_lines.nd rfl rfl (sw_true rfl rfl rfl (by decide +kernel)) (pi_range1 (by rfl) B.n_range (pa_cons (pv 1) pa_nil)) (blkOk_by (N := ["_law_source_here", "_law_people_here", "_law_many", "_law_way", "_law_base", "_law_most", "_law_found", "_law_person", "_law_at", "_law_shift", "_law_row"]) (sc := defScope st_l_lines) (by decide +kernel)) (fun _ _ _ _ _ => (pg_name (i := 7) sc_l_lines.nd rfl (.inl rfl))) (fun _ _ _ _ _ => pts_nil) (fun _ _ _ _ _ => (pe_lc (own := [("_law_at", 8)]) (g := gName 8) rfl sc_l_lines.nd (pi_range1 (by rfl) B.n_range (pa_cons (pv 2) pa_nil)) (blkOk_in (N := ["_law_source_here", "_law_people_here", "_law_many", "_law_way", "_law_base", "_law_most", "_law_found", "_law_person", "_law_at", "_law_shift", "_law_row"]) (defScope st_l_lines) rfl (by decide +kernel)) (fun _ _ _ _ _ => (pg_name (i := 8) sc_l_lines.nd rfl (.inl rfl))) (fun _ _ _ _ _ => pts_nil) (fun _ _ _ _ _ => (pe_fn c_l_draw (hr.mono (by decide)) (pa_cons (pv 0) (pa_cons (pe_op op_add (pv 5) pe_int) pa_nil))))))))) (pss_one (ps_if (pt_cmpR op_eq (pv 3) pe_int (nomark _)) (pss_one (ps_setLc (i := 6) (own := [("_law_person", 7)]) (g := gName 7) rfl sc_l_lines.nd rfl rfl (sw_true rfl rfl rfl (by decide +kernel)) (pi_range1 (by rfl) B.n_range (pa_cons (pv 1) pa_nil)) (blkOk_by (N := ["_law_source_here", "_law_people_here", "_law_many", "_law_way", "_law_base", "_law_most", "_law_found", "_law_person", "_law_at", "_law_shift", "_law_row"]) (sc := defScope st_l_lines) (by decide +kernel)) (fun _ _ _ _ _ => (pg_name (i := 7) sc_l_lines.nd rfl (.inl rfl))) (fun _ _ _ _ _ => pts_nil) (fun _ _ _ _ _ => (pe_lc (own := [("_law_at", 8)]) (g := gName 8) rfl sc_l_lines.nd (pi_range1 (by rfl) B.n_range (pa_cons (pv 2) pa_nil)) (blkOk_in (N := ["_law_source_here", "_law_people_here", "_law_many", "_law_way", "_law_base", "_law_most", "_law_found", "_law_person", "_law_at", "_law_shift", "_law_row"]) (defScope st_l_lines) rfl (by decide +kernel)) (fun _ _ _ _ _ => (pg_name (i := 8) sc_l_lines.nd rfl (.inl rfl))) (fun _ _ _ _ _ => pts_nil) (fun _ _ _ _ _ => (pe_ix (show IxR _ (rIxL K) from ix_list) (pe_lst (pa_cons pe_int (pa_cons pe_int (pa_cons pe_int (pa_cons pe_int (pa_cons pe_int pa_nil)))))) (pe_fn c_l_draw (hr.mono (by decide)) (pa_cons (pv 0) (pa_cons pe_int pa_nil))) (fun _ _ => rfl))))))) (pss_one (ps_if (pt_cmpR op_eq (pv 3) pe_int (nomark _)) (pss_one (ps_set (i := 6) sc_l_lines.nd rfl (.inl rfl) (pe_op op_rep (pe_lst (pa_cons (pe_lc (own := [("_law_at", 8)]) (g := gName 8) rfl sc_l_lines.nd (pi_range1 (by rfl) B.n_range (pa_cons (pv 2) pa_nil)) (blkOk_by (N := ["_law_source_here", "_law_people_here", "_law_many", "_law_way", "_law_base", "_law_most", "_law_found", "_law_person", "_law_at", "_law_shift", "_law_row"]) (sc := defScope st_l_lines) (by decide +kernel)) (fun _ _ _ _ _ => (pg_name (i := 8) sc_l_lines.nd rfl (.inl rfl))) (fun _ _ _ _ _ => pts_nil) (fun _ _ _ _ _ => (pe_fn c_l_draw (hr.mono (by decide)) (pa_cons (pv 0) (pa_cons pe_int pa_nil))))) pa_nil)) (pv 1)))) (pss_one (ps_if (pt_cmpR op_lt (pv 3) pe_int (nomark _)) (pss_one (ps_set (i := 6) sc_l_lines.nd rfl (.inl rfl) (pe_fn c_l_orderly (hr.mono (by decide)) (pa_cons (pv 0) (pa_cons (pv 1) (pa_cons (pv 2) (pa_cons (pe_ix ix_list (pe_lst (pa_cons pe_int (pa_cons pe_int pa_nil))) (pe_op op_sub (pv 3) pe_int) (fun _ _ => rfl)) pa_nil))))))) (pss_one (ps_if (pt_cmpR op_eq (pv 3) pe_int (nomark _)) (pss_cons (ps_set (i := 6) sc_l_lines.nd rfl (.inl rfl) (pe_fn c_l_orderly (hr.mono (by decide)) (pa_cons (pv 0) (pa_cons (pv 1) (pa_cons (pv 2) (pa_cons pe_int pa_nil))))))
   (pss_cons (ps_par (i := 7) (j := 8) (by rfl) sc_l_lines.nd rfl rfl (by decide) rfl rfl (pa_cons (pe_fn c_l_draw (hr.mono (by decide)) (pa_cons (pv 0) (pa_cons (pv 1) pa_nil))) (pa_cons (pe_fn c_l_draw (hr.mono (by decide)) (pa_cons (pv 0) (pa_cons (pv 2) pa_nil))) pa_nil)) (by rfl))
   (pss_one (ps_asg (pe_op op_mod (pe_op op_add (pe_op op_add (pe_ix ix_list (pe_ix ix_list (pv 6) (pv 7) (fun _ _ => rfl)) (pv 8) (fun _ _ => rfl)) pe_int) (pe_fn c_l_draw (hr.mono (by decide)) (pa_cons (pv 0) (pa_cons pe_int pa_nil)))) pe_int) (pg_sub (pe_ix ix_list (pv 6) (pv 7) (fun _ _ => rfl)) (pv 8) set_list))))) (pss_cons (ps_set (i := 9) sc_l_lines.nd rfl (.inr rfl) (pe_fn c_l_draw (hr.mono (by decide)) (pa_cons (pv 0) (pa_cons pe_int pa_nil))))
   (pss_one (ps_setLc (i := 6) (own := [("_law_person", 7)]) (g := gName 7) rfl sc_l_lines.nd rfl rfl (sw_true rfl rfl rfl (by decide +kernel)) (pi_range1 (by rfl) B.n_range (pa_cons (pv 1) pa_nil)) (blkOk_by (N := ["_law_source_here", "_law_people_here", "_law_many", "_law_way", "_law_base", "_law_most", "_law_found", "_law_person", "_law_at", "_law_shift", "_law_row"]) (sc := defScope st_l_lines) (by decide +kernel)) (fun _ _ _ _ _ => (pg_name (i := 7) sc_l_lines.nd rfl (.inr rfl))) (fun _ _ _ _ _ => pts_nil) (fun _ _ _ _ _ => (pe_lc (own := [("_law_at", 8)]) (g := gName 8) rfl sc_l_lines.nd (pi_range1 (by rfl) B.n_range (pa_cons (pv 2) pa_nil)) (blkOk_in (N := ["_law_source_here", "_law_people_here", "_law_many", "_law_way", "_law_base", "_law_most", "_law_found", "_law_person", "_law_at", "_law_shift", "_law_row"]) (defScope st_l_lines) rfl (by decide +kernel)) (fun _ _ _ _ _ => (pg_name (i := 8) sc_l_lines.nd rfl (.inl rfl))) (fun _ _ _ _ _ => pts_nil) (fun _ _ _ _ _ => (pe_op op_add (pv 4) (pe_op op_mod (pe_op op_add (pv 8) (pe_op op_mul (pv 9) (pv 7))) pe_int)))))))))))))))))
   (pss_one (ps_ret (pe_lc (own := [("_law_row", 10)]) (g := gName 10) rfl sc_l_lines.nd (pi_list (pv 6)) (blkOk_by (N := ["_law_source_here", "_law_people_here", "_law_many", "_law_way", "_law_base", "_law_most", "_law_found", "_law_person", "_law_at", "_law_shift", "_law_row"]) (sc := defScope st_l_lines) (by decide +kernel)) (fun _ _ _ _ _ => (pg_name (i := 10) sc_l_lines.nd rfl (.inl rfl))) (fun _ _ _ _ _ => pts_nil) (fun _ _ _ _ _ => (pe_callTy (show CallR _ (.type "tuple") (rTupleOf K) from call_tuple_of) (by rfl) B.n_tuple (by decide +kernel) (pa_cons (pv 10) pa_nil)))))))), ?_⟩
  refine ⟨_, rfl, a, 11, rfl, src, by decide, by decide, fun r1 H1 r10 r11 s1 k1 => ⟨_, rfl, a, 28, rfl, s1, by decide, by decide, fun r2 H2 r20 r21 s2 k2 => ⟨(by show 2 ≤ sizeLine; decide), fun T hT => ?_⟩⟩⟩
  generalize hHB : upd H2 T _ = HB
  have kT : Same H2 HB := by rw [← hHB]; exact same_new (Same.refl _) hT
  have eT : HB T = some (.tup [.int r1, .int r2]) := by rw [← hHB, upd_same]
  clear hHB
  refine ⟨T, _, rfl, SqT.of eT, rfl, _, _, rfl, _, _, rfl, rfl, ?_⟩
  have kB := (k1.trans k2).trans (Kp.of kT)
  have sB := s2.same kT
  clear k1 k2 s1 kT s2 eT
  refine ⟨_, rfl, _, _, rfl, rfl, _, rfl, ?_⟩
  refine ite2 (fun c => ?_) (fun c => ?_)
  · have c5 : r1 < 5 := of_decide_eq_true c
    refine ⟨(by show 5 ≤ sizeLine; decide), fun L hL => ?_⟩
    generalize hHC : upd HB L _ = HC
    have kL : Same HB HC := by rw [← hHC]; exact same_new (Same.refl _) hL
    have eL : HC L = some (.lst ([30, 1, 2, 3, 5].map V.int)) := by rw [← hHC, upd_same]; rfl
    clear hHC
    obtain ⟨mo, _, mm, am⟩ := at_int (ms := [30, 1, 2, 3, 5]) (r := r1) r10 (by show r1 < 5; omega)
    have mb : 0 ≤ mo ∧ mo ≤ 30 := by
      simp only [List.mem_cons, List.not_mem_nil, or_false] at mm
      omega
    refine ⟨_, rfl, L, _, _, _, rfl, rfl, SqL.of eL, am, ?_⟩
    have sB := sB.same kL
    have kB := kB.trans (Kp.of kL)
    clear kL eL am
    generalize HC = HB at sB kB
    refine ⟨_, rfl, p, rfl, by omega, by omega, fun F hF0 => lc_range (lo := 0) (n := p) (SInv a F HB n) (SInv.start sB hF0) (fun i H5 hi p5 => ⟨rfl, tyes ?_⟩) (fun HF p5 => ?_)⟩
    · refine ⟨_, rfl, n, rfl, by omega, by omega, fun D2 hD2 => lc_range (lo := 0) (n := n) (AInv a D2 H5) (AInv.start p5.1 hD2) (fun j H6 hj p6 => ⟨rfl, tyes ?_⟩) (fun H6 p6 => ?_)⟩
      · refine ⟨_, rfl, _, rfl, _, _, rfl, rfl, ?_⟩
        exact ⟨a, mo + 1, rfl, p6.src, by omega, by omega, fun r H7 r0 r1 s7 k7 => p6.next (by omega) hD2 (p5.1.ne hD2) s7 k7 r0 (by omega)⟩
      · exact (by
          obtain ⟨ys, ly, amy, s6, k6, hd6⟩ := p6
          exact p5.push sB hF0 (by omega) s6 k6 hD2 (p5.1.ne hD2) hd6 ly amy)
    have sF := p5.1
    have kF := kB.trans p5.2.1
    have sf := p5.sf sB hF0
    obtain ⟨Fa, ts, lt, hF, al⟩ := sf
    refine ⟨_, rfl, F, rfl, ⟨_, SqL.of hF⟩, fun D hD => lc_list (K := K) (a := F) (xs := ts.map V.ref) (LInv a D HF n) (LInv.start sF hD) (fun i H' _ q => SqL.of (q.2.1 _ _ Fa hF)) (fun i x H' hx q => ⟨rfl, tyes ?_⟩) (fun H' q => ?_)⟩
    · have hi : i < ts.length := by simpa using (List.getElem?_eq_some_iff.mp hx).1
      obtain ⟨t, ht, rfl⟩ := List.mem_map.mp (List.mem_of_getElem? hx)
      obtain ⟨ta, tF, ns, hns, ln, am⟩ := al t ht
      refine ⟨_, rfl, t, _, rfl, .inl ⟨SqL.of (q.2.1 _ _ ta hns), fun u hu => ?_⟩⟩
      exact q.next sF hD (by omega) (q.1.upd hu) (Kp.of (same_new (Same.refl _) hu)) upd_same ln am
    · rw [List.length_map, lt] at q
      obtain ⟨s', k', ts', rows, er, ok, hd, tp⟩ := q
      have rw' : Rows rows := ⟨by omega, by omega, n, n2, n6, ok⟩
      exact k D ts' rows H' rw' tp hd (sF.ne hD) s' (kF.trans k') (by
        have m := List.getElem_mem (l := rows) (n := 0) (by omega)
        rw [← rw'.wdt m]
        exact (ok _ m).1)
  have c5 : ¬ r1 < 5 := fun z => c (decide_eq_true z)
  clear c
  refine ⟨_, rfl, rfl, _, rfl, ?_⟩
  refine ite2 (fun c => ?_) (fun c => ?_)
  · refine ⟨_, rfl, p, rfl, by omega, by omega, fun F hF0 => lc_range (lo := 0) (n := p) (SInv a F HB n) (SInv.start sB hF0) (fun i H5 hi p5 => ⟨rfl, tyes ?_⟩) (fun HF p5 => ?_)⟩
    · refine ⟨_, rfl, n, rfl, by omega, by omega, fun D2 hD2 => lc_range (lo := 0) (n := n) (AInv a D2 H5) (AInv.start p5.1 hD2) (fun j H6 hj p6 => ⟨rfl, tyes ?_⟩) (fun H6 p6 => ?_)⟩
      · refine ⟨(by show 5 ≤ sizeLine; decide), fun L hL => ?_⟩
        have La : L ≠ a := p6.src.ne hL
        generalize hHC : upd H6 L _ = HC
        have kL : Same H6 HC := by rw [← hHC]; exact same_new (Same.refl _) hL
        have eL : HC L = some (.lst ([0, 30, 15, 16, 1].map V.int)) := by rw [← hHC, upd_same]; rfl
        clear hHC
        refine ⟨_, rfl, a, 5, rfl, p6.src.same kL, by decide, by decide, fun r H7 r0 r1 s7 k7 => ?_⟩
        obtain ⟨mo, _, mm, am⟩ := at_int (ms := [0, 30, 15, 16, 1]) (r := r) r0 (by show r < 5; omega)
        have mb : 0 ≤ mo ∧ mo ≤ 30 := by
          simp only [List.mem_cons, List.not_mem_nil, or_false] at mm
          omega
        exact ⟨L, _, _, _, rfl, rfl, SqL.of (k7 _ _ La eL), am, p6.next (by omega) hD2 (p5.1.ne hD2) s7 ((Kp.of kL).trans k7) mb.1 mb.2⟩
      · exact (by
          obtain ⟨ys, ly, amy, s6, k6, hd6⟩ := p6
          exact p5.push sB hF0 (by omega) s6 k6 hD2 (p5.1.ne hD2) hd6 ly amy)
    have sF := p5.1
    have kF := kB.trans p5.2.1
    have sf := p5.sf sB hF0
    obtain ⟨Fa, ts, lt, hF, al⟩ := sf
    refine ⟨_, rfl, F, rfl, ⟨_, SqL.of hF⟩, fun D hD => lc_list (K := K) (a := F) (xs := ts.map V.ref) (LInv a D HF n) (LInv.start sF hD) (fun i H' _ q => SqL.of (q.2.1 _ _ Fa hF)) (fun i x H' hx q => ⟨rfl, tyes ?_⟩) (fun H' q => ?_)⟩
    · have hi : i < ts.length := by simpa using (List.getElem?_eq_some_iff.mp hx).1
      obtain ⟨t, ht, rfl⟩ := List.mem_map.mp (List.mem_of_getElem? hx)
      obtain ⟨ta, tF, ns, hns, ln, am⟩ := al t ht
      refine ⟨_, rfl, t, _, rfl, .inl ⟨SqL.of (q.2.1 _ _ ta hns), fun u hu => ?_⟩⟩
      exact q.next sF hD (by omega) (q.1.upd hu) (Kp.of (same_new (Same.refl _) hu)) upd_same ln am
    · rw [List.length_map, lt] at q
      obtain ⟨s', k', ts', rows, er, ok, hd, tp⟩ := q
      have rw' : Rows rows := ⟨by omega, by omega, n, n2, n6, ok⟩
      exact k D ts' rows H' rw' tp hd (sF.ne hD) s' (kF.trans k') (by
        have m := List.getElem_mem (l := rows) (n := 0) (by omega)
        rw [← rw'.wdt m]
        exact (ok _ m).1)
  have c6 : ¬ r1 = 5 := fun z => c (by rw [z]; exact decide_eq_true rfl)
  clear c
  refine ⟨_, rfl, rfl, _, rfl, ?_⟩
  refine ite2 (fun c => ?_) (fun c => ?_)
  · refine ⟨_, rfl, n, rfl, by omega, by omega, fun D2 hD2 => lc_range (lo := 0) (n := n) (AInv a D2 HB) (AInv.start sB hD2) (fun j H6 hj p6 => ⟨rfl, tyes ?_⟩) (fun H6 p6 => ?_)⟩
    · exact ⟨_, rfl, a, 4, rfl, p6.src, by decide, by decide, fun r H7 r0 r1 s7 k7 => p6.next (by omega) hD2 (sB.ne hD2) s7 k7 r0 (by omega)⟩
    obtain ⟨ys, ly, amy, s6, k6, hd6⟩ := p6
    have D2a : D2 ≠ a := sB.ne hD2
    refine ⟨(by show 1 ≤ sizeLine; decide), fun z hz => ?_⟩
    generalize hHC : upd H6 z _ = HC
    have kz : Same H6 HC := by rw [← hHC]; exact same_new (Same.refl _) hz
    have ez : HC z = some (.lst [.ref D2]) := by rw [← hHC, upd_same]
    clear hHC
    refine ⟨_, rfl, z, _, _, rfl, rfl, ez, by omega, by omega, Nat.le_trans (show 1 * _ ≤ 100 by omega) (by decide), fun F hF => ?_⟩
    have Fa : F ≠ a := (s6.same kz).ne hF
    generalize hHF : upd HC F _ = HF
    have kF' : Same HC HF := by rw [← hHF]; exact same_new (Same.refl _) hF
    have eF : HF F = some (.lst ((List.replicate p D2).map V.ref)) := by
      rw [← hHF, upd_same, rep_flat, List.map_replicate]
      rfl
    clear hHF
    have DF : D2 ≠ F := fun e => by rw [← e, kz _ _ hd6] at hF; cases hF
    have sF := (s6.same kz).same kF'
    have kF := (kB.trans k6).trans (Kp.of (kz.trans kF'))
    have sf : SF a F n p HF := ⟨Fa, List.replicate p D2, by simp, eF, fun t ht => by
      rw [(List.mem_replicate.mp ht).2]
      exact ⟨D2a, DF, ys, kF' _ _ (kz _ _ hd6), ly, amy⟩⟩
    obtain ⟨Fa, ts, lt, hF, al⟩ := sf
    refine ⟨_, rfl, F, rfl, ⟨_, SqL.of hF⟩, fun D hD => lc_list (K := K) (a := F) (xs := ts.map V.ref) (LInv a D HF n) (LInv.start sF hD) (fun i H' _ q => SqL.of (q.2.1 _ _ Fa hF)) (fun i x H' hx q => ⟨rfl, tyes ?_⟩) (fun H' q => ?_)⟩
    · have hi : i < ts.length := by simpa using (List.getElem?_eq_some_iff.mp hx).1
      obtain ⟨t, ht, rfl⟩ := List.mem_map.mp (List.mem_of_getElem? hx)
      obtain ⟨ta, tF, ns, hns, ln, am⟩ := al t ht
      refine ⟨_, rfl, t, _, rfl, .inl ⟨SqL.of (q.2.1 _ _ ta hns), fun u hu => ?_⟩⟩
      exact q.next sF hD (by omega) (q.1.upd hu) (Kp.of (same_new (Same.refl _) hu)) upd_same ln am
    · rw [List.length_map, lt] at q
      obtain ⟨s', k', ts', rows, er, ok, hd, tp⟩ := q
      have rw' : Rows rows := ⟨by omega, by omega, n, n2, n6, ok⟩
      exact k D ts' rows H' rw' tp hd (sF.ne hD) s' (kF.trans k') (by
        have m := List.getElem_mem (l := rows) (n := 0) (by omega)
        rw [← rw'.wdt m]
        exact (ok _ m).1)
  have c7 : ¬ r1 = 6 := fun z => c (by rw [z]; exact decide_eq_true rfl)
  clear c
  refine ⟨_, rfl, _, _, rfl, rfl, _, rfl, ?_⟩
  refine ite2 (fun c => ?_) (fun c => ?_)
  · have c9 : r1 < 9 := of_decide_eq_true c
    refine ⟨_, rfl, _, rfl, _, rfl, (by show 2 ≤ sizeLine; decide), fun L hL => ?_⟩
    generalize hHC : upd HB L _ = HC
    have kL : Same HB HC := by rw [← hHC]; exact same_new (Same.refl _) hL
    have eL : HC L = some (.lst ([30, 3].map V.int)) := by rw [← hHC, upd_same]; rfl
    clear hHC
    obtain ⟨mo, _, mm, am⟩ := at_int (ms := [30, 3]) (r := r1 - 7) (by omega) (by show r1 - 7 < 2; omega)
    have mb : 0 ≤ mo ∧ mo ≤ 30 := by
      simp only [List.mem_cons, List.not_mem_nil, or_false] at mm
      omega
    refine ⟨_, rfl, _, _, rfl, rfl, L, _, _, _, rfl, rfl, SqL.of eL, am, a, p, n, mo, rfl, sB.same kL, p2, p4, n2, n6, mb.1, mb.2, fun F HF sF k3 sf _ => ?_⟩
    have kF := (kB.trans (Kp.of kL)).trans k3
    obtain ⟨Fa, ts, lt, hF, al⟩ := sf
    refine ⟨_, rfl, F, rfl, ⟨_, SqL.of hF⟩, fun D hD => lc_list (K := K) (a := F) (xs := ts.map V.ref) (LInv a D HF n) (LInv.start sF hD) (fun i H' _ q => SqL.of (q.2.1 _ _ Fa hF)) (fun i x H' hx q => ⟨rfl, tyes ?_⟩) (fun H' q => ?_)⟩
    · have hi : i < ts.length := by simpa using (List.getElem?_eq_some_iff.mp hx).1
      obtain ⟨t, ht, rfl⟩ := List.mem_map.mp (List.mem_of_getElem? hx)
      obtain ⟨ta, tF, ns, hns, ln, am⟩ := al t ht
      refine ⟨_, rfl, t, _, rfl, .inl ⟨SqL.of (q.2.1 _ _ ta hns), fun u hu => ?_⟩⟩
      exact q.next sF hD (by omega) (q.1.upd hu) (Kp.of (same_new (Same.refl _) hu)) upd_same ln am
    · rw [List.length_map, lt] at q
      obtain ⟨s', k', ts', rows, er, ok, hd, tp⟩ := q
      have rw' : Rows rows := ⟨by omega, by omega, n, n2, n6, ok⟩
      exact k D ts' rows H' rw' tp hd (sF.ne hD) s' (kF.trans k') (by
        have m := List.getElem_mem (l := rows) (n := 0) (by omega)
        rw [← rw'.wdt m]
        exact (ok _ m).1)
  have c9 : ¬ r1 < 9 := fun z => c (decide_eq_true z)
  clear c
  refine ⟨_, rfl, rfl, _, rfl, ?_⟩
  refine ite2 (fun c => ?_) (fun c => ?_)
  · refine ⟨_, rfl, _, rfl, _, rfl, a, p, n, 4, rfl, sB, p2, p4, n2, n6, by decide, by decide, fun F H3 s3 k3 sf fr => ?_⟩
    obtain ⟨Fa, ts, lt, hF, al⟩ := sf
    refine ⟨_, rfl, _, rfl, a, p, rfl, s3, by omega, by omega, fun rp H4 rp0 rp1 s4 k4 => ⟨_, rfl, _, rfl, a, n, rfl, s4, by omega, by omega, fun ra H5 ra0 ra1 s5 k5 => ⟨_, _, rfl, ?_⟩⟩⟩
    have k35 := k4.trans k5
    have hF5 := k35 _ _ Fa hF
    obtain ⟨v, hv, ev, at1⟩ := at_of_lt (xs := ts.map V.ref) rp0 (by rw [List.length_map, lt]; exact rp1)
    obtain ⟨t, ht, rfl⟩ := List.mem_map.mp hv
    obtain ⟨ta, tF, ns, hns, ln, am⟩ := al t ht
    have hns5 := k35 _ _ ta hns
    obtain ⟨x, ex, mx, ax⟩ := at_int (ms := ns) (r := ra) ra0 (by omega)
    refine ⟨_, rfl, _, rfl, F, _, _, _, rfl, rfl, SqL.of hF5, at1, _, rfl, t, _, _, _, rfl, rfl, SqL.of hns5, ax, _, _, rfl, rfl, _, rfl, a, 3, rfl, s5, by decide, by decide, fun r H6 r0 r1 s6 k6 => ?_⟩
    have hF6 := k6 _ _ Fa hF5
    have hns6 := k6 _ _ ta hns5
    refine ⟨_, _, rfl, rfl, _, _, rfl, rfl, (by show (0 : Int) < 6; decide), _, rfl, _, rfl, F, _, _, _, rfl, rfl, SqL.of hF6, at1, _, rfl, t, _, _, ra.toNat, rfl, rfl, hns6, ix_of ra0 (by rw [List.length_map]; omega), ?_⟩
    have e0 := Int.emod_nonneg (x + 1 + r) (show (6 : Int) ≠ 0 by decide)
    have e1 := Int.emod_lt_of_pos (x + 1 + r) (show (0 : Int) < 6 by decide)
    generalize hHF : upd H6 t _ = HF
    have kt : Kp t H6 HF := by rw [← hHF]; exact Kp.upd
    have et : HF t = some (.lst ((ns.set ra.toNat ((x + 1 + r) % 6)).map V.int)) := by rw [← hHF, upd_same, List.map_set]
    have sF : Src HF a := by rw [← hHF]; exact s6.put ta
    clear hHF
    have k36 := k35.trans k6
    have kF : Kp a H HF := fun b o nb e => by
      have z := ((kB.trans k3).trans k36) _ _ nb e
      by_cases bt : b = t
      · have z0 : HB b = some o := kB _ _ nb e
        rw [bt, fr ts hF t ht] at z0
        cases z0
      · exact kt _ _ bt z
    have sf : SF a F n p HF := ⟨Fa, ts, lt, kt _ _ (Ne.symm tF) hF6, fun u hu => by
      obtain ⟨ua, uF, ms, hms, lm, amm⟩ := al u hu
      by_cases ut : u = t
      · subst ut
        exact ⟨ua, uF, _, et, by rw [List.length_set]; exact ln, am_set am (by omega) (by omega)⟩
      · exact ⟨ua, uF, ms, kt _ _ ut (k36 _ _ ua hms), lm, amm⟩⟩
    obtain ⟨Fa, ts, lt, hF, al⟩ := sf
    refine ⟨_, rfl, F, rfl, ⟨_, SqL.of hF⟩, fun D hD => lc_list (K := K) (a := F) (xs := ts.map V.ref) (LInv a D HF n) (LInv.start sF hD) (fun i H' _ q => SqL.of (q.2.1 _ _ Fa hF)) (fun i x H' hx q => ⟨rfl, tyes ?_⟩) (fun H' q => ?_)⟩
    · have hi : i < ts.length := by simpa using (List.getElem?_eq_some_iff.mp hx).1
      obtain ⟨t, ht, rfl⟩ := List.mem_map.mp (List.mem_of_getElem? hx)
      obtain ⟨ta, tF, ns, hns, ln, am⟩ := al t ht
      refine ⟨_, rfl, t, _, rfl, .inl ⟨SqL.of (q.2.1 _ _ ta hns), fun u hu => ?_⟩⟩
      exact q.next sF hD (by omega) (q.1.upd hu) (Kp.of (same_new (Same.refl _) hu)) upd_same ln am
    · rw [List.length_map, lt] at q
      obtain ⟨s', k', ts', rows, er, ok, hd, tp⟩ := q
      have rw' : Rows rows := ⟨by omega, by omega, n, n2, n6, ok⟩
      exact k D ts' rows H' rw' tp hd (sF.ne hD) s' (kF.trans k') (by
        have m := List.getElem_mem (l := rows) (n := 0) (by omega)
        rw [← rw'.wdt m]
        exact (ok _ m).1)
  · refine ⟨_, rfl, a, 3, rfl, sB, by decide, by decide, fun sh H3 sh0 sh1 s3 k3 => ?_⟩
    have kB := kB.trans k3
    have sB := s3
    clear k3 s3
    generalize H3 = HB at sB kB
    refine ⟨_, rfl, p, rfl, by omega, by omega, fun F hF0 => lc_range (lo := 0) (n := p) (SInv a F HB n) (SInv.start sB hF0) (fun i H5 hi p5 => ⟨rfl, tyes ?_⟩) (fun HF p5 => ?_)⟩
    · refine ⟨_, rfl, n, rfl, by omega, by omega, fun D2 hD2 => lc_range (lo := 0) (n := n) (AInv a D2 H5) (AInv.start p5.1 hD2) (fun j H6 hj p6 => ⟨rfl, tyes ?_⟩) (fun H6 p6 => ?_)⟩
      · refine ⟨_, rfl, _, rfl, _, rfl, _, rfl, _, _, rfl, rfl, .inl ⟨by omega, by omega⟩, _, _, rfl, rfl, _, _, rfl, rfl, (by show (0 : Int) < 3; decide), _, _, rfl, rfl, ?_⟩
        have e0 := Int.emod_nonneg (0 + (j : Int) + sh * (0 + (i : Int))) (show (3 : Int) ≠ 0 by decide)
        have e1 := Int.emod_lt_of_pos (0 + (j : Int) + sh * (0 + (i : Int))) (show (0 : Int) < 3 by decide)
        exact p6.next (by omega) hD2 (p5.1.ne hD2) p6.src (Kp.refl _ _) (by omega) (by omega)
      · exact (by
          obtain ⟨ys, ly, amy, s6, k6, hd6⟩ := p6
          exact p5.push sB hF0 (by omega) s6 k6 hD2 (p5.1.ne hD2) hd6 ly amy)
    have sF := p5.1
    have kF := kB.trans p5.2.1
    have sf := p5.sf sB hF0
    obtain ⟨Fa, ts, lt, hF, al⟩ := sf
    refine ⟨_, rfl, F, rfl, ⟨_, SqL.of hF⟩, fun D hD => lc_list (K := K) (a := F) (xs := ts.map V.ref) (LInv a D HF n) (LInv.start sF hD) (fun i H' _ q => SqL.of (q.2.1 _ _ Fa hF)) (fun i x H' hx q => ⟨rfl, tyes ?_⟩) (fun H' q => ?_)⟩
    · have hi : i < ts.length := by simpa using (List.getElem?_eq_some_iff.mp hx).1
      obtain ⟨t, ht, rfl⟩ := List.mem_map.mp (List.mem_of_getElem? hx)
      obtain ⟨ta, tF, ns, hns, ln, am⟩ := al t ht
      refine ⟨_, rfl, t, _, rfl, .inl ⟨SqL.of (q.2.1 _ _ ta hns), fun u hu => ?_⟩⟩
      exact q.next sF hD (by omega) (q.1.upd hu) (Kp.of (same_new (Same.refl _) hu)) upd_same ln am
    · rw [List.length_map, lt] at q
      obtain ⟨s', k', ts', rows, er, ok, hd, tp⟩ := q
      have rw' : Rows rows := ⟨by omega, by omega, n, n2, n6, ok⟩
      exact k D ts' rows H' rw' tp hd (sF.ne hD) s' (kF.trans k') (by
        have m := List.getElem_mem (l := rows) (n := 0) (by omega)
        rw [← rw'.wdt m]
        exact (ok _ m).1)
end
end Pl
namespace Pl
open PySem PySem.Spec PyProof.Rows L2
def spDiv (CD C : Addr) : Sp := fun vs H Q _ => ∃ (p : Addr) (ts : List Addr) (rows : List (List Int)), vs = [.ref p] ∧ H p = some (.lst (ts.map V.ref)) ∧ TpAll H ts rows ∧ Rows rows ∧ ∀ (d t : Addr) (ss : List Addr) (H' : Hp), Same H H' → DvAt CD C H' d t ss rows → Q (.ref d) H'
def spDrawn : Sp := fun vs H Q _ => ∃ a : Addr, vs = [.ref a] ∧ Src H a ∧ ∀ (l : Addr) (ts : List Addr) (rows : List (List Int)) (H' : Hp), Rows rows → TpAll H' ts rows → H' l = some (.lst (ts.map V.ref)) → l ≠ a → Src H' a → Kp a H H' → Q (.ref l) H'
section
variable {P : Program} {w : World} {K : PySem.W.Frag} {mg : Str → Option Value} {base : Heap} {CShare CDivision CNoPerson : Addr}
abbrev st_l_division : Stmt := top 48
theorem sc_l_division : FnScope ["_law_lines_here", "_law_row", "_law_amount"] ["_law_lines_here"] (defScope st_l_division) := ⟨rfl, rfl, rfl, by decide +kernel, rfl, by decide +kernel, by decide +kernel⟩
theorem ok_ldiv (B : Bn mg) (SDivision : DvK K mg CDivision) (cm_read : CmCal P w K mg base CX0 7 CDivision "read" (spRead CDivision CShare)) (D : Df K mg "_law_division" st_l_division ["_law_lines_here"]) : Cal P w K mg base 8 "_law_division" ["_law_lines_here"] (spDiv CDivision CShare) := by
  refine D.cal sc_l_division (fun vs H Q E h => ?_) (fun f cdv A out s H vs Q E hr h => ?_)
  · obtain ⟨p, ts, rows, rfl, _⟩ := h
    rfl
  obtain ⟨p, ts, rows, rfl, hp, tp, rw_, k⟩ := h
  refine ⟨_, (pss_one (ps_ret (pe_cm cm_read pass0 (hr.mono (by decide)) (pe_glob (v := .ref CDivision) rfl SDivision.mgC rfl) (pa_cons (pe_join pe_str (pe_lc (own := [("_law_row", 1)]) (g := gName 1) rfl sc_l_division.nd (pi_list (pv 0)) (blkOk_by (N := ["_law_lines_here", "_law_row", "_law_amount"]) (sc := defScope st_l_division) (by decide +kernel)) (fun _ _ _ _ _ => (pg_name (i := 1) sc_l_division.nd rfl (.inl rfl))) (fun _ _ _ _ _ => pts_nil) (fun _ _ _ _ _ => (pe_op op_add_str (pe_joinK (K := K) pe_str (pe_lc (own := [("_law_amount", 2)]) (g := gName 2) rfl sc_l_division.nd (pi_tupK (K := K) (pv 1)) (blkOk_in (N := ["_law_lines_here", "_law_row", "_law_amount"]) (defScope st_l_division) rfl (by decide +kernel)) (fun _ _ _ _ _ => (pg_name (i := 2) sc_l_division.nd rfl (.inl rfl))) (fun _ _ _ _ _ => pts_nil) (fun _ _ _ _ _ => (pe_callTy call_str_int (by rfl) B.n_str (by decide +kernel) (pa_cons (pv 2) pa_nil))))) pe_str)))) pa_nil)))), ?_⟩
  have ln := tp.1
  have l4 := rw_.2.1
  refine ⟨rfl, ⟨_, rfl⟩, ?_⟩
  refine ⟨_, rfl, p, rfl, ⟨_, SqL.of hp⟩, fun D hD => lc_list (K := K) (a := p) (xs := ts.map V.ref)
    (fun i H' => Same H H' ∧ H' D = some (.lst (((rows.map fun ns => line ns ++ "\n").take i).map V.str))) ⟨same_new (Same.refl H) hD, upd_same⟩ (fun i H' _ q => SqL.of (q.1 _ _ hp)) (fun i x H' hx q => ⟨rfl, tyes ?_⟩) (fun H' q => ?_)⟩
  · rw [List.getElem?_map] at hx
    cases e : ts[i]? with
    | none => rw [e] at hx; cases hx
    | some t1 =>
      rw [e] at hx
      obtain rfl : V.ref t1 = x := Option.some.inj hx
      have il := (List.getElem?_eq_some_iff.mp e).1
      have en : rows[i]? = some rows[i] := List.getElem?_eq_getElem (by omega)
      generalize rows[i] = ns at en
      have ht := q.1 _ _ (tp.2 i t1 ns e en)
      have m := List.mem_of_getElem? en
      have am := rw_.am ns m
      have lb := line_len am
      have l6 := rw_.l6 m
      refine ⟨⟨_, rfl⟩, ?_⟩
      refine ⟨_, rfl, t1, rfl, ⟨_, SqT.of ht⟩, fun D2 hD2 => lc_tup (K := K) (a := t1) (xs := ns.map V.int) (fun j H2 => Same H' H2 ∧ H2 D2 = some (.lst (((ns.map wd).take j).map V.str)))
        ⟨same_new (Same.refl H') hD2, upd_same⟩ (fun j H2 _ q2 => SqT.of (q2.1 _ _ ht)) (fun j x2 H2 hx2 q2 => ⟨rfl, tyes ?_⟩) (fun H2 q2 => ?_)⟩
      · rw [List.getElem?_map] at hx2
        cases e2 : ns[j]? with
        | none => rw [e2] at hx2; cases hx2
        | some n =>
          rw [e2] at hx2
          obtain rfl : V.int n = x2 := Option.some.inj hx2
          have a := am n (List.mem_of_getElem? e2)
          refine ⟨_, rfl, n, rfl, log_am a.1 a.2, _, q2.2, size_lt (by rw [List.length_map, List.length_take, List.length_map]; omega), same_put q2.1 hD2, ?_⟩
          have e3 : (ns.map wd)[j]? = some (wd n) := by rw [List.getElem?_map, e2]; rfl
          rw [upd_same, List.take_add_one, e3, List.map_append]
          rfl
      · have e2 := q2.2
        rw [List.length_map, ← List.length_map (f := wd), List.take_length] at e2
        refine ⟨_, D2, ns.map wd, rfl, rfl, .inl (SqL.of e2), ?_, ?_⟩
        · have := words_len am
          have l1 : (" " : Str).length = 1 := rfl
          rw [l1, List.length_map]
          omega
        · rw [TL.join_eq]
          have lz2 : (line ns).length + ("\n" : Str).length ≤ sizeLine := size_of (by show (line ns).length + 1 ≤ 1000; omega)
          refine ⟨_, _, rfl, rfl, lz2, _, q2.1 _ _ q.2, size_lt (by rw [List.length_map, List.length_take, List.length_map]; omega), same_put (q.1.trans q2.1) hD, ?_⟩
          have e3 : (rows.map fun ns => line ns ++ "\n")[i]? = some (line ns ++ "\n") := by rw [List.getElem?_map, en]; rfl
          rw [upd_same, List.take_add_one, e3, List.map_append]
          rfl
  · have e := q.2
    rw [List.length_map, ln, ← List.length_map (f := fun ns => line ns ++ "\n"), List.take_length] at e
    refine ⟨_, D, _, rfl, rfl, .inl (SqL.of e), ?_, ?_⟩
    · have z : ("" : Str).length = 0 := rfl
      rw [z, Nat.mul_zero, Nat.add_zero]
      refine Nat.le_trans (m := 19 * rows.length) ?_ (by omega)
      have all : ∀ ns ∈ rows, (line ns ++ "\n").length ≤ 19 := fun ns hn => by
        rw [TL.len_tl, TL.tl_append, List.length_append, ← TL.len_tl]
        have := line_len (rw_.am ns hn)
        have := rw_.l6 hn
        show (line ns).length + 1 ≤ 19
        omega
      exact sum_le all
    · rw [TL.join_eq]
      exact ⟨rows, rfl, rw_, fun d t ss H2 k2 dv => k d t ss H2 (q.1.trans k2) dv⟩
end
end Pl
namespace Pl
open PySem PySem.Spec PyProof.Rows L2
/-- pairs of states between which somebody rises -/
def EdC (rows : List (List Int)) (s t : Nat) (m : Int) : Prop := s < wdt rows ∧ t < wdt rows ∧ (∃ p, p < rows.length ∧ 1 ≤ rs rows p s t) ∧ ((m = 0 ∧ ∀ p, p < rows.length → rs rows p s t ≤ 1) ∨ (m = 1 ∧ ∃ p, p < rows.length ∧ 2 ≤ rs rows p s t))
theorem edC_ok (rows : List (List Int)) : Cok (EdC rows) (wdt rows) := fun s t m ⟨a, b, _, c⟩ => ⟨a, b, by omega, by omega⟩
theorem sol_same {rows : List (List Int)} {g : List Int} : Sol (NdC rows) (wdt rows) g ↔ Sol (EdC rows) (wdt rows) g := by
  constructor
  · rintro ⟨l, nn, st⟩
    refine ⟨l, nn, fun s t m ⟨a, b, ⟨p, lp, c⟩, d⟩ => ?_⟩
    rcases d with ⟨rfl, d⟩ | ⟨rfl, p2, lp2, d⟩
    · have := st s t _ ⟨p, lp, a, b, c, rfl⟩
      have := d p lp
      omega
    · have := st s t _ ⟨p2, lp2, a, b, by omega, rfl⟩
      omega
  · rintro ⟨l, nn, st⟩
    refine ⟨l, nn, fun s t m ⟨p, lp, a, b, c, e⟩ => ?_⟩
    by_cases z : ∃ p, p < rows.length ∧ 2 ≤ rs rows p s t
    · have := st s t 1 ⟨a, b, ⟨p, lp, c⟩, .inr ⟨rfl, z⟩⟩
      omega
    · have z' : ∀ p, p < rows.length → rs rows p s t ≤ 1 := fun p lp => by
        refine Classical.byContradiction fun y => z ⟨p, lp, by omega⟩
      have := st s t 0 ⟨a, b, ⟨p, lp, c⟩, .inl ⟨rfl, z'⟩⟩
      have := z' p lp
      omega
theorem least_same {rows : List (List Int)} {g : List Int} : Least (NdC rows) (wdt rows) g ↔ Least (EdC rows) (wdt rows) g := by
  unfold Least
  rw [sol_same]
  exact ⟨fun ⟨a, b⟩ => ⟨a, fun h sh => b h (sol_same.mpr sh)⟩, fun ⟨a, b⟩ => ⟨a, fun h sh => b h (sol_same.mp sh)⟩⟩
theorem rs_at {rows : List (List Int)} {p s t : Nat} {ns : List Int} (h : rows[p]? = some ns) : rs rows p s t = gI ns t - gI ns s := by
  unfold rs gI
  rw [h]
  rfl
def spEdges : Sp := fun vs H Q _ => ∃ (l : Addr) (ts : List Addr) (rows : List (List Int)), vs = [.ref l] ∧ H l = some (.lst (ts.map V.ref)) ∧ TpAll H ts rows ∧ Rows rows ∧
  ∀ (F : Addr) (ws : List V) (es : List (Nat × Nat × Int)) (H' : Hp), Same H H' → H F = none → H' F = some (.lst ws) → TrL H' ws es → (∀ s t m, (s, t, m) ∈ es ↔ EdC rows s t m) → es.length ≤ 36 → Q (.ref F) H'
def EdI (rows : List (List Int)) (F : Addr) (H0 : Hp) (s t : Nat) (H : Hp) : Prop := Same H0 H ∧ ∃ (vs : List V) (es : List (Nat × Nat × Int)), H F = some (.lst vs) ∧ TrL H vs es ∧ es.length ≤ 6 * s + t ∧ ∀ s' t' m', (s', t', m') ∈ es ↔ EdC rows s' t' m' ∧ (s' < s ∨ (s' = s ∧ t' < t))
theorem EdI.row {rows : List (List Int)} {F : Addr} {H0 H : Hp} {s : Nat} (w6 : wdt rows ≤ 6) (h : EdI rows F H0 s (wdt rows) H) : EdI rows F H0 (s + 1) 0 H := by
  obtain ⟨sm, vs, es, hf, tr, l, mem⟩ := h
  refine ⟨sm, vs, es, hf, tr, by omega, fun s' t' m' => (mem s' t' m').trans ⟨fun ⟨a, b⟩ => ⟨a, ?_⟩, fun ⟨a, b⟩ => ⟨a, ?_⟩⟩⟩
  · omega
  · have := a.2.1
    omega
theorem EdI.skip {rows : List (List Int)} {F : Addr} {H0 H H' : Hp} {s t : Nat} (h : EdI rows F H0 s t H) (k : Same H H') (no : ∀ p, p < rows.length → rs rows p s t ≤ 0) : EdI rows F H0 s (t + 1) H' := by
  obtain ⟨sm, vs, es, hf, tr, l, mem⟩ := h
  refine ⟨sm.trans k, vs, es, k _ _ hf, tr.same k, by omega, fun s' t' m' => (mem s' t' m').trans ⟨fun ⟨a, b⟩ => ⟨a, by omega⟩, fun ⟨a, b⟩ => ⟨a, ?_⟩⟩⟩
  by_cases z : s' = s ∧ t' = t
  · obtain ⟨rfl, rfl⟩ := z
    obtain ⟨_, _, ⟨p, lp, c⟩, _⟩ := a
    have := no p lp
    omega
  · omega
theorem EdI.add {rows : List (List Int)} {F q : Addr} {H0 H H' : Hp} {s t : Nat} {m : Int} (h : EdI rows F H0 s t H) (nF : H0 F = none) (k : Same H H') (c : EdC rows s t m) (hq : H' q = some (.tup [.int s, .int t, .int m])) (w6 : s ≤ 6 ∧ t ≤ 6) :
    ∃ acc, H' F = some (.lst acc) ∧ acc.length < sizeLine ∧ EdI rows F H0 s (t + 1) (L2.upd H' F (.lst (acc ++ [.ref q]))) := by
  obtain ⟨sm, vs, es, hf, tr, l, mem⟩ := h
  have hf' := k _ _ hf
  have lv := tr.len
  refine ⟨vs, hf', size_lt' (by omega), same_put (sm.trans k) nF, vs ++ [.ref q], es ++ [(s, t, m)], upd_same, TrL.snoc (by rw [upd_ne (ne_of hq hf' (by intro z; cases z))]; exact hq) ((tr.same k).put hf'), by rw [List.length_append]; show _ + 1 ≤ _; omega, fun s' t' m' => ?_⟩
  rw [List.mem_append, mem, List.mem_singleton]
  constructor
  · rintro (⟨a, b⟩ | e)
    · exact ⟨a, by omega⟩
    · cases e
      exact ⟨c, by omega⟩
  · rintro ⟨a, b⟩
    by_cases z : s' = s ∧ t' = t
    · obtain ⟨rfl, rfl⟩ := z
      right
      have : m' = m := by
        obtain ⟨_, _, _, x⟩ := a
        obtain ⟨_, _, _, y⟩ := c
        rcases x with ⟨x1, x2⟩ | ⟨x1, p, lp, x2⟩ <;> rcases y with ⟨y1, y2⟩ | ⟨y1, p', lp', y2⟩
        · omega
        · have := x2 p' lp'; omega
        · have := y2 p lp; omega
        · omega
      rw [this]
    · exact .inl ⟨a, by omega⟩
section
variable {P : Program} {w : World} {K : PySem.W.Frag} {mg : Str → Option Value} {base : Heap} {CShare CDivision CNoPerson : Addr}
abbrev st_l_edges : Stmt := top 50
theorem sc_l_edges : FnScope ["_law_lines_here", "_law_found", "_law_many", "_law_state", "_law_second", "_law_most", "_law_row"] ["_law_lines_here"] (defScope st_l_edges) := ⟨rfl, rfl, rfl, by decide +kernel, rfl, by decide +kernel, by decide +kernel⟩
theorem ok_edges (B : Bn mg) (D : Df K mg "_law_edges" st_l_edges ["_law_lines_here"]) : Cal P w K mg base 2 "_law_edges" ["_law_lines_here"] spEdges := by
  refine D.cal sc_l_edges (fun vs H Q E h => ?_) (fun f cdv A out s H vs Q E hr h => ?_)
  · obtain ⟨l, ts, rows, rfl, _⟩ := h
    rfl
  obtain ⟨l, ts, rows, rfl, hl, tp, rw_, k⟩ := h
  refine ⟨_, (pss_cons (ps_par (i := 1) (j := 2) (by rfl) sc_l_edges.nd rfl rfl (by decide) rfl rfl (pa_cons (pe_lst pa_nil) (pa_cons (pe_callB call_len_seq (by rfl) B.n_len (by decide +kernel) (pa_cons (pe_ix ix_list (pv 0) pe_int (fun _ _ => rfl)) pa_nil)) pa_nil)) (by rfl))
   (pss_cons (ps_for PassesOwn.never rfl (pi_range1 (by rfl) B.n_range (pa_cons (pv 2) pa_nil)) (pg_name (i := 3) sc_l_edges.nd rfl (.inr rfl))
   (pss_one (ps_for PassesOwn.never rfl (pi_range1 (by rfl) B.n_range (pa_cons (pv 2) pa_nil)) (pg_name (i := 4) sc_l_edges.nd rfl (.inr rfl))
   (pss_cons (ps_set (i := 5) sc_l_edges.nd rfl (.inl rfl) (pe_callB (cr_max rfl) (by rfl) B.n_max (by decide +kernel) (pa_cons (pe_lc (own := [("_law_row", 6)]) (g := gName 6) rfl sc_l_edges.nd (pi_list (pv 0)) (blkOk_by (N := ["_law_lines_here", "_law_found", "_law_many", "_law_state", "_law_second", "_law_most", "_law_row"]) (sc := defScope st_l_edges) (by decide +kernel)) (fun _ _ _ _ _ => (pg_name (i := 6) sc_l_edges.nd rfl (.inl rfl))) (fun _ _ _ _ _ => pts_nil) (fun _ _ _ _ _ => (pe_op op_sub (pe_ix (show IxR _ (rIxT K) from ix_tup) (pv 6) (pv 4) (fun _ _ => rfl)) (pe_ix (show IxR _ (rIxT K) from ix_tup) (pv 6) (pv 3) (fun _ _ => rfl))))) pa_nil)))
   (pss_one (ps_if (pt_cmpR op_ge (pv 5) pe_int (nomark _)) (pss_one (ps_expr (pe_bm PySem.F.plainAttrs_list PySem.F.slot_list_append PySem.F.type_list_append mt_append (pv 1) (pa_cons (pe_tup (pa_cons (pv 3) (pa_cons (pv 4) (pa_cons (pe_ifExp (pt_cmpR op_eq (pv 5) pe_int (nomark _)) pe_int pe_int) pa_nil)))) pa_nil)))) pss_nil))))))
   (pss_one (ps_ret (pv 1))))), ?_⟩
  obtain ⟨w2, w6⟩ := rw_.w26
  have l2 := rw_.1
  have ln := tp.1
  refine ⟨Nat.zero_le _, fun F hF => ?_⟩
  generalize hH1 : upd H F _ = H1
  have k1 : Same H H1 := by rw [← hH1]; exact same_new (Same.refl _) hF
  have e1 : H1 F = some (.lst []) := by rw [← hH1, upd_same]
  clear hH1
  have t0 : ts[0]? = some ts[0] := List.getElem?_eq_getElem (by omega)
  have r0 : rows[0]? = some rows[0] := List.getElem?_eq_getElem (by omega)
  have ht0 := k1 _ _ (tp.2 0 _ _ t0 r0)
  refine ⟨_, rfl, l, _, _, _, rfl, rfl, SqL.of (k1 _ _ hl), atI_nat (j := 0) (by rw [List.getElem?_map, t0]; rfl), ts[0], _, rfl, .inr (SqT.of ht0), ?_⟩
  rw [List.length_map, rw_.wdt (List.mem_of_getElem? r0)]
  refine ⟨_, _, rfl, ?_⟩
  refine ⟨_, rfl, wdt rows, rfl, by omega, by omega, ?_⟩
  have ew : ((wdt rows : Int)).toNat = wdt rows := by omega
  rw [ew]
  refine for_range (lo := 0) (n := wdt rows) (fun i σ H' => ∃ v3 v4 v5 : Option V, σ = [some (.ref l), some (.ref F), some (.int (wdt rows)), v3, v4, v5, none] ∧ EdI rows F H i 0 H') ⟨none, none, none, rfl, k1, [], [], e1, .nil, Nat.le_refl _, fun s' t' m' => ⟨fun z => (nomatch z), fun ⟨_, z⟩ => by omega⟩⟩ ?_ ?_
  · rintro i σ H2 hi ⟨v3, v4, v5, rfl, q2⟩
    refine ⟨_, rfl, wdt rows, rfl, by omega, by omega, ?_⟩
    rw [ew]
    refine for_range (lo := 0) (n := wdt rows) (fun j σ H' => ∃ v4 v5 : Option V, σ = [some (.ref l), some (.ref F), some (.int (wdt rows)), some (.int (0 + i)), v4, v5, none] ∧ EdI rows F H i j H') ⟨v4, v5, rfl, q2⟩ ?_ (fun σ H' ⟨v4, v5, e, q⟩ => ⟨_, _, _, e, q.row w6⟩)
    rintro j σ H3 hj ⟨v4, v5, rfl, q3⟩
    have k3 := q3.1
    refine ⟨_, rfl, l, rfl, ⟨_, SqL.of (k3 _ _ hl)⟩, fun D hD => lc_list (K := K) (a := l) (xs := ts.map V.ref) (fun c H' => Same H3 H' ∧ ∃ ys : List Int, H' D = some (.lst (ys.map V.int)) ∧ ys.length = c ∧ ∀ e, e < c → gI ys e = rs rows e i j) ⟨same_new (Same.refl _) hD, [], upd_same, rfl, fun e he => absurd he (Nat.not_lt_zero e)⟩ (fun c H' _ q => SqL.of (q.1 _ _ (k3 _ _ hl))) (fun c x H4 hx q4 => ⟨rfl, tyes ?_⟩) (fun H4 q4 => ?_)⟩
    · obtain ⟨k4, ys, h4, ly, ok⟩ := q4
      rw [List.getElem?_map] at hx
      cases ec : ts[c]? with
      | none => rw [ec] at hx; cases hx
      | some t1 =>
        rw [ec] at hx
        obtain rfl : V.ref t1 = x := Option.some.inj hx
        have il := (List.getElem?_eq_some_iff.mp ec).1
        have en : rows[c]? = some rows[c] := List.getElem?_eq_getElem (by omega)
        have m := List.mem_of_getElem? en
        have lw := rw_.wdt m
        have ht := (k3.trans k4) _ _ (tp.2 c t1 _ ec en)
        have e0 : ∀ x : Nat, ((0 : Int) + x) = ((x : Nat) : Int) := fun x => by omega
        refine ⟨_, rfl, _, rfl, t1, _, _, _, rfl, rfl, SqT.of ht, by rw [e0]; exact getI (l := rows[c]) (i := j) (by omega), _, rfl, _, rfl, t1, _, _, _, rfl, rfl, SqT.of ht, by rw [e0]; exact getI (l := rows[c]) (i := i) (by omega), _, _, rfl, rfl, ?_⟩
        refine ⟨_, h4, size_lt' (by rw [List.length_map]; have := rw_.2.1; omega), same_put k4 hD, ys ++ [gI rows[c] j - gI rows[c] i], by rw [upd_same, List.map_append]; rfl, by simp [ly], fun e he => ?_⟩
        by_cases z : e < c
        · have e1 : gI (ys ++ [gI rows[c] j - gI rows[c] i]) e = gI ys e := by unfold gI; rw [List.getElem?_append_left (by omega)]
          rw [e1]
          exact ok e z
        · have z : e = c := by omega
          subst z
          rw [rs_at en]
          exact gI_of (by rw [List.getElem?_append_right (by omega), ly, Nat.sub_self]; rfl)
    · obtain ⟨k4, ys, h4, ly, ok⟩ := q4
      rw [List.length_map, ln] at ly ok
      refine ⟨D, ys, rfl, SqL.of h4, by omega, fun m hm mx => ?_⟩
      have mx' : ∀ p, p < rows.length → rs rows p i j ≤ m := fun p lp => by
        rw [← ok p lp]
        exact mx _ (List.mem_of_getElem? (gI_at (by omega)))
      obtain ⟨p0, lp0, ep0⟩ : ∃ p, p < rows.length ∧ rs rows p i j = m := by
        obtain ⟨p, lp, e⟩ := gI_mem hm
        exact ⟨p, by omega, by rw [← ok p (by omega)]; exact e⟩
      refine ⟨_, rfl, _, _, rfl, rfl, _, rfl, ?_⟩
      refine ite2 (fun c => ?_) (fun c => ?_)
      · have c1 : 1 ≤ m := of_decide_eq_true c
        have h4F := k4 _ _ (q3.2.choose_spec.choose_spec.1)
        refine ⟨_, rfl, .inl ⟨rfl, _, SqL.of h4F⟩, _, rfl, _, rfl, ?_⟩
        have fin : ∀ (b : Int) (q : Addr) (H5 : Hp), Same H4 H5 → H5 q = some (.tup [.int (i : Nat), .int (j : Nat), .int b]) → EdC rows i j b → ∃ acc, H5 F = some (.lst acc) ∧ acc.length < sizeLine ∧ EdI rows F H i (j + 1) (upd H5 F (.lst (acc ++ [.ref q]))) := fun b q H5 k5 hq hb => q3.add hF (k4.trans k5) hb hq ⟨by omega, by omega⟩
        refine ⟨_, rfl, rfl, _, rfl, ?_⟩
        refine ite2 (fun c3 => ?_) (fun c3 => ?_)
        · have m1 : m = 1 := V.int.inj (of_decide_eq_true c3)
          refine ⟨(by show 3 ≤ sizeLine; decide), fun q hq => ?_⟩
          generalize hH5 : upd H4 q _ = H5
          have k5 : Same H4 H5 := by rw [← hH5]; exact same_new (Same.refl _) hq
          have e5 : H5 q = some (.tup [.int (i : Nat), .int (j : Nat), .int 0]) := by rw [← hH5, upd_same, Int.zero_add, Int.zero_add]
          obtain ⟨acc, ha, la, z⟩ := fin 0 q H5 k5 e5 ⟨hi, hj, ⟨p0, lp0, by omega⟩, .inl ⟨rfl, fun p lp => by have := mx' p lp; omega⟩⟩
          exact ⟨F, _, _, rfl, rfl, ha, la, _, _, rfl, z⟩
        · have m1 : ¬ m = 1 := fun z => c3 (by rw [z]; exact decide_eq_true rfl)
          refine ⟨(by show 3 ≤ sizeLine; decide), fun q hq => ?_⟩
          generalize hH5 : upd H4 q _ = H5
          have k5 : Same H4 H5 := by rw [← hH5]; exact same_new (Same.refl _) hq
          have e5 : H5 q = some (.tup [.int (i : Nat), .int (j : Nat), .int 1]) := by rw [← hH5, upd_same, Int.zero_add, Int.zero_add]
          obtain ⟨acc, ha, la, z⟩ := fin 1 q H5 k5 e5 ⟨hi, hj, ⟨p0, lp0, by omega⟩, .inr ⟨rfl, p0, lp0, by omega⟩⟩
          exact ⟨F, _, _, rfl, rfl, ha, la, _, _, rfl, z⟩
      · have c1 : ¬ 1 ≤ m := fun z => c (decide_eq_true z)
        exact ⟨_, _, rfl, q3.skip k4 fun p lp => by have := mx' p lp; omega⟩
  · rintro σ H2 ⟨v3, v4, v5, rfl, k2, vs, es, hf, tr, le, mem⟩
    refine ⟨_, rfl, k F vs es H2 k2 hF hf tr (fun s' t' m' => (mem s' t' m').trans ⟨fun z => z.1, fun z => ⟨z, .inl z.1⟩⟩) (by omega)⟩
end
end Pl
namespace Pl
open PySem PySem.Spec PyProof.Rows L2
theorem shapedLst (ns : List Int) : SeqAt.shaped (.list (ns.map PyData.int)) = true := by
  show (PyData.canLay0 (.list (ns.map PyData.int)) && decide (PyData.depth (.list (ns.map PyData.int)) ≤ 64)) = true
  simp only [PyData.canLay0, PyData.depth, layInts, depthInts]
  decide
theorem eqv_lst (ns ms : List Int) : PyData.eqv (.list (ns.map PyData.int)) (.list (ms.map PyData.int)) = decide (ns = ms) := by
  simp only [PyData.eqv]
  exact PySem.W.ked_eqvAll _ _
theorem gI_set {l : List Int} {i j : Nat} {x : Int} (h : i < l.length) : gI (l.set i x) j = if j = i then x else gI l j := by
  unfold gI
  by_cases c : j = i
  · subst c
    rw [List.getElem?_set_self h, if_pos rfl]
    rfl
  · rw [List.getElem?_set_ne (fun z => c z.symm), if_neg c]
theorem Below.raise {C : Nat → Nat → Int → Prop} {n s t : Nat} {m : Int} (hC : Cok C n) {h : List Int} (b : Below C n h) (c : C s t m) (lt : gI h t < gI h s + m) : Below C n (h.set t (gI h t + 1)) := by
  obtain ⟨ls, ltn, m0, m1⟩ := hC s t m c
  have e : ∀ j, gI (h.set t (gI h t + 1)) j = if j = t then gI h t + 1 else gI h j := fun j => gI_set (by rw [b.1]; exact ltn)
  refine ⟨by rw [List.length_set]; exact b.1, fun i hi => ?_, fun g sg i hi => ?_⟩
  · rw [e]
    have := b.2.1 i hi
    split
    · rename_i z; subst z; omega
    · exact this
  · rw [e]
    have h1 := b.2.2 g sg i hi
    split
    · rename_i z
      subst z
      have := sg.2.2 s i m c
      have := b.2.2 g sg s ls
      omega
    · exact h1
theorem TrL.kp {H H' : Hp} {F : Addr} {ys : List V} (k : Kp F H H') (hF : H F = some (.lst ys)) : ∀ {vs : List V} {ns : List (Nat × Nat × Int)}, TrL H vs ns → TrL H' vs ns
  | _, _, .nil => .nil
  | _, _, .cons h r => .cons (k _ _ (ne_of h hF (by intro z; cases z)) h) (r.kp k hF)
def spLLev : Sp := fun vs H Q _ => ∃ (l : Addr) (ts : List Addr) (rows : List (List Int)), vs = [.ref l] ∧ H l = some (.lst (ts.map V.ref)) ∧ TpAll H ts rows ∧ Rows rows ∧
  (∀ (p : Addr) (hs : List Int) (H' : Hp), Same H H' → H' p = some (.tup (hs.map V.int)) → Least (EdC rows) (wdt rows) hs → Q (.ref p) H') ∧ (∀ H', Same H H' → (∀ g, ¬ Sol (EdC rows) (wdt rows) g) → Q .non H')
section
variable {P : Program} {w : World} {K : PySem.W.Frag} {mg : Str → Option Value} {base : Heap} {CShare CDivision CNoPerson : Addr}
abbrev st_l_levels : Stmt := top 51
theorem sc_l_levels : FnScope ["_law_lines_here", "_law_many", "_law_found", "_law_turn", "_law_old", "_law_state", "_law_second", "_law_more", "_law_one"] ["_law_lines_here"] (defScope st_l_levels) := ⟨rfl, rfl, rfl, by decide +kernel, rfl, by decide +kernel, by decide +kernel⟩
theorem ok_llev (B : Bn mg) (c_l_edges : Cal P w K mg base 2 "_law_edges" ["_law_lines_here"] spEdges) (D : Df K mg "_law_levels" st_l_levels ["_law_lines_here"]) : Cal P w K mg base 3 "_law_levels" ["_law_lines_here"] spLLev := by
  refine D.cal sc_l_levels (fun vs H Q E h => ?_) (fun f cdv A out s H vs Q E hr h => ?_)
  · obtain ⟨l, ts, rows, rfl, _⟩ := h
    rfl
  obtain ⟨l, ts, rows, rfl, hl, tp, rw_, kY, kN⟩ := h
  refine ⟨_, (pss_cons (ps_par (i := 1) (j := 2) (by rfl) sc_l_levels.nd rfl rfl (by decide) rfl rfl (pa_cons (pe_callB call_len_seq (by rfl) B.n_len (by decide +kernel) (pa_cons (pe_ix ix_list (pv 0) pe_int (fun _ _ => rfl)) pa_nil)) (pa_cons (pe_op op_rep (pe_lst (pa_cons pe_int pa_nil)) (pe_callB call_len_seq (by rfl) B.n_len (by decide +kernel) (pa_cons (pe_ix ix_list (pv 0) pe_int (fun _ _ => rfl)) pa_nil))) pa_nil)) (by rfl))
   (pss_cons (ps_for PassesOwn.never rfl (pi_range1 (by rfl) B.n_range (pa_cons (pe_op op_add (pe_op op_mul (pv 1) (pv 1)) pe_int) pa_nil)) (pg_name (i := 3) sc_l_levels.nd rfl (.inl rfl))
   (pss_cons (ps_setLc (i := 4) (own := [("_law_one", 8)]) (g := gName 8) rfl sc_l_levels.nd rfl rfl (sw_true rfl rfl rfl (by decide +kernel)) (pi_list (pv 2)) (blkOk_by (N := ["_law_lines_here", "_law_many", "_law_found", "_law_turn", "_law_old", "_law_state", "_law_second", "_law_more", "_law_one"]) (sc := defScope st_l_levels) (by decide +kernel)) (fun _ _ _ _ _ => (pg_name (i := 8) sc_l_levels.nd rfl (.inl rfl))) (fun _ _ _ _ _ => pts_nil) (fun _ _ _ _ _ => (pv 8)))
   (pss_cons (ps_for PassesOwn.never rfl (pi_list (pe_fn c_l_edges (hr.mono (by decide)) (pa_cons (pv 0) pa_nil))) (pg_tup rfl (pgs_cons (pg_name (i := 5) sc_l_levels.nd rfl (.inl rfl)) (pgs_cons (pg_name (i := 6) sc_l_levels.nd rfl (.inl rfl)) (pgs_cons (pg_name (i := 7) sc_l_levels.nd rfl (.inl rfl)) pgs_nil))))
   (pss_one (ps_if (pt_cmpR op_lt (pe_ix ix_list (pv 2) (pv 6) (fun _ _ => rfl)) (pe_op op_add (pe_ix ix_list (pv 2) (pv 5) (fun _ _ => rfl)) (pv 7)) (nomark _)) (pss_one (ps_asg (pe_op op_add (pe_ix ix_list (pv 2) (pv 6) (fun _ _ => rfl)) pe_int) (pg_sub (pv 2) (pv 6) set_list))) pss_nil)))
   (pss_cons (ps_if (pt_cmpR (op_eqD hr.units) (pv 2) (pv 4) (nomark _)) (pss_one (ps_ret (pe_callTy call_tuple_of (by rfl) B.n_tuple (by decide +kernel) (pa_cons (pv 2) pa_nil)))) pss_nil)
   (pss_one (ps_if (pt_cmpR op_ge (pe_callB (cr_max rfl) (by rfl) B.n_max (by decide +kernel) (pa_cons (pv 2) pa_nil)) (pv 1) (nomark _)) (pss_one (ps_ret pe_non)) pss_nil))))))
   (pss_one (ps_ret pe_non)))), ?_⟩
  obtain ⟨w2, w6⟩ := rw_.w26
  have hC := edC_ok rows
  have l2 := rw_.1
  have ln := tp.1
  have t0 : ts[0]? = some ts[0] := List.getElem?_eq_getElem (by omega)
  have r0 : rows[0]? = some rows[0] := List.getElem?_eq_getElem (by omega)
  have ew : (rows[0].map V.int).length = wdt rows := by rw [List.length_map, rw_.wdt (List.mem_of_getElem? r0)]
  have ht0 := tp.2 0 _ _ t0 r0
  have a0 : atI (ts.map V.ref) 0 = some (.ref ts[0]) := atI_nat (j := 0) (by rw [List.getElem?_map, t0]; rfl)
  refine ⟨_, rfl, l, _, _, _, rfl, rfl, SqL.of hl, a0, ts[0], _, rfl, .inr (SqT.of ht0), ?_⟩
  refine ⟨(by show 1 ≤ sizeLine; decide), fun z hz => ?_⟩
  generalize hH1 : upd H z _ = H1
  have k1 : Same H H1 := by rw [← hH1]; exact same_new (Same.refl _) hz
  have e1 : H1 z = some (.lst [.int 0]) := by rw [← hH1, upd_same]
  clear hH1
  refine ⟨_, rfl, l, _, _, _, rfl, rfl, SqL.of (k1 _ _ hl), a0, ts[0], _, rfl, .inr (SqT.of (k1 _ _ ht0)), ?_⟩
  rw [ew]
  refine ⟨z, _, _, rfl, rfl, e1, by omega, by omega, Nat.le_trans (show 1 * _ ≤ 100 by omega) (by decide), fun F hF => ?_⟩
  have hFH : H F = none := by
    cases e : H F with
    | none => rfl
    | some o => rw [k1 _ _ e] at hF; cases hF
  generalize hH2 : upd H1 F _ = H2
  have k2 : Same H1 H2 := by rw [← hH2]; exact same_new (Same.refl _) hF
  have e2 : H2 F = some (.lst ((List.replicate (wdt rows) (0 : Int)).map V.int)) := by
    rw [← hH2, upd_same, rep_flat, List.map_replicate]
    rfl
  clear hH2
  have k2 := k1.trans k2
  refine ⟨_, _, rfl, ?_⟩
  refine ⟨_, rfl, _, rfl, _, _, rfl, rfl, ?_⟩
  have nn : wdt rows * wdt rows ≤ 36 := Nat.mul_le_mul w6 w6
  have nc : (wdt rows : Int) * (wdt rows : Int) = ((wdt rows * wdt rows : Nat) : Int) := by rw [Int.natCast_mul]
  refine ⟨.inl ⟨by omega, by omega⟩, _, _, rfl, rfl, _, rfl, by rw [nc]; omega, by rw [nc]; omega, ?_⟩
  have et : ((wdt rows : Int) * (wdt rows : Int) + 1).toNat = wdt rows * wdt rows + 1 := by rw [nc]; omega
  rw [et]
  refine for_range (lo := 0) (n := wdt rows * wdt rows + 1) (fun i σ H' => ∃ (v3 v4 v5 v6 v7 : Option V) (fs : List Int), σ = [some (.ref l), some (.int (wdt rows)), some (.ref F), v3, v4, v5, v6, v7, none] ∧ Same H H' ∧ H' F = some (.lst (fs.map V.int)) ∧ Below (EdC rows) (wdt rows) fs ∧ (i : Int) ≤ fs.sum)
    ⟨none, none, none, none, none, _, rfl, k2, e2, Below.zero, by simp⟩ ?_ ?_
  · rintro i σ H3 hi ⟨v3, v4, v5, v6, v7, fs, rfl, k3, hF3, bl, su⟩
    refine ⟨_, rfl, F, rfl, ⟨_, SqL.of hF3⟩, fun O hO => lc_list (K := K) (a := F) (xs := fs.map V.int) (fun j H' => Same H3 H' ∧ H' O = some (.lst ((fs.take j).map V.int))) ⟨same_new (Same.refl _) hO, upd_same⟩ (fun j H' _ q => SqL.of (q.1 _ _ hF3)) (fun j x H4 hx q => ⟨rfl, tyes ⟨_, rfl, _, q.2, size_lt' (by rw [List.length_map, List.length_take]; have := bl.1; omega), same_put q.1 hO, ?_⟩⟩) (fun H4 q => ?_)⟩
    · rw [List.getElem?_map] at hx
      cases ej : fs[j]? with
      | none => rw [ej] at hx; cases hx
      | some y =>
        rw [ej] at hx
        obtain rfl : V.int y = x := Option.some.inj hx
        rw [upd_same, List.take_add_one, ej, List.map_append]
        rfl
    obtain ⟨k4, hO4⟩ := q
    rw [List.length_map, List.take_length] at hO4
    have kk4 := k3.trans k4
    have hF4 := k4 _ _ hF3
    have OF : O ≠ F := fun e => by rw [e, hF3] at hO; cases hO
    refine ⟨_, rfl, l, ts, rows, rfl, kk4 _ _ hl, tp.same kk4, rw_, fun Ed ws es H5 k5 nE hE tr mem le => ?_⟩
    have EF : Ed ≠ F := fun e => by rw [e, hF4] at nE; cases nE
    have hF5 := k5 _ _ hF4
    have hO5 := k5 _ _ hO4
    have kk5 := kk4.trans k5
    have le5 := tr.len
    have lfs := bl.1
    refine ⟨Ed, rfl, ⟨_, SqL.of hE⟩, for_list (K := K) (a := Ed) (xs := ws) (fun j σ H' => ∃ (v5 v6 v7 : Option V) (gs : List Int), σ = [some (.ref l), some (.int (wdt rows)), some (.ref F), some (.int (0 + i)), some (.ref O), v5, v6, v7, none] ∧ Kp F H5 H' ∧ H' F = some (.lst (gs.map V.int)) ∧ Below (EdC rows) (wdt rows) gs ∧ (∀ e, e < wdt rows → gI fs e ≤ gI gs e) ∧ (gs = fs → ∀ c, c < j → ∀ s t m, es[c]? = some (s, t, m) → gI fs s + m ≤ gI fs t))
      ⟨v5, v6, v7, fs, rfl, Kp.refl _ _, hF5, bl, fun e he => Int.le_refl _, fun _ c hc => absurd hc (Nat.not_lt_zero c)⟩ (fun j σ H' _ ⟨_, _, _, _, _, z, _⟩ => SqL.of (z _ _ EF hE)) ?_ ?_⟩
    · rintro j x σ H6 hx ⟨v5, v6, v7, gs, rfl, k6, hF6, bg, up, sat⟩
      obtain ⟨q, a, b, m, rfl, hq, en⟩ := (tr.kp k6 hF5).at hx
      have ec := (mem a b m).mp (List.mem_of_getElem? en)
      obtain ⟨la, lb, m0, m1⟩ := hC a b m ec
      have lg := bg.1
      refine ⟨q, _, rfl, SqT.of hq, rfl, _, _, rfl, _, _, rfl, _, _, rfl, rfl, ?_⟩
      refine ⟨_, rfl, _, rfl, F, _, _, _, rfl, rfl, SqL.of hF6, getI (l := gs) (i := b) (by omega), _, rfl, _, rfl, F, _, _, _, rfl, rfl, SqL.of hF6, getI (l := gs) (i := a) (by omega), _, rfl, _, _, rfl, rfl, _, _, rfl, rfl, _, rfl, ?_⟩
      refine ite2 (fun c => ?_) (fun c => ?_)
      · have c2 : gI gs b < gI gs a + m := of_decide_eq_true c
        refine ⟨_, rfl, _, rfl, F, _, _, _, rfl, rfl, SqL.of hF6, getI (l := gs) (i := b) (by omega), _, _, rfl, rfl, _, rfl, _, rfl, F, _, _, b, rfl, rfl, hF6, ?_, ?_⟩
        · have z := ix_of (n := (gs.map V.int).length) (r := (b : Int)) (by omega) (by rw [List.length_map]; omega)
          rw [Int.toNat_natCast] at z
          exact z
        refine ⟨_, _, _, gs.set b (gI gs b + 1), rfl, k6.trans Kp.upd, by rw [upd_same, List.map_set], bg.raise hC ec c2, fun e he => ?_, fun z => ?_⟩
        · rw [gI_set (by omega)]
          have := up e he
          split
          · rename_i y; subst y; omega
          · exact this
        · exfalso
          have y : gI (gs.set b (gI gs b + 1)) b = gI gs b + 1 := by rw [gI_set (by omega), if_pos rfl]
          rw [z] at y
          have := up b lb
          omega
      · have c2 : ¬ gI gs b < gI gs a + m := fun z => c (decide_eq_true z)
        refine ⟨_, _, _, gs, rfl, k6, hF6, bg, up, fun z c' hc' s' t' m' e' => ?_⟩
        by_cases y : c' < j
        · exact sat z c' y s' t' m' e'
        · have y : c' = j := by omega
          subst y
          rw [en] at e'
          cases e'
          rw [← z]
          omega
    · rintro σ H6 ⟨v5, v6, v7, gs, rfl, k6, hF6, bg, up, sat⟩
      have lg := bg.1
      have hO6 := k6 _ _ OF hO5
      have kk6 : Same H H6 := fun b o e => k6 _ _ (ne_of_none e hFH) (kk5 _ _ e)
      refine ⟨_, rfl, _, rfl, .list (gs.map PyData.int), .list (fs.map PyData.int), .lst (SqL.of hF6) (dpInts _ _ _), .lst (SqL.of hO6) (dpInts _ _ _), shapedLst _, shapedLst _, _, rfl, ?_⟩
      rw [eqv_lst]
      refine ite2 (fun c => ?_) (fun c => ?_)
      · have e : gs = fs := of_decide_eq_true c
        refine ⟨_, rfl, F, _, rfl, .inl ⟨SqL.of hF6, fun p hp => ?_⟩⟩
        refine kY p gs _ (same_new kk6 hp) upd_same (bg.least fun s' t' m' cs => ?_)
        have hm := (mem s' t' m').mpr cs
        obtain ⟨c', hc', ec'⟩ := List.getElem_of_mem hm
        rw [e]
        exact sat e c' (by omega) s' t' m' (by rw [List.getElem?_eq_getElem hc', ec'])
      · have ne : ¬ gs = fs := fun z => c (decide_eq_true z)
        refine ⟨_, rfl, F, gs, rfl, SqL.of hF6, by omega, fun m hm mx => ?_⟩
        refine ⟨_, rfl, _, _, rfl, rfl, _, rfl, ?_⟩
        refine ite2 (fun c3 => ?_) (fun c3 => ?_)
        · have c4 : (wdt rows : Int) ≤ m := of_decide_eq_true c3
          obtain ⟨e, he, ee⟩ := gI_mem hm
          exact kN H6 kk6 (bg.none hC (i := e) (by omega) (by omega))
        · refine ⟨_, _, _, _, _, gs, rfl, kk6, hF6, bg, ?_⟩
          have lt : fs.sum < gs.sum := by
            refine sumG_lt (by omega) (fun e he => up e (by omega)) (Classical.byContradiction fun z => ne ?_)
            refine gI_ext (by omega) fun e he => ?_
            have := up e (by omega)
            refine Classical.byContradiction fun y => z ⟨e, by omega, by omega⟩
          omega
  · rintro σ H3 ⟨v3, v4, v5, v6, v7, fs, rfl, k3, hF3, bl, su⟩
    refine kN H3 k3 (bl.sum hC ?_ (by omega))
    rw [nc]
    omega
end
end Pl
namespace Pl
open PySem PySem.Spec PyProof.Rows L2
theorem nd_ed {rows : List (List Int)} {g : List Int} : (∀ s t m, NdC rows s t m → gI g s + m ≤ gI g t) ↔ (∀ s t m, EdC rows s t m → gI g s + m ≤ gI g t) := by
  constructor
  · rintro st s t m ⟨a, b, ⟨p, lp, c⟩, d⟩
    rcases d with ⟨rfl, d⟩ | ⟨rfl, p2, lp2, d⟩
    · have := st s t _ ⟨p, lp, a, b, c, rfl⟩
      have := d p lp
      omega
    · have := st s t _ ⟨p2, lp2, a, b, by omega, rfl⟩
      omega
  · rintro st s t m ⟨p, lp, a, b, c, e⟩
    by_cases z : ∃ p, p < rows.length ∧ 2 ≤ rs rows p s t
    · have := st s t 1 ⟨a, b, ⟨p, lp, c⟩, .inr ⟨rfl, z⟩⟩
      omega
    · have z' : ∀ p, p < rows.length → rs rows p s t ≤ 1 := fun p lp => by
        refine Classical.byContradiction fun y => z ⟨p, lp, by omega⟩
      have := st s t 0 ⟨a, b, ⟨p, lp, c⟩, .inl ⟨rfl, z'⟩⟩
      have := z' p lp
      omega
def spAreL (K : PySem.W.Frag) : Sp := fun vs H Q _ => ∃ (l : Addr) (ts : List Addr) (rows : List (List Int)) (x : V), vs = [.ref l, x] ∧ H l = some (.lst (ts.map V.ref)) ∧ TpAll H ts rows ∧ Rows rows ∧
  ((∃ ty, TyX K H x ty ∧ PySem.W.kitOne K ty (.type "tuple") = some false ∧ Q (.bl false) H) ∨
   (∃ (p : Addr) (xs : List V), x = .ref p ∧ SqT K H p xs ∧ xs.length ≤ 100 ∧ (∀ y ∈ xs, Kd K H y) ∧ ∀ (b : Bool) (H' : Hp), Same H H' → (b = true ↔ LvD rows xs) → Q (.bl b) H'))
section
variable {P : Program} {w : World} {K : PySem.W.Frag} {mg : Str → Option Value} {base : Heap} {CShare CDivision CNoPerson : Addr}
abbrev st_l_are_levels : Stmt := top 52
theorem sc_l_are_levels : FnScope ["_law_lines_here", "_law_thing", "_law_state", "_law_second", "_law_more", "_law_one"] ["_law_lines_here", "_law_thing"] (defScope st_l_are_levels) := ⟨rfl, rfl, rfl, by decide +kernel, rfl, by decide +kernel, by decide +kernel⟩
theorem ok_areL (B : Bn mg) (c_l_edges : Cal P w K mg base 2 "_law_edges" ["_law_lines_here"] spEdges) (D : Df K mg "_law_are_levels" st_l_are_levels ["_law_lines_here", "_law_thing"]) : Cal P w K mg base 3 "_law_are_levels" ["_law_lines_here", "_law_thing"] (spAreL K) := by
  refine D.cal sc_l_are_levels (fun vs H Q E h => ?_) (fun f cdv A out s H vs Q E hr h => ?_)
  · obtain ⟨l, ts, rows, x, rfl, _⟩ := h
    rfl
  obtain ⟨l, ts, rows, x, rfl, hl, tp, rw_, h⟩ := h
  refine ⟨_, (pss_cons (ps_if (PW.pt (pw_or (pt_not (pt_val (pe_callB call_isi (by rfl) B.n_isinstance (by decide +kernel) (pa_cons (pv 1) (pa_cons (pe_bltn (v := .ty "tuple") (by rfl) B.n_tuple (by decide +kernel) rfl) pa_nil))))) (pw_or1 (pt_cmpR op_ne (pe_callB call_len_seq (by rfl) B.n_len (by decide +kernel) (pa_cons (pv 1) pa_nil)) (pe_callB call_len_seq (by rfl) B.n_len (by decide +kernel) (pa_cons (pe_ix ix_list (pv 0) pe_int (fun _ _ => rfl)) pa_nil)) (nomark _))))) (pss_one (ps_ret pe_bl)) pss_nil)
   (pss_cons (ps_if (pt_not (pt_val (pe_callB (cr_all rfl) (by rfl) B.n_all (by decide +kernel) (pa_cons (pe_lc (own := [("_law_one", 5)]) (g := gName 5) rfl sc_l_are_levels.nd (pi_tup (pv 1)) (blkOk_by (N := ["_law_lines_here", "_law_thing", "_law_state", "_law_second", "_law_more", "_law_one"]) (sc := defScope st_l_are_levels) (by decide +kernel)) (fun _ _ _ _ _ => (pg_name (i := 5) sc_l_are_levels.nd rfl (.inl rfl))) (fun _ _ _ _ _ => pts_nil) (fun _ _ _ _ _ => (pe_and (pe_callB (show CallR _ (.builtin "isinstance") (rIsi K) from call_isi) (by rfl) B.n_isinstance (by decide +kernel) (pa_cons (pv 5) (pa_cons (pe_bltn (v := .ty "int") (by rfl) B.n_int (by decide +kernel) rfl) pa_nil))) (pe_one (pe_not (pe_callB (show CallR _ (.builtin "isinstance") (rIsi K) from call_isi) (by rfl) B.n_isinstance (by decide +kernel) (pa_cons (pv 5) (pa_cons (pe_bltn (v := .ty "bool") (by rfl) B.n_bool (by decide +kernel) rfl) pa_nil)))))))) pa_nil)))) (pss_one (ps_ret pe_bl)) pss_nil)
   (pss_one (ps_ret (pe_callB (cr_all rfl) (by rfl) B.n_all (by decide +kernel) (pa_cons (pe_lc (own := [("_law_state", 2), ("_law_second", 3), ("_law_more", 4)]) (g := gTup K 3 (gCons (gName 2) (gCons (gName 3) (gCons (gName 4) gNil)))) rfl sc_l_are_levels.nd (pi_list (pe_fn c_l_edges (hr.mono (by decide)) (pa_cons (pv 0) pa_nil))) (blkOk_by (N := ["_law_lines_here", "_law_thing", "_law_state", "_law_second", "_law_more", "_law_one"]) (sc := defScope st_l_are_levels) (by decide +kernel)) (fun _ _ _ _ _ => (pg_tup rfl (pgs_cons (pg_name (i := 2) sc_l_are_levels.nd rfl (.inl rfl)) (pgs_cons (pg_name (i := 3) sc_l_are_levels.nd rfl (.inl rfl)) (pgs_cons (pg_name (i := 4) sc_l_are_levels.nd rfl (.inl rfl)) pgs_nil))))) (fun _ _ _ _ _ => pts_nil) (fun _ _ _ _ _ => (pe_cmpR op_ge (pe_ix (show IxR _ (rIxT K) from ix_tup) (pv 1) (pv 3) (fun _ _ => rfl)) (pe_op op_add (pe_ix (show IxR _ (rIxT K) from ix_tup) (pv 1) (pv 2) (fun _ _ => rfl)) (pv 4)) (nomark _)))) pa_nil)))))), ?_⟩
  obtain ⟨w2, w6⟩ := rw_.w26
  have l2 := rw_.1
  have ln := tp.1
  have t0 : ts[0]? = some ts[0] := List.getElem?_eq_getElem (by omega)
  have r0 : rows[0]? = some rows[0] := List.getElem?_eq_getElem (by omega)
  have ew : (rows[0].map V.int).length = wdt rows := by rw [List.length_map, rw_.wdt (List.mem_of_getElem? r0)]
  have ht0 := tp.2 0 _ _ t0 r0
  have a0 : atI (ts.map V.ref) 0 = some (.ref ts[0]) := atI_nat (j := 0) (by rw [List.getElem?_map, t0]; rfl)
  rcases h with ⟨ty, tx, kt, k⟩ | ⟨p, xs, rfl, hp, l100, kd, k⟩
  · exact ⟨_, rfl, _, _, _, _, false, rfl, .ty _, tx, kt, _, rfl, iteT k⟩
  refine ⟨_, rfl, _, _, _, _, true, rfl, .ty _, sqT_ty hp, kit_ty (by decide +kernel), _, rfl, iteF ?_⟩
  refine ⟨_, rfl, p, _, rfl, .inr (hp), _, rfl, l, _, _, _, rfl, rfl, SqL.of hl, a0, ts[0], _, rfl, .inr (SqT.of ht0), ?_⟩
  rw [ew]
  refine ⟨rfl, _, rfl, ?_⟩
  refine ite2 (fun c => ?_) (fun c => ?_)
  · refine k false H (Same.refl H) ⟨fun z => (nomatch z), fun ⟨hs, e, z, _⟩ => ?_⟩
    have z2 : xs.length = wdt rows := by rw [e, List.length_map, z]
    rw [z2] at c
    simp at c
  have lh : xs.length = wdt rows := by
    have z : V.int (xs.length : Int) = V.int (wdt rows : Int) := by simpa using c
    have := V.int.inj z
    omega
  refine ⟨_, rfl, p, rfl, ⟨_, hp⟩, fun D hD => lc_tup (K := K) (a := p) (xs := xs) (BlI D H fun j => ∀ x, xs[j]? = some x → isInt x = true) (BlI.start hD) (fun i H' _ q => sqT_same q.1 hp) (fun i x H' hx q => ⟨rfl, tyes ?_⟩) (fun H' q => ?_)⟩
  · have il := (List.getElem?_eq_some_iff.mp hx).1
    obtain ⟨ty, bi, bb, tx, k1, k2, e3⟩ := (kd x (List.mem_of_getElem? hx)).same q.1
    have fin : ∀ b : Bool, b = isInt x → ∃ acc, H' D = some (.lst acc) ∧ acc.length < sizeLine ∧ BlI D H (fun j => ∀ x, xs[j]? = some x → isInt x = true) (i + 1) (upd H' D (.lst (acc ++ [.bl b]))) := fun b hb => q.next (Same.refl _) hD (by omega) (b := b) ⟨fun z y hy => by
      rw [hx] at hy
      cases hy
      rw [← hb]; exact z, fun z => by rw [hb]; exact z x hx⟩
    cases bi with
    | false => exact ⟨_, rfl, _, _, _, _, false, rfl, .ty _, tx, k1, _, rfl, iteF (fin false (by rw [← e3]; rfl))⟩
    | true => exact ⟨_, rfl, _, _, _, _, true, rfl, .ty _, tx, k1, _, rfl, iteT ⟨_, rfl, _, _, _, _, bb, rfl, .ty _, tx, k2, _, rfl, fin (!bb) (by rw [← e3]; rfl)⟩⟩
  · have k1 := q.1
    obtain ⟨bs, e, ev⟩ := q.all
    refine ⟨D, bs, rfl, SqL.of e, ?_⟩
    cases ea : bs.all id with
    | false =>
      refine ⟨_, rfl, iteT (k false H' k1 ⟨fun z => (nomatch z), fun ⟨hs, e2, _⟩ => ?_⟩)⟩
      have : bs.all id = true := ev.mpr fun j _ x hx => ints_is (by rw [← e2]; exact hx)
      rw [ea] at this
      cases this
    | true =>
      obtain ⟨hs, rfl⟩ := ints_of fun j x hx => ev.mp ea j (List.getElem?_eq_some_iff.mp hx).1 x hx
      rw [List.length_map] at lh
      refine ⟨_, rfl, iteF ?_⟩
      refine ⟨_, rfl, l, ts, rows, rfl, k1 _ _ hl, tp.same k1, rw_, fun F ws es H2 k2 _ hF tr mem le => ?_⟩
      have kk := k1.trans k2
      have lw := tr.len
      have hp2 := sqT_same kk hp
      refine ⟨F, rfl, ⟨_, SqL.of hF⟩, fun D2 hD2 => lc_list (K := K) (a := F) (xs := ws) (BlI D2 H2 fun j => ∀ s t m, es[j]? = some (s, t, m) → gI hs s + m ≤ gI hs t) (BlI.start hD2) (fun i H' _ q => SqL.of (q.1 _ _ hF)) (fun i x H' hx q => ?_) (fun H' q => ?_)⟩
      · obtain ⟨r, a, b, m, rfl, hr2, en⟩ := tr.at hx
        obtain ⟨la, lb, _⟩ := (mem a b m).mp (List.mem_of_getElem? en)
        have lx : i < ws.length := (List.getElem?_eq_some_iff.mp hx).1
        have hp' := sqT_same q.1 hp2
        refine ⟨r, _, rfl, SqT.of (q.1 _ _ hr2), rfl, _, _, rfl, _, _, rfl, _, _, rfl, rfl, rfl, tyes ?_⟩
        refine ⟨_, rfl, _, rfl, p, _, _, _, rfl, rfl, hp', getI (by rw [lh]; exact lb), _, rfl, _, rfl, p, _, _, _, rfl, rfl, hp', getI (by rw [lh]; exact la), _, rfl, _, _, rfl, rfl, _, _, rfl, rfl, ?_⟩
        refine q.next (Same.refl _) hD2 (by omega) ?_
        rw [decide_eq_true_eq]
        constructor
        · intro z s t m' e
          rw [en] at e
          cases e
          exact z
        · intro z
          exact z a b m en
      · obtain ⟨bs2, e2, ev2⟩ := q.all
        refine ⟨D2, bs2, rfl, SqL.of e2, k _ H' (kk.trans q.1) ?_⟩
        rw [ev2]
        constructor
        · intro z
          refine ⟨hs, rfl, lh, nd_ed.mpr fun s t m hm => ?_⟩
          obtain ⟨j, hj, ej⟩ := List.getElem_of_mem ((mem s t m).mpr hm)
          exact z j (by omega) s t m (by rw [List.getElem?_eq_getElem hj, ej])
        · rintro ⟨gs, e3, _, z⟩ j hj s t m ej
          have : hs = gs := (List.map_inj_right (f := V.int) (fun _ _ h => V.int.inj h)).mp e3
          subst this
          exact nd_ed.mp z s t m ((mem s t m).mp (List.mem_of_getElem? ej))
end
end Pl
namespace Pl
open PySem PySem.Spec PyProof.Rows L2
/-! values as data -/
def tyN : PyData → String
  | .none => "NoneType"
  | .bool _ => "bool"
  | .int _ => "int"
  | .str _ => "str"
  | .list _ => "list"
  | .tuple _ => "tuple"
  | _ => "dict"
theorem sqL_ty {K : PySem.W.Frag} {H : Hp} {p : Addr} {xs : List V} (h : SqL K H p xs) : TyX K H (.ref p) (.type "list") := by
  rcases h with (h | ⟨o, h⟩) | ⟨o, its, n, h, c, _⟩
  · exact .base (.lst h)
  · exact .base (.frz h)
  · exact .kList h c
theorem dp_ty {K : PySem.W.Frag} {H : Hp} {x : V} {d : PyData} (h : Dp K H x d) : TyX K H x (.type (tyN d)) := by
  cases h with
  | non => exact .base .non
  | bl b => exact .base (.bl b)
  | int i => exact .base (.int i)
  | str z => exact .base (.str z)
  | lst h _ => exact sqL_ty h
  | tup h _ => exact sqT_ty h
theorem dp_noTu {K : PySem.W.Frag} {H : Hp} {x : V} {d : PyData} (h : Dp K H x d) (n : ∀ ds, d ≠ .tuple ds) : NoTu K H x := by
  refine ⟨_, dp_ty h, ?_⟩
  cases h with
  | tup _ _ => exact absurd rfl (n _)
  | non => exact kit_ty (a := "NoneType") (by decide +kernel)
  | bl _ => exact kit_ty (a := "bool") (by decide +kernel)
  | int _ => exact kit_ty (a := "int") (by decide +kernel)
  | str _ => exact kit_ty (a := "str") (by decide +kernel)
  | lst _ _ => exact kit_ty (a := "list") (by decide +kernel)
theorem dp_kd {K : PySem.W.Frag} {H : Hp} {x : V} {d : PyData} (h : Dp K H x d) : Kd K H x := by
  cases h with
  | non => exact Kd.non
  | bl b => exact Kd.bl b
  | int i => exact Kd.int i
  | str z => exact Kd.str z
  | lst h _ => exact Kd.of (sqL_ty h) (kit_ty (by decide +kernel)) (kit_ty (by decide +kernel)) rfl
  | tup h _ => exact Kd.of (sqT_ty h) (kit_ty (by decide +kernel)) (kit_ty (by decide +kernel)) rfl
theorem dpAll_kd {K : PySem.W.Frag} {H : Hp} : ∀ {xs : List V} {ds : List PyData}, DpAll K H xs ds → ∀ y ∈ xs, Kd K H y
  | _, _, .nil, _, h => nomatch h
  | _, _, .cons h r, y, m => by
    rcases List.mem_cons.mp m with z | z
    · rw [z]; exact dp_kd h
    · exact dpAll_kd r y z
theorem dpAll_len {K : PySem.W.Frag} {H : Hp} : ∀ {xs : List V} {ds : List PyData}, DpAll K H xs ds → xs.length = ds.length
  | _, _, .nil => rfl
  | _, _, .cons _ r => congrArg (· + 1) (dpAll_len r)
theorem dp_tup_out {K : PySem.W.Frag} {H : Hp} {x : V} {ds : List PyData} (h : Dp K H x (.tuple ds)) : ∃ (q : Addr) (xs : List V), x = .ref q ∧ SqT K H q xs ∧ DpAll K H xs ds := by
  cases h with
  | tup h a => exact ⟨_, _, rfl, h, a⟩
theorem dpAll_two {K : PySem.W.Frag} {H : Hp} {xs : List V} {ds : List PyData} (h : DpAll K H xs ds) (l : xs.length = 2) : ∃ (y w : V) (d1 d2 : PyData), xs = [y, w] ∧ ds = [d1, d2] ∧ Dp K H y d1 ∧ Dp K H w d2 := by
  cases h with
  | nil => cases l
  | cons h1 r =>
    cases r with
    | nil => cases l
    | cons h2 r =>
      cases r with
      | nil => exact ⟨_, _, _, _, rfl, rfl, h1, h2⟩
      | cons _ _ => simp at l
/-- a tuple of numbers -/
def tupN (ss : List Nat) : PyData := .tuple ((nI ss).map PyData.int)
theorem dpAll_ints {K : PySem.W.Frag} {H : Hp} : ∀ {ns : List Int} {ds : List PyData}, DpAll K H (ns.map V.int) ds → ds = ns.map PyData.int
  | [], _, h => by cases h; rfl
  | n :: ns, _, h => by
    cases h with
    | cons h r =>
      cases h
      rw [dpAll_ints r]
      rfl
theorem ints_dpAll {K : PySem.W.Frag} {H : Hp} : ∀ {xs : List V} {ns : List Int}, DpAll K H xs (ns.map PyData.int) → xs = ns.map V.int
  | _, [], h => by cases h; rfl
  | _, n :: ns, h => by
    cases h with
    | cons h r =>
      cases h
      rw [ints_dpAll r]
      rfl
theorem ints_inj' : ∀ {a b : List Int}, a.map PyData.int = b.map PyData.int → a = b
  | [], [], _ => rfl
  | [], _ :: _, h => nomatch h
  | _ :: _, [], h => nomatch h
  | x :: a, y :: b, h => by
    rw [List.map_cons, List.map_cons] at h
    injection h with h1 h2
    injection h1 with h1
    rw [h1, ints_inj' h2]
theorem tupN_inj {a b : List Nat} (h : tupN a = tupN b) : a = b := by
  unfold tupN at h
  injection h with h
  exact nI_inj (ints_inj' h)
def RgD (rows : List (List Int)) (d : PyData) : Prop := ∃ ss g : List Nat, d = .tuple [tupN ss, tupN g] ∧ IsRing rows (List.range rows.length) ss g
def LvDD (rows : List (List Int)) (d : PyData) : Prop := ∃ hs : List Int, d = .tuple (hs.map PyData.int) ∧ hs.length = wdt rows ∧ ∀ s t m, NdC rows s t m → gI hs s + m ≤ gI hs t
def VdD (rows : List (List Int)) (d : PyData) : Prop := ∃ y, (d = .tuple [.str "ring", y] ∧ RgD rows y) ∨ (d = .tuple [.str "levels", y] ∧ LvDD rows y)
theorem rgx_iff {K : PySem.W.Frag} {H H' : Hp} {rows : List (List Int)} {xs zs : List V} {e1 e2 : List PyData} (a1 : DpAll K H xs e1) (a2 : DpAll K H' zs e2) : RgX rows xs zs ↔ RgD rows (.tuple [.tuple e1, .tuple e2]) := by
  constructor
  · rintro ⟨ss, g, rfl, rfl, ir⟩
    rw [iV_eq] at a1 a2
    exact ⟨ss, g, by rw [dpAll_ints a1, dpAll_ints a2]; rfl, ir⟩
  · rintro ⟨ss, g, e, ir⟩
    injection e with e
    injection e with ea e
    injection e with eb _
    injection ea with ea
    injection eb with eb
    subst ea eb
    exact ⟨ss, g, by rw [ints_dpAll a1, iV_eq], by rw [ints_dpAll a2, iV_eq], ir⟩
theorem lvd_iff {K : PySem.W.Frag} {H : Hp} {rows : List (List Int)} {xs : List V} {ds : List PyData} (a : DpAll K H xs ds) : LvD rows xs ↔ LvDD rows (.tuple ds) := by
  constructor
  · rintro ⟨hs, rfl, l, ok⟩
    exact ⟨hs, by rw [dpAll_ints a], l, ok⟩
  · rintro ⟨hs, e, l, ok⟩
    injection e with e
    subst e
    exact ⟨hs, ints_dpAll a, l, ok⟩
mutual
/-- no tuple within is long -/
def lz : PyData → Bool
  | .tuple ds => decide (ds.length ≤ 100) && lzAll ds
  | .list ds => decide (ds.length ≤ 100) && lzAll ds
  | _ => true
def lzAll : List PyData → Bool
  | [] => true
  | d :: ds => lz d && lzAll ds
end
/-- a value with its data -/
structure Vl (K : PySem.W.Frag) (H : Hp) (x : V) (d : PyData) : Prop where
  dp : Dp K H x d
  lay : d.canLay0 = true
  dep : d.depth ≤ 60
  lz : lz d = true
theorem lz_tup {ds : List PyData} (h : lz (.tuple ds) = true) : ds.length ≤ 100 ∧ ∀ d ∈ ds, lz d = true := by
  rw [lz, Bool.and_eq_true, decide_eq_true_eq] at h
  refine ⟨h.1, ?_⟩
  have key : ∀ {es : List PyData}, lzAll es = true → ∀ d ∈ es, lz d = true := by
    intro es
    induction es with
    | nil => exact fun _ d m => nomatch m
    | cons e es ih =>
      intro h d m
      rw [lzAll, Bool.and_eq_true] at h
      rcases List.mem_cons.mp m with z | z
      · rw [z]; exact h.1
      · exact ih h.2 d z
  exact key h.2
theorem vl_two {K : PySem.W.Frag} {H : Hp} {x y w : V} {d1 d2 : PyData} (v : Vl K H x (.tuple [d1, d2])) (h1 : Dp K H y d1) (h2 : Dp K H w d2) : Vl K H y d1 ∧ Vl K H w d2 := by
  have l := v.lay
  have p := v.dep
  have z := (lz_tup v.lz).2
  simp only [PyData.canLay0, PyData.canLayAll0, Bool.and_eq_true] at l
  simp only [PyData.depth, PyData.depthAll] at p
  exact ⟨⟨h1, l.1, by omega, z _ (by simp)⟩, ⟨h2, l.2.1, by omega, z _ (by simp)⟩⟩
theorem Vl.same {K : PySem.W.Frag} {H H' : Hp} {x : V} {d : PyData} (v : Vl K H x d) (k : Same H H') : Vl K H' x d := ⟨dpSame k _ _ v.dp, v.lay, v.dep, v.lz⟩
theorem Vl.shaped {K : PySem.W.Frag} {H : Hp} {x : V} {d : PyData} (v : Vl K H x d) : SeqAt.shaped d = true := by
  show (PyData.canLay0 _ && decide (PyData.depth _ ≤ 64)) = true
  rw [v.lay, Bool.true_and]
  exact decide_eq_true (by have := v.dep; omega)
theorem Vl.len {K : PySem.W.Frag} {H : Hp} {x : V} {ds : List PyData} (v : Vl K H x (.tuple ds)) : ds.length ≤ 100 := (lz_tup v.lz).1
theorem showRD {K : PySem.W.Frag} {CD C : Addr} {H : Hp} {Q : VK} {E : XK} {d t : Addr} {sd : List Addr} {rows : List (List Int)} {z : V} {dz : PyData} (v : Vl K H z dz) (dv : DvAt CD C H d t sd rows) (k : ∀ (b : Bool) (H' : Hp), Same H H' → (b = true ↔ RgD rows dz) → Q (.bl b) H') : spShowRF K CD C [.ref d, z] H Q E := by
  refine ⟨d, t, sd, rows, z, rfl, dv, ?_⟩
  have no : ∀ H', Same H H' → ¬ RgD rows dz → Q (.bl false) H' := fun H' s n => k false H' s ⟨fun z => (nomatch z), fun z => absurd z n⟩
  by_cases c : ∃ ds, dz = .tuple ds
  case neg => exact .inl ⟨dp_noTu v.dp fun ds e => c ⟨ds, e⟩, no H (Same.refl H) fun ⟨_, _, e, _⟩ => c ⟨_, e⟩⟩
  obtain ⟨ds, rfl⟩ := c
  obtain ⟨q, xs, rfl, sq, al⟩ := dp_tup_out v.dp
  by_cases l : xs.length = 2
  case neg =>
    refine .inr (.inl ⟨q, xs, rfl, sq, l, no H (Same.refl H) fun ⟨_, _, e, _⟩ => l ?_⟩)
    rw [dpAll_len al]
    injection e with e
    rw [e]
    rfl
  obtain ⟨y, w, d1, d2, rfl, rfl, h1, h2⟩ := dpAll_two al l
  obtain ⟨v1, v2⟩ := vl_two v h1 h2
  refine .inr (.inr ⟨q, y, w, rfl, sq, ?_⟩)
  by_cases c1 : ∃ ds, d1 = .tuple ds
  case neg =>
    refine .inl ⟨dp_noTu h1 fun ds e => c1 ⟨ds, e⟩, no H (Same.refl H) fun ⟨ss, _, e, _⟩ => ?_⟩
    injection e with e
    injection e with e _
    exact c1 ⟨_, e⟩
  obtain ⟨e1, rfl⟩ := c1
  obtain ⟨r, ys, rfl, sr, al1⟩ := dp_tup_out h1
  refine .inr ⟨r, ys, rfl, sr, by rw [dpAll_len al1]; exact v1.len, dpAll_kd al1, ?_⟩
  by_cases c2 : ∃ ds, d2 = .tuple ds
  case neg =>
    refine .inl ⟨dp_noTu h2 fun ds e => c2 ⟨ds, e⟩, fun H' s => no H' s fun ⟨_, g, e, _⟩ => ?_⟩
    injection e with e
    injection e with _ e
    injection e with e _
    exact c2 ⟨_, e⟩
  obtain ⟨e2, rfl⟩ := c2
  obtain ⟨r2, zs, rfl, sr2, al2⟩ := dp_tup_out h2
  exact .inr ⟨r2, zs, rfl, sr2, by rw [dpAll_len al2]; exact v2.len, dpAll_kd al2, fun b H' s hb => k b H' s (hb.trans (rgx_iff al1 al2))⟩
theorem showLD {K : PySem.W.Frag} {CD C : Addr} {H : Hp} {Q : VK} {E : XK} {d t : Addr} {sd : List Addr} {rows : List (List Int)} {z : V} {dz : PyData} (v : Vl K H z dz) (dv : DvAt CD C H d t sd rows) (k : ∀ (b : Bool) (H' : Hp), Same H H' → (b = true ↔ LvDD rows dz) → Q (.bl b) H') : spShowVF K CD C [.ref d, z] H Q E := by
  refine ⟨d, t, sd, rows, z, rfl, dv, ?_⟩
  by_cases c : ∃ ds, dz = .tuple ds
  case neg =>
    obtain ⟨ty, tx, kt⟩ := dp_noTu v.dp fun ds e => c ⟨ds, e⟩
    exact .inl ⟨ty, tx, kt, k false H (Same.refl H) ⟨fun z => (nomatch z), fun ⟨_, e, _⟩ => absurd ⟨_, e⟩ c⟩⟩
  obtain ⟨ds, rfl⟩ := c
  obtain ⟨q, xs, rfl, sq, al⟩ := dp_tup_out v.dp
  exact .inr ⟨q, xs, rfl, sq, by rw [dpAll_len al]; exact v.len, dpAll_kd al, fun b H' s hb => k b H' s (hb.trans (lvd_iff al))⟩
theorem eqStr {d : PyData} {s : Str} : PyData.eqv d (.str s) = true ↔ d = .str s := by
  cases d <;> simp [PyData.eqv]
theorem strShaped {wo : Str} (h : PyData.strOk wo = true) : SeqAt.shaped (.str wo) = true := by
  show (PyData.canLay0 (.str wo) && decide (PyData.depth (.str wo) ≤ 64)) = true
  have c : PyData.canLay0 (.str wo) = true := by simpa [PyData.canLay0] using h
  rw [c, Bool.true_and]
  exact decide_eq_true (by simp [PyData.depth])
theorem vd_two {rows : List (List Int)} {d1 d2 : PyData} : VdD rows (.tuple [d1, d2]) ↔ (d1 = .str "ring" ∧ RgD rows d2) ∨ (d1 = .str "levels" ∧ LvDD rows d2) := by
  constructor
  · rintro ⟨y, ⟨e, r⟩ | ⟨e, r⟩⟩ <;> injection e with e <;> injection e with e e2 <;> injection e2 with e2 _ <;> subst e2
    · exact .inl ⟨e, r⟩
    · exact .inr ⟨e, r⟩
  · rintro (⟨rfl, r⟩ | ⟨rfl, r⟩)
    · exact ⟨_, .inl ⟨rfl, r⟩⟩
    · exact ⟨_, .inr ⟨rfl, r⟩⟩
theorem vd_len {rows : List (List Int)} {ds : List PyData} (h : VdD rows (.tuple ds)) : ds.length = 2 := by
  obtain ⟨y, ⟨e, _⟩ | ⟨e, _⟩⟩ := h <;> injection e with e <;> rw [e] <;> rfl
theorem vd_tup {rows : List (List Int)} {d : PyData} (h : VdD rows d) : ∃ ds, d = .tuple ds := by
  obtain ⟨y, ⟨e, _⟩ | ⟨e, _⟩⟩ := h <;> exact ⟨_, e⟩
def spShowVd (K : PySem.W.Frag) (CD C : Addr) : Sp := fun vs H Q _ => ∃ (d t : Addr) (ss : List Addr) (rows : List (List Int)) (x : V), vs = [.ref d, x] ∧ DvAt CD C H d t ss rows ∧
  ((NoTu K H x ∧ Q (.bl false) H) ∨ ∃ D, Vl K H x D ∧ ∀ (b : Bool) (H' : Hp), Same H H' → (b = true ↔ VdD rows D) → Q (.bl b) H')
section
variable {P : Program} {w : World} {K : PySem.W.Frag} {mg : Str → Option Value} {base : Heap} {CShare CDivision CNoPerson : Addr}
abbrev st_shows_verdict : Stmt := top 34
theorem sc_shows_verdict : FnScope ["division", "thing", "word", "reason"] ["division", "thing"] (defScope st_shows_verdict) := ⟨rfl, rfl, rfl, by decide +kernel, rfl, by decide +kernel, by decide +kernel⟩
theorem ok_showVd (B : Bn mg) (c_check_division : Cal P w K mg base 1 "check_division" ["thing"] (spCheckD CDivision CShare)) (c_is_pair : Cal P w K mg base 1 "is_pair" ["thing"] (spIsPairF K)) (c_shows_ring : Cal P w K mg base 7 "shows_ring" ["division", "thing"] (spShowRF K CDivision CShare)) (c_shows_levels : Cal P w K mg base 7 "shows_levels" ["division", "thing"] (spShowVF K CDivision CShare)) (D : Df K mg "shows_verdict" st_shows_verdict ["division", "thing"]) : Cal P w K mg base 8 "shows_verdict" ["division", "thing"] (spShowVd K CDivision CShare) := by
  refine D.cal sc_shows_verdict (fun vs H Q E h => ?_) (fun f cdv A out s H vs Q E hr h => ?_)
  · obtain ⟨d, t, ss, rows, x, rfl, _⟩ := h
    rfl
  obtain ⟨d, t, ss, rows, x, rfl, dv, h⟩ := h
  refine ⟨_, (pss_cons (ps_expr (pe_fn c_check_division (hr.mono (by decide)) (pa_cons (pv 0) pa_nil)))
   (pss_cons (ps_if (pt_not (pt_val (pe_fn c_is_pair (hr.mono (by decide)) (pa_cons (pv 1) pa_nil)))) (pss_one (ps_ret pe_bl)) pss_nil)
   (pss_cons (ps_asg (pv 1) (pg_tup rfl (pgs_cons (pg_name (i := 2) sc_shows_verdict.nd rfl (.inl rfl)) (pgs_cons (pg_name (i := 3) sc_shows_verdict.nd rfl (.inl rfl)) pgs_nil))))
   (pss_cons (ps_if (pt_cmpR (op_eqD hr.units) (pv 2) pe_str (nomark _)) (pss_one (ps_ret (pe_fn c_shows_ring (hr.mono (by decide)) (pa_cons (pv 0) (pa_cons (pv 3) pa_nil))))) pss_nil)
   (pss_one (ps_ret (pe_and (pe_cmpR (op_eqD hr.units) (pv 2) pe_str (nomark _)) (pe_one (pe_fn c_shows_levels (hr.mono (by decide)) (pa_cons (pv 0) (pa_cons (pv 3) pa_nil))))))))))), ?_⟩
  refine ⟨_, rfl, d, t, ss, rows, rfl, dv, ?_⟩
  rcases h with ⟨⟨ty, tx, kt⟩, k⟩ | ⟨D, v, k⟩
  · exact ⟨_, rfl, x, rfl, .inl ⟨ty, tx, kt, _, rfl, iteT k⟩⟩
  have no : ∀ H', Same H H' → ¬ VdD rows D → Q (.bl false) H' := fun H' s n => k false H' s ⟨fun z => (nomatch z), fun z => absurd z n⟩
  by_cases c : ∃ ds, D = .tuple ds
  case neg =>
    obtain ⟨ty, tx, kt⟩ := dp_noTu v.dp fun ds e => c ⟨ds, e⟩
    exact ⟨_, rfl, x, rfl, .inl ⟨ty, tx, kt, _, rfl, iteT (no H (Same.refl H) fun z => c (vd_tup z))⟩⟩
  obtain ⟨ds, rfl⟩ := c
  obtain ⟨p, xs, rfl, sp, al⟩ := dp_tup_out v.dp
  by_cases l : xs.length = 2
  case neg =>
    refine ⟨_, rfl, _, rfl, .inr ⟨p, xs, rfl, sp, _, rfl, ?_⟩⟩
    rw [decide_eq_false l]
    exact iteT (no H (Same.refl H) fun z => l (by rw [dpAll_len al]; exact vd_len z))
  obtain ⟨y, z, dy, dz, rfl, rfl, h1, h2⟩ := dpAll_two al l
  obtain ⟨v1, v2⟩ := vl_two v h1 h2
  refine ⟨_, rfl, _, rfl, .inr ⟨p, _, rfl, sp, _, rfl, iteF ?_⟩⟩
  refine ⟨_, rfl, p, _, rfl, sp, rfl, _, _, rfl, _, _, rfl, rfl, ?_⟩
  refine ⟨_, rfl, dy, .str "ring", h1, .str _, v1.shaped, strShaped (by decide +kernel), _, rfl, ?_⟩
  cases e1 : PyData.eqv dy (.str "ring") with
  | true =>
    have ey := eqStr.mp e1
    refine iteT ⟨_, rfl, _, rfl, ?_⟩
    try dsimp only [tNil]
    refine showRD v2 dv fun b H' k' hb => k b H' k' (hb.trans ⟨fun r => vd_two.mpr (.inl ⟨ey, r⟩), fun q => ?_⟩)
    rcases vd_two.mp q with ⟨_, r⟩ | ⟨e, _⟩
    · exact r
    · rw [ey] at e
      injection e with e
      exact absurd e (by decide +kernel)
  | false =>
    refine iteF ?_
    have n1 : ¬ dy = .str "ring" := fun e => by
      rw [eqStr.mpr e] at e1
      cases e1
    refine ⟨_, rfl, dy, .str "levels", h1, .str _, v1.shaped, strShaped (by decide +kernel), _, rfl, ?_⟩
    cases e2 : PyData.eqv dy (.str "levels") with
    | true =>
      have ey := eqStr.mp e2
      refine iteT ⟨_, rfl, _, rfl, ?_⟩
      try dsimp only [tNil]
      refine showLD v2 dv fun b H' k' hb => k b H' k' (hb.trans ⟨fun r => vd_two.mpr (.inr ⟨ey, r⟩), fun q => ?_⟩)
      rcases vd_two.mp q with ⟨e, _⟩ | ⟨_, r⟩
      · exact absurd e n1
      · exact r
    | false =>
      refine iteF (no H (Same.refl H) fun q => ?_)
      rcases vd_two.mp q with ⟨e, _⟩ | ⟨e, _⟩
      · exact n1 e
      · rw [eqStr.mpr e] at e2
        cases e2
end
end Pl
namespace Pl
open PySem PySem.Spec PyProof.Rows L2
/-- a value that may be asked whether it is a ring: the states of a pair of tuples may be counted -/
structure One (K : PySem.W.Frag) (H : Hp) (z : V) (d : PyData) : Prop where
  vl : Vl K H z d
  rp : (∀ ds d2, d ≠ .tuple [.tuple ds, d2]) ∨ ∃ (q r : Addr) (v : V) (xs : List V) (ds : List PyData) (d2 : PyData), z = .ref q ∧ d = .tuple [.tuple ds, d2] ∧ SqT K H q [.ref r, v] ∧ Fz H r xs ∧ DpAll K H xs ds ∧ Dp K H v d2
theorem One.same {K : PySem.W.Frag} {H H' : Hp} {z : V} {d : PyData} (o : One K H z d) (k : Same H H') : One K H' z d := by
  refine ⟨o.vl.same k, ?_⟩
  rcases o.rp with h | ⟨q, r, v, xs, ds, d2, e1, e2, s, f, a, p⟩
  · exact .inl h
  · exact .inr ⟨q, r, v, xs, ds, d2, e1, e2, sqT_same k s, f.same k, dpSameAll k _ _ a, dpSame k _ _ p⟩
theorem One.out {K : PySem.W.Frag} {H : Hp} {z : V} {ds : List PyData} (o : One K H z (.tuple ds)) : ∃ (q : Addr) (xs : List V), z = .ref q ∧ SqT K H q xs ∧ DpAll K H xs ds ∧ ∀ (y w : V) (e1 : List PyData) (d2 : PyData), xs = [y, w] → ds = [.tuple e1, d2] → ∃ (r : Addr) (ys : List V), y = .ref r ∧ Fz H r ys ∧ DpAll K H ys e1 := by
  rcases o.rp with h | ⟨q, r, v, xs, es, d2, e1, e2, s, f, a, p⟩
  · obtain ⟨q, xs, e, s, a⟩ := dp_tup_out o.vl.dp
    exact ⟨q, xs, e, s, a, fun y w e1 d2 _ e2 => absurd (by rw [e2]) (h e1 d2)⟩
  · injection e2 with e2
    subst e2
    refine ⟨q, _, e1, s, .cons (.tup f.sq a) (.cons p .nil), fun y w e1 d2' ex ed => ?_⟩
    injection ex with ex _
    injection ed with ed _
    injection ed with ed
    subst ex ed
    exact ⟨r, xs, rfl, f, a⟩
def Num (n : Nat) (d : PyData) : Prop := ∃ ss : List Nat, d = tupN ss ∧ ∀ s ∈ ss, s < n
theorem num_iff {K : PySem.W.Frag} {H : Hp} {n : Nat} {xs : List V} {ds : List PyData} (a : DpAll K H xs ds) : xs.all (isTo ((n : Int) - 1)) = true ↔ Num n (.tuple ds) := by
  rw [nums_iV]
  constructor
  · rintro ⟨ss, rfl, lt⟩
    rw [iV_eq] at a
    exact ⟨ss, by rw [dpAll_ints a]; rfl, lt⟩
  · rintro ⟨ss, e, lt⟩
    unfold tupN at e
    injection e with e
    subst e
    exact ⟨ss, by rw [ints_dpAll a, iV_eq], lt⟩
theorem rg_nums {rows : List (List Int)} {d1 d2 : PyData} (h : RgD rows (.tuple [d1, d2])) : Num (wdt rows) d1 ∧ Num rows.length d2 := by
  obtain ⟨ss, g, e, ir⟩ := h
  injection e with e
  injection e with e1 e
  injection e with e2 _
  refine ⟨⟨ss, e1, ir.2.1⟩, g, e2, fun p hp => ?_⟩
  obtain ⟨_, _, l1, lg, all, _⟩ := ir
  obtain ⟨j, hj⟩ := List.mem_iff_getElem?.mp hp
  have lj : j < (stp ss).length := by
    rw [stp_len l1, ← lg]
    exact (List.getElem?_eq_some_iff.mp hj).1
  exact List.mem_range.mp (all j p (stp ss)[j].1 (stp ss)[j].2 hj (List.getElem?_eq_getElem lj)).1
theorem rg_at {rows : List (List Int)} {ss g : List Nat} : RgD rows (.tuple [tupN ss, tupN g]) ↔ IsRing rows (List.range rows.length) ss g := by
  constructor
  · rintro ⟨ss', g', e, ir⟩
    injection e with e
    injection e with e1 e
    injection e with e2 _
    rw [tupN_inj e1, tupN_inj e2]
    exact ir
  · exact fun ir => ⟨ss, g, rfl, ir⟩
theorem countN {s : Nat} : ∀ {ss : List Nat}, (iV ss).countP (fun z => eqV z (.int (s : Nat))) = ss.count s
  | [] => rfl
  | t :: ss => by
    show List.countP _ (V.int ((t : Nat) : Int) :: iV ss) = _
    rw [List.countP_cons, List.count_cons, countN]
    congr 1
    have e : eqV (V.int ((t : Nat) : Int)) (.int ((s : Nat) : Int)) = (t == s) := by
      show decide (((t : Nat) : Int) = ((s : Nat) : Int)) = (t == s)
      rw [Bool.eq_iff_iff, decide_eq_true_eq, beq_iff_eq]
      omega
    rw [e]
/-- by the rises of a ring -/
theorem ring_rss {rows : List (List Int)} {ss g : List Nat} (nd : ss.Nodup) (lt : ∀ s ∈ ss, s < wdt rows) (l2 : 2 ≤ ss.length) (lg : g.length = ss.length) (lp : ∀ p ∈ g, p < rows.length) : IsRing rows (List.range rows.length) ss g ↔ (∀ x ∈ rss rows ss g, 1 ≤ x) ∧ ∃ x ∈ rss rows ss g, 2 ≤ x := by
  have at_ : ∀ (i p a b : Nat), g[i]? = some p → (stp ss)[i]? = some (a, b) → (rss rows ss g)[i]? = some (rs rows p a b) := fun i p a b hp hs => by
    have li : i < ss.length := by rw [← lg]; exact (List.getElem?_eq_some_iff.mp hp).1
    rw [stp_at li] at hs
    obtain ⟨rfl, rfl⟩ : sA ss i = a ∧ sB ss i = b := by
      have := Option.some.inj hs
      exact ⟨congrArg Prod.fst this, congrArg Prod.snd this⟩
    unfold rss
    rw [List.getElem?_map, List.getElem?_range li]
    show some (rs rows ((g[i]?).getD 0) _ _) = _
    rw [hp]
    rfl
  have out : ∀ x ∈ rss rows ss g, ∃ (i p a b : Nat), g[i]? = some p ∧ (stp ss)[i]? = some (a, b) ∧ x = rs rows p a b := fun x hx => by
    obtain ⟨i, hi⟩ := List.mem_iff_getElem?.mp hx
    have li : i < ss.length := by
      have := (List.getElem?_eq_some_iff.mp hi).1
      unfold rss at this
      simpa using this
    have gi : g[i]? = some g[i] := List.getElem?_eq_getElem (by omega)
    refine ⟨i, g[i], sA ss i, sB ss i, gi, stp_at li, ?_⟩
    rw [at_ i _ _ _ gi (stp_at li)] at hi
    exact (Option.some.inj hi).symm
  constructor
  · rintro ⟨_, _, _, _, all, j, p, a, b, ep, es, r2⟩
    refine ⟨fun x hx => ?_, _, List.mem_of_getElem? (at_ j p a b ep es), r2⟩
    obtain ⟨i, p', a', b', h1, h2, rfl⟩ := out x hx
    exact (all i p' a' b' h1 h2).2
  · rintro ⟨h1, x, hx, x2⟩
    obtain ⟨j, p, a, b, ep, es, rfl⟩ := out x hx
    exact ⟨nd, lt, by omega, lg, fun i p' a' b' hp hs => ⟨List.mem_range.mpr (lp p' (List.mem_of_getElem? hp)), h1 _ (List.mem_of_getElem? (at_ i p' a' b' hp hs))⟩, j, p, a, b, ep, es, x2⟩
def spIsRgD (K : PySem.W.Frag) : Sp := fun vs H Q _ => ∃ (l : Addr) (ts : List Addr) (rows : List (List Int)) (x : V) (d : PyData), vs = [.ref l, x] ∧ H l = some (.lst (ts.map V.ref)) ∧ TpAll H ts rows ∧ Rows rows ∧ One K H x d ∧ ∀ (b : Bool) (H' : Hp), Same H H' → (b = true ↔ RgD rows d) → Q (.bl b) H'
section
variable {P : Program} {w : World} {K : PySem.W.Frag} {mg : Str → Option Value} {base : Heap} {CShare CDivision CNoPerson : Addr}
abbrev st_l_is_ring : Stmt := top 57
theorem sc_l_is_ring : FnScope ["_law_lines_here", "_law_thing", "_law_part", "_law_most", "_law_states", "_law_people_here", "_law_gains", "_law_one"] ["_law_lines_here", "_law_thing"] (defScope st_l_is_ring) := ⟨rfl, rfl, rfl, by decide +kernel, rfl, by decide +kernel, by decide +kernel⟩
theorem ok_isRgD (B : Bn mg) (c_l_rises : Cal P w K mg base 2 "_law_rises" ["_law_lines_here", "_law_states", "_law_people_here"] (spRises K)) (D : Df K mg "_law_is_ring" st_l_is_ring ["_law_lines_here", "_law_thing"]) : Cal P w K mg base 3 "_law_is_ring" ["_law_lines_here", "_law_thing"] (spIsRgD K) := by
  refine D.cal sc_l_is_ring (fun vs H Q E h => ?_) (fun f cdv A out s H vs Q E hr h => ?_)
  · obtain ⟨l, ts, rows, x, d, rfl, _⟩ := h
    rfl
  obtain ⟨l, ts, rows, x, d, rfl, hl, tp, rw_, one, k⟩ := h
  refine ⟨_, (pss_cons (ps_if (PW.pt (pw_or (pt_not (pt_val (pe_callB call_isi (by rfl) B.n_isinstance (by decide +kernel) (pa_cons (pv 1) (pa_cons (pe_bltn (v := .ty "tuple") (by rfl) B.n_tuple (by decide +kernel) rfl) pa_nil))))) (pw_or1 (pt_cmpR op_ne (pe_callB call_len_seq (by rfl) B.n_len (by decide +kernel) (pa_cons (pv 1) pa_nil)) pe_int (nomark _))))) (pss_one (ps_ret pe_bl)) pss_nil)
   (pss_cons (ps_for PassesOwn.never rfl (pi_tup (pe_tup (pa_cons (pe_tup (pa_cons (pe_ix ix_tup (pv 1) pe_int (fun _ _ => rfl)) (pa_cons (pe_callB call_len_seq (by rfl) B.n_len (by decide +kernel) (pa_cons (pe_ix ix_list (pv 0) pe_int (fun _ _ => rfl)) pa_nil)) pa_nil))) (pa_cons (pe_tup (pa_cons (pe_ix ix_tup (pv 1) pe_int (fun _ _ => rfl)) (pa_cons (pe_callB call_len_seq (by rfl) B.n_len (by decide +kernel) (pa_cons (pv 0) pa_nil)) pa_nil))) pa_nil)))) (pg_tup rfl (pgs_cons (pg_name (i := 2) sc_l_is_ring.nd rfl (.inl rfl)) (pgs_cons (pg_name (i := 3) sc_l_is_ring.nd rfl (.inr rfl)) pgs_nil)))
   (pss_cons (ps_if (pt_not (pt_val (pe_callB call_isi (by rfl) B.n_isinstance (by decide +kernel) (pa_cons (pv 2) (pa_cons (pe_bltn (v := .ty "tuple") (by rfl) B.n_tuple (by decide +kernel) rfl) pa_nil))))) (pss_one (ps_ret pe_bl)) pss_nil)
   (pss_one (ps_if (pt_not (pt_val (pe_callB (cr_all rfl) (by rfl) B.n_all (by decide +kernel) (pa_cons (pe_lc (own := [("_law_one", 7)]) (g := gName 7) rfl sc_l_is_ring.nd (pi_tup (pv 2)) (blkOk_by (N := ["_law_lines_here", "_law_thing", "_law_part", "_law_most", "_law_states", "_law_people_here", "_law_gains", "_law_one"]) (sc := defScope st_l_is_ring) (by decide +kernel)) (fun _ _ _ _ _ => (pg_name (i := 7) sc_l_is_ring.nd rfl (.inl rfl))) (fun _ _ _ _ _ => pts_nil) (fun _ _ _ _ _ => (pe_and (pe_callB (show CallR _ (.builtin "isinstance") (rIsi K) from call_isi) (by rfl) B.n_isinstance (by decide +kernel) (pa_cons (pv 7) (pa_cons (pe_bltn (v := .ty "int") (by rfl) B.n_int (by decide +kernel) rfl) pa_nil))) (pe_and (pe_not (pe_callB (show CallR _ (.builtin "isinstance") (rIsi K) from call_isi) (by rfl) B.n_isinstance (by decide +kernel) (pa_cons (pv 7) (pa_cons (pe_bltn (v := .ty "bool") (by rfl) B.n_bool (by decide +kernel) rfl) pa_nil)))) (pe_one (pe_chain op_le op_lt pe_int (pv 7) (pv 3))))))) pa_nil)))) (pss_one (ps_ret pe_bl)) pss_nil))))
   (pss_cons (ps_asg (pv 1) (pg_tup rfl (pgs_cons (pg_name (i := 4) sc_l_is_ring.nd rfl (.inr rfl)) (pgs_cons (pg_name (i := 5) sc_l_is_ring.nd rfl (.inl rfl)) pgs_nil))))
   (pss_cons (ps_if (PW.pt (pw_or (pt_cmpR op_lt (pe_callB call_len_seq (by rfl) B.n_len (by decide +kernel) (pa_cons (pv 4) pa_nil)) pe_int (nomark _)) (pw_or (pt_cmpR op_ne (pe_callB call_len_seq (by rfl) B.n_len (by decide +kernel) (pa_cons (pv 4) pa_nil)) (pe_callB call_len_seq (by rfl) B.n_len (by decide +kernel) (pa_cons (pv 5) pa_nil)) (nomark _)) (pw_or1 (pt_cmpR op_gt (pe_callB (cr_max rfl) (by rfl) B.n_max (by decide +kernel) (pa_cons (pe_lc (own := [("_law_one", 7)]) (g := gName 7) rfl sc_l_is_ring.nd (pi_tup (pv 4)) (blkOk_by (N := ["_law_lines_here", "_law_thing", "_law_part", "_law_most", "_law_states", "_law_people_here", "_law_gains", "_law_one"]) (sc := defScope st_l_is_ring) (by decide +kernel)) (fun _ _ _ _ _ => (pg_name (i := 7) sc_l_is_ring.nd rfl (.inl rfl))) (fun _ _ _ _ _ => pts_nil) (fun _ _ _ _ _ => (pe_bF PySem.F.plainAttrs_tuple PySem.F.slot_tuple_count PySem.F.type_tuple_count (show MtR _ "tuple.count" (rCountT K) from mt_countT) (pv 4) (pa_cons (pv 7) pa_nil)))) pa_nil)) pe_int (nomark _)))))) (pss_one (ps_ret pe_bl)) pss_nil)
   (pss_cons (ps_set (i := 6) sc_l_is_ring.nd rfl (.inl rfl) (pe_fn c_l_rises (hr.mono (by decide)) (pa_cons (pv 0) (pa_cons (pv 4) (pa_cons (pv 5) pa_nil)))))
   (pss_one (ps_ret (pe_and (pe_cmpR op_ge (pe_callB (cr_min rfl) (by rfl) B.n_min (by decide +kernel) (pa_cons (pv 6) pa_nil)) pe_int (nomark _)) (pe_one (pe_cmpR op_ge (pe_callB (cr_max rfl) (by rfl) B.n_max (by decide +kernel) (pa_cons (pv 6) pa_nil)) pe_int (nomark _))))))))))), ?_⟩
  obtain ⟨w2, w6⟩ := rw_.w26
  have p2 := rw_.1
  have p4 := rw_.2.1
  have ln := tp.1
  have no : ∀ H', Same H H' → ¬ RgD rows d → Q (.bl false) H' := fun H' s n => k false H' s ⟨fun z => (nomatch z), fun z => absurd z n⟩
  by_cases c : ∃ ds, d = .tuple ds
  case neg =>
    obtain ⟨ty, tx, kt⟩ := dp_noTu one.vl.dp fun ds e => c ⟨ds, e⟩
    exact ⟨_, rfl, _, _, _, _, false, rfl, .ty _, tx, kt, _, rfl, iteT (no H (Same.refl H) fun ⟨_, _, e, _⟩ => c ⟨_, e⟩)⟩
  obtain ⟨ds, rfl⟩ := c
  obtain ⟨q, xs, rfl, sq, al, fz⟩ := one.out
  refine ⟨_, rfl, _, _, _, _, true, rfl, .ty _, sqT_ty sq, kit_ty (by decide +kernel), _, rfl, iteF ?_⟩
  refine ⟨_, rfl, q, _, rfl, .inr sq, rfl, _, rfl, ?_⟩
  refine ite2 (fun c => ?_) (fun c => ?_)
  · refine no H (Same.refl H) fun ⟨_, _, e, _⟩ => ?_
    injection e with e
    have l := dpAll_len al
    rw [e] at l
    rw [l] at c
    simp at c
  have l22 : xs.length = 2 := by
    have z : V.int (xs.length : Int) = V.int 2 := by simpa using c
    have := V.int.inj z
    omega
  obtain ⟨y, w, d1, d2, rfl, rfl, h1, h2⟩ := dpAll_two al l22
  obtain ⟨v1, v2⟩ := vl_two one.vl h1 h2
  have t0 : ts[0]? = some ts[0] := List.getElem?_eq_getElem (by omega)
  have r0 : rows[0]? = some rows[0] := List.getElem?_eq_getElem (by omega)
  have ew : (rows[0].map V.int).length = wdt rows := by rw [List.length_map, rw_.wdt (List.mem_of_getElem? r0)]
  have ht0 := tp.2 0 _ _ t0 r0
  have a0 : atI (ts.map V.ref) 0 = some (.ref ts[0]) := atI_nat (j := 0) (by rw [List.getElem?_map, t0]; rfl)
  generalize ts[0] = t1 at t0 ht0 a0
  generalize rows[0] = n1 at r0 ew ht0
  refine ⟨_, rfl, q, _, 0, y, rfl, rfl, sq, rfl, _, rfl, l, _, 0, _, rfl, rfl, SqL.of hl, a0, t1, _, rfl, .inr (SqT.of ht0), ?_⟩
  rw [ew]
  refine ⟨(by show 2 ≤ sizeLine; decide), fun A1 hA => ?_⟩
  generalize hH1 : upd H A1 _ = H1
  obtain ⟨k1, eA⟩ := alloc hH1 hA
  clear hH1
  refine ⟨_, rfl, q, _, 1, w, rfl, rfl, sqT_same k1 sq, rfl, _, rfl, l, _, rfl, .inl (SqL.of (k1 _ _ hl)), ?_⟩
  rw [List.length_map, ln]
  refine ⟨(by show 2 ≤ sizeLine; decide), fun A2 hA2 => ?_⟩
  generalize hH2 : upd H1 A2 _ = H2
  obtain ⟨k2, eA2⟩ := alloc hH2 hA2
  clear hH2
  refine ⟨(by show 2 ≤ sizeLine; decide), fun A3 hA3 => ?_⟩
  generalize hH3 : upd H2 A3 _ = H3
  obtain ⟨k3, eA3⟩ := alloc hH3 hA3
  clear hH3
  have k03 := k1.trans (k2.trans k3)
  have eA := (k2.trans k3) _ _ eA
  have eA2 := k3 _ _ eA2
  refine ⟨A3, rfl, ⟨_, SqT.of eA3⟩, ?_⟩
  refine for_tup (K := K) (a := A3) (xs := [.ref A1, .ref A2]) (fun i σ H' => ∃ u2 u3 u4 u5 u6 u7 : Option V, σ = [some (.ref l), some (.ref q), u2, u3, u4, u5, u6, u7] ∧ Same H3 H' ∧ (1 ≤ i → Num (wdt rows) d1) ∧ (2 ≤ i → Num rows.length d2)) ⟨none, none, none, none, none, none, rfl, Same.refl _, fun z => by omega, fun z => by omega⟩ (fun i σ H' _ ⟨_, _, _, _, _, _, _, z, _⟩ => SqT.of (z _ _ eA3)) ?_ ?_
  · rintro i x σ H4 hx ⟨u2, u3, u4, u5, u6, u7, rfl, k4, o1, o2⟩
    obtain ⟨A, py, pd, n, rfl, eA, vp, bad, good⟩ : ∃ (A : Addr) (py : V) (pd : PyData) (n : Nat), x = .ref A ∧ H3 A = some (.tup [py, .int (n : Nat)]) ∧ Vl K H py pd ∧ (¬ Num n pd → ¬ RgD rows (.tuple [d1, d2])) ∧ (Num n pd → (1 ≤ i + 1 → Num (wdt rows) d1) ∧ (2 ≤ i + 1 → Num rows.length d2)) := by
      match i, hx with
      | 0, hx =>
        obtain rfl := Option.some.inj hx
        exact ⟨A1, y, d1, _, rfl, eA, v1, fun n z => n (rg_nums z).1, fun z => ⟨fun _ => z, fun z => by omega⟩⟩
      | 1, hx =>
        obtain rfl := Option.some.inj hx
        exact ⟨A2, w, d2, _, rfl, eA2, v2, fun n z => n (rg_nums z).2, fun z => ⟨fun _ => o1 (Nat.le_refl _), fun _ => z⟩⟩
      | i + 2, hx => cases hx
    have k04 := k03.trans k4
    have vp := vp.same k04
    refine ⟨A, _, rfl, SqT.of (k4 _ _ eA), rfl, _, _, rfl, _, _, rfl, rfl, ?_⟩
    by_cases c : ∃ ds, pd = .tuple ds
    case neg =>
      obtain ⟨ty, tx, kt⟩ := dp_noTu vp.dp fun ds e => c ⟨ds, e⟩
      exact ⟨_, rfl, _, _, _, _, false, rfl, .ty _, tx, kt, _, rfl, iteT (no H4 k04 (bad fun ⟨_, e, _⟩ => c ⟨_, e⟩))⟩
    obtain ⟨es, rfl⟩ := c
    obtain ⟨r, ys, rfl, sr, alr⟩ := dp_tup_out vp.dp
    have lr : ys.length ≤ 100 := by rw [dpAll_len alr]; exact vp.len
    refine ⟨_, rfl, _, _, _, _, true, rfl, .ty _, sqT_ty sr, kit_ty (by decide +kernel), _, rfl, iteF ?_⟩
    refine ⟨_, rfl, r, rfl, ⟨_, sr⟩, fun D hD => lc_tup (K := K) (a := r) (xs := ys) (BlI D H4 fun j => ∀ x, ys[j]? = some x → isTo ((n : Int) - 1) x = true) (BlI.start hD) (fun i H' _ z => sqT_same z.1 sr) (fun j x H' hx z => ⟨rfl, tyes ?_⟩) (fun H5 z => ?_)⟩
    · have lj := (List.getElem?_eq_some_iff.mp hx).1
      obtain ⟨ty, bi, bb, tx, kk1, kk2, e3⟩ := (dpAll_kd alr x (List.mem_of_getElem? hx)).same z.1
      have fin : ∀ b : Bool, b = isTo ((n : Int) - 1) x → ∃ acc, H' D = some (.lst acc) ∧ acc.length < sizeLine ∧ BlI D H4 (fun j => ∀ x, ys[j]? = some x → isTo ((n : Int) - 1) x = true) (j + 1) (upd H' D (.lst (acc ++ [.bl b]))) := fun b hb => z.next (Same.refl _) hD (by omega) (b := b) ⟨fun z y hy => by
        rw [hx] at hy
        cases hy
        rw [← hb]; exact z, fun z => by rw [hb]; exact z x hx⟩
      have nI : isInt x = false → isTo ((n : Int) - 1) x = false := fun e => by
        cases x <;> first | rfl | cases e
      cases bi with
      | false => exact ⟨_, rfl, _, _, _, _, false, rfl, .ty _, tx, kk1, _, rfl, iteF (fin false (nI (by rw [← e3]; rfl)).symm)⟩
      | true =>
        refine ⟨_, rfl, _, _, _, _, true, rfl, .ty _, tx, kk1, _, rfl, iteT ?_⟩
        refine ⟨_, rfl, _, _, _, _, bb, rfl, .ty _, tx, kk2, _, rfl, ?_⟩
        cases bb with
        | true => exact ⟨_, rfl, iteF (fin false (nI (by rw [← e3]; rfl)).symm)⟩
        | false =>
          have ii : isInt x = true := by rw [← e3]; rfl
          cases x <;> first | (simp [isInt] at ii; done) | skip
          rename_i a
          refine ⟨_, rfl, iteT ?_⟩
          refine ⟨_, rfl, _, _, rfl, rfl, _, rfl, ?_⟩
          by_cases c0 : 0 ≤ a
          · rw [if_pos (decide_eq_true c0)]
            refine ⟨_, rfl, _, _, rfl, rfl, fin _ ?_⟩
            show decide (a < (n : Int)) = (decide (0 ≤ a) && decide (a ≤ (n : Int) - 1))
            rw [decide_eq_true c0, Bool.true_and]
            exact decide_eq_decide.mpr (by omega)
          · rw [if_neg (fun z => c0 (of_decide_eq_true z))]
            refine fin false ?_
            show false = (decide (0 ≤ a) && decide (a ≤ (n : Int) - 1))
            rw [decide_eq_false c0]
            rfl
    obtain ⟨bs, e, ev⟩ := z.all
    have evN : bs.all id = true ↔ Num n (.tuple es) := (ev.trans ⟨fun h => List.all_eq_true.mpr fun x hx => by
      obtain ⟨j, hj⟩ := List.mem_iff_getElem?.mp hx
      exact h j (List.getElem?_eq_some_iff.mp hj).1 x hj, fun h j _ x hx => List.all_eq_true.mp h x (List.mem_of_getElem? hx)⟩).trans (num_iff alr)
    refine ⟨D, bs, rfl, SqL.of e, ?_⟩
    cases ea : bs.all id with
    | false =>
      refine ⟨_, rfl, iteT (no H5 (k04.trans z.1) (bad fun nm => ?_))⟩
      rw [evN.mpr nm] at ea
      cases ea
    | true =>
      have gd := good (evN.mp ea)
      exact ⟨_, rfl, iteF ⟨_, _, _, _, _, _, rfl, k4.trans z.1, gd.1, gd.2⟩⟩
  rintro σ H4 ⟨u2, u3, u4, u5, u6, u7, rfl, k4, o1, o2⟩
  obtain ⟨ss, rfl, lts⟩ := o1 (by show 1 ≤ 2; decide)
  obtain ⟨g, rfl, ltg⟩ := o2 (by show 2 ≤ 2; decide)
  obtain ⟨r, ys, rfl, fq, alr⟩ := fz y w _ _ rfl rfl
  obtain rfl := ints_dpAll alr
  obtain ⟨r2, zs, rfl, sr2, al2⟩ := dp_tup_out h2
  obtain rfl := ints_dpAll al2
  have k04 := k03.trans k4
  have il := iV_len ss
  have ig := iV_len g
  have fz4 : Fz H4 r (iV ss) := by rw [iV_eq]; exact fq.same k04
  have s2 : SqT K H4 r2 (iV g) := by rw [iV_eq]; exact sqT_same k04 sr2
  have no4 : ∀ H', Same H H' → ¬ IsRing rows (List.range rows.length) ss g → Q (.bl false) H' := fun H' s n => no H' s fun z => n (rg_at.mp z)
  refine ⟨_, rfl, q, _, rfl, sqT_same k04 sq, rfl, _, _, rfl, _, _, rfl, rfl, ?_⟩
  refine ⟨_, rfl, r, _, rfl, .inr fz4.sq, _, _, rfl, rfl, _, rfl, ?_⟩
  refine ite2 (fun c => no4 H4 k04 fun ir => ?_) (fun c => ?_)
  · have c1 : ((iV ss).length : Int) < 2 := of_decide_eq_true c
    have := no_one ir
    omega
  have c1 : 2 ≤ ss.length := by
    have : ¬ ((iV ss).length : Int) < 2 := fun z => c (decide_eq_true z)
    omega
  refine ⟨_, rfl, r, _, rfl, .inr fz4.sq, _, rfl, r2, _, rfl, .inr s2, rfl, _, rfl, ?_⟩
  refine ite2 (fun c => no4 H4 k04 fun ir => ?_) (fun c => ?_)
  · have lg := ir.2.2.2.1
    rw [il, ig, lg] at c
    simp at c
  have c2 : g.length = ss.length := by
    have z : V.int ((iV ss).length : Int) = V.int ((iV g).length : Int) := by simpa using c
    have := V.int.inj z
    omega
  have l100 : ss.length ≤ 100 := by
    have := v1.len
    rw [List.length_map, nI_len] at this
    exact this
  refine ⟨_, rfl, r, rfl, ⟨_, fz4.sq⟩, fun D hD => lc_tup (K := K) (a := r) (xs := iV ss) (fun i H' => Same H4 H' ∧ H' D = some (.lst (((ss.take i).map fun s => ((ss.count s : Nat) : Int)).map V.int))) ⟨same_new (Same.refl _) hD, upd_same⟩ (fun i H' _ z => sqT_same z.1 fz4.sq) (fun i x H' hx z => ⟨rfl, tyes ?_⟩) (fun H5 z => ?_)⟩
  · obtain ⟨s0, rfl, es⟩ := iV_at hx
    have li := (List.getElem?_eq_some_iff.mp es).1
    have fz5 := fz4.same z.1
    refine ⟨_, rfl, ⟨r, _, rfl, fz5⟩, _, rfl, r, iV ss, _, rfl, rfl, fz5.sq, rfl, flatI ss, ?_⟩
    rw [countN]
    refine ⟨_, z.2, size_lt' (by rw [List.length_map, List.length_map, List.length_take]; omega), same_put z.1 hD, ?_⟩
    rw [upd_same, List.take_add_one, es, List.map_append, List.map_append]
    rfl
  obtain ⟨k5, h5⟩ := z
  rw [il, List.take_length] at h5
  refine ⟨D, _, rfl, SqL.of h5, by rw [List.length_map]; omega, fun m hm mx => ?_⟩
  have hm2 : 1 < m ↔ ¬ ss.Nodup := by
    rw [List.nodup_iff_count]
    constructor
    · intro z q
      obtain ⟨s0, _, rfl⟩ := List.mem_map.mp hm
      have := q s0
      omega
    · intro z
      refine Classical.byContradiction fun n => z fun s0 => ?_
      by_cases ms : s0 ∈ ss
      · have := mx _ (List.mem_map.mpr ⟨s0, ms, rfl⟩)
        omega
      · rw [List.count_eq_zero.mpr ms]
        omega
  refine ⟨_, _, rfl, rfl, _, rfl, ?_⟩
  have k05 := k04.trans k5
  refine ite2 (fun c => no4 H5 k05 fun ir => ?_) (fun c => ?_)
  · exact hm2.mp (of_decide_eq_true c) ir.1
  have nds : ss.Nodup := Classical.byContradiction fun n => c (decide_eq_true (hm2.mpr n))
  have l6 := nodup_le nds lts
  refine ⟨_, rfl, _, rfl, _, rfl, l, r, r2, ts, rows, ss, g, rfl, k05 _ _ hl, tp.same k05, rw_, (fz4.same k5).sq, sqT_same k5 s2, c2, by omega, lts, ltg, fun F H6 k6 hF => ?_⟩
  have lr : (rss rows ss g).length = ss.length := by unfold rss; rw [List.length_map, List.length_range]
  have iff := ring_rss nds lts c1 c2 ltg
  refine ⟨_, rfl, F, _, rfl, SqL.of hF, by omega, fun mn hmn mnle => ?_⟩
  refine ⟨_, _, rfl, rfl, ?_⟩
  refine ⟨_, rfl, ?_⟩
  have k06 := k05.trans k6
  cases em : decide (mn ≥ 1) with
  | false => exact iteF (no4 H6 k06 fun ir => absurd ((iff.mp ir).1 mn hmn) (of_decide_eq_false em))
  | true =>
    have m1 : 1 ≤ mn := of_decide_eq_true em
    refine iteT ⟨_, rfl, F, _, rfl, SqL.of hF, by omega, fun mx2 hmx mxge => ⟨_, _, rfl, rfl, k _ H6 k06 ?_⟩⟩
    rw [rg_at, iff, decide_eq_true_eq]
    constructor
    · intro z
      exact ⟨fun x hx => Int.le_trans m1 (mnle x hx), mx2, hmx, z⟩
    · rintro ⟨_, x, hx, x2⟩
      have := mxge x hx
      omega
end
end Pl
namespace Pl
open PySem PySem.Spec PyProof.Rows L2
/-- a value that may be asked whether it is a verdict -/
structure Thg (K : PySem.W.Frag) (H : Hp) (x : V) (D : PyData) : Prop where
  vl : Vl K H x D
  rp : (∀ d1 d2, D ≠ .tuple [d1, d2]) ∨ ∃ (q : Addr) (y z : V) (d1 d2 : PyData), x = .ref q ∧ D = .tuple [d1, d2] ∧ SqT K H q [y, z] ∧ Dp K H y d1 ∧ One K H z d2
theorem Thg.same {K : PySem.W.Frag} {H H' : Hp} {z : V} {d : PyData} (o : Thg K H z d) (k : Same H H') : Thg K H' z d := by
  refine ⟨o.vl.same k, ?_⟩
  rcases o.rp with h | ⟨q, y, z, d1, d2, e1, e2, s, a, p⟩
  · exact .inl h
  · exact .inr ⟨q, y, z, d1, d2, e1, e2, sqT_same k s, dpSame k _ _ a, p.same k⟩
theorem Thg.out {K : PySem.W.Frag} {H : Hp} {x : V} {ds : List PyData} (o : Thg K H x (.tuple ds)) : ∃ (q : Addr) (xs : List V), x = .ref q ∧ SqT K H q xs ∧ DpAll K H xs ds ∧ ∀ (y z : V) (d1 d2 : PyData), xs = [y, z] → ds = [d1, d2] → One K H z d2 := by
  rcases o.rp with h | ⟨q, y, z, d1, d2, e1, e2, s, a, p⟩
  · obtain ⟨q, xs, e, s, a⟩ := dp_tup_out o.vl.dp
    exact ⟨q, xs, e, s, a, fun y z d1 d2 _ e2 => absurd (by rw [e2]) (h d1 d2)⟩
  · injection e2 with e2
    subst e2
    refine ⟨q, _, e1, s, .cons a (.cons p.vl.dp .nil), fun y' z' d1' d2' ex ed => ?_⟩
    injection ex with _ ex
    injection ex with ex _
    injection ed with _ ed
    injection ed with ed _
    subst ex ed
    exact p
theorem strK {K : PySem.W.Frag} {H : Hp} {y : V} {d : PyData} (h : Dp K H y d) : ∃ b, PySem.W.kitOne K (.type (tyN d)) (.type "str") = some b ∧ (b = true ↔ ∃ s, d = .str s) := by
  cases h with
  | non => exact ⟨false, kit_ty (a := "NoneType") (by decide +kernel), fun z => (nomatch z), fun ⟨_, z⟩ => nomatch z⟩
  | bl _ => exact ⟨false, kit_ty (a := "bool") (by decide +kernel), fun z => (nomatch z), fun ⟨_, z⟩ => nomatch z⟩
  | int _ => exact ⟨false, kit_ty (a := "int") (by decide +kernel), fun z => (nomatch z), fun ⟨_, z⟩ => nomatch z⟩
  | str z => exact ⟨true, kit_ty (a := "str") (by decide +kernel), fun _ => ⟨z, rfl⟩, fun _ => rfl⟩
  | lst _ _ => exact ⟨false, kit_ty (a := "list") (by decide +kernel), fun z => (nomatch z), fun ⟨_, z⟩ => nomatch z⟩
  | tup _ _ => exact ⟨false, kit_ty (a := "tuple") (by decide +kernel), fun z => (nomatch z), fun ⟨_, z⟩ => nomatch z⟩
theorem areLD {K : PySem.W.Frag} {H : Hp} {Q : VK} {E : XK} {l : Addr} {ts : List Addr} {rows : List (List Int)} {z : V} {dz : PyData} (v : Vl K H z dz) (hl : H l = some (.lst (ts.map V.ref))) (tp : TpAll H ts rows) (rw_ : Rows rows) (k : ∀ (b : Bool) (H' : Hp), Same H H' → (b = true ↔ LvDD rows dz) → Q (.bl b) H') : spAreL K [.ref l, z] H Q E := by
  refine ⟨l, ts, rows, z, rfl, hl, tp, rw_, ?_⟩
  by_cases c : ∃ ds, dz = .tuple ds
  case neg =>
    obtain ⟨ty, tx, kt⟩ := dp_noTu v.dp fun ds e => c ⟨ds, e⟩
    exact .inl ⟨ty, tx, kt, k false H (Same.refl H) ⟨fun z => (nomatch z), fun ⟨_, e, _⟩ => absurd ⟨_, e⟩ c⟩⟩
  obtain ⟨ds, rfl⟩ := c
  obtain ⟨q, xs, rfl, sq, al⟩ := dp_tup_out v.dp
  exact .inr ⟨q, xs, rfl, sq, by rw [dpAll_len al]; exact v.len, dpAll_kd al, fun b H' s hb => k b H' s (hb.trans (lvd_iff al))⟩
def spDueD (K : PySem.W.Frag) : Sp := fun vs H Q _ => ∃ (l : Addr) (ts : List Addr) (rows : List (List Int)) (x : V), vs = [.ref l, x] ∧ H l = some (.lst (ts.map V.ref)) ∧ TpAll H ts rows ∧ Rows rows ∧
  ((NoTu K H x ∧ Q (.bl false) H) ∨ ∃ D, Thg K H x D ∧ ∀ (b : Bool) (H' : Hp), Same H H' → (b = true ↔ VdD rows D) → Q (.bl b) H')
section
variable {P : Program} {w : World} {K : PySem.W.Frag} {mg : Str → Option Value} {base : Heap} {CShare CDivision CNoPerson : Addr}
abbrev st_l_due : Stmt := top 59
theorem sc_l_due : FnScope ["_law_lines_here", "_law_thing"] ["_law_lines_here", "_law_thing"] (defScope st_l_due) := ⟨rfl, rfl, rfl, by decide +kernel, rfl, by decide +kernel, by decide +kernel⟩
theorem ok_dueD (B : Bn mg) (c_l_is_ring : Cal P w K mg base 3 "_law_is_ring" ["_law_lines_here", "_law_thing"] (spIsRgD K)) (c_l_are_levels : Cal P w K mg base 3 "_law_are_levels" ["_law_lines_here", "_law_thing"] (spAreL K)) (D : Df K mg "_law_due" st_l_due ["_law_lines_here", "_law_thing"]) : Cal P w K mg base 4 "_law_due" ["_law_lines_here", "_law_thing"] (spDueD K) := by
  refine D.cal sc_l_due (fun vs H Q E h => ?_) (fun f cdv A out s H vs Q E hr h => ?_)
  · obtain ⟨l, ts, rows, x, rfl, _⟩ := h
    rfl
  obtain ⟨l, ts, rows, x, rfl, hl, tp, rw_, h⟩ := h
  refine ⟨_, (pss_cons (ps_if (PW.pt (pw_or (pt_not (pt_val (pe_callB call_isi (by rfl) B.n_isinstance (by decide +kernel) (pa_cons (pv 1) (pa_cons (pe_bltn (v := .ty "tuple") (by rfl) B.n_tuple (by decide +kernel) rfl) pa_nil))))) (pw_or (pt_cmpR op_ne (pe_callB call_len_seq (by rfl) B.n_len (by decide +kernel) (pa_cons (pv 1) pa_nil)) pe_int (nomark _)) (pw_or1 (pt_not (pt_val (pe_callB call_isi (by rfl) B.n_isinstance (by decide +kernel) (pa_cons (pe_ix ix_tup (pv 1) pe_int (fun _ _ => rfl)) (pa_cons (pe_bltn (v := .ty "str") (by rfl) B.n_str (by decide +kernel) rfl) pa_nil))))))))) (pss_one (ps_ret pe_bl)) pss_nil)
   (pss_cons (ps_if (pt_cmpR (op_eqD hr.units) (pe_ix ix_tup (pv 1) pe_int (fun _ _ => rfl)) pe_str (nomark _)) (pss_one (ps_ret (pe_fn c_l_is_ring (hr.mono (by decide)) (pa_cons (pv 0) (pa_cons (pe_ix ix_tup (pv 1) pe_int (fun _ _ => rfl)) pa_nil))))) pss_nil)
   (pss_one (ps_ret (pe_and (pe_cmpR (op_eqD hr.units) (pe_ix ix_tup (pv 1) pe_int (fun _ _ => rfl)) pe_str (nomark _)) (pe_one (pe_fn c_l_are_levels (hr.mono (by decide)) (pa_cons (pv 0) (pa_cons (pe_ix ix_tup (pv 1) pe_int (fun _ _ => rfl)) pa_nil))))))))), ?_⟩
  rcases h with ⟨⟨ty, tx, kt⟩, k⟩ | ⟨D, th, k⟩
  · exact ⟨_, rfl, _, _, _, _, false, rfl, .ty _, tx, kt, _, rfl, iteT k⟩
  have no : ∀ H', Same H H' → ¬ VdD rows D → Q (.bl false) H' := fun H' s n => k false H' s ⟨fun z => (nomatch z), fun z => absurd z n⟩
  by_cases c : ∃ ds, D = .tuple ds
  case neg =>
    obtain ⟨ty, tx, kt⟩ := dp_noTu th.vl.dp fun ds e => c ⟨ds, e⟩
    exact ⟨_, rfl, _, _, _, _, false, rfl, .ty _, tx, kt, _, rfl, iteT (no H (Same.refl H) fun z => c (vd_tup z))⟩
  obtain ⟨ds, rfl⟩ := c
  obtain ⟨q, xs, rfl, sq, al, on⟩ := th.out
  refine ⟨_, rfl, _, _, _, _, true, rfl, .ty _, sqT_ty sq, kit_ty (by decide +kernel), _, rfl, iteF ?_⟩
  refine ⟨_, rfl, q, _, rfl, .inr sq, rfl, _, rfl, ?_⟩
  refine ite2 (fun c => ?_) (fun c => ?_)
  · refine no H (Same.refl H) fun z => ?_
    have l := dpAll_len al
    rw [vd_len z] at l
    rw [l] at c
    simp at c
  have l22 : xs.length = 2 := by
    have z : V.int (xs.length : Int) = V.int 2 := by simpa using c
    have := V.int.inj z
    omega
  obtain ⟨y, z, d1, d2, rfl, rfl, h1, h2⟩ := dpAll_two al l22
  obtain ⟨v1, v2⟩ := vl_two th.vl h1 h2
  have one := on y z d1 d2 rfl rfl
  obtain ⟨b, kb, eb⟩ := strK h1
  refine ⟨_, rfl, q, _, 0, y, rfl, rfl, sq, rfl, _, _, _, _, b, rfl, .ty _, dp_ty h1, kb, _, rfl, ?_⟩
  cases b with
  | false =>
    refine iteT (no H (Same.refl H) fun z => ?_)
    rcases vd_two.mp z with ⟨e, _⟩ | ⟨e, _⟩ <;> exact absurd (eb.mpr ⟨_, e⟩) (fun z => nomatch z)
  | true =>
    refine iteF ?_
    refine ⟨_, rfl, q, _, 0, y, rfl, rfl, sq, rfl, d1, .str "ring", h1, .str _, v1.shaped, strShaped (by decide +kernel), _, rfl, ?_⟩
    cases e1 : PyData.eqv d1 (.str "ring") with
    | true =>
      have ey := eqStr.mp e1
      refine iteT ⟨_, rfl, _, rfl, q, _, 1, z, rfl, rfl, sq, rfl, l, ts, rows, z, d2, rfl, hl, tp, rw_, one, fun b H' s hb => k b H' s (hb.trans ⟨fun r => vd_two.mpr (.inl ⟨ey, r⟩), fun p => ?_⟩)⟩
      rcases vd_two.mp p with ⟨_, r⟩ | ⟨e, _⟩
      · exact r
      · rw [ey] at e
        injection e with e
        exact absurd e (by decide +kernel)
    | false =>
      refine iteF ?_
      have n1 : ¬ d1 = .str "ring" := fun e => by
        rw [eqStr.mpr e] at e1
        cases e1
      refine ⟨_, rfl, q, _, 0, y, rfl, rfl, sq, rfl, d1, .str "levels", h1, .str _, v1.shaped, strShaped (by decide +kernel), _, rfl, ?_⟩
      cases e2 : PyData.eqv d1 (.str "levels") with
      | true =>
        have ey := eqStr.mp e2
        refine iteT ⟨_, rfl, _, rfl, q, _, 1, z, rfl, rfl, sq, rfl, ?_⟩
        try dsimp only [tNil]
        refine areLD v2 hl tp rw_ fun b H' s hb => k b H' s (hb.trans ⟨fun r => vd_two.mpr (.inr ⟨ey, r⟩), fun p => ?_⟩)
        rcases vd_two.mp p with ⟨e, _⟩ | ⟨_, r⟩
        · exact absurd e n1
        · exact r
      | false =>
        refine iteF (no H (Same.refl H) fun p => ?_)
        rcases vd_two.mp p with ⟨e, _⟩ | ⟨e, _⟩
        · exact n1 e
        · rw [eqStr.mpr e] at e2
          cases e2
end
end Pl
namespace Pl
open PySem PySem.Spec PyProof.Rows L2
/-! values that stay, whatever becomes of some lists -/
/-- all but what is at S is kept -/
def Kb (S : Addr → Prop) (H H' : Hp) : Prop := ∀ b o, ¬ S b → H b = some o → H' b = some o
theorem Kb.refl {S : Addr → Prop} {H : Hp} : Kb S H H := fun _ _ _ h => h
theorem Kb.trans {S : Addr → Prop} {H H1 H2 : Hp} (a : Kb S H H1) (b : Kb S H1 H2) : Kb S H H2 := fun c o n h => b c o n (a c o n h)
theorem Kb.of {S : Addr → Prop} {H H' : Hp} (k : Same H H') : Kb S H H' := fun b o _ h => k b o h
theorem Kb.kp {S : Addr → Prop} {a : Addr} {H H' : Hp} (h : S a) (k : Kp a H H') : Kb S H H' := fun b o n e => k b o (fun z => n (by rw [z]; exact h)) e
theorem Kb.put {S : Addr → Prop} {F : Addr} {H : Hp} {o : HO} (h : S F) : Kb S H (L2.upd H F o) := fun b u n e => by
  rw [upd_ne (fun z => n (by rw [z]; exact h))]
  exact e
def LS (S : Addr → Prop) (H : Hp) : Prop := ∀ b, S b → ∃ xs, H b = some (.lst xs)
theorem LS.nN {S : Addr → Prop} {H : Hp} {p : Addr} (l : LS S H) (h : H p = none) : ¬ S p := fun s => by
  obtain ⟨xs, e⟩ := l p s
  rw [e] at h
  cases h
theorem LS.nT {S : Addr → Prop} {H : Hp} {p : Addr} {ys : List V} (l : LS S H) (h : H p = some (.tup ys)) : ¬ S p := fun s => by
  obtain ⟨xs, e⟩ := l p s
  rw [e] at h
  cases h
theorem LS.nZ {S : Addr → Prop} {H : Hp} {p : Addr} {ys : List V} (l : LS S H) (h : Fz H p ys) : ¬ S p := fun s => by
  obtain ⟨xs, e⟩ := l p s
  obtain ⟨o, _, h⟩ := h
  rw [e] at h
  cases h
theorem LS.same {S : Addr → Prop} {H H' : Hp} (l : LS S H) (k : Same H H') : LS S H' := fun b s => by
  obtain ⟨xs, e⟩ := l b s
  exact ⟨xs, k _ _ e⟩
theorem dpbInts (K : PySem.W.Frag) (H : Hp) : ∀ ns : List Int, DpBAll K H (ns.map V.int) (ns.map PyData.int)
  | [] => .nil
  | n :: ns => .cons (.int n) (dpbInts K H ns)
theorem lzInts : ∀ ns : List Int, lzAll (ns.map PyData.int) = true
  | [] => rfl
  | n :: ns => by
    rw [List.map_cons, lzAll, lzInts ns]
    rfl
/-- a part of a value -/
def Itm (K : PySem.W.Frag) (S : Addr → Prop) (x : V) (d : PyData) (H : Hp) : Prop := Fit 1 300 d ∧ lz d = true ∧ ∀ H', Kb S H H' → DpB K H' x d
/-- such a tuple that may be counted -/
def ItF (K : PySem.W.Frag) (S : Addr → Prop) (x : V) (d : PyData) (H : Hp) : Prop := Itm K S x d H ∧ ∃ (r : Addr) (xs : List V) (ds : List PyData), x = .ref r ∧ d = .tuple ds ∧ ∀ H', Kb S H H' → Fz H' r xs ∧ DpAll K H' xs ds
/-- a value -/
def Ev (K : PySem.W.Frag) (S : Addr → Prop) (x : V) (d : PyData) (H : Hp) : Prop := Fit 2 1000 d ∧ ∀ H', Kb S H H' → DpB K H' x d ∧ One K H' x d
theorem Itm.mono {K : PySem.W.Frag} {S : Addr → Prop} {x : V} {d : PyData} {H H1 : Hp} (h : Itm K S x d H) (k : Kb S H H1) : Itm K S x d H1 := ⟨h.1, h.2.1, fun H' k' => h.2.2 H' (k.trans k')⟩
theorem ItF.mono {K : PySem.W.Frag} {S : Addr → Prop} {x : V} {d : PyData} {H H1 : Hp} (h : ItF K S x d H) (k : Kb S H H1) : ItF K S x d H1 := by
  obtain ⟨i, r, xs, ds, e1, e2, f⟩ := h
  exact ⟨i.mono k, r, xs, ds, e1, e2, fun H' k' => f H' (k.trans k')⟩
theorem Ev.mono {K : PySem.W.Frag} {S : Addr → Prop} {x : V} {d : PyData} {H H1 : Hp} (h : Ev K S x d H) (k : Kb S H H1) : Ev K S x d H1 := ⟨h.1, fun H' k' => h.2 H' (k.trans k')⟩
theorem Ev.ext {K : PySem.W.Frag} {S T : Addr → Prop} {x : V} {d : PyData} {H : Hp} (h : Ev K S x d H) (t : ∀ b, T b → S b ∨ H b = none) : Ev K T x d H := ⟨h.1, fun H' k' => h.2 H' fun b o n e => k' b o (fun z => by
  rcases t b z with y | y
  · exact n y
  · rw [y] at e; cases e) e⟩
theorem fitN {ns : List Int} (l : ns.length ≤ 7) (b : ∀ x ∈ ns, x.natAbs < 2 ^ 30) : Fit 1 300 (.tuple (ns.map PyData.int)) := (Fit.tuple (k := 0) (FitAll.ints b)).mono (Nat.le_refl _) (by omega)
theorem fitL {ns : List Int} (l : ns.length ≤ 7) (b : ∀ x ∈ ns, x.natAbs < 2 ^ 30) : Fit 1 300 (.list (ns.map PyData.int)) := (Fit.list (k := 0) (FitAll.ints b)).mono (Nat.le_refl _) (by omega)
theorem itmT {K : PySem.W.Frag} {S : Addr → Prop} {H : Hp} {q : Addr} {ns : List Int} (h : H q = some (.tup (ns.map V.int))) (nS : ¬ S q) (l : ns.length ≤ 7) (b : ∀ x ∈ ns, x.natAbs < 2 ^ 30) : Itm K S (.ref q) (.tuple (ns.map PyData.int)) H :=
  ⟨fitN l b, by rw [lz, lzInts, Bool.and_true]; exact decide_eq_true (by rw [List.length_map]; omega), fun H' k => .tup (SqT.of (k _ _ nS h)) (dpbInts _ _ _)⟩
theorem itmL {K : PySem.W.Frag} {S : Addr → Prop} {H : Hp} {q : Addr} {ns : List Int} (h : H q = some (.lst (ns.map V.int))) (nS : ¬ S q) (nm : q ≠ sysModules) (l : ns.length ≤ 7) (b : ∀ x ∈ ns, x.natAbs < 2 ^ 30) : Itm K S (.ref q) (.list (ns.map PyData.int)) H :=
  ⟨fitL l b, by rw [lz, lzInts, Bool.and_true]; exact decide_eq_true (by rw [List.length_map]; omega), fun H' k => .lst (k _ _ nS h) nm (dpbInts _ _ _)⟩
theorem nIb {ss : List Nat} (b : ∀ s ∈ ss, s < 1000) : ∀ x ∈ nI ss, x.natAbs < 2 ^ 30 := fun x hx => by
  obtain ⟨s, hs, rfl⟩ := List.mem_map.mp hx
  have := b s hs
  omega
theorem itmZ {K : PySem.W.Frag} {S : Addr → Prop} {H : Hp} {q : Addr} {ss : List Nat} (h : Fz H q (iV ss)) (ls : LS S H) (l : ss.length ≤ 7) (b : ∀ s ∈ ss, s < 1000) : ItF K S (.ref q) (tupN ss) H := by
  have nS := ls.nZ h
  rw [iV_eq] at h
  have keep : ∀ H', Kb S H H' → Fz H' q ((nI ss).map V.int) := fun H' k => by
    obtain ⟨o, e, h⟩ := h
    exact ⟨o, e, k _ _ nS h⟩
  refine ⟨⟨fitN (by rw [nI_len]; exact l) (nIb b), ?_, fun H' k => .tup (keep H' k).sq (dpbInts _ _ _)⟩, q, _, _, rfl, rfl, fun H' k => ⟨keep H' k, dpInts _ _ _⟩⟩
  unfold tupN
  rw [lz, lzInts, Bool.and_true]
  exact decide_eq_true (by rw [List.length_map, nI_len]; omega)
/-- parts, one after another -/
inductive Its (K : PySem.W.Frag) (S : Addr → Prop) (H : Hp) : List V → List PyData → Prop
  | nil : Its K S H [] []
  | cons {x : V} {d : PyData} {xs : List V} {ds : List PyData} (h : Itm K S x d H) (r : Its K S H xs ds) : Its K S H (x :: xs) (d :: ds)
theorem Its.dp {K : PySem.W.Frag} {S : Addr → Prop} {H H' : Hp} (k : Kb S H H') : ∀ {xs : List V} {ds : List PyData}, Its K S H xs ds → DpBAll K H' xs ds
  | _, _, .nil => .nil
  | _, _, .cons h r => .cons (h.2.2 H' k) (r.dp k)
theorem Its.fit {K : PySem.W.Frag} {S : Addr → Prop} {H : Hp} : ∀ {xs : List V} {ds : List PyData}, Its K S H xs ds → FitAll 1 (301 * ds.length) ds ∧ lzAll ds = true
  | _, _, .nil => ⟨FitAll.nil, rfl⟩
  | _, _, .cons h r => by
    obtain ⟨f, z⟩ := r.fit
    refine ⟨(FitAll.cons h.1 f).mono (Nat.le_refl _) (by rw [List.length_cons]; omega), ?_⟩
    rw [lzAll, h.2.1, z]
    rfl
theorem vlOf {K : PySem.W.Frag} {H : Hp} {x : V} {d : PyData} (h : DpB K H x d) (f : Fit 2 1000 d) (z : lz d = true) : Vl K H x d := ⟨h.dp, f.lay, Nat.le_trans f.dep (by decide), z⟩
theorem evT {K : PySem.W.Frag} {S : Addr → Prop} {H : Hp} {p : Addr} {xs : List V} {ds : List PyData} (hp : ∀ H', Kb S H H' → SqT K H' p xs) (its : Its K S H xs ds) (l : ds.length ≤ 3) (rp : ∀ H', Kb S H H' → (∀ e1 d2, ds ≠ [.tuple e1, d2]) ∨ ∃ (r : Addr) (v : V) (ys : List V) (es : List PyData) (d2 : PyData), xs = [.ref r, v] ∧ ds = [.tuple es, d2] ∧ Fz H' r ys ∧ DpAll K H' ys es ∧ Dp K H' v d2) : Ev K S (.ref p) (.tuple ds) H := by
  obtain ⟨f, z⟩ := its.fit
  have ft : Fit 2 1000 (.tuple ds) := (Fit.tuple f).mono (Nat.le_refl _) (by omega)
  have zz : lz (.tuple ds) = true := by
    rw [lz, z, Bool.and_true]
    exact decide_eq_true (by omega)
  refine ⟨ft, fun H' k => ?_⟩
  have db : DpB K H' (.ref p) (.tuple ds) := .tup (hp H' k) (its.dp k)
  refine ⟨db, vlOf db ft zz, ?_⟩
  rcases rp H' k with n | ⟨r, v, ys, es, d2, rfl, rfl, f, a, b⟩
  · exact .inl fun e1 d2 e => n e1 d2 (by injection e)
  · exact .inr ⟨p, r, v, ys, es, d2, rfl, rfl, hp H' k, f, a, b⟩
theorem evP {K : PySem.W.Frag} {S : Addr → Prop} {H : Hp} {p : Addr} {y z : V} {d1 d2 : PyData} (hp : ∀ H', Kb S H H' → SqT K H' p [y, z]) (h1 : ItF K S y d1 H) (h2 : Itm K S z d2 H) : Ev K S (.ref p) (.tuple [d1, d2]) H :=
  evT hp (.cons h1.1 (.cons h2 .nil)) (by show 2 ≤ 3; decide) fun H' k => by
    obtain ⟨i, r, xs, ds, rfl, rfl, f⟩ := h1
    exact .inr ⟨r, z, xs, ds, d2, rfl, rfl, (f H' k).1, (f H' k).2, (h2.2.2 H' k).dp⟩
theorem evQ {K : PySem.W.Frag} {S : Addr → Prop} {H : Hp} {p : Addr} {xs : List V} {ds : List PyData} (hp : ∀ H', Kb S H H' → SqT K H' p xs) (its : Its K S H xs ds) (l : ds.length ≤ 3) (n : ∀ e1 d2, ds ≠ [.tuple e1, d2]) : Ev K S (.ref p) (.tuple ds) H := evT hp its l fun _ _ => .inl n
theorem evL {K : PySem.W.Frag} {S : Addr → Prop} {H : Hp} {p : Addr} {xs : List V} {ds : List PyData} (h : H p = some (.lst xs)) (nS : ¬ S p) (nm : p ≠ sysModules) (its : Its K S H xs ds) (l : ds.length ≤ 3) : Ev K S (.ref p) (.list ds) H := by
  obtain ⟨f, z⟩ := its.fit
  have ft : Fit 2 1000 (.list ds) := (Fit.list f).mono (Nat.le_refl _) (by omega)
  have zz : lz (.list ds) = true := by
    rw [lz, z, Bool.and_true]
    exact decide_eq_true (by omega)
  refine ⟨ft, fun H' k => ?_⟩
  have db : DpB K H' (.ref p) (.list ds) := .lst (k _ _ nS h) nm (its.dp k)
  exact ⟨db, vlOf db ft zz, .inl fun _ _ e => nomatch e⟩
/-- a tuple of ints alone -/
theorem evI {K : PySem.W.Frag} {S : Addr → Prop} {H : Hp} {q : Addr} {ns : List Int} (h : Itm K S (.ref q) (.tuple (ns.map PyData.int)) H) : Ev K S (.ref q) (.tuple (ns.map PyData.int)) H := by
  obtain ⟨f, z, d⟩ := h
  have ft := f.mono (k' := 2) (m' := 1000) (by decide) (by decide)
  refine ⟨ft, fun H' k => ⟨d H' k, vlOf (d H' k) ft z, .inl fun e1 d2 e => ?_⟩⟩
  injection e with e
  match ns, e with
  | [], e => cases e
  | n :: _, e => injection e with e _; cases e
theorem evN {K : PySem.W.Frag} {S : Addr → Prop} {H : Hp} : Ev K S .non .none H := by
  have ft : Fit 2 1000 .none := Fit.none.mono (Nat.le_refl _) (by decide)
  exact ⟨ft, fun H' k => ⟨.non, vlOf .non ft rfl, .inl fun _ _ e => nomatch e⟩⟩
/-- what is at a and at F -/
def Sf2 (a F : Addr) : Addr → Prop := fun b => b = a ∨ b = F
theorem lsF {a F : Addr} {H : Hp} {xs : List V} (s : Src H a) (h : H F = some (.lst xs)) : LS (Sf2 a F) H := fun b z => by
  rcases z with rfl | rfl
  · obtain ⟨x, y, z, e, _⟩ := s
    exact ⟨_, e⟩
  · exact ⟨_, h⟩
/-- a list of values -/
def Vs (K : PySem.W.Frag) (a F : Addr) (xs : List V) (H : Hp) : Prop := H F = some (.lst xs) ∧ ∀ x ∈ xs, ∃ d, Ev K (Sf2 a F) x d H
theorem Vs.kp {K : PySem.W.Frag} {a F : Addr} {xs : List V} {H H' : Hp} (v : Vs K a F xs H) (n : F ≠ a) (k : Kp a H H') : Vs K a F xs H' := ⟨k _ _ n v.1, fun x hx => by
  obtain ⟨d, e⟩ := v.2 x hx
  exact ⟨d, e.mono (Kb.kp (.inl rfl) k)⟩⟩
theorem Vs.same {K : PySem.W.Frag} {a F : Addr} {xs : List V} {H H' : Hp} (v : Vs K a F xs H) (k : Same H H') : Vs K a F xs H' := ⟨k _ _ v.1, fun x hx => by
  obtain ⟨d, e⟩ := v.2 x hx
  exact ⟨d, e.mono (Kb.of k)⟩⟩
theorem Vs.app {K : PySem.W.Frag} {a F : Addr} {xs : List V} {H : Hp} {x : V} {d : PyData} (v : Vs K a F xs H) (e : Ev K (Sf2 a F) x d H) : Vs K a F (xs ++ [x]) (L2.upd H F (.lst (xs ++ [x]))) := ⟨upd_same, fun y hy => by
  rcases List.mem_append.mp hy with z | z
  · obtain ⟨d, e⟩ := v.2 y z
    exact ⟨d, e.mono (Kb.put (.inr rfl))⟩
  · rw [List.mem_singleton.mp z]
    exact ⟨d, e.mono (Kb.put (.inr rfl))⟩⟩
theorem Vs.cat {K : PySem.W.Frag} {a F F2 : Addr} {xs ys : List V} {H : Hp} (v : Vs K a F xs H) (e : ∀ y ∈ ys, ∃ d, Ev K (Sf2 a F) y d H) (n : H F2 = none) : Vs K a F2 (xs ++ ys) (L2.upd H F2 (.lst (xs ++ ys))) := ⟨upd_same, fun y hy => by
  obtain ⟨d, q⟩ : ∃ d, Ev K (Sf2 a F) y d H := by
    rcases List.mem_append.mp hy with z | z
    · exact v.2 y z
    · exact e y z
  refine ⟨d, (q.ext fun b z => ?_).mono (Kb.put (.inr rfl))⟩
  rcases z with z | z
  · exact .inl (.inl z)
  · exact .inr (by rw [z]; exact n)⟩
theorem least_le {C : Nat → Nat → Int → Prop} {n : Nat} (hC : Cok C n) {h : List Int} (l : Least C n h) (n6 : n ≤ 6) : ∀ x ∈ h, 0 ≤ x ∧ x ≤ 6 := fun x hx => by
  obtain ⟨i, hi, e⟩ := gI_mem hx
  rw [l.1.1] at hi
  obtain ⟨g, sg, lt⟩ := low_sol hC _ h l.1 (Nat.le_refl _)
  have := l.2 g sg i hi
  have := lt i hi
  have := l.1.2.1 i hi
  omega
theorem iV_drop (ss : List Nat) (n : Nat) : (iV ss).drop n = iV (ss.drop n) := by
  unfold iV
  rw [List.map_drop]
theorem iV_take (ss : List Nat) (n : Nat) : (iV ss).take n = iV (ss.take n) := by
  unfold iV
  rw [List.map_take]
theorem iV_rev (ss : List Nat) : (iV ss).reverse = iV ss.reverse := by
  unfold iV
  rw [List.map_reverse]
theorem Fz.same' {H H' : Hp} {q : Addr} {xs : List V} (h : Fz H q xs) (k : Same H H') : Fz H' q xs := h.same k
/-- t[turn:] + t[:turn] -/
theorem turnF {K : PySem.W.Frag} {σ : L2.St} {H : Hp} {Q : VK} {i j tt : Nat} {q : Addr} {ss : List Nat} (h1 : σ[i]? = some (some (.ref q))) (h2 : σ[j]? = some (some (.int (tt : Nat)))) (fz : Fz H q (iV ss)) (l : tt ≤ ss.length) (l7 : ss.length ≤ 100) (k : ∀ (p : Addr) (H' : Hp), Same H H' → Fz H' p (iV (ss.drop tt ++ ss.take tt)) → Q (.ref p) H') :
    tOp (rCatF K) (tSl (rSlF K) (tVar i) (tPart (tVar j)) tNoPart) (tSl (rSlF K) (tVar i) tNoPart (tPart (tVar j))) σ H Q := by
  obtain ⟨u, f, h⟩ := fz.out
  have il := iV_len ss
  refine ⟨_, h1, _, h2, _, rfl, ?_⟩
  unfold tNoPart
  refine slF (lo := some ((tt : Nat) : Int)) (hi := none) h f fun p1 H1 u1 k1 e1 f1 => ?_
  refine ⟨_, h1, _, h2, _, rfl, ?_⟩
  refine slF (lo := none) (hi := some ((tt : Nat) : Int)) (k1 _ _ h) f fun p2 H2 u2 k2 e2 f2 => ?_
  rw [cut_drop (n := tt) (by omega), iV_drop] at f1
  rw [show cutV (iV ss) none (some ((tt : Nat) : Int)) = (iV ss).take tt from cut_take (n := tt) (by omega), iV_take] at f2
  refine caF (k2 _ _ e1) f1 e2 f2 (by rw [iV_len, iV_len, List.length_drop, List.length_take]; omega) fun p3 H3 u3 k3 e3 f3 => ?_
  rw [← iV_app] at f3
  exact k p3 H3 (k1.trans (k2.trans k3)) (f3.fz e3)
theorem notWhole {n : Nat} (h : 2 ≤ n) : ¬ (HT.sIx n 0 none = 0 ∧ HT.sIx n n (some (1 : Int)) = n) := by
  rw [show (1 : Int) = ((1 : Nat) : Int) from rfl, HT.sIx_nat]
  omega
theorem notWhole' {n : Nat} (h : 2 ≤ n) : ¬ (HT.sIx n 0 (some (1 : Int)) = 0 ∧ HT.sIx n n none = n) := by
  rw [show (1 : Int) = ((1 : Nat) : Int) from rfl, HT.sIx_nat]
  omega
/-- t[:1] -/
theorem headS {K : PySem.W.Frag} {σ : L2.St} {H : Hp} {Q : VK} {i : Nat} {q : Addr} {xs : List V} (h1 : σ[i]? = some (some (.ref q))) (sq : SqT K H q xs) (l : 2 ≤ xs.length) (k : ∀ (p : Addr) (H' : Hp), Same H H' → Fz H' p (xs.take 1) → Q (.ref p) H') : tSl (rSlF K) (tVar i) tNoPart (tPart (tC (.int 1))) σ H Q := by
  refine ⟨_, h1, 1, rfl, q, xs, rfl, sq, fun z => absurd z (notWhole l), fun _ p u np f => ?_⟩
  rw [show cutV xs none (some (1 : Int)) = xs.take 1 from cut_take (n := 1) (by omega)] at f
  exact k p _ (same_new (Same.refl H) np) (f.fz upd_same)
/-- t[1:] -/
theorem tailS {K : PySem.W.Frag} {σ : L2.St} {H : Hp} {Q : VK} {i : Nat} {q : Addr} {xs : List V} (h1 : σ[i]? = some (some (.ref q))) (sq : SqT K H q xs) (l : 2 ≤ xs.length) (k : ∀ (p : Addr) (H' : Hp), Same H H' → Fz H' p (xs.drop 1) → Q (.ref p) H') : tSl (rSlF K) (tVar i) (tPart (tC (.int 1))) tNoPart σ H Q := by
  refine ⟨_, h1, 1, rfl, ?_⟩
  refine ⟨q, xs, rfl, sq, fun z => absurd z (notWhole' l), fun _ p u np f => ?_⟩
  rw [show cutV xs (some (1 : Int)) none = xs.drop 1 from cut_drop (n := 1) (by omega)] at f
  exact k p _ (same_new (Same.refl H) np) (f.fz upd_same)
/-- t + t[:1] -/
theorem headF {K : PySem.W.Frag} {σ : L2.St} {H : Hp} {Q : VK} {i : Nat} {q : Addr} {xs : List V} (h1 : σ[i]? = some (some (.ref q))) (sq : SqT K H q xs) (l : 2 ≤ xs.length) (l7 : xs.length ≤ 100) (k : ∀ (p : Addr) (H' : Hp), Same H H' → Fz H' p (xs ++ xs.take 1) → Q (.ref p) H') : tOp (rCatF K) (tVar i) (tSl (rSlF K) (tVar i) tNoPart (tPart (tC (.int 1)))) σ H Q := by
  refine ⟨_, h1, headS h1 sq l fun p H1 k1 fz => ?_⟩
  have ne : xs ≠ [] := fun z => by rw [z] at l; simp at l
  have lt : (xs.take 1).length = 1 := by rw [List.length_take]; omega
  refine ⟨q, p, xs, _, rfl, rfl, sqT_same k1 sq, fz.sq, Nat.le_of_lt (size_lt' (by omega)), fun z => absurd z ne, fun _ z => absurd z (fun z => by rw [z] at lt; cases lt), fun _ _ p2 u np f => k p2 _ (k1.trans (same_new (Same.refl _) np)) (f.fz upd_same)⟩
/-- t[::-1] -/
theorem revF {K : PySem.W.Frag} {σ : L2.St} {H : Hp} {Q : VK} {i : Nat} {q : Addr} {xs : List V} (h1 : σ[i]? = some (some (.ref q))) (sq : SqT K H q xs) (k : ∀ (p : Addr) (H' : Hp), Same H H' → Fz H' p xs.reverse → Q (.ref p) H') : tRevF K (tVar i) σ H Q :=
  ⟨_, h1, q, xs, rfl, sq, fun p u np f => k p _ (same_new (Same.refl H) np) (f.fz upd_same)⟩
/-- where a ring was found -/
structure Cx7 (K : PySem.W.Frag) (a T q r F : Addr) (ss g : List Nat) (xs : List V) (H0 H : Hp) : Prop where
  s : Src H a
  t : H T = some (.tup [.ref q, .ref r])
  q : Fz H q (iV ss)
  r : Fz H r (iV g)
  v : Vs K a F xs H
  n : F ≠ a
  k : Kp a H0 H
  f : H0 F = none
section
variable {K : PySem.W.Frag} {a T q r F : Addr} {ss g : List Nat} {xs : List V} {H0 H : Hp}
theorem Cx7.same {H' : Hp} (c : Cx7 K a T q r F ss g xs H0 H) (k : Same H H') : Cx7 K a T q r F ss g xs H0 H' := ⟨c.s.same k, k _ _ c.t, c.q.same k, c.r.same k, c.v.same k, c.n, c.k.trans (Kp.of k), c.f⟩
theorem Cx7.ls (c : Cx7 K a T q r F ss g xs H0 H) : LS (Sf2 a F) H := lsF c.s c.v.1
theorem Fz.put {l : Addr} {ys zs : List V} {o : HO} (h : Fz H q zs) (hl : H l = some (.lst ys)) : Fz (L2.upd H l o) q zs := by
  obtain ⟨o', e, h⟩ := h
  exact ⟨o', e, by rw [upd_ne (ne_of h hl (by intro z; cases z))]; exact h⟩
theorem Cx7.app {x : V} {d : PyData} (c : Cx7 K a T q r F ss g xs H0 H) (e : Ev K (Sf2 a F) x d H) : Cx7 K a T q r F ss g (xs ++ [x]) H0 (L2.upd H F (.lst (xs ++ [x]))) :=
  ⟨c.s.put c.n, by rw [upd_ne (ne_of c.t c.v.1 (by intro z; cases z))]; exact c.t, c.q.put c.v.1, c.r.put c.v.1, c.v.app e, c.n, c.k.put c.f, c.f⟩
theorem Cx7.cat {F2 : Addr} {ys : List V} (c : Cx7 K a T q r F ss g xs H0 H) (e : ∀ y ∈ ys, ∃ d, Ev K (Sf2 a F) y d H) (n : H F2 = none) : Cx7 K a T q r F2 ss g (xs ++ ys) H0 (L2.upd H F2 (.lst (xs ++ ys))) := by
  have k : Same H (L2.upd H F2 (.lst (xs ++ ys))) := same_new (Same.refl H) n
  exact ⟨c.s.same k, k _ _ c.t, c.q.same k, c.r.same k, c.v.cat e n, c.s.ne n, c.k.trans (Kp.of k), c.k.free (c.s.ne n) n⟩
end
theorem asgJoin {te : TE} {g : TG} {D : Ends} {σ : L2.St} {H : Hp} (R : V → Hp → Prop) (h1 : ∀ v H', R v H' → g v σ H' D.nx) (h2 : ∀ N : VK, (∀ v H', R v H' → N v H') → te σ H N) : tAsg te g D σ H := h2 _ h1
theorem consJoin {te : TE} {ta : TA} {σ : L2.St} {H : Hp} {Q : List V → Hp → Prop} (R : V → Hp → Prop) (h1 : ∀ v H', R v H' → ta σ H' fun xs H2 => Q (v :: xs) H2) (h2 : ∀ N : VK, (∀ v H', R v H' → N v H') → te σ H N) : tCons te ta σ H Q := h2 _ h1
theorem tSeqE {t u : TS} {D : Ends} {σ : L2.St} {H : Hp} : tSeq t u D σ H = t { D with nx := fun σ' H' => u D σ' H' } σ H := rfl
theorem tAsgE {te : TE} {g : TG} {D : Ends} {σ : L2.St} {H : Hp} : tAsg te g D σ H = te σ H fun x H1 => g x σ H1 D.nx := rfl
theorem tLstE {t : TA} {σ : L2.St} {H : Hp} {Q : VK} : tLst t σ H Q = t σ H fun xs H1 => xs.length ≤ sizeLine ∧ ∀ p, H1 p = none → Q (.ref p) (L2.upd H1 p (.lst xs)) := rfl
theorem tConsE {te : TE} {ta : TA} {σ : L2.St} {H : Hp} {Q : List V → Hp → Prop} : tCons te ta σ H Q = te σ H fun v H1 => ta σ H1 fun vs H2 => Q (v :: vs) H2 := rfl
theorem tTupE {t : TA} {σ : L2.St} {H : Hp} {Q : VK} : tTup t σ H Q = t σ H fun xs H1 => xs.length ≤ sizeLine ∧ ∀ p, H1 p = none → Q (.ref p) (L2.upd H1 p (.tup xs)) := rfl
theorem gNameE {i : Nat} {v : V} {σ : L2.St} {H : Hp} {Q : L2.St → Hp → Prop} : gName i v σ H Q = Q (σ.set i (some v)) H := rfl
theorem join {c : TT} {t e r : TS} {D : Ends} {σ : L2.St} {H : Hp} (R : L2.St → Hp → Prop) (h1 : ∀ σ' H', R σ' H' → r D σ' H') (h2 : ∀ N : L2.St → Hp → Prop, (∀ σ' H', R σ' H' → N σ' H') → tIfS c t e { D with nx := N } σ H) : tSeq (tIfS c t e) r D σ H := h2 (r D) h1
end Pl
namespace Pl
open PySem PySem.Spec PyProof.Rows L2
theorem saJoin {te : TE} {g : TG} {u : TS} {D : Ends} {σ : L2.St} {H : Hp} (R : V → Hp → Prop) (h1 : ∀ v H', R v H' → g v σ H' (u D)) (h2 : ∀ N : VK, (∀ v H', R v H' → N v H') → te σ H N) : tSeq (tAsg te g) u D σ H := h2 _ h1
theorem Fz.kp {H H' : Hp} {q a : Addr} {xs : List V} (h : Fz H q xs) (s : Src H a) (k : Kp a H H') : Fz H' q xs := by
  obtain ⟨o, e, h⟩ := h
  refine ⟨o, e, k _ _ (fun z => ?_) h⟩
  obtain ⟨x, y, w, e2, _⟩ := s
  rw [z, e2] at h
  cases h
/-- what the law's own ring gave -/
def DueR (rows : List (List Int)) (v : V) (H : Hp) : Prop := v = .non ∨ ∃ (T q r : Addr) (ss g : List Nat), v = .ref T ∧ H T = some (.tup [.ref q, .ref r]) ∧ Fz H q (iV ss) ∧ Fz H r (iV g) ∧ IsRing rows (List.range rows.length) ss g
theorem DueR.kp {rows : List (List Int)} {v : V} {a : Addr} {H H' : Hp} (h : DueR rows v H) (s : Src H a) (k : Kp a H H') : DueR rows v H' := by
  rcases h with h | ⟨T, q, r, ss, g, e, hT, hq, hr, ir⟩
  · exact .inl h
  · exact .inr ⟨T, q, r, ss, g, e, k _ _ (s.neT hT) hT, hq.kp s k, hr.kp s k, ir⟩
theorem DueR.kF {rows : List (List Int)} {v : V} {F : Addr} {H H' : Hp} {xs : List V} (h : DueR rows v H) (hF : H F = some (.lst xs)) (k : Kp F H H') : DueR rows v H' := by
  rcases h with h | ⟨T, q, r, ss, g, e, hT, ⟨o1, e1, h1⟩, ⟨o2, e2, h2⟩, ir⟩
  · exact .inl h
  · exact .inr ⟨T, q, r, ss, g, e, k _ _ (ne_of hT hF (by intro z; cases z)) hT, ⟨o1, e1, k _ _ (ne_of h1 hF (by intro z; cases z)) h1⟩, ⟨o2, e2, k _ _ (ne_of h2 hF (by intro z; cases z)) h2⟩, ir⟩
theorem tkb {K : PySem.W.Frag} {S : Addr → Prop} {H : Hp} {p : Addr} {xs : List V} (ls : LS S H) (h : H p = some (.tup xs)) : ∀ H', Kb S H H' → SqT K H' p xs := fun H' k => SqT.of (k _ _ (ls.nT h) h)
theorem zkb {K : PySem.W.Frag} {S : Addr → Prop} {H : Hp} {p : Addr} {xs : List V} (ls : LS S H) (h : Fz H p xs) : ∀ H', Kb S H H' → SqT K H' p xs := fun H' k => by
  have n := ls.nZ h
  obtain ⟨o, e, h⟩ := h
  exact Fz.sq ⟨o, e, k _ _ n h⟩
theorem amB {ns : List Int} (am : Am ns) : ∀ x ∈ ns, x.natAbs < 2 ^ 30 := fun x hx => by
  have := am x hx
  omega
def spSome (K : PySem.W.Frag) : Sp := fun vs H Q _ => ∃ (a l : Addr) (ts : List Addr) (rows : List (List Int)), vs = [.ref a, .ref l] ∧ Src H a ∧ l ≠ a ∧ H l = some (.lst (ts.map V.ref)) ∧ TpAll H ts rows ∧ Rows rows ∧
  ∀ (F : Addr) (xs : List V) (H' : Hp), Kp a H H' → Src H' a → F ≠ a → H' F = some (.lst xs) → xs.length ≤ 30 → (∀ x ∈ xs, ∃ d, Ev K (fun b => b = a) x d H') → Q (.ref F) H'
section
variable {P : Program} {w : World} {K : PySem.W.Frag} {mg : Str → Option Value} {base : Heap} {CShare CDivision CNoPerson : Addr}
abbrev st_l_some : Stmt := top 58
theorem sc_l_some : FnScope ["_law_source_here", "_law_lines_here", "_law_many", "_law_people_here", "_law_due_here", "_law_drawn_here", "_law_found", "_law_states", "_law_some_here", "_law_turn", "_law_other", "_law_start", "_law_at", "_law_one"] ["_law_source_here", "_law_lines_here"] (defScope st_l_some) := ⟨rfl, rfl, rfl, by decide +kernel, rfl, by decide +kernel, by decide +kernel⟩
theorem ok_some (B : Bn mg) (c_l_draw : Cal P w K mg base 2 "_law_draw" ["_law_source_here", "_law_many"] spDraw) (c_l_ring : Cal P w K mg base 4 "_law_ring" ["_law_lines_here"] spLRing) (c_l_levels : Cal P w K mg base 3 "_law_levels" ["_law_lines_here"] spLLev) (D : Df K mg "_law_some" st_l_some ["_law_source_here", "_law_lines_here"]) : Cal P w K mg base 5 "_law_some" ["_law_source_here", "_law_lines_here"] (spSome K) := by
  refine D.cal sc_l_some (fun vs H Q E h => ?_) (fun f cdv A out s H vs Q E hr h => ?_)
  · obtain ⟨a, l, ts, rows, rfl, _⟩ := h
    rfl
  obtain ⟨a, l, ts, rows, rfl, src, la, hl, tp, rw_, k⟩ := h
  refine ⟨_, (pss_cons (ps_asg (pe_tup (pa_cons (pe_callB call_len_seq (by rfl) B.n_len (by decide +kernel) (pa_cons (pe_ix ix_list (pv 1) pe_int (fun _ _ => rfl)) pa_nil)) (pa_cons (pe_callB call_len_seq (by rfl) B.n_len (by decide +kernel) (pa_cons (pv 1) pa_nil)) pa_nil))) (pg_tup rfl (pgs_cons (pg_name (i := 2) sc_l_some.nd rfl (.inl rfl)) (pgs_cons (pg_name (i := 3) sc_l_some.nd rfl (.inr rfl)) pgs_nil))))
   (pss_cons (ps_set (i := 4) sc_l_some.nd rfl (.inl rfl) (pe_fn c_l_ring (hr.mono (by decide)) (pa_cons (pv 1) pa_nil)))
   (pss_cons (ps_set (i := 5) sc_l_some.nd rfl (.inl rfl) (pe_callTy call_tuple_of (by rfl) B.n_tuple (by decide +kernel) (pa_cons (pe_lc (own := [("_law_at", 12)]) (g := gName 12) rfl sc_l_some.nd (pi_range1 (by rfl) B.n_range (pa_cons (pv 2) pa_nil)) (blkOk_by (N := ["_law_source_here", "_law_lines_here", "_law_many", "_law_people_here", "_law_due_here", "_law_drawn_here", "_law_found", "_law_states", "_law_some_here", "_law_turn", "_law_other", "_law_start", "_law_at", "_law_one"]) (sc := defScope st_l_some) (by decide +kernel)) (fun _ _ _ _ _ => (pg_name (i := 12) sc_l_some.nd rfl (.inl rfl))) (fun _ _ _ _ _ => pts_nil) (fun _ _ _ _ _ => (pe_fn c_l_draw (hr.mono (by decide)) (pa_cons (pv 0) (pa_cons pe_int pa_nil))))) pa_nil)))
   (pss_cons (ps_set (i := 6) sc_l_some.nd rfl (.inl rfl) (pe_lst (pa_cons (pe_fn c_l_levels (hr.mono (by decide)) (pa_cons (pv 1) pa_nil)) (pa_cons (pe_op op_repT (pe_tup (pa_cons pe_int pa_nil)) (pv 2)) (pa_cons (pv 5) (pa_cons (pe_tup (pa_cons (pe_tupF (pa_cons pe_int (pa_cons pe_int pa_nil))) (pa_cons (pe_tupF (pa_cons pe_int (pa_cons pe_int pa_nil))) pa_nil))) (pa_cons (pe_tup (pa_cons (pe_tupF (pa_cons pe_int (pa_cons pe_int pa_nil))) (pa_cons (pe_tup (pa_cons pe_int (pa_cons pe_int pa_nil))) pa_nil))) pa_nil)))))))
   (pss_cons (ps_if (pt_cmpR op_notN (pe_ix ix_list (pv 6) pe_int (fun _ _ => rfl)) pe_non (nomark _)) (pss_cons (ps_expr (pe_bm PySem.F.plainAttrs_list PySem.F.slot_list_append PySem.F.type_list_append mt_append (pv 6) (pa_cons (pe_callTy call_tuple_of (by rfl) B.n_tuple (by decide +kernel) (pa_cons (pe_lc (own := [("_law_one", 13)]) (g := gName 13) rfl sc_l_some.nd (pi_tup (pe_ix ix_list (pv 6) pe_int (fun _ _ => rfl))) (blkOk_by (N := ["_law_source_here", "_law_lines_here", "_law_many", "_law_people_here", "_law_due_here", "_law_drawn_here", "_law_found", "_law_states", "_law_some_here", "_law_turn", "_law_other", "_law_start", "_law_at", "_law_one"]) (sc := defScope st_l_some) (by decide +kernel)) (fun _ _ _ _ _ => (pg_name (i := 13) sc_l_some.nd rfl (.inl rfl))) (fun _ _ _ _ _ => pts_nil) (fun _ _ _ _ _ => (pe_op op_add (pv 13) pe_int))) pa_nil)) pa_nil)))
   (pss_one (ps_expr (pe_bm PySem.F.plainAttrs_list PySem.F.slot_list_append PySem.F.type_list_append mt_append (pv 6) (pa_cons (pe_callTy call_tuple_of (by rfl) B.n_tuple (by decide +kernel) (pa_cons (pe_lc (own := [("_law_one", 13)]) (g := gName 13) rfl sc_l_some.nd (pi_tup (pe_ix ix_list (pv 6) pe_int (fun _ _ => rfl))) (blkOk_by (N := ["_law_source_here", "_law_lines_here", "_law_many", "_law_people_here", "_law_due_here", "_law_drawn_here", "_law_found", "_law_states", "_law_some_here", "_law_turn", "_law_other", "_law_start", "_law_at", "_law_one"]) (sc := defScope st_l_some) (by decide +kernel)) (fun _ _ _ _ _ => (pg_name (i := 13) sc_l_some.nd rfl (.inl rfl))) (fun _ _ _ _ _ => pts_nil) (fun _ _ _ _ _ => (pe_op op_sub (pv 13) pe_int))) pa_nil)) pa_nil))))) pss_nil)
   (pss_cons (ps_if (pt_cmpR op_notN (pv 4) pe_non (nomark _)) (pss_cons (ps_asg (pv 4) (pg_tup rfl (pgs_cons (pg_name (i := 7) sc_l_some.nd rfl (.inl rfl)) (pgs_cons (pg_name (i := 8) sc_l_some.nd rfl (.inl rfl)) pgs_nil))))
   (pss_cons (ps_set (i := 9) sc_l_some.nd rfl (.inl rfl) (pe_op op_add pe_int (pe_fn c_l_draw (hr.mono (by decide)) (pa_cons (pv 0) (pa_cons (pe_op op_sub (pe_callB call_len_seq (by rfl) B.n_len (by decide +kernel) (pa_cons (pv 7) pa_nil)) pe_int) pa_nil)))))
   (pss_cons (ps_set (i := 10) sc_l_some.nd rfl (.inl rfl) (pe_callTy call_tuple_of (by rfl) B.n_tuple (by decide +kernel) (pa_cons (pe_lc (own := [("_law_at", 12)]) (g := gName 12) rfl sc_l_some.nd (pi_tup (pv 7)) (blkOk_by (N := ["_law_source_here", "_law_lines_here", "_law_many", "_law_people_here", "_law_due_here", "_law_drawn_here", "_law_found", "_law_states", "_law_some_here", "_law_turn", "_law_other", "_law_start", "_law_at", "_law_one"]) (sc := defScope st_l_some) (by decide +kernel)) (fun _ _ _ _ _ => (pg_name (i := 12) sc_l_some.nd rfl (.inl rfl))) (fun _ _ _ _ _ => pts_nil) (fun _ _ _ _ _ => (pe_fn c_l_draw (hr.mono (by decide)) (pa_cons (pv 0) (pa_cons (pv 3) pa_nil))))) pa_nil)))
   (pss_cons (ps_set (i := 6) sc_l_some.nd rfl (.inl rfl) (pe_op op_cat (pv 6) (pe_lst (pa_cons (pv 4) (pa_cons (pe_tup (pa_cons (pv 7) (pa_cons (pv 10) pa_nil))) (pa_cons (pe_revF (pv 4)) pa_nil))))))
   (pss_cons (ps_set (i := 11) sc_l_some.nd rfl (.inl rfl) (pe_op op_catF (pe_slice sl_tupF (pv 7) (po_some (pv 9)) po_none) (pe_slice sl_tupF (pv 7) po_none (po_some (pv 9)))))
   (pss_cons (ps_expr (pe_bm PySem.F.plainAttrs_list PySem.F.slot_list_append PySem.F.type_list_append mt_append (pv 6) (pa_cons (pe_tup (pa_cons (pv 11) (pa_cons (pe_op op_catF (pe_slice sl_tupF (pv 8) (po_some (pv 9)) po_none) (pe_slice sl_tupF (pv 8) po_none (po_some (pv 9)))) pa_nil))) pa_nil)))
   (pss_cons (ps_set (i := 6) sc_l_some.nd rfl (.inl rfl) (pe_op op_cat (pv 6) (pe_lst (pa_cons (pe_tup (pa_cons (pe_revF (pv 7)) (pa_cons (pe_revF (pv 8)) pa_nil))) (pa_cons (pe_tup (pa_cons (pe_slice sl_tupF (pv 7) (po_some pe_int) po_none) (pa_cons (pe_slice sl_tupF (pv 8) (po_some pe_int) po_none) pa_nil))) pa_nil)))))
   (pss_cons (ps_set (i := 6) sc_l_some.nd rfl (.inl rfl) (pe_op op_cat (pv 6) (pe_lst (pa_cons (pe_callTy call_listB (by rfl) B.n_list (by decide +kernel) (pa_cons (pv 4) pa_nil)) (pa_cons (pe_slice sl_tupF (pv 4) po_none (po_some pe_int)) (pa_cons (pe_op op_catF (pv 4) (pe_slice sl_tupF (pv 4) po_none (po_some pe_int))) pa_nil))))))
   (pss_cons (ps_set (i := 6) sc_l_some.nd rfl (.inl rfl) (pe_op op_cat (pv 6) (pe_lst (pa_cons (pe_tup (pa_cons (pe_callTy call_listB (by rfl) B.n_list (by decide +kernel) (pa_cons (pv 7) pa_nil)) (pa_cons (pv 8) pa_nil))) (pa_cons (pe_tup (pa_cons (pv 7) (pa_cons (pe_callTy call_listB (by rfl) B.n_list (by decide +kernel) (pa_cons (pv 8) pa_nil)) pa_nil))) pa_nil)))))
   (pss_one (ps_expr (pe_bm PySem.F.plainAttrs_list PySem.F.slot_list_append PySem.F.type_list_append mt_append (pv 6) (pa_cons (pe_tup (pa_cons (pe_op op_catF (pv 7) (pe_slice sl_tupF (pv 7) po_none (po_some pe_int))) (pa_cons (pe_op op_catF (pv 8) (pe_slice sl_tupF (pv 8) po_none (po_some pe_int))) pa_nil))) pa_nil))))))))))))) pss_nil)
   (pss_one (ps_ret (pv 6))))))))), ?_⟩
  obtain ⟨w2, w6⟩ := rw_.w26
  have p2 := rw_.1
  have p4 := rw_.2.1
  have ln := tp.1
  have t0 : ts[0]? = some ts[0] := List.getElem?_eq_getElem (by omega)
  have r0 : rows[0]? = some rows[0] := List.getElem?_eq_getElem (by omega)
  have ew : (rows[0].map V.int).length = wdt rows := by rw [List.length_map, rw_.wdt (List.mem_of_getElem? r0)]
  have ht0 := tp.2 0 _ _ t0 r0
  have a0 : atI (ts.map V.ref) 0 = some (.ref ts[0]) := atI_nat (j := 0) (by rw [List.getElem?_map, t0]; rfl)
  generalize ts[0] = t1 at t0 ht0 a0
  generalize rows[0] = n1 at r0 ew ht0
  refine ⟨_, rfl, l, _, 0, _, rfl, rfl, SqL.of hl, a0, t1, _, rfl, .inr (SqT.of ht0), ?_⟩
  rw [ew]
  refine ⟨_, rfl, l, _, rfl, .inl (SqL.of hl), ?_⟩
  rw [List.length_map, ln]
  refine ⟨(by show 2 ≤ sizeLine; decide), fun T0 hT0 => ?_⟩
  generalize hH1 : upd H T0 _ = H1
  obtain ⟨k1, eT0⟩ := alloc hH1 hT0
  clear hH1
  refine ⟨T0, _, rfl, SqT.of eT0, rfl, _, _, rfl, _, _, rfl, rfl, ?_⟩
  dsimp only
  refine saJoin (fun v H' => Same H1 H' ∧ DueR rows v H') (fun v H2 z => ?_) (fun N hN => ?_)
  case refine_2 => exact ⟨_, rfl, l, ts, rows, rfl, k1 _ _ hl, tp.same k1, rw_, fun H' s no => hN _ _ ⟨s, .inl rfl⟩, fun T q r ss g H' s hT hq hr' fs => hN _ _ ⟨s, .inr ⟨T, q, r, ss, g, rfl, hT, hq, hr', fs.1⟩⟩⟩
  obtain ⟨k2, due⟩ := z
  have k02 := k1.trans k2
  have src2 := src.same k02
  clear eT0 hT0
  -- drawn numbers
  refine ⟨_, rfl, wdt rows, rfl, by omega, by omega, fun D1 hD1 => lc_range (lo := 0) (n := wdt rows) (fun i H' => AInv a D1 H2 i H') (AInv.start src2 hD1) (fun i H' hi z => ⟨rfl, tyes ?_⟩) (fun H3 z => ?_)⟩
  · exact ⟨_, rfl, a, 3, rfl, z.src, by decide, by decide, fun r H4 r0 r1 s4 k4 => z.next (by omega) hD1 (src2.ne hD1) s4 k4 r0 (by omega)⟩
  obtain ⟨dr, ldr, adr, src3, k3, hD3⟩ := z
  refine ⟨D1, _, rfl, .inl ⟨SqL.of hD3, fun Tr hTr => ?_⟩⟩
  generalize hH4 : upd H3 Tr _ = H4
  obtain ⟨k4, eTr⟩ := alloc hH4 hTr
  clear hH4
  have k24 : Kp a H2 H4 := k3.trans (Kp.of k4)
  have k04 : Kp a H H4 := (Kp.of k02).trans k24
  have src4 := src3.same k4
  have due4 := due.kp src2 k24
  have hl4 := k04 _ _ la hl
  have tp4 := tp.kp src k04
  clear hD3 hTr k3 k4 src3 due src2 hD1 k24 k2 k1 k02
  -- the list found
  rw [gNameE]
  dsimp only
  rw [tSeqE, tAsgE, tLstE]
  refine consJoin (fun v H' => Same H4 H' ∧ (v = .non ∨ ∃ (p : Addr) (hs : List Int), v = .ref p ∧ H' p = some (.tup (hs.map V.int)) ∧ hs.length ≤ 6 ∧ ∀ x ∈ hs, 0 ≤ x ∧ x ≤ 6)) (fun v0 H5 z => ?_) (fun N hN => ?_)
  case refine_2 =>
    refine ⟨_, rfl, l, ts, rows, rfl, hl4, tp4, rw_, fun p hs H' s hp le => hN _ _ ⟨s, .inr ⟨p, hs, rfl, hp, ?_, least_le (edC_ok rows) le w6⟩⟩, fun H' s _ => hN _ _ ⟨s, .inl rfl⟩⟩
    rw [le.1.1]
    exact w6
  obtain ⟨k5, hv0⟩ := z
  refine ⟨(by show 1 ≤ sizeLine; decide), fun Z0 hZ0 => ?_⟩
  generalize hH6 : upd H5 Z0 _ = H6
  obtain ⟨k6, eZ0⟩ := alloc hH6 hZ0
  clear hH6
  refine ⟨_, rfl, Z0, wdt rows, [.int 0], rfl, rfl, SqT.of eZ0, (by simp), by omega, by omega, (by show 1 ≤ 1000; decide), fun Z hZ => ?_⟩
  generalize hH7 : upd H6 Z _ = H7
  obtain ⟨k7, eZ⟩ := alloc hH7 hZ
  clear hH7
  have eZ : H7 Z = some (.tup ((List.replicate (wdt rows) (0 : Int)).map V.int)) := by
    rw [eZ, rep_flat, List.map_replicate]
    rfl
  refine ⟨_, rfl, (by show 2 ≤ sizeLine; decide), fun q1 u1 hq1 f1 => ?_⟩
  generalize hH8 : upd H7 q1 _ = H8
  obtain ⟨k8, e1⟩ := alloc hH8 hq1
  clear hH8
  refine ⟨(by show 2 ≤ sizeLine; decide), fun q2 u2 hq2 f2 => ?_⟩
  generalize hH9 : upd H8 q2 _ = H9
  obtain ⟨k9, e2⟩ := alloc hH9 hq2
  clear hH9
  refine ⟨(by show 2 ≤ sizeLine; decide), fun p1 hp1 => ?_⟩
  generalize hHa : upd H9 p1 _ = Ha
  obtain ⟨ka, ep1⟩ := alloc hHa hp1
  clear hHa
  refine ⟨(by show 2 ≤ sizeLine; decide), fun q3 u3 hq3 f3 => ?_⟩
  generalize hHb : upd Ha q3 _ = Hb
  obtain ⟨kb, e3⟩ := alloc hHb hq3
  clear hHb
  refine ⟨(by show 2 ≤ sizeLine; decide), fun q4 hq4 => ?_⟩
  generalize hHc : upd Hb q4 _ = Hc
  obtain ⟨kc, e4⟩ := alloc hHc hq4
  clear hHc
  refine ⟨(by show 2 ≤ sizeLine; decide), fun p2' hp2' => ?_⟩
  generalize hHd : upd Hc p2' _ = Hd
  obtain ⟨kd, ep2⟩ := alloc hHd hp2'
  clear hHd
  refine ⟨(by show 5 ≤ sizeLine; decide), fun F hF => ?_⟩
  have k7d := k8.trans (k9.trans (ka.trans (kb.trans (kc.trans kd))))
  have k5d := k6.trans (k7.trans k7d)
  have k4d := k5.trans k5d
  have srcd := src4.same k4d
  have Fa := srcd.ne hF
  have f01 : fzO (iV [0, 1]) u1 := f1
  have f02 : fzO (iV [0, 1]) u2 := f2
  have f03 : fzO (iV [0, 1]) u3 := f3
  have b2 : ∀ s ∈ [0, 1], s < 1000 := by decide
  have all : ∀ x ∈ [v0, .ref Z, .ref Tr, .ref p1, .ref p2'], ∃ d, Ev K (fun b => b = a) x d Hd := by
    have ls : LS (fun b => b = a) Hd := fun b z => by
      obtain ⟨x, y, w, e, _⟩ := srcd
      exact ⟨_, by rw [show b = a from z]; exact e⟩
    intro x hx
    simp only [List.mem_cons, List.not_mem_nil, or_false] at hx
    rcases hx with rfl | rfl | rfl | rfl | rfl
    · rcases hv0 with rfl | ⟨p, hs, rfl, hp, l6, bd⟩
      · exact ⟨_, evN⟩
      · have hp' := k5d _ _ hp
        exact ⟨_, evI (itmT hp' (ls.nT hp') (by omega) fun x hx => by have := bd x hx; omega)⟩
    · have h' := k7d _ _ eZ
      exact ⟨_, evI (itmT h' (ls.nT h') (by rw [List.length_replicate]; omega) fun x hx => by rw [List.eq_of_mem_replicate hx]; decide)⟩
    · have h' := k4d _ _ eTr
      exact ⟨_, evI (itmT h' (ls.nT h') (by omega) (amB adr))⟩
    · have h' := (kb.trans (kc.trans kd)) _ _ ep1
      have n' := ls.nT h'
      exact ⟨_, evP (fun H' k' => SqT.of (k' _ _ n' h')) (itmZ (f01.fz ((k9.trans (ka.trans (kb.trans (kc.trans kd)))) _ _ e1)) ls (by decide) b2) (itmZ (f02.fz ((ka.trans (kb.trans (kc.trans kd))) _ _ e2)) ls (by decide) b2).1⟩
    · have n' := ls.nT ep2
      have h4' := kd _ _ e4
      exact ⟨_, evP (fun H' k' => SqT.of (k' _ _ n' ep2)) (itmZ (f03.fz ((kc.trans kd) _ _ e3)) ls (by decide) b2) (itmT (ns := [1, 0]) h4' (ls.nT h4') (by decide) (by decide))⟩
  generalize hHe : upd Hd F _ = He
  have vs0 : Vs K a F [v0, .ref Z, .ref Tr, .ref p1, .ref p2'] He := by
    rw [← hHe]
    refine ⟨upd_same, fun x hx => ?_⟩
    obtain ⟨d, q⟩ := all x hx
    refine ⟨d, (q.ext fun b z => ?_).mono (Kb.put (.inr rfl))⟩
    rcases z with z | z
    · exact .inl z
    · exact .inr (by rw [z]; exact hF)
  obtain ⟨ke, eF⟩ := alloc hHe hF
  clear hHe all
  have k4e := k4d.trans ke
  have srce := src4.same k4e
  have duee := due4.kp src4 (Kp.of k4e)
  have hv0 : v0 = .non ∨ ∃ (p : Addr) (hs : List Int), v0 = .ref p ∧ He p = some (.tup (hs.map V.int)) ∧ hs.length ≤ 6 ∧ ∀ x ∈ hs, 0 ≤ x ∧ x ≤ 6 := by
    rcases hv0 with h | ⟨p, hs, e, hp, r⟩
    · exact .inl h
    · exact .inr ⟨p, hs, e, (k5d.trans ke) _ _ hp, r⟩
  have k0e : Kp a H He := k04.trans (Kp.of k4e)
  have hFH : H F = none := (k04.trans (Kp.of k4d)).free Fa hF
  clear k4d k5d k7d k5 k6 k7 k8 k9 ka kb kc kd ke e1 e2 e3 e4 ep1 ep2 f1 f2 f3 f01 f02 f03 eZ eZ0 eTr hq1 hq2 hq3 hq4 hp1 hp2' hZ hZ0 hF srcd due4 src4 k4e hl4 tp4 k04
  rw [gNameE]
  dsimp only
  refine join (fun σ' H' => ∃ (xs : List V), σ' = [some (.ref a), some (.ref l), some (.int (wdt rows)), some (.int rows.length), some v, some (.ref Tr), some (.ref F), none, none, none, none, none, none, none] ∧ Vs K a F xs H' ∧ xs.length ≤ 7 ∧ Kp F He H') ?_ (fun N hN => ?_)
  case refine_2 =>
    rcases hv0 with rfl | ⟨p, hs, rfl, hp, l6, bd⟩
    · exact ⟨_, rfl, F, _, 0, _, rfl, rfl, SqL.of eF, rfl, rfl, _, rfl, iteF (hN _ _ ⟨_, rfl, vs0, by show 5 ≤ 7; decide, Kp.refl F He⟩)⟩
    refine ⟨_, rfl, F, _, 0, _, rfl, rfl, SqL.of eF, rfl, rfl, _, rfl, iteT ?_⟩
    have lm : (hs.map V.int).length = hs.length := List.length_map _
    refine ⟨_, rfl, .inl ⟨rfl, _, SqL.of eF⟩, _, rfl, F, _, 0, _, rfl, rfl, SqL.of eF, rfl, p, rfl, ⟨_, SqT.of hp⟩, fun D2 hD2 => lc_tup (K := K) (a := p) (xs := hs.map V.int) (fun i H' => Same He H' ∧ H' D2 = some (.lst (((hs.map (· + 7)).take i).map V.int))) ⟨same_new (Same.refl _) hD2, upd_same⟩ (fun i H' _ z => SqT.of (z.1 _ _ hp)) (fun i x H' hx z => ⟨rfl, tyes ?_⟩) (fun H1 z => ?_)⟩
    · rw [List.getElem?_map] at hx
      cases ex : hs[i]? with
      | none => rw [ex] at hx; cases hx
      | some y0 =>
        rw [ex] at hx
        obtain rfl : V.int y0 = x := Option.some.inj hx
        refine ⟨_, rfl, _, _, rfl, rfl, _, z.2, size_lt' (by rw [List.length_map, List.length_take, List.length_map]; omega), same_put z.1 hD2, ?_⟩
        rw [upd_same, List.take_add_one, List.getElem?_map, ex, List.map_append]
        rfl
    obtain ⟨k1, h1⟩ := z
    rw [lm, ← List.length_map (f := (· + 7)), List.take_length] at h1
    refine ⟨D2, _, rfl, .inl ⟨SqL.of h1, fun T1 hT1 => ?_⟩⟩
    generalize hH2 : upd H1 T1 _ = H2
    obtain ⟨k2, eT1⟩ := alloc hH2 hT1
    clear hH2
    have k02 := k1.trans k2
    have vs2 := vs0.same k02
    have ls2 := lsF (srce.same k02) vs2.1
    refine ⟨F, _, _, rfl, rfl, vs2.1, size_lt' (by show 5 ≤ _; decide), ?_⟩
    have vs3 := vs2.app (evI (itmT eT1 (ls2.nT eT1) (by rw [List.length_map]; omega) fun x hx => by
      obtain ⟨y, hy, rfl⟩ := List.mem_map.mp hx
      have := bd y hy
      show (y + 7).natAbs < 2 ^ 30
      omega))
    have kp3 : Kp F He (upd H2 F (.lst ([V.ref p, .ref Z, .ref Tr, .ref p1, .ref p2'] ++ [V.ref T1]))) := (Kp.of k02).trans Kp.upd
    generalize upd H2 F _ = H3 at vs3 kp3 ⊢
    have eF3 := vs3.1
    have hp3 := kp3 _ _ (ne_of hp eF (by intro z; cases z)) hp
    refine ⟨_, rfl, .inl ⟨rfl, _, SqL.of eF3⟩, _, rfl, F, _, 0, _, rfl, rfl, SqL.of eF3, rfl, p, rfl, ⟨_, SqT.of hp3⟩, fun D3 hD3 => lc_tup (K := K) (a := p) (xs := hs.map V.int) (fun i H' => Same H3 H' ∧ H' D3 = some (.lst (((hs.map (· - 1)).take i).map V.int))) ⟨same_new (Same.refl _) hD3, upd_same⟩ (fun i H' _ z => SqT.of (z.1 _ _ hp3)) (fun i x H' hx z => ⟨rfl, tyes ?_⟩) (fun H4 z => ?_)⟩
    · rw [List.getElem?_map] at hx
      cases ex : hs[i]? with
      | none => rw [ex] at hx; cases hx
      | some y0 =>
        rw [ex] at hx
        obtain rfl : V.int y0 = x := Option.some.inj hx
        refine ⟨_, rfl, _, _, rfl, rfl, _, z.2, size_lt' (by rw [List.length_map, List.length_take, List.length_map]; omega), same_put z.1 hD3, ?_⟩
        rw [upd_same, List.take_add_one, List.getElem?_map, ex, List.map_append]
        rfl
    obtain ⟨k4, h4⟩ := z
    rw [lm, ← List.length_map (f := (· - 1)), List.take_length] at h4
    refine ⟨D3, _, rfl, .inl ⟨SqL.of h4, fun T2 hT2 => ?_⟩⟩
    generalize hH5 : upd H4 T2 _ = H5
    obtain ⟨k5, eT2⟩ := alloc hH5 hT2
    clear hH5
    have k35 := k4.trans k5
    have vs5 := vs3.same k35
    have src3 : Src H3 a := by
      obtain ⟨x, y, z, e, r⟩ := srce
      exact ⟨x, y, z, kp3 _ _ (Ne.symm Fa) e, r⟩
    have ls5 := lsF (src3.same k35) vs5.1
    refine ⟨F, _, _, rfl, rfl, vs5.1, size_lt' (by show 6 ≤ _; decide), hN _ _ ⟨_, rfl, vs5.app (evI (itmT eT2 (ls5.nT eT2) (by rw [List.length_map]; omega) fun x hx => by
      obtain ⟨y, hy, rfl⟩ := List.mem_map.mp hx
      have := bd y hy
      show (y - 1).natAbs < 2 ^ 30
      omega)), by show 7 ≤ 7; decide, kp3.trans ((Kp.of k35).trans Kp.upd)⟩⟩
  -- the ring
  rintro σ' H6 ⟨xs, rfl, vs6, lx, k6⟩
  have src6 : Src H6 a := by
    obtain ⟨x, y, z, e, r⟩ := srce
    exact ⟨x, y, z, k6 _ _ (Ne.symm Fa) e, r⟩
  have due6 := duee.kF eF k6
  have k06 : Kp a H H6 := fun b o n e => k6 b o (ne_of_none e hFH) (k0e b o n e)
  clear hv0 vs0 eF duee srce k0e k6
  show tSeq (tIfS _ _ _) _ _ _ _
  refine join (fun σ' H' => ∃ (w4 w5 w7 w8 w9 w10 w11 w12 w13 : Option V) (F' : Addr) (xs : List V), σ' = [some (.ref a), some (.ref l), some (.int (wdt rows)), some (.int rows.length), w4, w5, some (.ref F'), w7, w8, w9, w10, w11, w12, w13] ∧ Vs K a F' xs H' ∧ xs.length ≤ 30 ∧ Kp a H H' ∧ Src H' a ∧ F' ≠ a) ?_ (fun N hN => ?_)
  case refine_1 =>
    rintro σ' H' ⟨w4, w5, w7, w8, w9, w10, w11, w12, w13, F', xs, rfl, vs, lx, kp, s, n⟩
    exact ⟨_, rfl, k F' xs H' kp s n vs.1 lx fun x hx => by
      obtain ⟨d, q⟩ := vs.2 x hx
      exact ⟨d, q.ext fun b z => .inl (.inl z)⟩⟩
  rcases due6 with rfl | ⟨T, q, r, ss, g, rfl, hT, hq, hr', ir⟩
  · exact ⟨_, rfl, rfl, _, rfl, iteF (hN _ _ ⟨_, _, _, _, _, _, _, _, _, F, xs, rfl, vs6, by omega, k06, src6, Fa⟩)⟩
  refine ⟨_, rfl, rfl, _, rfl, iteT ?_⟩
  have s2 := no_one ir
  have s6 := nodup_le ir.1 ir.2.1
  have lg := ir.2.2.2.1
  have lts : ∀ s ∈ ss, s < 1000 := fun s hs => by
    have := ir.2.1 s hs
    omega
  have ltg : ∀ p ∈ g, p < 1000 := by
    obtain ⟨g', e, b⟩ := (rg_nums (rg_at.mpr ir)).2
    intro p hp
    have := b p (by rw [← tupN_inj e]; exact hp)
    omega
  have il := iV_len ss
  have ig := iV_len g
  refine ⟨_, rfl, T, _, rfl, SqT.of hT, rfl, _, _, rfl, _, _, rfl, rfl, ?_⟩
  refine ⟨_, rfl, _, rfl, q, _, rfl, .inr hq.sq, _, _, rfl, rfl, a, _, rfl, src6, by omega, by omega, fun t1 H7 t0 tlt src7 k7 => ⟨_, _, rfl, rfl, ?_⟩⟩
  obtain ⟨tt, htt, tt1, tt2⟩ : ∃ tt : Nat, (1 : Int) + t1 = (tt : Int) ∧ 1 ≤ tt ∧ tt ≤ ss.length := ⟨(1 + t1).toNat, by omega, by omega, by omega⟩
  show gName 9 (V.int ((1 : Int) + t1)) _ _ _
  rw [htt]
  have hq7 := hq.kp src6 k7
  refine ⟨_, rfl, q, rfl, ⟨_, hq7.sq⟩, fun D2 hD2 => lc_tup (K := K) (a := q) (xs := iV ss) (fun i H' => AInv a D2 H7 i H') (AInv.start src7 hD2) (fun i H' _ z => ?_) (fun i x H' hx z => ⟨rfl, tyes ?_⟩) (fun H8 z => ?_)⟩
  · obtain ⟨_, _, _, _, kp, _⟩ := z
    exact (hq7.kp src7 kp).sq
  · have li := (List.getElem?_eq_some_iff.mp hx).1
    exact ⟨_, rfl, _, rfl, a, rows.length, rfl, z.src, by omega, by omega, fun r H9 r0 r1 s9 k9 => z.next (by omega) hD2 (src7.ne hD2) s9 k9 r0 (by omega)⟩
  obtain ⟨ot, lot, aot, src8, k8, hD8⟩ := z
  refine ⟨D2, _, rfl, .inl ⟨SqL.of hD8, fun To hTo => ?_⟩⟩
  generalize hH9 : upd H8 To _ = H9
  obtain ⟨k9, eTo⟩ := alloc hH9 hTo
  clear hH9
  have k69 : Kp a H6 H9 := k7.trans (k8.trans (Kp.of k9))
  have c9 : Cx7 K a T q r F ss g xs H H9 := ⟨src8.same k9, k69 _ _ (src6.neT hT) hT, hq.kp src6 k69, hr'.kp src6 k69, vs6.kp Fa k69, Fa, k06.trans k69, hFH⟩
  clear hD8 hTo hD2 k7 k8 k9 src7 src8 src6 hq7 hq hr' hT vs6 k06 k69 t0 tlt
  -- three more
  refine ⟨_, rfl, _, rfl, _, rfl, _, rfl, (by show 2 ≤ sizeLine; decide), fun p1 hp1 => ?_⟩
  generalize hHa : upd H9 p1 _ = Ha
  obtain ⟨ka, e1⟩ := alloc hHa hp1
  clear hHa
  have ca := c9.same ka
  have eTo := ka _ _ eTo
  try dsimp only [tNil]
  refine revF rfl (SqT.of ca.t) fun p2 Hb kb fz2 => ?_
  refine ⟨(by show 3 ≤ sizeLine; decide), fun M hM => ?_⟩
  generalize hHc : upd Hb M _ = Hc
  obtain ⟨kc, eM⟩ := alloc hHc hM
  clear hHc
  have kbc := kb.trans kc
  have cc := ca.same kbc
  have new : ∀ y ∈ [V.ref T, .ref p1, .ref p2], ∃ d, Ev K (Sf2 a F) y d Hc := by
    have ls := cc.ls
    have iq := itmZ (K := K) cc.q ls (by omega) lts
    have ir' := itmZ (K := K) cc.r ls (by omega) ltg
    have h1 := kbc _ _ e1
    have h2 := fz2.same kc
    have hTo' := kbc _ _ eTo
    intro y hy
    simp only [List.mem_cons, List.not_mem_nil, or_false] at hy
    rcases hy with rfl | rfl | rfl
    · have n' := ls.nT cc.t
      exact ⟨_, evP (fun H' k' => SqT.of (k' _ _ n' cc.t)) iq ir'.1⟩
    · have n' := ls.nT h1
      exact ⟨_, evP (fun H' k' => SqT.of (k' _ _ n' h1)) iq (itmT hTo' (ls.nT hTo') (by omega) (amB aot))⟩
    · have n' := ls.nZ h2
      obtain ⟨o, e, h2⟩ := h2
      exact ⟨_, evP (fun H' k' => Fz.sq ⟨o, e, k' _ _ n' h2⟩) ir' iq.1⟩
  refine ⟨F, M, _, _, rfl, rfl, cc.v.1, eM, Nat.le_of_lt (size_lt' (by show xs.length + 3 ≤ _; omega)), fun F1 hF1 => ?_⟩
  have cd := cc.cat new hF1
  generalize upd Hc F1 _ = Hd at cd ⊢
  clear new cc ca c9 ka kb kc kbc e1 eM hM hp1 eTo fz2 hF1
  -- turned about
  try dsimp only [gName]
  refine turnF rfl rfl cd.q tt2 (by omega) fun st He ke hst => ?_
  have ce := cd.same ke
  refine ⟨_, rfl, .inl ⟨rfl, _, SqL.of ce.v.1⟩, _, rfl, ?_⟩
  refine turnF rfl rfl ce.r (by omega) (by omega) fun st2 Hf kf hst2 => ?_
  have cf := ce.same kf
  refine ⟨(by show 2 ≤ sizeLine; decide), fun p1 hp1 => ?_⟩
  generalize hHg : upd Hf p1 _ = Hg
  obtain ⟨kg, e1⟩ := alloc hHg hp1
  clear hHg
  have cg := cf.same kg
  have lrt : ∀ {ls : List Nat}, (ls.drop tt ++ ls.take tt).length ≤ ls.length := fun {ls} => by
    rw [List.length_append, List.length_drop, List.length_take]
    omega
  have mrt : ∀ {ls : List Nat}, (∀ s ∈ ls, s < 1000) → ∀ s ∈ ls.drop tt ++ ls.take tt, s < 1000 := fun {ls} h s hs => by
    rcases List.mem_append.mp hs with z | z
    · exact h s (List.mem_of_mem_drop z)
    · exact h s (List.mem_of_mem_take z)
  refine ⟨F1, _, _, rfl, rfl, cg.v.1, size_lt' (by rw [List.length_append]; show xs.length + 3 ≤ _; omega), ?_⟩
  have nP := cg.ls.nT e1
  have ch := cg.app (evP (fun H' k' => SqT.of (k' _ _ nP e1)) (itmZ (hst.same (kf.trans kg)) cg.ls (Nat.le_trans lrt (by omega)) (mrt lts)) (itmZ (hst2.same kg) cg.ls (Nat.le_trans lrt (by omega)) (mrt ltg)).1)
  generalize upd Hg F1 _ = Hh at ch ⊢
  clear nP cg cf ce cd e1 hp1 kg kf ke hst hst2
  have q2 : 2 ≤ (iV ss).length := by omega
  have r2 : 2 ≤ (iV g).length := by omega
  -- turned over, cut
  refine ⟨_, rfl, ?_⟩
  try dsimp only
  rw [tLstE, tConsE, tTupE, tConsE]
  refine revF rfl ch.q.sq fun y1 Hi ki z1 => ?_
  have ci := ch.same ki
  try dsimp only
  rw [tConsE]
  refine revF rfl ci.r.sq fun y2 Hj kj z2 => ?_
  have cj := ci.same kj
  refine ⟨(by show 2 ≤ sizeLine; decide), fun p1 hp1 => ?_⟩
  generalize hHk : upd Hj p1 _ = Hk
  obtain ⟨kk, e1⟩ := alloc hHk hp1
  clear hHk
  have ck := cj.same kk
  try dsimp only
  rw [tConsE, tTupE, tConsE]
  refine tailS rfl ck.q.sq q2 fun y3 Hl kl z3 => ?_
  have cl := ck.same kl
  try dsimp only
  rw [tConsE]
  refine tailS rfl cl.r.sq r2 fun y4 Hm km z4 => ?_
  have cm := cl.same km
  refine ⟨(by show 2 ≤ sizeLine; decide), fun p2 hp2 => ?_⟩
  generalize hHn : upd Hm p2 _ = Hn
  obtain ⟨kn, e2⟩ := alloc hHn hp2
  clear hHn
  have cn := cm.same kn
  refine ⟨(by show 2 ≤ sizeLine; decide), fun M hM => ?_⟩
  generalize hHo : upd Hn M _ = Ho
  obtain ⟨ko, eM⟩ := alloc hHo hM
  clear hHo
  have co := cn.same ko
  have new : ∀ y ∈ [V.ref p1, .ref p2], ∃ d, Ev K (Sf2 a F1) y d Ho := by
    have ls := co.ls
    have z1 := z1.same (kj.trans (kk.trans (kl.trans (km.trans (kn.trans ko)))))
    have z2 := z2.same (kk.trans (kl.trans (km.trans (kn.trans ko))))
    have z3 := z3.same (km.trans (kn.trans ko))
    have z4 := z4.same (kn.trans ko)
    rw [iV_rev] at z1 z2
    rw [iV_drop] at z3 z4
    have h1 := (kl.trans (km.trans (kn.trans ko))) _ _ e1
    have h2 := ko _ _ e2
    intro y hy
    simp only [List.mem_cons, List.not_mem_nil, or_false] at hy
    rcases hy with rfl | rfl
    · exact ⟨_, evP (tkb ls h1) (itmZ z1 ls (by rw [List.length_reverse]; omega) fun s hs => lts s (List.mem_reverse.mp hs)) (itmZ z2 ls (by rw [List.length_reverse]; omega) fun s hs => ltg s (List.mem_reverse.mp hs)).1⟩
    · exact ⟨_, evP (tkb ls h2) (itmZ z3 ls (by rw [List.length_drop]; omega) fun s hs => lts s (List.mem_of_mem_drop hs)) (itmZ z4 ls (by rw [List.length_drop]; omega) fun s hs => ltg s (List.mem_of_mem_drop hs)).1⟩
  refine ⟨F1, M, _, _, rfl, rfl, co.v.1, eM, Nat.le_of_lt (size_lt' (by simp only [List.length_append, List.length_cons, List.length_nil]; omega)), fun F2 hF2 => ?_⟩
  have cp := co.cat new hF2
  generalize upd Ho F2 _ = Hp1 at cp ⊢
  clear new co cn cm cl ck cj ci ch ki kj kk kl km kn ko e1 e2 eM hM hp1 hp2 z1 z2 z3 z4 hF2
  -- as a list, cut, longer
  refine ⟨_, rfl, ?_⟩
  try dsimp only [tNil]
  refine ⟨_, rfl, T, _, rfl, SqT.of cp.t, fun L hL nm => ?_⟩
  have nL := cp.ls.nN hL
  generalize hHi : upd Hp1 L _ = Hi
  obtain ⟨ki, eL⟩ := alloc hHi hL
  clear hHi
  have ci := cp.same ki
  try dsimp only
  rw [tConsE]
  refine headS rfl (SqT.of ci.t) (by show 2 ≤ 2; decide) fun y1 Hj kj z1 => ?_
  have cj := ci.same kj
  try dsimp only
  rw [tConsE]
  refine headF rfl (SqT.of cj.t) (by show 2 ≤ 2; decide) (by show 2 ≤ 100; decide) fun y2 Hk kk z2 => ?_
  have ck := cj.same kk
  refine ⟨(by show 3 ≤ sizeLine; decide), fun M hM => ?_⟩
  generalize hHo : upd Hk M _ = Ho
  obtain ⟨ko, eM⟩ := alloc hHo hM
  clear hHo
  have co := ck.same ko
  have new : ∀ y ∈ [V.ref L, .ref y1, .ref y2], ∃ d, Ev K (Sf2 a F2) y d Ho := by
    have ls := co.ls
    have z1 := z1.same (kk.trans ko)
    have z2 := z2.same ko
    have hL' := (kj.trans (kk.trans ko)) _ _ eL
    have iq := (itmZ (K := K) co.q ls (by omega) lts).1
    have ir' := (itmZ (K := K) co.r ls (by omega) ltg).1
    intro y hy
    simp only [List.mem_cons, List.not_mem_nil, or_false] at hy
    rcases hy with rfl | rfl | rfl
    · exact ⟨_, evL hL' nL nm (.cons iq (.cons ir' .nil)) (by show 2 ≤ 3; decide)⟩
    · exact ⟨_, evQ (zkb ls z1) (.cons iq .nil) (by show 1 ≤ 3; decide) fun _ _ e => nomatch e⟩
    · exact ⟨_, evQ (zkb ls z2) (.cons iq (.cons ir' (.cons iq .nil))) (by show 3 ≤ 3; decide) fun _ _ e => nomatch e⟩
  refine ⟨F2, M, _, _, rfl, rfl, co.v.1, eM, Nat.le_of_lt (size_lt' (by simp only [List.length_append, List.length_cons, List.length_nil]; omega)), fun F3 hF3 => ?_⟩
  have cq := co.cat new hF3
  generalize upd Ho F3 _ = Hq at cq ⊢
  clear new co ck cj ci cp ki kj kk ko eL eM hM hL z1 z2 nL nm hF3
  -- one of them as a list
  refine ⟨_, rfl, ?_⟩
  try dsimp only [tNil]
  refine ⟨_, rfl, q, _, rfl, cq.q.sq, fun L1 hL1 nm1 => ?_⟩
  have nL1 := cq.ls.nN hL1
  generalize hHi : upd Hq L1 _ = Hi
  obtain ⟨ki, eL1⟩ := alloc hHi hL1
  clear hHi
  have ci := cq.same ki
  refine ⟨_, rfl, (by show 2 ≤ sizeLine; decide), fun p1 hp1 => ?_⟩
  generalize hHj : upd Hi p1 _ = Hj
  obtain ⟨kj, e1⟩ := alloc hHj hp1
  clear hHj
  have cj := ci.same kj
  refine ⟨_, rfl, _, rfl, r, _, rfl, cj.r.sq, fun L2 hL2 nm2 => ?_⟩
  have nL2 := cj.ls.nN hL2
  generalize hHk : upd Hj L2 _ = Hk
  obtain ⟨kk, eL2⟩ := alloc hHk hL2
  clear hHk
  have ck := cj.same kk
  refine ⟨(by show 2 ≤ sizeLine; decide), fun p2 hp2 => ?_⟩
  generalize hHl : upd Hk p2 _ = Hl
  obtain ⟨kl, e2⟩ := alloc hHl hp2
  clear hHl
  have cl := ck.same kl
  refine ⟨(by show 2 ≤ sizeLine; decide), fun M hM => ?_⟩
  generalize hHo : upd Hl M _ = Ho
  obtain ⟨ko, eM⟩ := alloc hHo hM
  clear hHo
  have co := cl.same ko
  have new : ∀ y ∈ [V.ref p1, .ref p2], ∃ d, Ev K (Sf2 a F3) y d Ho := by
    have ls := co.ls
    have h1 := (kk.trans (kl.trans ko)) _ _ e1
    have h2 := ko _ _ e2
    have l1 := (kj.trans (kk.trans (kl.trans ko))) _ _ eL1
    have l2 := (kl.trans ko) _ _ eL2
    have iq := itmZ (K := K) co.q ls (by omega) lts
    have ir' := itmZ (K := K) co.r ls (by omega) ltg
    rw [iV_eq] at l1 l2
    have i1 := itmL (K := K) (S := Sf2 a F3) l1 nL1 nm1 (by rw [nI_len]; omega) (nIb lts)
    have i2 := itmL (K := K) (S := Sf2 a F3) l2 nL2 nm2 (by rw [nI_len]; omega) (nIb ltg)
    intro y hy
    simp only [List.mem_cons, List.not_mem_nil, or_false] at hy
    rcases hy with rfl | rfl
    · exact ⟨_, evQ (tkb ls h1) (.cons i1 (.cons ir'.1 .nil)) (by show 2 ≤ 3; decide) fun _ _ e => nomatch e⟩
    · exact ⟨_, evP (tkb ls h2) iq i2⟩
  refine ⟨F3, M, _, _, rfl, rfl, co.v.1, eM, Nat.le_of_lt (size_lt' (by simp only [List.length_append, List.length_cons, List.length_nil]; omega)), fun F4 hF4 => ?_⟩
  have cr := co.cat new hF4
  generalize upd Ho F4 _ = Hr at cr ⊢
  clear new co cl ck cj ci cq ki kj kk kl ko eL1 eL2 e1 e2 eM hM hL1 hL2 hp1 hp2 nL1 nm1 nL2 nm2 hF4
  -- longer by one
  refine ⟨_, rfl, .inl ⟨rfl, _, SqL.of cr.v.1⟩, ?_⟩
  try dsimp only
  rw [tConsE, tTupE, tConsE]
  refine headF rfl cr.q.sq q2 (by omega) fun y1 Hi ki z1 => ?_
  have ci := cr.same ki
  try dsimp only
  rw [tConsE]
  refine headF rfl ci.r.sq r2 (by omega) fun y2 Hj kj z2 => ?_
  have cj := ci.same kj
  refine ⟨(by show 2 ≤ sizeLine; decide), fun p1 hp1 => ?_⟩
  generalize hHk : upd Hj p1 _ = Hk
  obtain ⟨kk, e1⟩ := alloc hHk hp1
  clear hHk
  have ck := cj.same kk
  have z1 := z1.same (kj.trans kk)
  have z2 := z2.same kk
  rw [iV_take, ← iV_app] at z1 z2
  have mtk : ∀ {ls : List Nat}, (∀ s ∈ ls, s < 1000) → ∀ s ∈ ls ++ ls.take 1, s < 1000 := fun {ls} h s hs => by
    rcases List.mem_append.mp hs with z | z
    · exact h s z
    · exact h s (List.mem_of_mem_take z)
  have ltk : ∀ {ls : List Nat}, (ls ++ ls.take 1).length ≤ ls.length + 1 := fun {ls} => by
    rw [List.length_append, List.length_take]
    omega
  have lsk := ck.ls
  have cs := ck.app (evP (tkb lsk e1) (itmZ z1 lsk (Nat.le_trans ltk (by omega)) (mtk lts)) (itmZ z2 lsk (Nat.le_trans ltk (by omega)) (mtk ltg)).1)
  refine ⟨F4, _, _, rfl, rfl, ck.v.1, size_lt' (by simp only [List.length_append, List.length_cons, List.length_nil]; omega), ?_⟩
  exact hN _ _ ⟨_, _, _, _, _, _, _, _, _, F4, _, rfl, cs.v, by simp only [List.length_append, List.length_cons, List.length_nil]; omega, cs.k, cs.s, cs.n⟩
end
end Pl
namespace Pl
open PySem PySem.Spec PyProof.Rows L2
/-! what is asked whether it is a verdict -/
theorem Fit.shD {k m : Nat} {K : PySem.W.Frag} {H : Hp} {x : V} {d : PyData} (v : Dp K H x d) (f : Fit k m d) (hk : k ≤ 60) (hm : m ≤ 2 ^ 20) : ShV x d := by
  have s := f.shw hk hm
  refine ⟨s.1, s.2.1, s.2.2.1, s.2.2.2, fun i e => ?_⟩
  subst e
  cases v
  have z := f.sh
  simp only [PyData.showable, decide_eq_true_eq] at z
  exact z
/-- the text of a thing -/
inductive TxM (K : PySem.W.Frag) (H : Hp) : V → Str → Prop
  | t {x : V} {z : Str} : ThT K H x z → TxM K H x z
  | d {a : Addr} {s : Str} {v : V} {d : PyData} : H a = some (.dK [(.inr s, v)]) → DpB K H v d → ShT (dicS s d) → TxM K H (.ref a) (dicS s d).shown
def rReprM (K : PySem.W.Frag) : List V → Hp → VK → Prop := fun xs H Q => ∃ (x : V) (z : Str), xs = [x] ∧ TxM K H x z ∧ Q (.str z) H
theorem call_reprM {X : Cx} (gd : X.A.guards = some []) (hu : X.A.units + 66 < cLine) : CallR X (.builtin "repr") (rReprM X.K) := by
  intro pins s σ H xs us Q I r h
  obtain ⟨x, z, rfl, h, q⟩ := h
  cases h with
  | t h => exact call_reprT gd hu pins s σ H [x] us Q I r ⟨x, z, rfl, h, q⟩
  | d e db sh => exact call_reprS gd hu pins s σ H _ us Q I r ⟨_, _, _, _, rfl, e, db, sh, q⟩
theorem ring_sh {d : PyData} (f : Fit 2 1000 d) : ShT (dicS "ring" d) := by
  have sh : (dicS "ring" d).showable = true := by
    simp only [dicS, PyData.showable, PyData.showableKv, f.sh, Bool.and_true]
  have dp : (dicS "ring" d).depth ≤ 4 := by
    have := f.dep
    simp only [dicS, PyData.depth, PyData.depthKv]
    omega
  have lt : PyData.leavesShort 13 d = true := PyData.leavesShort_of_canLay0 13 _ f.lay f.short
  refine ⟨sh, by omega, PyData.shown_fits (B := 13) (by decide) (by decide) ?_ ?_⟩
  · simp only [dicS, PyData.leavesShort, PyData.leavesShortKv, lt, Bool.and_true]
    try decide +kernel
  · have := f.wt
    have z : (("ring" : Str).cps.size) ≤ 100 := by decide +kernel
    simp only [dicS, PyData.weight, PyData.weightKv]
    omega
theorem oneFlat {K : PySem.W.Frag} {H : Hp} {z : V} {d : PyData} (v : Vl K H z d) (l : d.depth ≤ 1) : One K H z d := ⟨v, .inl fun ds d2 e => by
  subst e
  simp only [PyData.depth, PyData.depthAll] at l
  omega⟩
theorem thg_one {K : PySem.W.Frag} {H : Hp} {x : V} {d : PyData} (o : One K H x d) (l : d.depth ≤ 2) : Thg K H x d := by
  refine ⟨o.vl, ?_⟩
  by_cases c : ∃ d1 d2, d = .tuple [d1, d2]
  · obtain ⟨d1, d2, rfl⟩ := c
    obtain ⟨q, xs, rfl, sq, al⟩ := dp_tup_out o.vl.dp
    obtain ⟨y, w, e1, e2, rfl, ee, h1, h2⟩ := dpAll_two al (by rw [dpAll_len al]; rfl)
    injection ee with ee1 ee
    injection ee with ee2 _
    subst ee1 ee2
    exact .inr ⟨q, y, w, d1, d2, rfl, rfl, sq, h1, oneFlat (vl_two o.vl h1 h2).2 (by simp only [PyData.depth, PyData.depthAll] at l; omega)⟩
  · exact .inl fun d1 d2 e => c ⟨d1, d2, e⟩
/-- a part of a thing -/
def Pt (K : PySem.W.Frag) (S : Addr → Prop) (x : V) (d : PyData) (H : Hp) : Prop := Fit 3 1400 d ∧ ∀ H', Kb S H H' → One K H' x d
inductive Pts (K : PySem.W.Frag) (S : Addr → Prop) (H : Hp) : List V → List PyData → Prop
  | nil : Pts K S H [] []
  | cons {x : V} {d : PyData} {xs : List V} {ds : List PyData} (h : Pt K S x d H) (r : Pts K S H xs ds) : Pts K S H (x :: xs) (d :: ds)
theorem Pts.dp {K : PySem.W.Frag} {S : Addr → Prop} {H H' : Hp} (k : Kb S H H') : ∀ {xs : List V} {ds : List PyData}, Pts K S H xs ds → DpAll K H' xs ds
  | _, _, .nil => .nil
  | _, _, .cons h r => .cons (h.2 H' k).vl.dp (r.dp k)
theorem Pts.fit {K : PySem.W.Frag} {S : Addr → Prop} {H : Hp} : ∀ {xs : List V} {ds : List PyData}, Pts K S H xs ds → FitAll 3 (1401 * ds.length) ds ∧ lzAll ds = true
  | _, _, .nil => ⟨FitAll.nil, rfl⟩
  | _, _, .cons h r => by
    obtain ⟨f, z⟩ := r.fit
    refine ⟨(FitAll.cons h.1 f).mono (Nat.le_refl _) (by rw [List.length_cons]; omega), ?_⟩
    rw [lzAll, (h.2 _ Kb.refl).vl.lz, z]
    rfl
def SmS (s : Str) : Prop := PyData.strOk s = true ∧ s.cps.size ≤ 100
theorem ptC {K : PySem.W.Frag} {S : Addr → Prop} {H : Hp} {x : V} {d : PyData} (f : Fit 1 100 d) (z : lz d = true) (h : ∀ H', Dp K H' x d) : Pt K S x d H :=
  ⟨f.mono (by decide) (by decide), fun H' _ => oneFlat ⟨h H', f.lay, Nat.le_trans f.dep (by decide), z⟩ f.dep⟩
theorem ptS {K : PySem.W.Frag} {S : Addr → Prop} {H : Hp} {s : Str} (h : SmS s) : Pt K S (.str s) (.str s) H := ptC ((Fit.str h.1).mono (Nat.le_refl _) h.2) rfl fun _ => .str _
theorem ptB {K : PySem.W.Frag} {S : Addr → Prop} {H : Hp} (b : Bool) : Pt K S (.bl b) (.bool b) H := ptC ((Fit.bool b).mono (Nat.le_refl _) (by decide)) rfl fun _ => .bl _
theorem ptN {K : PySem.W.Frag} {S : Addr → Prop} {H : Hp} : Pt K S .non .none H := ptC (Fit.none.mono (Nat.le_refl _) (by decide)) rfl fun _ => .non
theorem ptI {K : PySem.W.Frag} {S : Addr → Prop} {H : Hp} {i : Int} (h : i.natAbs < 2 ^ 30) : Pt K S (.int i) (.int i) H := ptC ((Fit.int h).mono (Nat.le_refl _) (by decide)) rfl fun _ => .int _
theorem ptE {K : PySem.W.Frag} {S : Addr → Prop} {H : Hp} {x : V} {d : PyData} (h : Ev K S x d H) : Pt K S x d H := ⟨h.1.mono (by decide) (by decide), fun H' k => (h.2 H' k).2⟩
/-- (x,) -/
theorem ptW {K : PySem.W.Frag} {S : Addr → Prop} {H : Hp} {x : V} {d : PyData} {r : Addr} (h : Ev K S x d H) (hr : H r = some (.tup [x])) (nS : ¬ S r) : Pt K S (.ref r) (.tuple [d]) H := by
  have f : Fit 3 1400 (.tuple [d]) := (Fit.tuple (FitAll.cons h.1 FitAll.nil)).mono (by decide) (by decide)
  refine ⟨f, fun H' k => ⟨⟨.tup (SqT.of (k _ _ nS hr)) (.cons (h.2 H' k).2.vl.dp .nil), f.lay, Nat.le_trans f.dep (by decide), ?_⟩, .inl fun _ _ e => nomatch e⟩⟩
  rw [lz, lzAll, lzAll, (h.2 H' k).2.vl.lz]
  rfl
/-- a thing -/
def Tv (K : PySem.W.Frag) (S : Addr → Prop) (x : V) (H : Hp) : Prop := (∃ D, Fit 4 5000 D ∧ ∀ H', Kb S H H' → Thg K H' x D) ∨ (∃ q, x = .ref q ∧ ¬ S q ∧ H q = some (.dK [])) ∨ ∃ (q : Addr) (z : V) (d : PyData), x = .ref q ∧ ¬ S q ∧ H q = some (.dK [(.inr "ring", z)]) ∧ Fit 2 1000 d ∧ ∀ H', Kb S H H' → DpB K H' z d
theorem Tv.mono {K : PySem.W.Frag} {S : Addr → Prop} {x : V} {H H1 : Hp} (h : Tv K S x H) (k : Kb S H H1) : Tv K S x H1 := by
  rcases h with ⟨D, f, h⟩ | ⟨q, e, n, h⟩ | ⟨q, z, d, e, n, h, f, db⟩
  · exact .inl ⟨D, f, fun H' k' => h H' (k.trans k')⟩
  · exact .inr (.inl ⟨q, e, n, k _ _ n h⟩)
  · exact .inr (.inr ⟨q, z, d, e, n, k _ _ n h, f, fun H' k' => db H' (k.trans k')⟩)
theorem Tv.ext {K : PySem.W.Frag} {S T : Addr → Prop} {x : V} {H : Hp} (h : Tv K S x H) (t : ∀ b, T b → S b ∨ H b = none) : Tv K T x H := by
  have kk : ∀ H', Kb T H H' → Kb S H H' := fun H' k' b o n e => k' b o (fun z => by
    rcases t b z with y | y
    · exact n y
    · rw [y] at e; cases e) e
  have nn : ∀ (q : Addr) (o : HO), ¬ S q → H q = some o → ¬ T q := fun q o n e z => by
    rcases t q z with y | y
    · exact n y
    · rw [y] at e; cases e
  rcases h with ⟨D, f, h⟩ | ⟨q, e, n, h⟩ | ⟨q, z, d, e, n, h, f, db⟩
  · exact .inl ⟨D, f, fun H' k' => h H' (kk H' k')⟩
  · exact .inr (.inl ⟨q, e, nn _ _ n h, h⟩)
  · exact .inr (.inr ⟨q, z, d, e, nn _ _ n h, h, f, fun H' k' => db H' (kk H' k')⟩)
theorem tvP {K : PySem.W.Frag} {S : Addr → Prop} {x : V} {d : PyData} {H : Hp} (h : Pt K S x d H) (l : d.depth ≤ 2) : Tv K S x H := .inl ⟨d, h.1.mono (by decide) (by decide), fun H' k => thg_one (h.2 H' k) l⟩
theorem tvE {K : PySem.W.Frag} {S : Addr → Prop} {x : V} {d : PyData} {H : Hp} (h : Ev K S x d H) : Tv K S x H := tvP (ptE h) h.1.dep
theorem tvT {K : PySem.W.Frag} {S : Addr → Prop} {H : Hp} {p : Addr} {xs : List V} {ds : List PyData} (hp : H p = some (.tup xs)) (nS : ¬ S p) (pts : Pts K S H xs ds) (l : ds.length ≤ 3 := by simp) : Tv K S (.ref p) H := by
  obtain ⟨f, z⟩ := pts.fit
  have ft : Fit 4 5000 (.tuple ds) := (Fit.tuple f).mono (Nat.le_refl _) (by omega)
  have zz : lz (.tuple ds) = true := by
    rw [lz, z, Bool.and_true]
    exact decide_eq_true (by omega)
  refine .inl ⟨_, ft, fun H' k => ⟨⟨.tup (SqT.of (k _ _ nS hp)) (pts.dp k), ft.lay, Nat.le_trans ft.dep (by decide), zz⟩, ?_⟩⟩
  by_cases c : ∃ d1 d2, ds = [d1, d2]
  · obtain ⟨d1, d2, rfl⟩ := c
    cases pts with
    | cons h1 r =>
      cases r with
      | cons h2 r =>
        cases r
        exact .inr ⟨p, _, _, d1, d2, rfl, rfl, SqT.of (k _ _ nS hp), (h1.2 H' k).vl.dp, h2.2 H' k⟩
  · exact .inl fun d1 d2 e => c ⟨d1, d2, by injection e⟩
theorem tvL {K : PySem.W.Frag} {S : Addr → Prop} {H : Hp} {p : Addr} {xs : List V} {ds : List PyData} (hp : H p = some (.lst xs)) (nS : ¬ S p) (pts : Pts K S H xs ds) (l : ds.length ≤ 3 := by simp) : Tv K S (.ref p) H := by
  obtain ⟨f, z⟩ := pts.fit
  have ft : Fit 4 5000 (.list ds) := (Fit.list f).mono (Nat.le_refl _) (by omega)
  have zz : lz (.list ds) = true := by
    rw [lz, z, Bool.and_true]
    exact decide_eq_true (by omega)
  exact .inl ⟨_, ft, fun H' k => ⟨⟨.lst (SqL.of (k _ _ nS hp)) (pts.dp k), ft.lay, Nat.le_trans ft.dep (by decide), zz⟩, .inl fun _ _ e => nomatch e⟩⟩
theorem tv0 {K : PySem.W.Frag} {S : Addr → Prop} {H : Hp} {q : Addr} (h : H q = some (.dK [])) (nS : ¬ S q) : Tv K S (.ref q) H := .inr (.inl ⟨q, rfl, nS, h⟩)
theorem tvD {K : PySem.W.Frag} {S : Addr → Prop} {H : Hp} {q : Addr} {x : V} {d : PyData} (e : Ev K S x d H) (h : H q = some (.dK [(.inr "ring", x)])) (nS : ¬ S q) : Tv K S (.ref q) H := .inr (.inr ⟨q, x, d, rfl, nS, h, e.1, fun H' k => (e.2 H' k).1⟩)
theorem Tv.use {K : PySem.W.Frag} {S : Addr → Prop} {x : V} {H : Hp} (h : Tv K S x H) : (∃ z, ∀ H', Same H H' → TxM K H' x z) ∧ ((∀ H', Same H H' → NoTu K H' x) ∨ ∃ D, ∀ H', Same H H' → Thg K H' x D) := by
  rcases h with ⟨D, f, h⟩ | ⟨q, rfl, n, h⟩ | ⟨q, z, d, rfl, n, h, f, db⟩
  · exact ⟨⟨_, fun H' k => .t (.dp (h H' (Kb.of k)).vl.dp (f.shD (h H' (Kb.of k)).vl.dp (by decide) (by decide)))⟩, .inr ⟨D, fun H' k => h H' (Kb.of k)⟩⟩
  · exact ⟨⟨_, fun H' k => .t (.dic0 (k _ _ h))⟩, .inl fun H' k => ⟨_, .base (.dK (k _ _ h)), kit_ty (by decide +kernel)⟩⟩
  · exact ⟨⟨_, fun H' k => .d (k _ _ h) (db H' (Kb.of k)) (ring_sh f)⟩, .inl fun H' k => ⟨_, .base (.dK (k _ _ h)), kit_ty (by decide +kernel)⟩⟩
theorem LS.nK {S : Addr → Prop} {H : Hp} {p : Addr} {ys : List (Key × V)} (l : LS S H) (h : H p = some (.dK ys)) : ¬ S p := fun s => by
  obtain ⟨xs, e⟩ := l p s
  rw [e] at h
  cases h
/-- a list of things -/
def Ts (K : PySem.W.Frag) (a X : Addr) (ys : List V) (H : Hp) : Prop := H X = some (.lst ys) ∧ ∀ y ∈ ys, Tv K (Sf2 a X) y H
theorem Ts.kp {K : PySem.W.Frag} {a X : Addr} {ys : List V} {H H' : Hp} (v : Ts K a X ys H) (n : X ≠ a) (k : Kp a H H') : Ts K a X ys H' := ⟨k _ _ n v.1, fun x hx => (v.2 x hx).mono (Kb.kp (.inl rfl) k)⟩
theorem Ts.same {K : PySem.W.Frag} {a X : Addr} {ys : List V} {H H' : Hp} (v : Ts K a X ys H) (k : Same H H') : Ts K a X ys H' := ⟨k _ _ v.1, fun x hx => (v.2 x hx).mono (Kb.of k)⟩
theorem Ts.app {K : PySem.W.Frag} {a X : Addr} {ys : List V} {H : Hp} {x : V} (v : Ts K a X ys H) (e : Tv K (Sf2 a X) x H) : Ts K a X (ys ++ [x]) (L2.upd H X (.lst (ys ++ [x]))) := ⟨upd_same, fun y hy => by
  rcases List.mem_append.mp hy with z | z
  · exact (v.2 y z).mono (Kb.put (.inr rfl))
  · rw [List.mem_singleton.mp z]
    exact e.mono (Kb.put (.inr rfl))⟩
theorem Ts.cat {K : PySem.W.Frag} {a X X2 : Addr} {xs ys : List V} {H : Hp} (v : Ts K a X xs H) (e : ∀ y ∈ ys, Tv K (fun b => b = a) y H) (n : H X2 = none) : Ts K a X2 (xs ++ ys) (L2.upd H X2 (.lst (xs ++ ys))) := ⟨upd_same, fun y hy => by
  rcases List.mem_append.mp hy with z | z
  · refine ((v.2 y z).ext fun b z => ?_).mono (Kb.put (.inr rfl))
    rcases z with z | z
    · exact .inl (.inl z)
    · exact .inr (by rw [z]; exact n)
  · refine ((e y z).ext fun b z => ?_).mono (Kb.put (.inr rfl))
    rcases z with z | z
    · exact .inl z
    · exact .inr (by rw [z]; exact n)⟩
theorem Ts.new {K : PySem.W.Frag} {a X : Addr} {xs : List V} {H : Hp} (e : ∀ y ∈ xs, Tv K (fun b => b = a) y H) (n : H X = none) : Ts K a X xs (L2.upd H X (.lst xs)) := ⟨upd_same, fun y hy => by
  refine ((e y hy).ext fun b z => ?_).mono (Kb.put (.inr rfl))
  rcases z with z | z
  · exact .inl z
  · exact .inr (by rw [z]; exact n)⟩
theorem lsA {a : Addr} {H : Hp} (s : Src H a) : LS (fun b => b = a) H := fun b z => by
  obtain ⟨x, y, w, e, _⟩ := s
  exact ⟨_, by rw [show b = a from z]; exact e⟩
end Pl
namespace Pl
open PySem PySem.Spec PyProof.Rows L2
def spLaw (K : PySem.W.Frag) : Sp := fun vs H Q _ => ∃ (a : Addr) (ns : List Int), vs = [.ref a] ∧ SqL K H a (ns.map V.int) ∧ ns.length ≤ 63 ∧ ∀ H', Q (.bl true) H'
theorem sk {p : Addr} {H1 H3 H4 : Hp} (k3 : Same H1 H3) (k4 : Kp p H3 H4) (np : H1 p = none) : Same H1 H4 := fun b o q => k4 _ _ (ne_of_none q np) (k3 _ _ q)
theorem ShAll.kpS {C p : Addr} {H H' : Hp} (s : Src H p) (k : Kp p H H') : ∀ {ss : List Addr} {rows : List (List Int)}, ShAll C H ss rows → ShAll C H' ss rows
  | _, _, .nil => .nil
  | _, _, .cons h r => .cons (h.kp s k) (r.kpS s k)
theorem DvAt.kpS {CD C p : Addr} {H H' : Hp} {d t : Addr} {ss : List Addr} {rows : List (List Int)} (h : DvAt CD C H d t ss rows) (s : Src H p) (k : Kp p H H') : DvAt CD C H' d t ss rows := by
  obtain ⟨⟨dx, h1⟩, h2, h3, h4⟩ := h
  exact ⟨⟨dx, k _ _ (s.neI h1) h1⟩, k _ _ (s.neT h2) h2, h3.kpS s k, h4⟩
theorem bShw (b : Bool) : Shw (.bool b) := (Fit.bool (k := 1) b).shw (by decide) (by decide)
theorem Tv.both {K : PySem.W.Frag} {S : Addr → Prop} {x : V} {H : Hp} (h : Tv K S x H) : ∃ VV : List (List Int) → Prop, (∀ (CD C : Addr) (H' : Hp) (Q : VK) (E : XK) (d t : Addr) (ss : List Addr) (rows : List (List Int)), Same H H' → DvAt CD C H' d t ss rows → (∀ (b : Bool) (H2 : Hp), Same H' H2 → (b = true ↔ VV rows) → Q (.bl b) H2) → spShowVd K CD C [.ref d, x] H' Q E) ∧
    (∀ (H' : Hp) (Q : VK) (E : XK) (l : Addr) (ts : List Addr) (rows : List (List Int)), Same H H' → H' l = some (.lst (ts.map V.ref)) → TpAll H' ts rows → Rows rows → (∀ (b : Bool) (H2 : Hp), Same H' H2 → (b = true ↔ VV rows) → Q (.bl b) H2) → spDueD K [.ref l, x] H' Q E) := by
  rcases h.use.2 with n | ⟨D, th⟩
  · exact ⟨fun _ => False, fun CD C H' Q E d t ss rows k dv q => ⟨d, t, ss, rows, x, rfl, dv, .inl ⟨n H' k, q false H' (Same.refl _) (by simp)⟩⟩, fun H' Q E l ts rows k hl tp rw_ q => ⟨l, ts, rows, x, rfl, hl, tp, rw_, .inl ⟨n H' k, q false H' (Same.refl _) (by simp)⟩⟩⟩
  · exact ⟨fun rows => VdD rows D, fun CD C H' Q E d t ss rows k dv q => ⟨d, t, ss, rows, x, rfl, dv, .inr ⟨D, (th H' k).vl, q⟩⟩, fun H' Q E l ts rows k hl tp rw_ q => ⟨l, ts, rows, x, rfl, hl, tp, rw_, .inr ⟨D, th H' k, q⟩⟩⟩
section
variable {P : Program} {w : World} {K : PySem.W.Frag} {mg : Str → Option Value} {base : Heap} {CShare CDivision CNoPerson : Addr}
abbrev st_law : Stmt := top 60
theorem sc_law : FnScope ["_law_script", "_law_index", "_law_source_here", "_law_lap", "_law_lines_here", "_law_division_here", "_law_things", "_law_one", "_law_thing", "_law_kept", "_law_told"] ["_law_script"] (defScope st_law) := ⟨rfl, rfl, rfl, by decide +kernel, rfl, by decide +kernel, by decide +kernel⟩
theorem ok_law (B : Bn mg) (c_l_cell : Cal P w K mg base 2 "_law_cell" ["_law_script", "_law_index"] (spCell K)) (c_l_source : Cal P w K mg base 2 "_law_source" ["_law_cell_here"] spSource) (c_l_draw : Cal P w K mg base 2 "_law_draw" ["_law_source_here", "_law_many"] spDraw) (c_l_choose : Cal P w K mg base 3 "_law_choose" ["_law_source_here", "_law_values"] spChoose) (c_l_lines : Cal P w K mg base 4 "_law_lines" ["_law_source_here", "_law_people_here", "_law_many"] spLines) (c_shows_verdict : Cal P w K mg base 8 "shows_verdict" ["division", "thing"] (spShowVd K CDivision CShare)) (c_l_division : Cal P w K mg base 8 "_law_division" ["_law_lines_here"] (spDiv CDivision CShare)) (c_l_some : Cal P w K mg base 5 "_law_some" ["_law_source_here", "_law_lines_here"] (spSome K)) (c_l_due : Cal P w K mg base 4 "_law_due" ["_law_lines_here", "_law_thing"] (spDueD K)) (c_l_is_equal : CalG P w K mg base 2 "_law_is_equal" ["_law_actual", "_law_expected"] (spEqualV K)) (D : Df K mg "law" st_law ["_law_script"]) : CalG P w K mg base 9 "law" ["_law_script"] (spLaw K) := by
  refine D.calG sc_law (fun vs H Q E h => ?_) (fun f cdv A out s H vs Q E gd hr h => ?_)
  · obtain ⟨a, ns, rfl, _⟩ := h
    rfl
  obtain ⟨sa, ns, rfl, sq, l63, k⟩ := h
  refine ⟨_, (pss_cons (ps_for PassesOwn.never rfl (pi_range1 (by rfl) B.n_range (pa_cons (pe_callB (call_max2 rfl) (by rfl) B.n_max (by decide +kernel) (pa_cons pe_int (pa_cons (pe_callB (call_min2 rfl) (by rfl) B.n_min (by decide +kernel) (pa_cons (pe_callB call_len_seq (by rfl) B.n_len (by decide +kernel) (pa_cons (pv 0) pa_nil)) (pa_cons pe_int pa_nil))) pa_nil))) pa_nil)) (pg_name (i := 1) sc_law.nd rfl (.inl rfl))
   (pss_cons (ps_set (i := 2) sc_law.nd rfl (.inl rfl) (pe_fn c_l_source (hr.mono (by decide)) (pa_cons (pe_fn c_l_cell (hr.mono (by decide)) (pa_cons (pv 0) (pa_cons (pv 1) pa_nil))) pa_nil)))
   (pss_one (ps_for PassesOwn.never rfl (pi_range1 (by rfl) B.n_range (pa_cons pe_int pa_nil)) (pg_name (i := 3) sc_law.nd rfl (.inl rfl))
   (pss_cons (ps_set (i := 4) sc_law.nd rfl (.inl rfl) (pe_fn c_l_lines (hr.mono (by decide)) (pa_cons (pv 2) (pa_cons (pe_op op_add pe_int (pe_fn c_l_draw (hr.mono (by decide)) (pa_cons (pv 2) (pa_cons pe_int pa_nil)))) (pa_cons (pe_op op_add pe_int (pe_fn c_l_draw (hr.mono (by decide)) (pa_cons (pv 2) (pa_cons pe_int pa_nil)))) pa_nil)))))
   (pss_cons (ps_par (i := 5) (j := 6) (by rfl) sc_law.nd rfl rfl (by decide) rfl rfl (pa_cons (pe_fn c_l_division (hr.mono (by decide)) (pa_cons (pv 4) pa_nil)) (pa_cons (pe_lst (pa_cons pe_non (pa_cons pe_bl (pa_cons pe_int (pa_cons pe_str (pa_cons pe_str (pa_cons (pe_tup pa_nil) (pa_cons (pe_lst pa_nil) (pa_cons pe_dnewK (pa_cons (pe_tup (pa_cons pe_str pa_nil)) pa_nil)))))))))) pa_nil)) (by rfl))
   (pss_cons (ps_for PassesOwn.never rfl (pi_list (pe_fn c_l_some (hr.mono (by decide)) (pa_cons (pv 2) (pa_cons (pv 4) pa_nil)))) (pg_name (i := 7) sc_law.nd rfl (.inl rfl))
   (pss_cons (ps_set (i := 6) sc_law.nd rfl (.inl rfl) (pe_op op_cat (pv 6) (pe_lst (pa_cons (pe_tup (pa_cons pe_str (pa_cons (pv 7) pa_nil))) (pa_cons (pe_tup (pa_cons pe_str (pa_cons (pv 7) pa_nil))) (pa_cons (pe_lst (pa_cons pe_str (pa_cons (pv 7) pa_nil))) (pa_cons (pe_tup (pa_cons pe_str (pa_cons (pv 7) pa_nil))) (pa_cons (pe_tup (pa_cons (pv 7) (pa_cons pe_str pa_nil))) (pa_cons (pv 7) pa_nil)))))))))
   (pss_one (ps_expr (pe_bm PySem.F.plainAttrs_list PySem.F.slot_list_append PySem.F.type_list_append mt_append (pv 6) (pa_cons (pe_fn c_l_choose (hr.mono (by decide)) (pa_cons (pv 2) (pa_cons (pe_lst (pa_cons (pe_tup (pa_cons pe_str (pa_cons (pv 7) (pa_cons (pv 7) pa_nil)))) (pa_cons (pe_tup (pa_cons pe_bl (pa_cons (pv 7) pa_nil))) (pa_cons (pe_disp (pps_cons pe_str (pv 7) pps_nil) (by rfl) (by rfl) (fun z => by cases z) (by decide)) (pa_cons (pe_tup (pa_cons pe_str (pa_cons (pe_tup (pa_cons (pv 7) pa_nil)) pa_nil))) pa_nil))))) pa_nil))) pa_nil))))))
   (pss_one (ps_for PassesOwn.never rfl (pi_list (pv 6)) (pg_name (i := 8) sc_law.nd rfl (.inl rfl))
   (pss_cons (ps_par (i := 9) (j := 10) (by rfl) sc_law.nd rfl rfl (by decide) rfl rfl (pa_cons (pe_callB (call_reprM gd (un66 hr)) (by rfl) B.n_repr (by decide +kernel) (pa_cons (pv 8) pa_nil)) (pa_cons (pe_fn c_shows_verdict (hr.mono (by decide)) (pa_cons (pv 5) (pa_cons (pv 8) pa_nil))) pa_nil)) (by rfl))
   (pss_one (ps_if (PW.pt (pw_or (pt_not (pt_val (pe_fnG c_l_is_equal gd (hr.mono (by decide)) (pa_cons (pv 10) (pa_cons (pe_fn c_l_due (hr.mono (by decide)) (pa_cons (pv 4) (pa_cons (pv 8) pa_nil))) pa_nil))))) (pw_or1 (pt_cmpR op_ne (pe_callB (call_reprM gd (un66 hr)) (by rfl) B.n_repr (by decide +kernel) (pa_cons (pv 8) pa_nil)) (pv 9) (nomark _))))) (pss_one (ps_ret pe_bl)) pss_nil))))))))))))
   (pss_one (ps_ret pe_bl))), ?_⟩
  refine ⟨_, rfl, sa, _, rfl, .inl sq, _, _, rfl, _, _, rfl, _, rfl, ?_, ?_, ?_⟩
  · split <;> split <;> omega
  · split <;> split <;> omega
  generalize (Int.toNat _) = n
  refine for_range (lo := 0) (n := n) (fun i σ H' => ∃ v1 v2 v3 v4 v5 v6 v7 v8 v9 v10 : Option V, σ = [some (.ref sa), v1, v2, v3, v4, v5, v6, v7, v8, v9, v10] ∧ Same H H') ⟨none, none, none, none, none, none, none, none, none, none, rfl, Same.refl H⟩ ?_ (fun σ H' _ => k H')
  rintro i σ H1 _ ⟨v1, v2, v3, v4, v5, v6, v7, v8, v9, v10, rfl, k1⟩
  refine ⟨_, rfl, _, rfl, sa, ns, _, rfl, k1.seq sq, by omega, fun c => ⟨c, rfl, fun a H2 np src k2 => ?_⟩⟩
  refine ⟨2, rfl, by decide, by decide, ?_⟩
  refine for_range (lo := 0) (n := 2) (fun j σ H' => ∃ v3 v4 v5 v6 v7 v8 v9 v10 : Option V, σ = [some (.ref sa), some (.int (0 + i)), some (.ref a), v3, v4, v5, v6, v7, v8, v9, v10] ∧ Src H' a ∧ Same H1 H') ⟨v3, v4, v5, v6, v7, v8, v9, v10, rfl, src, k2⟩ ?_ (fun σ H' ⟨v3, v4, v5, v6, v7, v8, v9, v10, e, _, k3⟩ => ⟨_, _, _, _, _, _, _, _, _, _, e, k1.trans k3⟩)
  rintro j σ H3 hj ⟨v3, v4, v5, v6, v7, v8, v9, v10, rfl, s3, k3⟩
  refine ⟨_, rfl, _, rfl, a, 3, rfl, s3, by decide, by decide, fun r1 H4 r10 r11 s4 k4 => ⟨_, _, rfl, rfl, ?_⟩⟩
  refine ⟨_, rfl, a, 4, rfl, s4, by decide, by decide, fun r2 H6 r20 r21 s6 k6 => ⟨_, _, rfl, rfl, ?_⟩⟩
  have e1 : (((2 + r1).toNat : Nat) : Int) = 2 + r1 := by omega
  have e2 : (((2 + r2).toNat : Nat) : Int) = 2 + r2 := by omega
  refine ⟨a, (2 + r1).toNat, (2 + r2).toNat, by rw [e1, e2]; rfl, s6, by omega, by omega, by omega, by omega, fun l ts rows H7 rw_ tp hl lp s7 k7 _ => ?_⟩
  have a7 : Same H1 H7 := sk k3 ((k4.trans k6).trans k7) np
  clear e1 e2 r10 r11 r20 r21 k4 k6 k7 s3 s4 s6 k2 k3 src
  refine ⟨_, rfl, l, ts, rows, rfl, hl, tp, rw_, fun d t ss' H8 k8 dv => ?_⟩
  refine ⟨Nat.zero_le _, fun q1 hq1 => ?_⟩
  generalize hA : upd H8 q1 _ = A1
  obtain ⟨j1, e1⟩ := alloc hA hq1
  clear hA
  refine ⟨Nat.zero_le _, fun q2 hq2 => ?_⟩
  generalize hA : upd A1 q2 _ = A2
  obtain ⟨j2, e2⟩ := alloc hA hq2
  clear hA
  refine fun q3 hq3 => ?_
  generalize hA : upd A2 q3 _ = A3
  obtain ⟨j3, e3⟩ := alloc hA hq3
  clear hA
  refine ⟨(by show 1 ≤ sizeLine; decide), fun q4 hq4 => ?_⟩
  generalize hA : upd A3 q4 _ = A4
  obtain ⟨j4, e4⟩ := alloc hA hq4
  clear hA
  have j14 := j1.trans (j2.trans (j3.trans j4))
  have s04 := s7.same (k8.trans j14)
  have ls4 := lsA s04
  refine ⟨(by show 9 ≤ sizeLine; decide), fun X0 hX0 => ?_⟩
  have e1 := (j2.trans (j3.trans j4)) _ _ e1
  have e2 := (j3.trans j4) _ _ e2
  have e3 := j4 _ _ e3
  have new : ∀ y ∈ [V.non, .bl true, .int 0, .str "ring", .str "", .ref q1, .ref q2, .ref q3, .ref q4], Tv K (fun b => b = a) y A4 := by
    intro y hy
    simp only [List.mem_cons, List.not_mem_nil, or_false] at hy
    rcases hy with rfl | rfl | rfl | rfl | rfl | rfl | rfl | rfl | rfl
    · exact tvP ptN (by decide)
    · exact tvP (ptB true) (by decide)
    · exact tvP (ptI (by decide)) (by decide)
    · exact tvP (ptS ⟨by decide +kernel, by decide +kernel⟩) (by simp [PyData.depth])
    · exact tvP (ptS ⟨by decide +kernel, by decide +kernel⟩) (by simp [PyData.depth])
    · exact tvT e1 (ls4.nT e1) .nil
    · exact tvL e2 (fun z => (s7.same (k8.trans j1)).ne hq2 z) .nil
    · exact tv0 e3 (ls4.nK e3)
    · exact tvT e4 (ls4.nT e4) (.cons (ptS ⟨by decide +kernel, by decide +kernel⟩) .nil)
  have t0 := Ts.new new hX0
  have X0a := s04.ne hX0
  generalize hA : upd A4 X0 _ = A5 at t0 ⊢
  obtain ⟨j5, _⟩ := alloc hA hX0
  have k15 := j14.trans j5
  have s05 := s04.same j5
  have k85 := k8.trans k15
  clear hA new e1 e2 e3 e4 j1 j2 j3 j4 j5 j14 hq1 hq2 hq3 hq4 hX0 s04 ls4
  refine ⟨_, _, rfl, ?_⟩
  refine ⟨_, rfl, _, rfl, ?_⟩
  refine ⟨a, l, ts, rows, rfl, s05, lp, k85 _ _ hl, tp.same k85, rw_, fun F xs Hs ks ss_ Fa hF lx ev => ?_⟩
  have ts0 := t0.kp X0a ks
  refine ⟨F, rfl, ⟨_, SqL.of hF⟩, for_list (K := K) (a := F) (xs := xs) (fun m σ H' => ∃ (v7 v8 v9 v10 : Option V) (X : Addr) (ys : List V), σ = [some (.ref sa), some (.int (0 + i)), some (.ref a), some (.int (0 + j)), some (.ref l), some (.ref d), some (.ref X), v7, v8, v9, v10] ∧ Ts K a X ys H' ∧ X ≠ a ∧ ys.length ≤ 9 + 7 * m ∧ Kp a Hs H' ∧ Src H' a) ⟨v7, v8, v9, v10, X0, _, rfl, ts0, X0a, (by show 9 ≤ 9; decide), Kp.refl a Hs, ss_⟩ (fun m σ H' _ ⟨_, _, _, _, _, _, _, _, _, _, kp, _⟩ => SqL.of (kp _ _ Fa hF)) ?_ ?_⟩
  · rintro m x σ H9 hx ⟨v7, v8, v9, v10, X, ys, rfl, ts9, Xa, ly, k9, s9⟩
    obtain ⟨dx, ex⟩ := ev x (List.mem_of_getElem? hx)
    have ex := ex.mono (Kb.kp (S := fun b => b = a) rfl k9)
    have lm : m < xs.length := (List.getElem?_eq_some_iff.mp hx).1
    -- six
    refine ⟨_, rfl, ?_⟩
    refine ⟨_, rfl, (by show 2 ≤ sizeLine; decide), fun p1 hp1 => ?_⟩
    generalize hA : upd H9 p1 _ = A1
    obtain ⟨j1, e1⟩ := alloc hA hp1
    clear hA
    refine ⟨_, rfl, (by show 2 ≤ sizeLine; decide), fun p2 hp2 => ?_⟩
    generalize hA : upd A1 p2 _ = A2
    obtain ⟨j2, e2⟩ := alloc hA hp2
    clear hA
    refine ⟨_, rfl, (by show 2 ≤ sizeLine; decide), fun p3 hp3 => ?_⟩
    have n3 := (s9.same (j1.trans j2)).ne hp3
    generalize hA : upd A2 p3 _ = A3
    obtain ⟨j3, e3⟩ := alloc hA hp3
    clear hA
    refine ⟨_, rfl, (by show 2 ≤ sizeLine; decide), fun p4 hp4 => ?_⟩
    generalize hA : upd A3 p4 _ = A4
    obtain ⟨j4, e4⟩ := alloc hA hp4
    clear hA
    refine ⟨_, rfl, (by show 2 ≤ sizeLine; decide), fun p5 hp5 => ?_⟩
    generalize hA : upd A4 p5 _ = A5
    obtain ⟨j5, e5⟩ := alloc hA hp5
    clear hA
    refine ⟨_, rfl, (by show 6 ≤ sizeLine; decide), fun M hM => ?_⟩
    generalize hA : upd A5 M _ = A6
    obtain ⟨j6, e6⟩ := alloc hA hM
    clear hA
    have j16 := j1.trans (j2.trans (j3.trans (j4.trans (j5.trans j6))))
    have s6 := s9.same j16
    have ls6 := lsA s6
    have x6 := ex.mono (Kb.of j16)
    have e1 := (j2.trans (j3.trans (j4.trans (j5.trans j6)))) _ _ e1
    have e2 := (j3.trans (j4.trans (j5.trans j6))) _ _ e2
    have e3 := (j4.trans (j5.trans j6)) _ _ e3
    have e4 := (j5.trans j6) _ _ e4
    have e5 := j6 _ _ e5
    have new : ∀ y ∈ [V.ref p1, .ref p2, .ref p3, .ref p4, .ref p5, x], Tv K (fun b => b = a) y A6 := by
      intro y hy
      simp only [List.mem_cons, List.not_mem_nil, or_false] at hy
      rcases hy with rfl | rfl | rfl | rfl | rfl | rfl
      · exact tvT e1 (ls6.nT e1) (.cons (ptS ⟨by decide +kernel, by decide +kernel⟩) (.cons (ptE x6) .nil))
      · exact tvT e2 (ls6.nT e2) (.cons (ptS ⟨by decide +kernel, by decide +kernel⟩) (.cons (ptE x6) .nil))
      · exact tvL e3 n3 (.cons (ptS ⟨by decide +kernel, by decide +kernel⟩) (.cons (ptE x6) .nil))
      · exact tvT e4 (ls6.nT e4) (.cons (ptS ⟨by decide +kernel, by decide +kernel⟩) (.cons (ptE x6) .nil))
      · exact tvT e5 (ls6.nT e5) (.cons (ptE x6) (.cons (ptS ⟨by decide +kernel, by decide +kernel⟩) .nil))
      · exact tvE x6
    have ts6 := ts9.same j16
    refine ⟨X, M, _, _, rfl, rfl, ts6.1, e6, Nat.le_of_lt (size_lt' (by show ys.length + 6 ≤ 10000; omega)), fun X1 hX1 => ?_⟩
    have t1 := ts6.cat new hX1
    have X1a := s6.ne hX1
    have X1H : Hs X1 = none := (k9.trans (Kp.of j16)).free X1a hX1
    have x7 : Ev K (Sf2 a X1) x dx A6 := x6.ext fun b z => by
      rcases z with z | z
      · exact .inl z
      · exact .inr (by rw [z]; exact hX1)
    generalize hA : upd A6 X1 _ = A7 at t1 ⊢
    obtain ⟨j7, _⟩ := alloc hA hX1
    clear hA
    have x7 := x7.mono (Kb.of j7)
    have j17 := j16.trans j7
    have s7' := s6.same j7
    clear new e1 e2 e3 e4 e5 e6 ls6 ts6 n3 j1 j2 j3 j4 j5 j6 j16 hp1 hp2 hp3 hp4 hp5 hM hX1 s6 x6 ts9 ex j7
    -- one of four
    refine ⟨_, rfl, .inl ⟨rfl, _, SqL.of t1.1⟩, ?_⟩
    refine ⟨_, rfl, ?_⟩
    refine ⟨_, rfl, _, rfl, (by show 3 ≤ sizeLine; decide), fun p1 hp1 => ?_⟩
    generalize hA : upd A7 p1 _ = A1
    obtain ⟨j1, e1⟩ := alloc hA hp1
    clear hA
    refine ⟨_, rfl, (by show 2 ≤ sizeLine; decide), fun p2 hp2 => ?_⟩
    generalize hA : upd A1 p2 _ = A2
    obtain ⟨j2, e2⟩ := alloc hA hp2
    clear hA
    refine fun p3 hp3 => ⟨_, rfl, upd_same, [(.inr "ring", x)], rfl, (by show 1 ≤ 15; decide), ?_⟩
    have j3 : Same A2 (upd (upd A2 p3 (.dK [])) p3 (.dK (mergeK [] [(.inr "ring", x)]))) := same_put (same_new (Same.refl A2) hp3) hp3
    have e3 : (upd (upd A2 p3 (.dK [])) p3 (.dK (mergeK [] [(.inr "ring", x)]))) p3 = some (.dK [(.inr "ring", x)]) := upd_same
    generalize (upd (upd A2 p3 (.dK [])) p3 (.dK (mergeK [] [(.inr "ring", x)]))) = A3 at j3 e3 ⊢
    refine ⟨_, rfl, (by show 1 ≤ sizeLine; decide), fun p4 hp4 => ?_⟩
    generalize hA : upd A3 p4 _ = A4
    obtain ⟨j4, e4⟩ := alloc hA hp4
    clear hA
    refine ⟨(by show 2 ≤ sizeLine; decide), fun p5 hp5 => ?_⟩
    generalize hA : upd A4 p5 _ = A5
    obtain ⟨j5, e5⟩ := alloc hA hp5
    clear hA
    refine ⟨(by show 4 ≤ sizeLine; decide), fun M hM => ?_⟩
    have Ma := (s7'.same (j1.trans (j2.trans (j3.trans (j4.trans j5))))).ne hM
    generalize hA : upd A5 M _ = A6
    obtain ⟨j6, e6⟩ := alloc hA hM
    clear hA
    have j16 := j1.trans (j2.trans (j3.trans (j4.trans (j5.trans j6))))
    have s6 := s7'.same j16
    have t6 := t1.same j16
    have ls6 := lsF s6 t6.1
    have x6 := x7.mono (Kb.of j16)
    have e1 := (j2.trans (j3.trans (j4.trans (j5.trans j6)))) _ _ e1
    have e2 := (j3.trans (j4.trans (j5.trans j6))) _ _ e2
    have e3 := (j4.trans (j5.trans j6)) _ _ e3
    have e4 := (j5.trans j6) _ _ e4
    have e5 := j6 _ _ e5
    have new : ∀ y ∈ [V.ref p1, .ref p2, .ref p3, .ref p5], Tv K (Sf2 a X1) y A6 := by
      intro y hy
      simp only [List.mem_cons, List.not_mem_nil, or_false] at hy
      rcases hy with rfl | rfl | rfl | rfl
      · exact tvT e1 (ls6.nT e1) (.cons (ptS ⟨by decide +kernel, by decide +kernel⟩) (.cons (ptE x6) (.cons (ptE x6) .nil)))
      · exact tvT e2 (ls6.nT e2) (.cons (ptB true) (.cons (ptE x6) .nil))
      · exact tvD x6 e3 (ls6.nK e3)
      · exact tvT e5 (ls6.nT e5) (.cons (ptS ⟨by decide +kernel, by decide +kernel⟩) (.cons (ptW x6 e4 (ls6.nT e4)) .nil))
    try dsimp only [tNil]
    refine ⟨a, M, _, rfl, s6, e6, Ma, (by show 0 < 4; decide), (by show 4 ≤ 1000; decide), fun v Hv hv sv kv => ?_⟩
    have tv := (new v hv).mono (Kb.kp (S := Sf2 a X1) (.inl rfl) kv)
    have t7 := t6.kp X1a kv
    refine ⟨X1, _, _, rfl, rfl, t7.1, size_lt' (by show (ys ++ [_, _, _, _, _, _]).length ≤ 10000; rw [List.length_append]; show ys.length + 6 ≤ 10000; omega), ?_⟩
    have kk : Kp a Hs Hv := k9.trans ((Kp.of (j17.trans j16)).trans kv)
    exact ⟨_, _, _, _, X1, _, rfl, t7.app tv, X1a, (by rw [List.length_append, List.length_append]; show ys.length + 6 + 1 ≤ _; omega), kk.put X1H, sv.put X1a⟩
  rintro σ H9 ⟨v7, v8, v9, v10, X, ys, rfl, ts9, Xa, ly, k9, s9⟩
  have kk9 := ks.trans k9
  have dv9 := (dv.same k15).kpS s05 kk9
  have tp9 := (tp.same k85).kp s05 kk9
  have hl9 := kk9 _ _ lp (k85 _ _ hl)
  refine ⟨_, rfl, X, rfl, ⟨_, SqL.of ts9.1⟩, for_list (K := K) (a := X) (xs := ys) (fun m σ H' => ∃ (v8 v9 v10 : Option V), σ = [some (.ref sa), some (.int (0 + i)), some (.ref a), some (.int (0 + j)), some (.ref l), some (.ref d), some (.ref X), v7, v8, v9, v10] ∧ Same H9 H') ⟨v8, v9, v10, rfl, Same.refl _⟩ (fun m σ H' _ ⟨_, _, _, _, z⟩ => SqL.of (z _ _ ts9.1)) ?_ ?_⟩
  · rintro m x σ Ha hx ⟨v8, v9, v10, rfl, ka⟩
    have tx := ts9.2 x (List.mem_of_getElem? hx)
    obtain ⟨z, tz⟩ := tx.use.1
    obtain ⟨VV, bS, bD⟩ := tx.both
    refine ⟨_, rfl, x, z, rfl, tz _ ka, _, rfl, _, rfl, ?_⟩
    try dsimp only [tNil]
    refine bS _ _ Ha _ _ d t ss' rows ka (dv9.same ka) fun b Hb kb hb => ?_
    have kab := ka.trans kb
    refine ⟨_, _, rfl, _, rfl, _, rfl, _, rfl, ?_⟩
    try dsimp only [tNil]
    refine bD Hb _ _ l ts rows kab (kab _ _ hl9) (tp9.same kab) rw_ fun b' Hc kc hb' => ?_
    obtain rfl : b = b' := by
      have := hb.trans hb'.symm
      cases b <;> cases b' <;> simp_all
    refine ⟨.bl b, .bl b, _, _, rfl, .bl b, .bl b, (bShw b).v, (bShw b).v, ?_⟩
    rw [decide_eq_true rfl]
    refine ⟨_, rfl, iteF ?_⟩
    exact ⟨_, rfl, x, z, rfl, tz _ (kab.trans kc), _, rfl, rfl, _, rfl, iteNS rfl ⟨_, _, _, rfl, kab.trans kc⟩⟩
  · rintro σ Ha ⟨v8, v9, v10, rfl, ka⟩
    exact ⟨_, _, _, _, _, _, _, _, rfl, s9.same ka, sk a7 ((Kp.of k85).trans (kk9.trans (Kp.of ka))) np⟩
end
end Pl
namespace Pl
open PySem PySem.Spec PyProof.Rows L2
theorem all_ok {P : Program} {w : World} {K : PySem.W.Frag} {mg : Str → Option Value} {h base : Heap} {CShare CDivision CNoPerson : Addr} (X : K.In h) (G : h.Ns mainGlobals mg) (aShare : PySem.W.nsIn K mainGlobals "Share" = some (some (.ref CShare))) (sShare : ShF K CShare) (fShare : CallF K CShare) (mShare_init : MhK K CShare "__init__" "Share.__init__" st_ShInit) (mShare_len : MhK K CShare "__len__" "Share.__len__" st_Sh_len) (aDivision : PySem.W.nsIn K mainGlobals "Division" = some (some (.ref CDivision))) (sDivision : DvF K CDivision) (mDivision_init : MhK K CDivision "__init__" "Division.__init__" st_DvInit) (mDivision_getitem : MhK K CDivision "__getitem__" "Division.__getitem__" st_Di_getitem) (pShare_amounts : PhK K CShare "amounts" "Share.amounts" st_Sh_amounts) (pDivision_people : PhK K CDivision "people" "Division.people" st_Di_people) (pDivision_states : PhK K CDivision "states" "Division.states" st_Di_states) (d_is_integer : DfK K "is_integer" st_is_integer) (d_is_integer_to : DfK K "is_integer_to" st_is_integer_to) (d_is_amounts : DfK K "is_amounts" st_is_amounts) (d_check_pair : DfK K "check_pair" st_check_pair) (d_check_division : DfK K "check_division" st_check_division) (d_read_share : DfK K "read_share" st_read_share) (d_read_amount : DfK K "read_amount" st_read_amount) (d_shows_levels : DfK K "shows_levels" st_shows_levels) (d_rise : DfK K "rise" st_rise) (d_level_needs : DfK K "level_needs" st_level_needs) (d_meets : DfK K "meets" st_meets) (d_l_cell : DfK K "_law_cell" st_l_cell) (d_l_source : DfK K "_law_source" st_l_source) (d_l_draw : DfK K "_law_draw" st_l_draw) (d_l_choose : DfK K "_law_choose" st_l_choose) (d_l_is_equal : DfK K "_law_is_equal" st_l_is_equal) (d_l_orderly : DfK K "_law_orderly" st_l_orderly) (d_l_lines : DfK K "_law_lines" st_l_lines) (d_l_division : DfK K "_law_division" st_l_division) (d_l_edges : DfK K "_law_edges" st_l_edges) (d_l_levels : DfK K "_law_levels" st_l_levels) (d_l_are_levels : DfK K "_law_are_levels" st_l_are_levels) (d_is_pair : DfK K "is_pair" st_is_pair) (d_is_numbers : DfK K "is_numbers" st_is_numbers) (d_steps_around : DfK K "steps_around" st_steps_around) (d_shows_ring : DfK K "shows_ring" st_shows_ring) (d_shows_verdict : DfK K "shows_verdict" st_shows_verdict) (d_l_tuples : DfK K "_law_tuples" st_l_tuples) (d_l_rises : DfK K "_law_rises" st_l_rises) (d_l_people : DfK K "_law_people" st_l_people) (d_l_ring : DfK K "_law_ring" st_l_ring) (d_l_is_ring : DfK K "_law_is_ring" st_l_is_ring) (d_l_some : DfK K "_law_some" st_l_some) (d_l_due : DfK K "_law_due" st_l_due) (d_law : DfK K "law" st_law) (n_len : PySem.W.nsIn K mainGlobals "len" = some none) (n_range : PySem.W.nsIn K mainGlobals "range" = some none) (n_max : PySem.W.nsIn K mainGlobals "max" = some none) (n_min : PySem.W.nsIn K mainGlobals "min" = some none) (n_sum : PySem.W.nsIn K mainGlobals "sum" = some none) (n_sorted : PySem.W.nsIn K mainGlobals "sorted" = some none) (n_all : PySem.W.nsIn K mainGlobals "all" = some none) (n_isinstance : PySem.W.nsIn K mainGlobals "isinstance" = some none) (n_repr : PySem.W.nsIn K mainGlobals "repr" = some none) (n_tuple : PySem.W.nsIn K mainGlobals "tuple" = some none) (n_list : PySem.W.nsIn K mainGlobals "list" = some none) (n_int : PySem.W.nsIn K mainGlobals "int" = some none) (n_bool : PySem.W.nsIn K mainGlobals "bool" = some none) (n_zip : PySem.W.nsIn K mainGlobals "zip" = some none) (n_str : PySem.W.nsIn K mainGlobals "str" = some none) (n_set : PySem.W.nsIn K mainGlobals "set" = some none) (c_FEWEST_STATES : ConI K "FEWEST_STATES" 2) (c_MOST_STATES : ConI K "MOST_STATES" 6) (c_MOST_IN_A_STATE : ConI K "MOST_IN_A_STATE" 30) (c_FEWEST_PEOPLE : ConI K "FEWEST_PEOPLE" 2) (c_MOST_PEOPLE : ConI K "MOST_PEOPLE" 4) (c_SHORTEST_RING : ConI K "SHORTEST_RING" 2) (x_NoPerson : ExF K "NoPerson" CNoPerson) (cmR : CmK K CDivision "read" "Division.read" st_Di_read) (cvM : CvK K CDivision "MOST" 30) (gD : ItemF K CDivision) :
    CalG P w K mg base 9 "law" ["_law_script"] (spLaw K) := by
  have B : Bn mg := ⟨PySem.W.mg_none_of X G n_len, PySem.W.mg_none_of X G n_range, PySem.W.mg_none_of X G n_max, PySem.W.mg_none_of X G n_min, PySem.W.mg_none_of X G n_sum, PySem.W.mg_none_of X G n_sorted, PySem.W.mg_none_of X G n_all, PySem.W.mg_none_of X G n_isinstance, PySem.W.mg_none_of X G n_repr, PySem.W.mg_none_of X G n_tuple, PySem.W.mg_none_of X G n_list, PySem.W.mg_none_of X G n_int, PySem.W.mg_none_of X G n_bool, PySem.W.mg_none_of X G n_zip, PySem.W.mg_none_of X G n_str⟩
  have Cc : Cn mg := ⟨c_FEWEST_STATES.mg X G, c_MOST_STATES.mg X G, c_MOST_IN_A_STATE.mg X G⟩
  have S : ShK K mg CShare := sShare.k fShare (PySem.W.mg_of X G aShare)
  have e_NoPerson := x_NoPerson.k X G
  have Cdd : Cd mg := ⟨c_FEWEST_PEOPLE.mg X G, c_MOST_PEOPLE.mg X G⟩
  have SD : DvK K mg CDivision := sDivision.k (PySem.W.mg_of X G aDivision)
  have c_isi := ok_isi (P := P) (w := w) (base := base) B (d_is_integer.df X G (fun _ _ _ _ _ _ us hl => match us, hl with | [_], _ => rfl))
  have c_isint := ok_isint c_isi (d_is_integer_to.df X G (fun _ _ _ _ _ _ us hl => match us, hl with | [_, _], _ => rfl))
  have c_isam := ok_isam B Cc c_isint (d_is_amounts.df X G (fun _ _ _ _ _ _ us hl => match us, hl with | [_], _ => rfl))
  have m_init := ok_init S c_isam (mShare_init.mh (fun _ _ _ _ _ _ us hl => match us, hl with | [_, _], _ => rfl))
  have p_amounts := ok_pamounts (P := P) (w := w) (base := base) S (pShare_amounts.ph (fun _ _ _ _ _ _ us hl => match us, hl with | [_], _ => rfl))
  have m_len := ok_len (P := P) (w := w) (base := base) B S (mShare_len.mh (fun _ _ _ _ _ _ us hl => match us, hl with | [_], _ => rfl))
  have c_pair := ok_pair B S m_len (d_check_pair.df X G (fun _ _ _ _ _ _ us hl => match us, hl with | [_, _], _ => rfl))
  have c_rdA := ok_readAmount (P := P) (w := w) (base := base) B SD cvM (d_read_amount.df X G (fun _ _ _ _ _ _ us hl => match us, hl with | [_], _ => rfl))
  have c_rdS := ok_readShare B S m_init c_rdA (d_read_share.df X G (fun _ _ _ _ _ _ us hl => match us, hl with | [_], _ => rfl))
  have m_dinit := ok_dvInit B Cdd SD c_pair mDivision_init
  have c_read := ok_read B SD c_rdS m_dinit cmR
  have p_people := ok_people (P := P) (w := w) (base := base) (CShare:=CShare) B SD (pDivision_people.ph (fun _ _ _ _ _ _ us hl => match us, hl with | [_], _ => rfl))
  have p_states := ok_states B SD m_len (pDivision_states.ph (fun _ _ _ _ _ _ us hl => match us, hl with | [_], _ => rfl))
  have m_item := ok_dvItem (CShare:=CShare) B SD e_NoPerson c_isint (mDivision_getitem.mh (fun _ _ _ _ _ _ us hl => match us, hl with | [_, _], _ => rfl))
  have c_chk := ok_checkD (P := P) (w := w) (base := base) (CShare:=CShare) B SD (d_check_division.df X G (fun _ _ _ _ _ _ us hl => match us, hl with | [_], _ => rfl))
  have c_rise := ok_rise S SD gD.fi p_amounts m_item (d_rise.df X G (fun _ _ _ _ _ _ us hl => match us, hl with | [_, _, _, _], _ => rfl))
  have c_needs := ok_needs B SD p_people p_states c_rise (d_level_needs.df X G (fun _ _ _ _ _ _ us hl => match us, hl with | [_], _ => rfl))
  have c_meets := ok_meetsF (P := P) (w := w) (base := base) B (d_meets.df X G (fun _ _ _ _ _ _ us hl => match us, hl with | [_, _], _ => rfl))
  have c_steps := ok_stepsF (P := P) (w := w) (base := base) B (d_steps_around.df X G (fun _ _ _ _ _ _ us hl => match us, hl with | [_], _ => rfl))
  have c_isPair := ok_isPairF (P := P) (w := w) (base := base) B (d_is_pair.df X G (fun _ _ _ _ _ _ us hl => match us, hl with | [_], _ => rfl))
  have c_nums := ok_numsF B c_isint (d_is_numbers.df X G (fun _ _ _ _ _ _ us hl => match us, hl with | [_, _], _ => rfl))
  have c_showR := ok_showRF B (PySem.W.mg_none_of X G n_set) (c_SHORTEST_RING.mg X G) SD p_people p_states c_chk c_isPair c_nums c_steps c_rise (d_shows_ring.df X G (fun _ _ _ _ _ _ us hl => match us, hl with | [_, _], _ => rfl))
  have c_showV := ok_showVF B SD p_states c_chk c_isi c_needs c_meets (d_shows_levels.df X G (fun _ _ _ _ _ _ us hl => match us, hl with | [_, _], _ => rfl))
  have c_showVd := ok_showVd B c_chk c_isPair c_showR c_showV (d_shows_verdict.df X G (fun _ _ _ _ _ _ us hl => match us, hl with | [_, _], _ => rfl))
  have c_cell := ok_cell (P := P) (w := w) (base := base) B (d_l_cell.df X G (fun _ _ _ _ _ _ us hl => match us, hl with | [_, _], _ => rfl))
  have c_source := ok_source (P := P) (w := w) (base := base) B (d_l_source.df X G (fun _ _ _ _ _ _ us hl => match us, hl with | [_], _ => rfl))
  have c_draw := ok_draw (P := P) (w := w) (base := base) (d_l_draw.df X G (fun _ _ _ _ _ _ us hl => match us, hl with | [_, _], _ => rfl))
  have c_choose := ok_choose B c_draw (d_l_choose.df X G (fun _ _ _ _ _ _ us hl => match us, hl with | [_, _], _ => rfl))
  have c_equal := ok_equalV (P := P) (w := w) (base := base) B (d_l_is_equal.df X G (fun _ _ _ _ _ _ us hl => match us, hl with | [_, _], _ => rfl))
  have c_ord := ok_orderly B c_draw (d_l_orderly.df X G (fun _ _ _ _ _ _ us hl => match us, hl with | [_, _, _, _], _ => rfl))
  have c_lines := ok_lines B c_draw c_ord (d_l_lines.df X G (fun _ _ _ _ _ _ us hl => match us, hl with | [_, _, _], _ => rfl))
  have c_div := ok_ldiv B SD c_read (d_l_division.df X G (fun _ _ _ _ _ _ us hl => match us, hl with | [_], _ => rfl))
  have c_edges := ok_edges (P := P) (w := w) (base := base) B (d_l_edges.df X G (fun _ _ _ _ _ _ us hl => match us, hl with | [_], _ => rfl))
  have c_llev := ok_llev B c_edges (d_l_levels.df X G (fun _ _ _ _ _ _ us hl => match us, hl with | [_], _ => rfl))
  have c_areL := ok_areL B c_edges (d_l_are_levels.df X G (fun _ _ _ _ _ _ us hl => match us, hl with | [_, _], _ => rfl))
  have c_tuples := ok_tuples (P := P) (w := w) (base := base) B (d_l_tuples.df X G (fun _ _ _ _ _ _ us hl => match us, hl with | [_, _], _ => rfl))
  have c_lrises := ok_lrises (P := P) (w := w) (base := base) B (d_l_rises.df X G (fun _ _ _ _ _ _ us hl => match us, hl with | [_, _, _], _ => rfl))
  have c_lpeople := ok_lpeople B c_lrises (d_l_people.df X G (fun _ _ _ _ _ _ us hl => match us, hl with | [_, _], _ => rfl))
  have c_lring := ok_lring B c_tuples c_lpeople (d_l_ring.df X G (fun _ _ _ _ _ _ us hl => match us, hl with | [_], _ => rfl))
  have c_isRg := ok_isRgD B c_lrises (d_l_is_ring.df X G (fun _ _ _ _ _ _ us hl => match us, hl with | [_, _], _ => rfl))
  have c_due := ok_dueD B c_isRg c_areL (d_l_due.df X G (fun _ _ _ _ _ _ us hl => match us, hl with | [_, _], _ => rfl))
  have c_some := ok_some B c_draw c_lring c_llev (d_l_some.df X G (fun _ _ _ _ _ _ us hl => match us, hl with | [_, _], _ => rfl))
  have c_law := ok_law B c_cell c_source c_draw c_choose c_lines c_showVd c_div c_some c_due c_equal (d_law.df X G (fun _ _ _ _ _ _ us hl => match us, hl with | [_], _ => rfl))
  exact c_law
end Pl
open PySem PySem.W PyProof.Rows in
set_option maxRecDepth 100000 in
set_option maxHeartbeats 0 in
theorem PySem.Challenge.cw_poolshares_k64_any_value_as_a_verdict_holds : PySem.Challenge.rw_poolshares_k64_any_value_as_a_verdict.Holds := by
  w_on; o_law; k_head; (case hw => w_witness2)
  k_fill
  refine Pl.walkG (l := PySem.Challenge.rw_poolshares_k64_any_value_as_a_verdict) (n := 63) (k := 9) (x := "_law_script") (sp := Pl.spLaw) rfl (by decide) rfl ⟨rfl, by decide, by decide⟩ (fun w h Y => PySem.W.kIn_of Y) ?F (fun K H a ns hl _ hS => ⟨a, ns, rfl, hS, hl, fun _ => rfl⟩)
  case F =>
    intro w mg fa h KX G hmg base kb nb
    refine' Pl.CalG.at (x := "law") (Pl.all_ok KX G ?aShare ?sShare ?fShare ?mShare_init ?mShare_len ?aDivision ?sDivision ?mDivision_init ?mDivision_getitem ?pShare_amounts ?pDivision_people ?pDivision_states ?d_is_integer ?d_is_integer_to ?d_is_amounts ?d_check_pair ?d_check_division ?d_read_share ?d_read_amount ?d_shows_levels ?d_rise ?d_level_needs ?d_meets ?d_l_cell ?d_l_source ?d_l_draw ?d_l_choose ?d_l_is_equal ?d_l_orderly ?d_l_lines ?d_l_division ?d_l_edges ?d_l_levels ?d_l_are_levels ?d_is_pair ?d_is_numbers ?d_steps_around ?d_shows_ring ?d_shows_verdict ?d_l_tuples ?d_l_rises ?d_l_people ?d_l_ring ?d_l_is_ring ?d_l_some ?d_l_due ?d_law ?n_len ?n_range ?n_max ?n_min ?n_sum ?n_sorted ?n_all ?n_isinstance ?n_repr ?n_tuple ?n_list ?n_int ?n_bool ?n_zip ?n_str ?n_set ?c_FEWEST_STATES ?c_MOST_STATES ?c_MOST_IN_A_STATE ?c_FEWEST_PEOPLE ?c_MOST_PEOPLE ?c_SHORTEST_RING ?x_NoPerson ?cmR ?cvM ?gD) hmg
    (case aShare => k_is)
    (case sShare => refine' ⟨?pg, ?hd, ?po, ?sa, ?nB, ?mks, ?kc, ?ca, ?cg, ?ct, ?mro, ?kit⟩; (case pg => k_is); (case hd => k_is); (case po => k_is); (case sa => k_is); (case nB => k_is); (case mks => k_is); (case kc => k_is); (case ca => k_is); (case cg => k_is); (case ct => k_is); (case mro => k_is); (case kit => first | rfl | k_is))
    (case fShare => refine' Pl.CallF.of ?a ?i; (case a => k_is); (case i => k_is))
    (case mShare_init => refine' Pl.MhK.of ?a ?i ?l ?c ?k; (case a => k_is); (case i => k_is); (case l => k_is); (case c => k_is); (case k => k_is))
    (case mShare_len => refine' Pl.MhK.of ?a ?i ?l ?c ?k; (case a => k_is); (case i => k_is); (case l => k_is); (case c => k_is); (case k => k_is))
    (case aDivision => k_is)
    (case sDivision => refine' ⟨?pg, ?hd, ?po, ?sa, ?nP, ?mks, ?kc, ?ca, ?cg, ?ct, ?mro, ?kit⟩; (case pg => k_is); (case hd => k_is); (case po => k_is); (case sa => k_is); (case nP => k_is); (case mks => k_is); (case kc => k_is); (case ca => k_is); (case cg => k_is); (case ct => k_is); (case mro => k_is); (case kit => first | rfl | k_is))
    (case mDivision_init => refine' Pl.MhK.of ?a ?i ?l ?c ?k; (case a => k_is); (case i => k_is); (case l => k_is); (case c => k_is); (case k => k_is))
    (case mDivision_getitem => refine' Pl.MhK.of ?a ?i ?l ?c ?k; (case a => k_is); (case i => k_is); (case l => k_is); (case c => k_is); (case k => k_is))
    (case pShare_amounts => refine' Pl.PhK.of ?a ?g ?t ?r ?l ?c ?k; (case a => k_is); (case g => k_is); (case t => k_is); (case r => k_is); (case l => k_is); (case c => k_is); (case k => k_is))
    (case pDivision_people => refine' Pl.PhK.of ?a ?g ?t ?r ?l ?c ?k; (case a => k_is); (case g => k_is); (case t => k_is); (case r => k_is); (case l => k_is); (case c => k_is); (case k => k_is))
    (case pDivision_states => refine' Pl.PhK.of ?a ?g ?t ?r ?l ?c ?k; (case a => k_is); (case g => k_is); (case t => k_is); (case r => k_is); (case l => k_is); (case c => k_is); (case k => k_is))
    (case d_is_integer => refine' Pl.DfK.of ?a ?l ?c ?k; (case a => k_is); (case l => k_is); (case c => k_is); (case k => k_is))
    (case d_is_integer_to => refine' Pl.DfK.of ?a ?l ?c ?k; (case a => k_is); (case l => k_is); (case c => k_is); (case k => k_is))
    (case d_is_amounts => refine' Pl.DfK.of ?a ?l ?c ?k; (case a => k_is); (case l => k_is); (case c => k_is); (case k => k_is))
    (case d_check_pair => refine' Pl.DfK.of ?a ?l ?c ?k; (case a => k_is); (case l => k_is); (case c => k_is); (case k => k_is))
    (case d_check_division => refine' Pl.DfK.of ?a ?l ?c ?k; (case a => k_is); (case l => k_is); (case c => k_is); (case k => k_is))
    (case d_read_share => refine' Pl.DfK.of ?a ?l ?c ?k; (case a => k_is); (case l => k_is); (case c => k_is); (case k => k_is))
    (case d_read_amount => refine' Pl.DfK.of ?a ?l ?c ?k; (case a => k_is); (case l => k_is); (case c => k_is); (case k => k_is))
    (case d_shows_levels => refine' Pl.DfK.of ?a ?l ?c ?k; (case a => k_is); (case l => k_is); (case c => k_is); (case k => k_is))
    (case d_rise => refine' Pl.DfK.of ?a ?l ?c ?k; (case a => k_is); (case l => k_is); (case c => k_is); (case k => k_is))
    (case d_level_needs => refine' Pl.DfK.of ?a ?l ?c ?k; (case a => k_is); (case l => k_is); (case c => k_is); (case k => k_is))
    (case d_meets => refine' Pl.DfK.of ?a ?l ?c ?k; (case a => k_is); (case l => k_is); (case c => k_is); (case k => k_is))
    (case d_l_cell => refine' Pl.DfK.of ?a ?l ?c ?k; (case a => k_is); (case l => k_is); (case c => k_is); (case k => k_is))
    (case d_l_source => refine' Pl.DfK.of ?a ?l ?c ?k; (case a => k_is); (case l => k_is); (case c => k_is); (case k => k_is))
    (case d_l_draw => refine' Pl.DfK.of ?a ?l ?c ?k; (case a => k_is); (case l => k_is); (case c => k_is); (case k => k_is))
    (case d_l_choose => refine' Pl.DfK.of ?a ?l ?c ?k; (case a => k_is); (case l => k_is); (case c => k_is); (case k => k_is))
    (case d_l_is_equal => refine' Pl.DfK.of ?a ?l ?c ?k; (case a => k_is); (case l => k_is); (case c => k_is); (case k => k_is))
    (case d_l_orderly => refine' Pl.DfK.of ?a ?l ?c ?k; (case a => k_is); (case l => k_is); (case c => k_is); (case k => k_is))
    (case d_l_lines => refine' Pl.DfK.of ?a ?l ?c ?k; (case a => k_is); (case l => k_is); (case c => k_is); (case k => k_is))
    (case d_l_division => refine' Pl.DfK.of ?a ?l ?c ?k; (case a => k_is); (case l => k_is); (case c => k_is); (case k => k_is))
    (case d_l_edges => refine' Pl.DfK.of ?a ?l ?c ?k; (case a => k_is); (case l => k_is); (case c => k_is); (case k => k_is))
    (case d_l_levels => refine' Pl.DfK.of ?a ?l ?c ?k; (case a => k_is); (case l => k_is); (case c => k_is); (case k => k_is))
    (case d_l_are_levels => refine' Pl.DfK.of ?a ?l ?c ?k; (case a => k_is); (case l => k_is); (case c => k_is); (case k => k_is))
    (case d_is_pair => refine' Pl.DfK.of ?a ?l ?c ?k; (case a => k_is); (case l => k_is); (case c => k_is); (case k => k_is))
    (case d_is_numbers => refine' Pl.DfK.of ?a ?l ?c ?k; (case a => k_is); (case l => k_is); (case c => k_is); (case k => k_is))
    (case d_steps_around => refine' Pl.DfK.of ?a ?l ?c ?k; (case a => k_is); (case l => k_is); (case c => k_is); (case k => k_is))
    (case d_shows_ring => refine' Pl.DfK.of ?a ?l ?c ?k; (case a => k_is); (case l => k_is); (case c => k_is); (case k => k_is))
    (case d_shows_verdict => refine' Pl.DfK.of ?a ?l ?c ?k; (case a => k_is); (case l => k_is); (case c => k_is); (case k => k_is))
    (case d_l_tuples => refine' Pl.DfK.of ?a ?l ?c ?k; (case a => k_is); (case l => k_is); (case c => k_is); (case k => k_is))
    (case d_l_rises => refine' Pl.DfK.of ?a ?l ?c ?k; (case a => k_is); (case l => k_is); (case c => k_is); (case k => k_is))
    (case d_l_people => refine' Pl.DfK.of ?a ?l ?c ?k; (case a => k_is); (case l => k_is); (case c => k_is); (case k => k_is))
    (case d_l_ring => refine' Pl.DfK.of ?a ?l ?c ?k; (case a => k_is); (case l => k_is); (case c => k_is); (case k => k_is))
    (case d_l_is_ring => refine' Pl.DfK.of ?a ?l ?c ?k; (case a => k_is); (case l => k_is); (case c => k_is); (case k => k_is))
    (case d_l_some => refine' Pl.DfK.of ?a ?l ?c ?k; (case a => k_is); (case l => k_is); (case c => k_is); (case k => k_is))
    (case d_l_due => refine' Pl.DfK.of ?a ?l ?c ?k; (case a => k_is); (case l => k_is); (case c => k_is); (case k => k_is))
    (case d_law => refine' Pl.DfK.of ?a ?l ?c ?k; (case a => k_is); (case l => k_is); (case c => k_is); (case k => k_is))
    (case n_len => k_is)
    (case n_range => k_is)
    (case n_max => k_is)
    (case n_min => k_is)
    (case n_sum => k_is)
    (case n_sorted => k_is)
    (case n_all => k_is)
    (case n_isinstance => k_is)
    (case n_repr => k_is)
    (case n_tuple => k_is)
    (case n_list => k_is)
    (case n_int => k_is)
    (case n_bool => k_is)
    (case n_zip => k_is)
    (case n_str => k_is)
    (case n_set => k_is)
    (case c_FEWEST_STATES => refine' Pl.ConI.of ?a; (case a => k_is))
    (case c_MOST_STATES => refine' Pl.ConI.of ?a; (case a => k_is))
    (case c_MOST_IN_A_STATE => refine' Pl.ConI.of ?a; (case a => k_is))
    (case c_FEWEST_PEOPLE => refine' Pl.ConI.of ?a; (case a => k_is))
    (case c_MOST_PEOPLE => refine' Pl.ConI.of ?a; (case a => k_is))
    (case c_SHORTEST_RING => refine' Pl.ConI.of ?a; (case a => k_is))
    (case x_NoPerson => refine' ⟨?a, ?xn, ?kp, ?ba, ?ty, ?cl, ?su⟩; (case a => k_is); (case xn => k_exc); (case kp => k_is); (case ba => k_is); (case ty => k_is); (case cl => k_is); (case su => first | rfl | k_is))
    (case cmR => refine' Pl.CmK.of (mc := .type "type") ?rd ?ga ?ax ?rc ?fi ?l ?c ?k; (case rd => k_is); (case ga => k_is); (case ax => k_is); (case rc => k_is); (case fi => k_is); (case l => k_is); (case c => k_is); (case k => k_is))
    (case cvM => refine' Pl.CvK.of (mc := .type "type") ?rd ?ga ?ax; (case rd => k_is); (case ga => k_is); (case ax => k_is))
    (case gD => refine' Pl.ItemF.of ?a ?i; (case a => k_is); (case i => k_is))
#print axioms PySem.Challenge.cw_poolshares_k64_any_value_as_a_verdict_holds
