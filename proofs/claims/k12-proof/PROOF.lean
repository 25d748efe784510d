import PyProof.Rows.All
import Wide.All
import OpenK.AllK
import Wide.FinOn
import HandS.ForMost
import HandS.ForExc
import HandS.IsInst
import HandS.Star
import HandS.Property
import HandS.Walk
import HandS.Style
import HandS.Zip
import PyProof.ReprRoads
import KE.KTupSum
import KE.KOpsOwn
import KE.DataMinMax
import HandS.TryMany
import HandS.Flow
import HandS.Conv
import HandS.Deep
import KE.KEqDeep
import KE.KRevSl
import HandS.TupAny
import HandS.FStr
import HandS.OwnEq
import HandS.Dict
import HandS.ClsMeth
import KE.KDictZip
import PySem.Challenge.RW_poolshares_k12_whole_calm_shares_by_what
set_option Elab.async false
set_option linter.all false
set_option maxRecDepth 100000
set_option maxHeartbeats 2000000
/-! Own words over the hand layer: calls where nothing is being shown (guards empty), so that repr may be asked. -/
namespace Pl
open PySem PySem.Spec PyProof.Rows L2

/-- a def that keeps its promise wherever no repr is under way -/
structure FnG (P : Program) (w : World) (K : PySem.W.Frag) (mg : Str → Option Value) (base : Heap) (k : Nat) (f : Addr)
    (fd : FuncData) (ps : List Str) (sp : Sp) : Prop where
  lng : ∀ vs H Q E, sp vs H Q E → vs.length = ps.length
  go : ∀ (A : Around) (out : List Env) (s : Shared) (H : Hp) (ar : Args) (us : List Value) (vs : List V) (Q : VK) (E : XK),
    A.guards = some [] → Room k A → Env0 P w K mg base A out s H → BindsTo s fd ar (ps.zip us) → Vals vs us → sp vs H Q E →
    codeAny (model P w) A (.call (.ref f) ar) (CR CX0 out P w H s Q E) s

section
variable {P : Program} {w : World} {K : PySem.W.Frag} {mg : Str → Option Value} {base : Heap}
theorem okG {x qual : Str} {st : Stmt} {f : Addr} {fd : FuncData} {N ps : List Str} {k : Nat} {sp : Sp}
    (D : Fun K x qual st f fd) (S : FnScope N ps (defScope st)) (lng : ∀ vs H Q E, sp vs H Q E → vs.length = ps.length)
    (bod : ∀ (cdv : Value) (A : Around) (out : List Env) (s : Shared) (H : Hp) (vs : List V) (Q : VK) (E : XK),
      A.guards = some [] → Room k (A.deeper (envOfC qual (defScope st) s.heap.objs.size f cdv)) → sp vs H Q E →
      ∃ t, PSs (cxOf CX0 P w K mg base N qual (defScope st) f cdv A out s H E).nox (defBody st) t ∧
        t { nx := fun _ H' => Q .non H', rt := Q } (start N vs) H) :
    FnG P w K mg base (k + 1) f fd ps sp := by
  obtain ⟨oc, od, kV, doc, pm, an, cdv, ct, osl, rfl, lk, hcd⟩ := D.ex
  refine ⟨lng, fun A out s H ar us vs Q E gd rm e0 bt rv hs => ?_⟩
  have inK : K.In s.heap := e0.mod.kin.keeps fun b o q => (e0.bs b o q).1
  have nl : s.heap.NoLimit := e0.mod.nolimit.keeps fun b o q => (e0.bs b o q).1
  have kinds : ∀ y ∈ ps.zip us, (defScope st).names.lookup y.1 = some .local ∨
      ((defScope st).names.lookup y.1 = some .cell ∧
        ((cellsFrom (s.heap.objs.size + 1) (defScope st).names []).lookup y.1).isSome = true) := by
    rintro ⟨n, v⟩ hy
    rcases S.par n (List.of_mem_zip hy).1 with c | c
    · exact .inl c
    · exact .inr ⟨c, PySem.W.cellsFrom_some _ _ _ (.inl c)⟩
  refine codeAny_call_function rm.depth (inK _ _ lk) rfl S.co S.gen rfl (PySem.W.codeRec_of inK hcd) (bt _ _ _ _ ?_)
  refine wpAny_newFunctionEnv_cells S.kind kinds fun env he s1 ic => ?_
  subst he
  refine ⟨nl.keeps ic.toInCall.keep, codeAny_func ?_⟩
  obtain ⟨t, ht0, hq⟩ := bod cdv A out s H vs Q E gd (rm.deeper _) hs
  have ht := ht0.nox
  have I : Inv (cxOf CX0 P w K mg base N qual (defScope st) f cdv A out s H E) [] (start N vs) H s1 :=
    inv_start S rm.hd e0 (lng _ _ _ _ hs) rv ic
  refine wpAny_mono (ht.run [] s1 (start N vs) H _ I hq) (fun fl s' z => ?_) fun e s' z => z
  cases fl with
  | ret u =>
    obtain ⟨v, σ', H', J, r, q⟩ := z
    exact ⟨v, H', J.os, J.bare, J.base, J.hok, r, q⟩
  | next =>
    obtain ⟨σ', H', J, q⟩ := z
    exact ⟨V.non, H', J.os, J.bare, J.base, J.hok, rfl, q⟩
  | brk =>
    obtain ⟨σ', H', J, q⟩ := z
    exact False.elim q
  | cont =>
    obtain ⟨σ', H', J, q⟩ := z
    exact False.elim q
end

/-- a def of the module by its name, as the top has left it -/
structure Df (K : PySem.W.Frag) (mg : Str → Option Value) (x : Str) (st : Stmt) (ps : List Str) : Prop where
  ex : ∃ f fd, Fun K x x st f fd ∧ mg x = some (.ref f) ∧ Binds K fd ps []
/-- a def by its name and its promise -/
structure Cal (P : Program) (w : World) (K : PySem.W.Frag) (mg : Str → Option Value) (base : Heap) (k : Nat) (x : Str) (ps : List Str) (sp : Sp) : Prop where
  ex : ∃ f fd, FnOk P w K mg base CX0 k f fd ps sp ∧ mg x = some (.ref f) ∧ PySem.W.keepIn K (.ref f) = true ∧ Binds K fd ps []
structure CalG (P : Program) (w : World) (K : PySem.W.Frag) (mg : Str → Option Value) (base : Heap) (k : Nat) (x : Str) (ps : List Str) (sp : Sp) : Prop where
  ex : ∃ f fd, FnG P w K mg base k f fd ps sp ∧ mg x = some (.ref f) ∧ PySem.W.keepIn K (.ref f) = true ∧ Binds K fd ps []
section
variable {P : Program} {w : World} {K : PySem.W.Frag} {mg : Str → Option Value} {base : Heap} {x : Str} {st : Stmt} {N ps : List Str} {k : Nat} {sp : Sp}
theorem Df.cal (D : Df K mg x st ps) (S : FnScope N ps (defScope st)) (lng : ∀ vs H Q E, sp vs H Q E → vs.length = ps.length)
    (bod : ∀ (f : Addr) (cdv : Value) (A : Around) (out : List Env) (s : Shared) (H : Hp) (vs : List V) (Q : VK) (E : XK),
      Room k (A.deeper (envOfC x (defScope st) s.heap.objs.size f cdv)) → sp vs H Q E →
      ∃ t, PSs (cxOf CX0 P w K mg base N x (defScope st) f cdv A out s H E).nox (defBody st) t ∧
        t { nx := fun _ H' => Q .non H', rt := Q } (start N vs) H) : Cal P w K mg base (k + 1) x ps sp := by
  obtain ⟨f, fd, F, hm, hb⟩ := D.ex
  exact ⟨f, fd, F.ok S lng (bod f), hm, F.kp, hb⟩
theorem Df.calG (D : Df K mg x st ps) (S : FnScope N ps (defScope st)) (lng : ∀ vs H Q E, sp vs H Q E → vs.length = ps.length)
    (bod : ∀ (f : Addr) (cdv : Value) (A : Around) (out : List Env) (s : Shared) (H : Hp) (vs : List V) (Q : VK) (E : XK),
      A.guards = some [] → Room k (A.deeper (envOfC x (defScope st) s.heap.objs.size f cdv)) → sp vs H Q E →
      ∃ t, PSs (cxOf CX0 P w K mg base N x (defScope st) f cdv A out s H E).nox (defBody st) t ∧
        t { nx := fun _ H' => Q .non H', rt := Q } (start N vs) H) : CalG P w K mg base (k + 1) x ps sp := by
  obtain ⟨f, fd, F, hm, hb⟩ := D.ex
  exact ⟨f, fd, okG F S lng (bod f), hm, F.kp, hb⟩
end
section
variable {X : Cx} {k : Nat} {x : Str} {ps : List Str} {sp : Sp} {p pos : Pos} {e : Expr} {es : List Expr} {t : TA}
/-- x(e, ..) -/
theorem pe_fn (c : Cal X.prog X.w X.K X.mg X.base k x ps sp) (hr : Room k X.A) (ha : PA X (e :: es) t) (hg : Gl X x := by rfl) (hdb : (x == ("__debug__" : Str)) = false := by decide)
    (he : starEach (e :: es) X.env = (false, eval e X.env) :: starEach es X.env := by rfl) (hpl : (backTo pos (starEach es X.env)).any (·.1) = false := by rfl) :
    PE X (.Call (.Name x p) (e :: es) [] pos) (tCall sp [] E0 t) := by
  obtain ⟨f, fd, F, hm, kp, hb⟩ := c.ex
  exact pe_call F hr hg hm kp hb .nil pass0 ha hdb he hpl
/-- the same where a repr may be asked within -/
theorem pe_fnG (c : CalG X.prog X.w X.K X.mg X.base k x ps sp) (gd : X.A.guards = some []) (hr : Room k X.A) (ha : PA X (e :: es) t) (hg : Gl X x := by rfl) (hdb : (x == ("__debug__" : Str)) = false := by decide)
    (he : starEach (e :: es) X.env = (false, eval e X.env) :: starEach es X.env := by rfl) (hpl : (backTo pos (starEach es X.env)).any (·.1) = false := by rfl) :
    PE X (.Call (.Name x p) (e :: es) [] pos) (tCall sp [] E0 t) := by
  obtain ⟨f, fd, F, hm, kp, hb⟩ := c.ex
  refine ⟨fun pins s σ H Q I h => wpAny_Call_Name_kw (ld_glob I hg hm ?_ hdb)⟩
  refine PySem.W.callWith_K (h₀ := X.base) I.ok.mod.kin kp (thn (ha.run pos pins s σ H _ I h) ?_) he hpl
  rintro us s1 ⟨vs, H1, J, r, q⟩
  refine ⟨J.kIn, ?_⟩
  have q2 : sp vs H1 Q E0 := by simpa using q
  have hl : us.length = ps.length := by rw [← r.length]; exact F.lng _ _ _ _ q2
  have bt : BindsTo s1 fd ⟨us, []⟩ (ps.zip us) := by simpa using hb s1 us J.kIn (by simpa using hl)
  refine wpAny_call (codeAny_mono (F.go X.A X.stack s1 H1 ⟨us, []⟩ us vs Q E0 gd hr J.env0 bt r q2) ?_)
  intro res s' z
  match res, z with
  | .ok (.ret u), z => exact J.after z
  | .ok .next, z => exact False.elim z
  | .ok .brk, z => exact False.elim z
  | .ok .cont, z => exact False.elim z
  | .error e, z => exact False.elim z
end

theorem un66 {k : Nat} {A : Around} (hr : Room k A) : A.units + 66 < cLine := by
  have := hr.un
  omega
/-! repr of data -/
section
variable {X : Cx}
theorem call_reprD (gd : X.A.guards = some []) (hu : X.A.units + 66 < cLine) :
    CallR X (.builtin "repr") (fun xs H Q => ∃ (a : Addr) (d : PyData), xs = [.ref a] ∧ Dp X.K H (.ref a) d ∧ d.showable = true ∧ d.hasDict = false ∧ d.depth ≤ 60 ∧ d.shown.length ≤ sizeLine ∧ Q (.str d.shown) H) := by
  intro pins s σ H xs us Q I r h
  obtain ⟨a, d, rfl, dp, sh, nd, dep, sz, q⟩ := h
  obtain ⟨u, rfl, ru⟩ := vals1 r
  obtain rfl : u = Value.ref a := ru
  obtain ⟨as, rd⟩ := Dp.reads I d _ _ dp rfl
  refine repr_of_reads' rd sh (PyData.noDict_hsm nd) gd (by omega) (fun _ _ e => e) (fun h' v tk hk => ?_) sz
  exact ⟨.str d.shown, H, I.kept hk, ⟨_, rfl⟩, q⟩

/-- len(o), o an instance whose class has its own __len__ -/
theorem call_lenO {k : Nat} {C f : Addr} {fd : FuncData} {ps : List Str} {sp : Sp} (hs : PySem.W.findIn X.K (.ref C) "__len__" = some (some (.ref f))) (hf : PySem.W.isFn X.K (.ref f) = true)
    (F : FnOk X.prog X.w X.K X.mg X.base CX0 k f fd ps sp) (hr : Room (k + 1) X.A) (hb : Binds X.K fd ps []) :
    CallR X (.builtin "len") (fun xs H Q => ∃ (a dx : Addr) (fs : List (Str × V)), xs = [.ref a] ∧ H a = some (.ins C dx fs) ∧
      sp [.ref a] H (fun v H' => ∃ n : Nat, v = .int n ∧ n ≤ 1000 ∧ Q (.int n) H') E0) := by
  intro pins s σ H xs us Q I r h
  obtain ⟨a, dx, fs, rfl, ea, h⟩ := h
  obtain ⟨u, rfl, ru⟩ := vals1 r
  obtain rfl : u = Value.ref a := ru
  obtain ⟨mA, O, _⟩ := ins_get I.hok ea
  obtain ⟨od, J, _⟩ := O.look
  obtain ⟨m, fr⟩ := I.fr
  refine PySem.W.len_K fr I.ok.mod.kin J hs hf ?_
  have hl : [V.ref a].length = ps.length := F.len _ _ _ _ h
  have bt : BindsTo s fd ⟨[.ref a], []⟩ (ps.zip [Value.ref a]) := by simpa using hb s [.ref a] I.kIn (by simpa using hl)
  refine wpAny_call (codeAny_mono (F.run X.A.in1 X.stack s H ⟨[.ref a], []⟩ [.ref a] [.ref a] _ E0 hr.in1 I.env0.in1 bt (.cons rfl .nil) h) ?_)
  intro res s' z
  match res, z with
  | .ok (.ret u), z =>
    obtain ⟨v, H', J2, rv, n, rfl, hn, q⟩ := I.after z
    obtain ⟨t, rfl⟩ := (show ∃ t, u = Value.int n t from rv)
    refine ⟨⟨by omega, by omega⟩, ⟨.int n, H', J2.tok _, ⟨_, rfl⟩, q⟩⟩
  | .ok .next, z => exact False.elim z
  | .ok .brk, z => exact False.elim z
  | .ok .cont, z => exact False.elim z
  | .error e, z => exact False.elim z
end

/-! sum and sorted of a tuple of ints -/
section
variable {prog : Program} {w : World} {A : Around} {E : Value → Shared → Prop} {s : Shared}
theorem collT {t : Addr} {us : List Value} {Q : List Value → Shared → Prop} (ht : s.heap.IsTuple t us.toArray) (hz : us.length ≤ sizeLine)
    (fin : ∀ h' : Heap, (∀ b o, s.heap.get? b = some o → h'.get? b = some o) → Q us { s with heap := h' }) :
    wpAny (model prog w) A (collect (.ref t)) Q E s := by
  obtain ⟨o, ho, hc, n, hd⟩ := ht
  have new : (s.heap.push (seqObj "list" #[] 0)).get? s.heap.objs.size = some (seqObj "list" #[] 0) := Heap.get?_push_size _ rfl
  unfold collect
  refine wpAny_bind (wpAny_runValue (codeAny_builtin entry_proto_collect' ?_))
  show wpAny _ _ (newList [] >>= fun l => again (.builtin "list.__iadd__" ⟨[l, .ref t], []⟩)) _ _ s
  refine wpAny_bind (wpAny_newList (wpAny_pure ⟨Code.quiet_builtin _ (by decide +kernel), codeAny_builtin entry_list_iadd' ?_⟩))
  have old : (s.heap.push (seqObj "list" #[] 0)).get? t = some o := Heap.get?_push_of_some _ ho
  show wpAny _ _ (Builtin.List.listExtendWith (.ref s.heap.objs.size) (.ref t) _) _ _ _
  unfold Builtin.List.listExtendWith; refine wpAny_bind (wpAny_typeOf (T := "tuple") ⟨o, old, hc⟩ ?_); rw [if_pos (by simp)]
  refine wpAny_bind (listItems_at old hd (wpAny_bind (listItems_at (xs := #[]) (n := 0) new rfl ?_)))
  rw [if_neg (by simp)]; refine wpAny_bind (listUpdate_at (xs := #[]) (n := 0) new rfl ?_ (Nat.zero_le _) (by simp; omega))
  refine wpAny_pure ?_; show wpAny (model prog w) A (load s.heap.objs.size >>= _) Q E _
  refine wpAny_bind (wpAny_load (get?_update_seq new _) ?_)
  have e : ((#[] : Array Value) ++ us.toArray).toList = us := by simp
  show wpAny _ _ (pure ((#[] : Array Value) ++ us.toArray).toList) Q E _
  rw [e]
  refine wpAny_pure (fin _ fun b o q => ?_)
  rw [Heap.get?_update_other _ _ (Nat.ne_of_gt (Heap.lt_size q))]
  exact Heap.get?_push_of_some _ q
end
section
variable {X : Cx}
theorem call_sumT (calm : X.calm = true) : CallR X (.builtin "sum") (fun vs H Q => ∃ (a : Addr) (ns : List Int), vs = [V.ref a] ∧ SqT X.K H a (ns.map V.int) ∧ Q (.int ns.sum) H) := by
  intro pins s σ H vs us Q I r h
  obtain ⟨a, ns, rfl, sq, q⟩ := h
  obtain ⟨its, rv, tp, _⟩ := I.tuple sq
  rw [Vals.ref1 r]
  have hi := rv.ints
  obtain ⟨xs, ex⟩ := hi.allInts.items
  have nn : numsOf (intItems xs).toList = ns := by rw [← ex]; exact hi.numsOf
  rw [nums_intItems] at nn
  have tp2 : s.heap.IsTuple a its.toArray := tp
  rw [ex] at tp2
  refine PySem.W.ktm_sumG (I.ok.hd calm) tp2 fun h' tk t' hk => ?_
  rw [preSum_eq, List.take_of_length_le (by simp), nn]
  exact ⟨.int _, H, I.kept hk, ⟨_, rfl⟩, q⟩
theorem call_sortedT : CallR X (.builtin "sorted") (fun vs H Q => ∃ (a : Addr) (ns : List Int), vs = [V.ref a] ∧ SqT X.K H a (ns.map V.int) ∧ ns.length < 64 ∧
    ∀ (ns' : List Int) (p : Addr), ns'.Perm ns → ns'.Pairwise (· ≤ ·) → H p = none → Q (.ref p) (upd H p (.lst (ns'.map V.int)))) := by
  intro pins s σ H vs us Q I r h
  obtain ⟨a, ns, rfl, sq, few, q⟩ := h
  obtain ⟨its, rv, tp, hz⟩ := I.tuple sq
  rw [Vals.ref1 r]
  have hi := rv.ints
  have len : its.length = ns.length := hi.length
  have small : its.length ≤ sizeLine := by rw [len]; exact Nat.le_of_lt (Nat.lt_of_lt_of_le few (by decide))
  refine Calls.call_function_entry kind_sorted plain_sorted entry_sorted (args_sorted1 _) ?_
  unfold Builtin.«sorted»
  refine wpAny_bind (m := checkCount "sorted" 1 1 _) (wpAny_pure ?_)
  refine wpAny_bind (collT (A := X.A.in1) tp small fun h1 kp => ?_)
  have I1 : Inv X pins σ H { s with heap := h1, toks := s.toks } := I.kept kp
  refine wpAny_bind (wpAny_newList ?_ small)
  have at1 : (h1.push (seqObj "list" its.toArray 0)).get? h1.objs.size = some (seqObj "list" its.toArray 0) := Heap.get?_push_size _ rfl
  refine wpAny_bind (wpAny_holding (wpAny_call_entry slot_list_sort ⟨_, at1, rfl⟩ entry_list_sort
    (list_sort_tree (s := { s with heap := h1.push (seqObj "list" its.toArray 0) }) at1 hi (by rw [len]; exact few) ?_) (args_list_sort _)))
  intro out ys g1 g2 g3
  refine ⟨_, rfl, ?_⟩
  obtain ⟨ep, at2⟩ := sortedHeap_at (vs := its) (out := out) at1
  have lens : (ys.map V.int).length ≤ sizeLine := by
    rw [List.length_map, g2.length_eq, ← len]
    exact small
  refine wpAny_pure ⟨_, rfl, .ref h1.objs.size, L2.upd H h1.objs.size (.lst (ys.map V.int)), I1.laid (t' := s.toks) (fun b u e => ?_) (Nat.le_refl _) ?_, rfl, q ys _ g2 g3 (I1.hok.fresh (Nat.le_refl _))⟩
  · have lt : b < h1.objs.size := Heap.lt_size e
    rw [sortedHeap_old (Nat.ne_of_lt lt) (by rw [size_push']; exact Nat.lt_succ_of_lt lt)]
    exact Heap.get?_push_of_some _ e
  · exact (show ObjOk X.prog X.w _ _ _ (.lst (ys.map V.int)) from ⟨lens, out.toList, ep, vals_of_ints g1, by rw [Array.toArray_toList]; exact at2⟩)
end

/-! the end of a law whose call shows data -/
theorem lawG {P : Program} {w : World} {K : PySem.W.Frag} {mg mb : Str → Option Value} {k : Nat} {fa a : Addr} {x : Str} {sp : Sp} {s1 : Shared} {vs : List Value} {ns : List Int}
    (KX : K.In s1.heap) (gns : s1.heap.Ns mainGlobals mg) (bns : s1.heap.Ns builtinsNs mb) (boot : ∀ x : Str, x ≠ "__name__" → mb x = bootBuiltins x) (nl : s1.heap.NoLimit) (gn : s1.gens = #[])
    (ha : s1.heap.get? a = some { cls := .type "list", data := .seq vs.toArray }) (hi : IntsAre vs ns) (hl : ns.length ≤ sizeLine) (hr : Room k callerA)
    (F : ∀ base : Heap, K.In base → base.Ns mainGlobals mg → ∃ fd : FuncData, FnG P w K mg base k fa fd [x] sp ∧ Binds K fd [x] [])
    (prom : ∀ H : Hp, Only H → SqL K H a (ns.map V.int) → sp [.ref a] H (fun v _ => v = .bl true) fun _ _ _ => False) :
    codeAny (model P w) callerA (.call (.ref fa) ⟨[.ref a], []⟩) (fun r s' => r = .ok (.ret (.bool true)) ∧ OldK s1.heap s'.heap ∧ s'.os = s1.os ∧ AllBare s'.gens) s1 := by
  suffices main : ∀ H : Hp, Only H → SqL K H a (ns.map V.int) → HOk P w H s1.heap → (∀ b u, H b = some u → b = a ∧ K.lookup a = none) →
      codeAny (model P w) callerA (.call (.ref fa) ⟨[.ref a], []⟩) (fun r s' => r = .ok (.ret (.bool true)) ∧ OldK s1.heap s'.heap ∧ s'.os = s1.os ∧ AllBare s'.gens) s1 by
    cases lk : K.lookup a with
    | some o =>
      have same := (KX a o lk).symm.trans ha
      cases same
      refine main (fun _ => none) (fun _ => .inl rfl) (.inr ⟨_, vs.toArray, _, lk, rfl, rfl, rfl, ?_, ?_⟩) (fun b u z => nomatch z) (fun b u z => nomatch z)
      · rw [List.size_toArray, hi.length]
        exact hl
      · simpa using vals_ints hi
    | none =>
      refine main (fun b => if b = a then some (.frz { cls := .type "list", data := .seq vs.toArray } (.lst (ns.map V.int))) else none) ?_ (.inl (.inr ⟨_, if_pos rfl⟩)) ?_ ?_
      · intro b
        by_cases q : b = a
        · exact .inr ⟨_, _, if_pos q⟩
        · exact .inl (if_neg q)
      · intro b u z
        by_cases q : b = a
        · subst q
          have z2 := (if_pos rfl).symm.trans z
          cases z2
          exact ⟨ha, by rw [List.length_map]; exact hl, vs, _, vals_ints hi, ha⟩
        · have z2 := (if_neg q).symm.trans z
          cases z2
      · intro b u z
        by_cases q : b = a
        · exact ⟨q, lk⟩
        · have z2 := (if_neg q).symm.trans z
          cases z2
  intro H hO hS hok only
  have seen : ∀ {b : Addr} {o : Obj} {es : Array DictEntry} {ep : Nat}, s1.heap.get? b = some o → o.data = .dict es ep → H b = none := by
    intro b o es ep e d
    cases q : H b with
    | none => rfl
    | some u =>
      obtain ⟨rfl, _⟩ := only b u q
      rw [ha] at e
      cases e
      cases (show Data.seq vs.toArray _ = Data.dict es ep from d)
  have ns_of : ∀ {b : Addr} {m : Str → Option Value}, s1.heap.Ns b m → (hidT s1.heap H).Ns b m := by
    rintro b m ⟨o, es, ep, e, d, r⟩
    exact ⟨o, es, ep, hidT_get e (seen e d), d, r⟩
  have kb : K.In (hidT s1.heap H) := by
    intro b o e
    refine hidT_get (KX b o e) ?_
    cases q : H b with
    | none => rfl
    | some u =>
      obtain ⟨rfl, z⟩ := only b u q
      rw [z] at e
      cases e
  have md : Mod K mg (hidT s1.heap H) := ⟨kb, ns_of gns, ⟨mb, ns_of bns, boot⟩, let ⟨mc, p, q⟩ := nl; ⟨mc, ns_of p, q⟩⟩
  have e0 : Env0 P w K mg (hidT s1.heap H) callerA [] s1 H := by
    refine ⟨rfl, md, fun b o e => of_hidT e, Nat.le_of_eq (hidT_size _ _), trivial, fun b z => ?_, hok, .of_eq gn⟩
    exact absurd (show b ∈ ([] : List Addr) from z) (by simp)
  obtain ⟨fd, Fg, bnd⟩ := F _ kb (ns_of gns)
  refine codeAny_mono (Fg.go callerA [] s1 H _ [.ref a] [.ref a] _ _ rfl hr e0 (bnd s1 [.ref a] KX rfl) (.cons rfl .nil) (prom H hO hS)) ?_
  intro r s' z
  match r, z with
  | .ok (.ret u), z =>
    obtain ⟨v, H', os, bare, un, hok', rv, q⟩ := z
    obtain rfl : v = .bl true := q
    obtain rfl : u = Value.bool true := rv
    refine ⟨rfl, OldK.of_keep fun b o e => ?_, os, bare⟩
    cases q : H b with
    | none => exact un.keep b o e q (fun z => absurd (show b ∈ ([] : List Addr) from z) (by simp)) (by simp)
    | some u =>
      rcases hO b with z | ⟨ob, xs, z⟩
      · rw [q] at z
        cases z
      · obtain ⟨p1, _⟩ := hok b _ z
        obtain ⟨p2, _⟩ := hok' b _ (un.frzs b ob _ z)
        rw [e] at p1
        cases p1
        exact p2
  | .ok .next, z => exact False.elim z
  | .ok .brk, z => exact False.elim z
  | .ok .cont, z => exact False.elim z
  | .error e, z => exact False.elim z

theorem walkG {l : PySem.W.OpenLaw} {n k : Nat} {q : Program} {loose : List Str} {XP : (Str → Option Value) → Heap → Prop} {YP : World → Heap → Prop} {d : DefRec} {K : Params → PySem.W.Frag} {sp : PySem.W.Frag → Sp} {x : Str}
    (hn : l.most = some n) (small : n ≤ sizeLine) (hdf : d.params.defaults = []) (hr : Room k callerA) (hY : ∀ (w : World) (h : Heap), YP w h → (K w.params).In h)
    (F : ∀ (w : World) (mg : Str → Option Value) (fa : Addr) (h : Heap), (K w.params).In h → h.Ns mainGlobals mg → mg d.name = some (.ref fa) →
      ∀ base : Heap, (K w.params).In base → base.Ns mainGlobals mg → ∃ fd : FuncData, FnG l.prog w (K w.params) mg base k fa fd [x] (sp (K w.params)) ∧ Binds (K w.params) fd [x] [])
    (prom : ∀ (K : PySem.W.Frag) (H : Hp) (a : Addr) (ns : List Int), ns.length ≤ n → Only H → SqL K H a (ns.map V.int) → sp K [.ref a] H (fun v _ => v = .bl true) fun _ _ _ => False) :
    PySem.W.WalkO q loose XP YP l.row.toRowW d [] (fun f vs => PySem.call f vs) := by
  refine Att.attach_call hn hdf ?_
  intro w s0 s1 mg mb fa o pm cd doc a vs ns G Y ho hd hcd hmg hobj hints hlen hg
  exact lawG (hY w _ Y) G.T.g G.T.b G.T.builtins G.T.nolimit hg hobj hints (Nat.le_trans hlen small) hr (F w mg fa _ (hY w _ Y) G.T.g hmg) fun H hO hS => prom _ H a ns hlen hO hS
theorem CalG.at {P : Program} {w : World} {K : PySem.W.Frag} {mg : Str → Option Value} {base : Heap} {k : Nat} {x : Str} {ps : List Str} {sp : Sp} {fa : Addr} (c : CalG P w K mg base k x ps sp) (h : mg x = some (.ref fa)) :
    ∃ fd : FuncData, FnG P w K mg base k fa fd ps sp ∧ Binds K fd ps [] := by
  obtain ⟨f, fd, F, hm, _, hb⟩ := c.ex
  rw [hm] at h
  cases h
  exact ⟨fd, F, hb⟩
end Pl
namespace Pl
open PySem PySem.Spec PyProof.Rows L2
/-- a method of the class at C, as the top has left it -/
structure Mh (K : PySem.W.Frag) (C : Addr) (m qual : Str) (st : Stmt) (ps : List Str) : Prop where
  ex : ∃ f fd, Fun K m qual st f fd ∧ PySem.W.findIn K (.ref C) m = some (some (.ref f)) ∧ PySem.W.isFn K (.ref f) = true ∧ Binds K fd ps []
structure MCal (P : Program) (w : World) (K : PySem.W.Frag) (mg : Str → Option Value) (base : Heap) (k : Nat) (C : Addr) (m : Str) (ps : List Str) (sp : Sp) : Prop where
  ex : ∃ f fd, FnOk P w K mg base CX0 k f fd ps sp ∧ PySem.W.findIn K (.ref C) m = some (some (.ref f)) ∧ PySem.W.isFn K (.ref f) = true ∧ PySem.W.keepIn K (.ref f) = true ∧ Binds K fd ps []
/-- a property's getter -/
structure Ph (K : PySem.W.Frag) (C : Addr) (m qual : Str) (st : Stmt) (ps : List Str) : Prop where
  ex : ∃ p f fd, Fun K m qual st f fd ∧ PropOf K C m p f ∧ Binds K fd ps []
structure PCal (P : Program) (w : World) (K : PySem.W.Frag) (mg : Str → Option Value) (base : Heap) (k : Nat) (C : Addr) (m : Str) (ps : List Str) (sp : Sp) : Prop where
  ex : ∃ p f fd, FnOk P w K mg base CX0 k f fd ps sp ∧ PropOf K C m p f ∧ Binds K fd ps []
section
variable {P : Program} {w : World} {K : PySem.W.Frag} {mg : Str → Option Value} {base : Heap} {C : Addr} {x qual : Str} {st : Stmt} {N ps : List Str} {k : Nat} {sp : Sp}
theorem Mh.cal (D : Mh K C x qual st ps) (S : FnScope N ps (defScope st)) (lng : ∀ vs H Q E, sp vs H Q E → vs.length = ps.length)
    (bod : ∀ (f : Addr) (cdv : Value) (A : Around) (out : List Env) (s : Shared) (H : Hp) (vs : List V) (Q : VK) (E : XK),
      Room k (A.deeper (envOfC qual (defScope st) s.heap.objs.size f cdv)) → sp vs H Q E →
      ∃ t, PSs (cxOf CX0 P w K mg base N qual (defScope st) f cdv A out s H E).nox (defBody st) t ∧
        t { nx := fun _ H' => Q .non H', rt := Q } (start N vs) H) : MCal P w K mg base (k + 1) C x ps sp := by
  obtain ⟨f, fd, F, h1, h2, hb⟩ := D.ex
  exact ⟨f, fd, F.ok S lng (bod f), h1, h2, F.kp, hb⟩
theorem Ph.cal (D : Ph K C x qual st ps) (S : FnScope N ps (defScope st)) (lng : ∀ vs H Q E, sp vs H Q E → vs.length = ps.length)
    (bod : ∀ (f : Addr) (cdv : Value) (A : Around) (out : List Env) (s : Shared) (H : Hp) (vs : List V) (Q : VK) (E : XK),
      Room k (A.deeper (envOfC qual (defScope st) s.heap.objs.size f cdv)) → sp vs H Q E →
      ∃ t, PSs (cxOf CX0 P w K mg base N qual (defScope st) f cdv A out s H E).nox (defBody st) t ∧
        t { nx := fun _ H' => Q .non H', rt := Q } (start N vs) H) : PCal P w K mg base (k + 1) C x ps sp := by
  obtain ⟨p, f, fd, F, h1, hb⟩ := D.ex
  exact ⟨p, f, fd, F.ok S lng (bod f), h1, hb⟩
end
section
variable {X : Cx} {k : Nat} {C : Addr} {ps : List Str} {sp : Sp} {p pos : Pos} {x : Str} {e : Expr} {es : List Expr} {t : TA} {te ta : TE}
/-- C(e, ..) -/
theorem pe_mk (c : MCal X.prog X.w X.K X.mg X.base k C "__init__" ps sp) (mk : PySem.W.makesIn X.K C = true) (kc : PySem.W.keepIn X.K (.ref C) = true) (hm : X.mg x = some (.ref C)) (hr : Room (k + 1) X.A) (ha : PA X (e :: es) t)
    (hg : Gl X x := by rfl) (hdb : (x == ("__debug__" : Str)) = false := by decide)
    (he : starEach (e :: es) X.env = (false, eval e X.env) :: starEach es X.env := by rfl) (hpl : (backTo pos (starEach es X.env)).any (·.1) = false := by rfl) :
    PE X (.Call (.Name x p) (e :: es) [] pos) (tMake C sp [] E0 t) := by
  obtain ⟨f, fd, F, h1, h2, kp, hb⟩ := c.ex
  exact pe_make ⟨mk, h1, h2, kc⟩ F hr hg hm hb .nil pass0 ha hdb he hpl
/-- o.f, a property -/
theorem pe_pr {f : Str} (c : PCal X.prog X.w X.K X.mg X.base k C f ps sp) (cl : Cls X.K C) (hr : Room (k + 1) X.A) (he : PE X e te)
    (hab : attributeBase e f X.env (eval e X.env) = eval e X.env := by rfl) : PE X (.Attribute e f pos) (tProp C sp [] E0 te) := by
  obtain ⟨q, f', fd, F, h1, hb⟩ := c.ex
  exact pe_prop he cl h1 F hr hb .nil pass0 hab
/-- len(o) -/
theorem call_lenM (c : MCal X.prog X.w X.K X.mg X.base k C "__len__" ps sp) (hr : Room (k + 1) X.A) :
    CallR X (.builtin "len") (fun xs H Q => ∃ (a dx : Addr) (fs : List (Str × V)), xs = [.ref a] ∧ H a = some (.ins C dx fs) ∧
      sp [.ref a] H (fun v H' => ∃ n : Nat, v = .int n ∧ n ≤ 1000 ∧ Q (.int n) H') E0) := by
  obtain ⟨f, fd, F, h1, h2, kp, hb⟩ := c.ex
  exact call_lenO h1 h2 F hr hb
/-- o(e, ..), an instance of C called -/
def tCallP (C : Addr) (sp : Sp) (tf : TE) (t : TA) : TE := fun σ H Q => tf σ H fun y H1 => ∃ a, y = V.ref a ∧ t σ H1 fun vs H2 =>
  ((∃ dx vs, SlX.Slt H2 a C dx vs) ∨ ∃ dx fs, H2 a = some (.ins C dx fs)) ∧ sp (V.ref a :: vs) H2 Q E0
/-- o(e, ..) -/
theorem pe_callM {fe : Expr} {tf : TE} (c : MCal X.prog X.w X.K X.mg X.base k C "__call__" ps sp) (fi : ∀ f, PySem.W.findIn X.K (.ref C) "__call__" = some (some (.ref f)) → PySem.W.fnIn X.K f = true) (hr : Room k X.A) (hf : PE X fe tf) (ha : PA X (e :: es) t)
    (ht : eval (.Call fe (e :: es) [] pos) X.env = (do callWith pos (← eval fe X.env) [] (backTo pos (starEach (e :: es) X.env)) (backToKw pos (keywordEach [] X.env))) := by rfl)
    (he : starEach (e :: es) X.env = (false, eval e X.env) :: starEach es X.env := by rfl) (hpl : (backTo pos (starEach es X.env)).any (·.1) = false := by rfl) :
    PE X (.Call fe (e :: es) [] pos) (tCallP C sp tf t) := by
  obtain ⟨f, fd, F, h1, h2, kp, hb⟩ := c.ex
  have R : FnR X.prog X.w X.K X.mg X.base CX0 k f sp := (F.raw hb .nil).imp fun vs H Q E h => by simpa using h
  show PE X (.Call fe (e :: es) [] pos) (StX.tCallO X C sp E0 tf t)
  exact StX.pe_callO hf ⟨h1, h2, fi f h1⟩ R hr pass0 ha ht he hpl
end
/-! what the head shows of each def -/
def FnAt (K : PySem.W.Frag) (f : Addr) (x qual : Str) (st : Stmt) : Prop := ∃ (od an : Option Addr) (sl : Array (Option Value)) (oc kV dc pm cd ct : Value),
  K.lookup f = some ⟨oc, od, .func (PySem.W.fnOf x qual (defArgs st) (defBody st) (defScope st) .none kV dc pm an cd ct), sl⟩ ∧ PySem.W.codeIn K cd qual = true ∧ PySem.W.keepIn K (.ref f) = true
/-- the parameters, all given -/
def BindOk (x qual : Str) (st : Stmt) (ps : List Str) : Prop := ∀ (kV doc pm : Value) (an : Option Addr) (cdv ct : Value) (us : List Value), us.length = ps.length →
  bindArgs (PySem.W.fnOf x qual (defArgs st) (defBody st) (defScope st) .none kV doc pm an cdv ct) ⟨us, []⟩ = pure (ps.zip us)
structure DfK (K : PySem.W.Frag) (x : Str) (st : Stmt) : Prop where
  ex : ∃ f, PySem.W.nsIn K mainGlobals x = some (some (.ref f)) ∧ FnAt K f x x st
theorem DfK.df {K : PySem.W.Frag} {h : Heap} {mg : Str → Option Value} {x : Str} {st : Stmt} {ps : List Str} (d : DfK K x st) (X : K.In h) (G : h.Ns mainGlobals mg) (b : BindOk x x st ps) : Df K mg x st ps := by
  obtain ⟨f, a, od, an, sl, oc, kV, dc, pm, cd, ct, l, c, k⟩ := d.ex
  have F := fun_mk (st := st) l c k
  exact ⟨f, _, F, PySem.W.mg_of X G a, F.binds b⟩
structure MhK (K : PySem.W.Frag) (C : Addr) (x qual : Str) (st : Stmt) : Prop where
  ex : ∃ f, PySem.W.findIn K (.ref C) x = some (some (.ref f)) ∧ PySem.W.isFn K (.ref f) = true ∧ FnAt K f x qual st
theorem MhK.mh {K : PySem.W.Frag} {C : Addr} {x qual : Str} {st : Stmt} {ps : List Str} (d : MhK K C x qual st) (b : BindOk x qual st ps) : Mh K C x qual st ps := by
  obtain ⟨f, a, i, od, an, sl, oc, kV, dc, pm, cd, ct, l, c, k⟩ := d.ex
  have F := fun_mk (st := st) l c k
  exact ⟨f, _, F, a, i, F.binds b⟩
structure PhK (K : PySem.W.Frag) (C : Addr) (x qual : Str) (st : Stmt) : Prop where
  ex : ∃ p f, PySem.W.findIn K (.ref C) x = some (some (.ref p)) ∧ PySem.W.specialIn K (.ref p) "__get__" = some (some (.builtin "property.__get__")) ∧ PySem.W.takesIn K (.ref p) = some true ∧
    (∃ rest, PySem.W.recIn K p "property" = some (.ref f :: rest)) ∧ FnAt K f x qual st
theorem PhK.ph {K : PySem.W.Frag} {C : Addr} {x qual : Str} {st : Stmt} {ps : List Str} (d : PhK K C x qual st) (b : BindOk x qual st ps) : Ph K C x qual st ps := by
  obtain ⟨p, f, a, g, t, r, od, an, sl, oc, kV, dc, pm, cd, ct, l, c, k⟩ := d.ex
  have F := fun_mk (st := st) l c k
  exact ⟨p, f, _, F, ⟨a, g, t, r⟩, F.binds b⟩
theorem DfK.of {K : PySem.W.Frag} {x : Str} {st : Stmt} {f : Addr} {od an : Option Addr} {sl : Array (Option Value)} {oc kV dc pm cd ct : Value}
    (a : PySem.W.nsIn K mainGlobals x = some (some (.ref f))) (l : K.lookup f = some ⟨oc, od, .func (PySem.W.fnOf x x (defArgs st) (defBody st) (defScope st) .none kV dc pm an cd ct), sl⟩) (c : PySem.W.codeIn K cd x = true) (k : PySem.W.keepIn K (.ref f) = true) : DfK K x st := ⟨⟨f, a, od, an, sl, oc, kV, dc, pm, cd, ct, l, c, k⟩⟩
theorem MhK.of {K : PySem.W.Frag} {C : Addr} {x qual : Str} {st : Stmt} {f : Addr} {od an : Option Addr} {sl : Array (Option Value)} {oc kV dc pm cd ct : Value}
    (a : PySem.W.findIn K (.ref C) x = some (some (.ref f))) (i : PySem.W.isFn K (.ref f) = true) (l : K.lookup f = some ⟨oc, od, .func (PySem.W.fnOf x qual (defArgs st) (defBody st) (defScope st) .none kV dc pm an cd ct), sl⟩) (c : PySem.W.codeIn K cd qual = true) (k : PySem.W.keepIn K (.ref f) = true) : MhK K C x qual st := ⟨⟨f, a, i, od, an, sl, oc, kV, dc, pm, cd, ct, l, c, k⟩⟩
theorem PhK.of {K : PySem.W.Frag} {C p : Addr} {x qual : Str} {st : Stmt} {f : Addr} {rest : List Value} {od an : Option Addr} {sl : Array (Option Value)} {oc kV dc pm cd ct : Value}
    (a : PySem.W.findIn K (.ref C) x = some (some (.ref p))) (g : PySem.W.specialIn K (.ref p) "__get__" = some (some (.builtin "property.__get__"))) (t : PySem.W.takesIn K (.ref p) = some true)
    (r : PySem.W.recIn K p "property" = some (.ref f :: rest)) (l : K.lookup f = some ⟨oc, od, .func (PySem.W.fnOf x qual (defArgs st) (defBody st) (defScope st) .none kV dc pm an cd ct), sl⟩) (c : PySem.W.codeIn K cd qual = true) (k : PySem.W.keepIn K (.ref f) = true) : PhK K C x qual st := ⟨⟨p, f, a, g, t, ⟨rest, r⟩, od, an, sl, oc, kV, dc, pm, cd, ct, l, c, k⟩⟩
structure CallF (K : PySem.W.Frag) (C : Addr) : Prop where
  ex : ∃ f, PySem.W.findIn K (.ref C) "__call__" = some (some (.ref f)) ∧ PySem.W.fnIn K f = true
theorem CallF.of {K : PySem.W.Frag} {C f : Addr} (a : PySem.W.findIn K (.ref C) "__call__" = some (some (.ref f))) (i : PySem.W.fnIn K f = true) : CallF K C := ⟨⟨f, a, i⟩⟩
structure ConI (K : PySem.W.Frag) (x : Str) (n : Int) : Prop where
  ex : ∃ t, PySem.W.nsIn K mainGlobals x = some (some (.int n t))
theorem ConI.of {K : PySem.W.Frag} {x : Str} {n : Int} {t : Tok} (a : PySem.W.nsIn K mainGlobals x = some (some (.int n t))) : ConI K x n := ⟨⟨t, a⟩⟩
theorem ConI.mg {K : PySem.W.Frag} {h : Heap} {mg : Str → Option Value} {x : Str} {n : Int} (c : ConI K x n) (X : K.In h) (G : h.Ns mainGlobals mg) : ∃ t, mg x = some (.int n t) := by
  obtain ⟨t, e⟩ := c.ex
  exact ⟨t, PySem.W.mg_of X G e⟩
end Pl
namespace Pl
open PySem PySem.Spec PyProof.Rows L2
/-! what raises -/
/-- an own error class over ValueError, as the top has left it -/
structure ExK (K : PySem.W.Frag) (mg : Str → Option Value) (x : Str) (C : Addr) : Prop where
  g : mg x = some (.ref C)
  xn : PySem.W.excIn K C [.type "ValueError", .type "Exception", .type "BaseException", .type "object"] "ValueError.__new__" = true
  kp : PySem.W.keepIn K (.ref C) = true
  ba : PySem.W.subIn K (.ref C) (.type "BaseException") = some true
  ty : PySem.W.typeIn K (.ref C) = some (.type "type")
  me : PySem.W.exmOne K (.ref C) (.ref C) = some true
structure ExF (K : PySem.W.Frag) (x : Str) (C : Addr) : Prop where
  a : PySem.W.nsIn K mainGlobals x = some (some (.ref C))
  xn : PySem.W.excIn K C [.type "ValueError", .type "Exception", .type "BaseException", .type "object"] "ValueError.__new__" = true
  kp : PySem.W.keepIn K (.ref C) = true
  ba : PySem.W.subIn K (.ref C) (.type "BaseException") = some true
  ty : PySem.W.typeIn K (.ref C) = some (.type "type")
  cl : PySem.W.isClsIn K C = true
  su : PySem.W.subIn K (.ref C) (.ref C) = some true
theorem exm_at {K : PySem.W.Frag} {S : Addr} {cls : Value} {b : Bool} (ba : PySem.W.subIn K (.ref S) (.type "BaseException") = some true) (cl : PySem.W.isClsIn K S = true)
    (ty : PySem.W.typeIn K (.ref S) = some (.type "type")) (su : PySem.W.subIn K cls (.ref S) = some b) : PySem.W.exmOne K cls (.ref S) = some b := by
  have cl2 : (PySem.W.clsIn K S).isSome = true := cl
  unfold PySem.W.exmOne PySem.W.kitCls
  simp [ba, ty, su, cl, cl2, PySem.W.isClsIn]
theorem ExF.k {K : PySem.W.Frag} {h : Heap} {mg : Str → Option Value} {x : Str} {C : Addr} (e : ExF K x C) (X : K.In h) (G : h.Ns mainGlobals mg) : ExK K mg x C :=
  ⟨PySem.W.mg_of X G e.a, e.xn, e.kp, e.ba, e.ty, exm_at e.ba e.cl e.ty e.su⟩
/-- whatever the slots are, the error is wished for -/
abbrev AnyS (W : WX) : XK := fun cls d H => ∀ σ, W cls d σ H
theorem passW {X : Cx} {W : WX} (tk : Takes X W) : Passes (L2.CX X.prog X.w) X (AnyS W) := fun _ σ _ _ e s' I c => tk e s' (XE.of_call I (fun _ _ _ h => h σ) c)
section
variable {X : Cx} {x m : Str} {j : Nat} {p p2 pos pos2 : Pos} {C : Addr} {W : WX}
/-- raise x('..') -/
theorem ps_err (e : ExK X.K X.mg x C) (tk : Takes X W) (hc : X.calm = true := by rfl) (hg : Gl X x := by rfl) (hdb : (x == ("__debug__" : Str)) = false := by decide) :
    PS X (.Raise (some (.Call (.Name x p) [.Constant (.str m) j p2] [] pos)) none pos2) (fun _ σ H => W (.ref C) none σ H) :=
  ps_raise hc tk (pmk_own PySem.F.excBase_ValueError e.xn e.g e.kp (raises_own e.ba e.ty) hg hdb)
end
structure MCalX (P : Program) (w : World) (K : PySem.W.Frag) (mg : Str → Option Value) (base : Heap) (k : Nat) (C : Addr) (m : Str) (ps : List Str) (sp : Sp) : Prop where
  ex : ∃ f fd, FnOk P w K mg base (L2.CX P w) k f fd ps sp ∧ PySem.W.findIn K (.ref C) m = some (some (.ref f)) ∧ PySem.W.isFn K (.ref f) = true ∧ PySem.W.keepIn K (.ref f) = true ∧ Binds K fd ps []
structure CalX (P : Program) (w : World) (K : PySem.W.Frag) (mg : Str → Option Value) (base : Heap) (k : Nat) (x : Str) (ps : List Str) (sp : Sp) : Prop where
  ex : ∃ f fd, FnOk P w K mg base (L2.CX P w) k f fd ps sp ∧ mg x = some (.ref f) ∧ PySem.W.keepIn K (.ref f) = true ∧ Binds K fd ps []
section
variable {P : Program} {w : World} {K : PySem.W.Frag} {mg : Str → Option Value} {base : Heap} {C : Addr} {x qual : Str} {st : Stmt} {N ps : List Str} {k : Nat} {sp : Sp}
theorem Mh.calX (D : Mh K C x qual st ps) (S : FnScope N ps (defScope st)) (lng : ∀ vs H Q E, sp vs H Q E → vs.length = ps.length)
    (bod : ∀ (f : Addr) (cdv : Value) (A : Around) (out : List Env) (s : Shared) (H : Hp) (vs : List V) (Q : VK) (E : XK),
      Room k (A.deeper (envOfC qual (defScope st) s.heap.objs.size f cdv)) → sp vs H Q E →
      ∃ t, PSs (cxOf (L2.CX P w) P w K mg base N qual (defScope st) f cdv A out s H E) (defBody st) t ∧
        t { nx := fun _ H' => Q .non H', rt := Q } (start N vs) H) : MCalX P w K mg base (k + 1) C x ps sp := by
  obtain ⟨f, fd, F, h1, h2, hb⟩ := D.ex
  exact ⟨f, fd, F.okX S lng (bod f), h1, h2, F.kp, hb⟩
theorem Df.calX (D : Df K mg x st ps) (S : FnScope N ps (defScope st)) (lng : ∀ vs H Q E, sp vs H Q E → vs.length = ps.length)
    (bod : ∀ (f : Addr) (cdv : Value) (A : Around) (out : List Env) (s : Shared) (H : Hp) (vs : List V) (Q : VK) (E : XK),
      Room k (A.deeper (envOfC x (defScope st) s.heap.objs.size f cdv)) → sp vs H Q E →
      ∃ t, PSs (cxOf (L2.CX P w) P w K mg base N x (defScope st) f cdv A out s H E) (defBody st) t ∧
        t { nx := fun _ H' => Q .non H', rt := Q } (start N vs) H) : CalX P w K mg base (k + 1) x ps sp := by
  obtain ⟨f, fd, F, hm, hb⟩ := D.ex
  exact ⟨f, fd, F.okX S lng (bod f), hm, F.kp, hb⟩
end
section
variable {X : Cx} {k : Nat} {C : Addr} {ps : List Str} {sp : Sp} {E : XK} {p pos : Pos} {x : Str} {e fe : Expr} {es : List Expr} {t : TA} {te ti tf : TE}
theorem pe_fnX (c : CalX X.prog X.w X.K X.mg X.base k x ps sp) (hx : Passes (L2.CX X.prog X.w) X E) (hr : Room k X.A) (ha : PA X (e :: es) t) (hg : Gl X x := by rfl) (hdb : (x == ("__debug__" : Str)) = false := by decide)
    (he : starEach (e :: es) X.env = (false, eval e X.env) :: starEach es X.env := by rfl) (hpl : (backTo pos (starEach es X.env)).any (·.1) = false := by rfl) :
    PE X (.Call (.Name x p) (e :: es) [] pos) (tCall sp [] E t) := by
  obtain ⟨f, fd, F, hm, kp, hb⟩ := c.ex
  exact pe_call F hr hg hm kp hb .nil hx ha hdb he hpl
theorem pe_mkX (c : MCalX X.prog X.w X.K X.mg X.base k C "__init__" ps sp) (hx : Passes (L2.CX X.prog X.w) X E) (mk : PySem.W.makesIn X.K C = true) (kc : PySem.W.keepIn X.K (.ref C) = true) (hm : X.mg x = some (.ref C)) (hr : Room (k + 1) X.A) (ha : PA X (e :: es) t)
    (hg : Gl X x := by rfl) (hdb : (x == ("__debug__" : Str)) = false := by decide)
    (he : starEach (e :: es) X.env = (false, eval e X.env) :: starEach es X.env := by rfl) (hpl : (backTo pos (starEach es X.env)).any (·.1) = false := by rfl) :
    PE X (.Call (.Name x p) (e :: es) [] pos) (tMake C sp [] E t) := by
  obtain ⟨f, fd, F, h1, h2, kp, hb⟩ := c.ex
  exact pe_make ⟨mk, h1, h2, kc⟩ F hr hg hm hb .nil hx ha hdb he hpl
/-- an instance of C called, which may raise -/
def tCallX (C : Addr) (sp : Sp) (E : XK) (tf : TE) (t : TA) : TE := fun σ H Q => tf σ H fun y H1 => ∃ a, y = V.ref a ∧ t σ H1 fun vs H2 =>
  ((∃ dx vs, SlX.Slt H2 a C dx vs) ∨ ∃ dx fs, H2 a = some (.ins C dx fs)) ∧ sp (V.ref a :: vs) H2 Q E
theorem pe_callX (c : MCalX X.prog X.w X.K X.mg X.base k C "__call__" ps sp) (hx : Passes (L2.CX X.prog X.w) X E) (fi : ∀ f, PySem.W.findIn X.K (.ref C) "__call__" = some (some (.ref f)) → PySem.W.fnIn X.K f = true) (hr : Room k X.A) (hf : PE X fe tf) (ha : PA X (e :: es) t)
    (ht : eval (.Call fe (e :: es) [] pos) X.env = (do callWith pos (← eval fe X.env) [] (backTo pos (starEach (e :: es) X.env)) (backToKw pos (keywordEach [] X.env))) := by rfl)
    (he : starEach (e :: es) X.env = (false, eval e X.env) :: starEach es X.env := by rfl) (hpl : (backTo pos (starEach es X.env)).any (·.1) = false := by rfl) :
    PE X (.Call fe (e :: es) [] pos) (tCallX C sp E tf t) := by
  obtain ⟨f, fd, F, h1, h2, kp, hb⟩ := c.ex
  have R : FnR X.prog X.w X.K X.mg X.base (L2.CX X.prog X.w) k f sp := (F.raw hb .nil).imp fun vs H Q E h => by simpa using h
  show PE X (.Call fe (e :: es) [] pos) (StX.tCallO X C sp E tf t)
  exact StX.pe_callO hf ⟨h1, h2, fi f h1⟩ R hr hx ha ht he hpl
/-- o[i] by the class's own __getitem__, which may raise -/
def tSub (C : Addr) (sp : Sp) (E : XK) (te ti : TE) : TE := fun σ H Q => te σ H fun x H1 => ti σ H1 fun y H2 => ∃ a dx fs, x = V.ref a ∧ H2 a = some (.ins C dx fs) ∧ sp [.ref a, y] H2 Q E
theorem pe_subX {i : Expr} (c : MCalX X.prog X.w X.K X.mg X.base k C "__getitem__" ps sp) (hx : Passes (L2.CX X.prog X.w) X E) (fi : ∀ f, PySem.W.findIn X.K (.ref C) "__getitem__" = some (some (.ref f)) → PySem.W.fnIn X.K f = true) (hr : Room (k + 1) X.A)
    (he : PE X e te) (hi : PE X i ti) (hs : ∀ o u, subscripted i true o u = runValue (.builtin "lifetime.subscript" ⟨[o, u], []⟩) := by intro o u; with_unfolding_all rfl) : PE X (.Subscript e i pos) (tSub C sp E te ti) := by
  obtain ⟨f, fd, F, h1, h2, kp, hb⟩ := c.ex
  refine ⟨fun pins s σ H Q I h => ?_⟩
  refine Subscript_ (binT he hi I h fun v u s2 x y H2 I2 rx ry q => ?_)
  obtain ⟨a, dx, fs, rfl, ea, q⟩ := q
  obtain rfl : v = Value.ref a := rx
  obtain ⟨mA, O, _⟩ := ins_get I2.hok ea
  obtain ⟨od, J, _⟩ := O.look
  obtain ⟨m, fr⟩ := I2.fr
  have hl : [V.ref a, y].length = ps.length := F.len _ _ _ _ q
  have bt : BindsTo s2 fd ⟨[.ref a, u], []⟩ (ps.zip [Value.ref a, u]) := by simpa using hb s2 [.ref a, u] I2.kIn (by simpa using hl)
  refine PySem.W.sub_K fr I2.ok.mod.kin J h1 (fi f h1) h2 (wpAny_call (codeAny_mono (F.run X.A.in1 X.stack s2 H2 ⟨[.ref a, u], []⟩ [.ref a, u] [.ref a, y] Q E hr.in1 I2.env0.in1 bt (.cons rfl (.cons ry .nil)) q) ?_)) (hs _ _)
  intro res s' z
  match res, z with
  | .ok (.ret u), z => exact I2.after z
  | .ok .next, z => exact False.elim z
  | .ok .brk, z => exact False.elim z
  | .ok .cont, z => exact False.elim z
  | .error er, z => exact hx pins σ H2 s2 er s' I2 z
end
structure ItemF (K : PySem.W.Frag) (C : Addr) : Prop where
  ex : ∃ f, PySem.W.findIn K (.ref C) "__getitem__" = some (some (.ref f)) ∧ PySem.W.fnIn K f = true
theorem ItemF.of {K : PySem.W.Frag} {C f : Addr} (a : PySem.W.findIn K (.ref C) "__getitem__" = some (some (.ref f))) (i : PySem.W.fnIn K f = true) : ItemF K C := ⟨⟨f, a, i⟩⟩
theorem ItemF.fi {K : PySem.W.Frag} {C : Addr} (c : ItemF K C) : ∀ f, PySem.W.findIn K (.ref C) "__getitem__" = some (some (.ref f)) → PySem.W.fnIn K f = true := fun f h => by
  obtain ⟨g, a, b⟩ := c.ex
  rw [a] at h
  cases h
  exact b
end Pl
namespace Pl
open PySem PySem.Spec PyProof.Rows L2
section
open PySem.W
variable {prog : Program} {w : World} {A : Around} {E : Value → Shared → Prop} {s : Shared} {K : Frag} {x C f : Addr} {ox : Obj} {od : Option Obj} {T : String}
/-- x op b, x an instance whose class has the operator, b of a built-in type -/
theorem binL {op : Operator} {b : Value} {fo ro rc : Option Value} {Q : Value → Shared → Prop} (inK : K.In s.heap) (ia : InstAt s.heap x ox C od) (tb : Looks (model prog w) s.heap (typeOf b) (.type T)) (sf : selfFirst K C = true)
    (fa : findIn K (.ref C) (PySem.dunder op.info.2) = some (some (.ref f))) (fn : isFn K (.ref f) = true) (fr : findIn K (.ref C) (dunderR op.info.2) = some rc) (pr : rc = none ∨ ∃ g : Addr, rc = some (.ref g))
    (t1 : findIn K (.type T) (PySem.dunder op.info.2) = some fo) (t2 : findIn K (.type T) (dunderR op.info.2) = some ro) (no : subIn K (.type T) (.ref C) = some false)
    (go : wpAny (model prog w) A (call (.ref f) [.ref x, b]) (PySem.W.CmpBack Q) E s) : wpAny (model prog w) A (binaryOp op (.ref x) b) Q E s := by
  obtain ⟨cd, rest, c1, c2⟩ := ksp_first sf
  rcases oi : op.info with ⟨sg, nm⟩
  rw [oi] at fa fr t1 t2; dsimp only at fa fr t1 t2
  have step := ksp_try inK ia fa fn go
  obtain ⟨hp, gs, dr, tk, os⟩ := s
  have l1 : Looks (model prog w) hp (typeOf (.ref x)) (.ref C) := ia.type
  have l2 : Looks (model prog w) hp (typeOf b) (.type T) := tb
  have l3 : Looks (model prog w) hp (fillsNumberSlot (.ref C) nm) true := fills_K inK c1 c2 fa
  have l4 := ksp_fillsT (M := model prog w) (nm := nm) (T := T) (h := hp) inK t1 t2
  have l5 : Looks (model prog w) hp (isSubtype (.type T) (.ref C)) false := looks_subIn inK no
  have l6 : Looks (model prog w) hp (numberSlotInPython (.ref C) nm) true := ksp_inPy inK fa fr pr
  have l7 : Looks (model prog w) hp (numberSlotInPython (.type T) nm) false := Looks.of_pure rfl
  have l8 : Looks (model prog w) hp (typeLookup (.type T) (dunderR nm)) ro := looks_findIn inK t2
  generalize ((fo.isSome && !isSeqSlot fo) || (ro.isSome && !isSeqSlot ro)) = rt at l4
  have ne : (Value.ref C == Value.type T) = false := Bool.eq_false_iff.mpr fun q => by cases beq_iff_eq.mp q
  simp only [binaryOp, oi]
  refine wpAny_holding (wpAny_bind ?_); unfold binaryOp1
  refine wpAny_bind (l1.at (wpAny_bind (l2.at (wpAny_bind (l3.at ?_))))); simp only [ne, Bool.false_eq_true, if_false]
  cases rt <;> (ksp_lk; refine wpAny_mono step (fun r s' hr => ?_) fun _ _ e => e; obtain ⟨v, rfl, hq⟩ := hr; ksp_lk; exact hq)
end
/-- the built-in type of a value -/
inductive TyS (H : Hp) : V → String → Prop where
  | non : TyS H .non "NoneType"
  | bl (b : Bool) : TyS H (.bl b) "bool"
  | int (i : Int) : TyS H (.int i) "int"
  | str (z : Str) : TyS H (.str z) "str"
  | lst {a : Addr} {xs : List V} (e : H a = some (.lst xs)) : TyS H (.ref a) "list"
  | tup {a : Addr} {xs : List V} (e : H a = some (.tup xs)) : TyS H (.ref a) "tuple"
  | dK {a : Addr} {xs : List (Key × V)} (e : H a = some (.dK xs)) : TyS H (.ref a) "dict"
theorem TyS.tyX {K : PySem.W.Frag} {H : Hp} {x : V} {T : String} (t : TyS H x T) : TyX K H x (.type T) := by
  cases t with
  | non => exact .base .non
  | bl b => exact .base (.bl b)
  | int i => exact .base (.int i)
  | str z => exact .base (.str z)
  | lst e => exact .base (.lst e)
  | tup e => exact .base (.tup e)
  | dK e => exact .base (.dK e)
theorem TyS.same {H H' : Hp} {x : V} {T : String} (k : Same H H') (t : TyS H x T) : TyS H' x T := by
  cases t with
  | non => exact .non
  | bl b => exact .bl b
  | int i => exact .int i
  | str z => exact .str z
  | lst e => exact .lst (k _ _ e)
  | tup e => exact .tup (k _ _ e)
  | dK e => exact .dK (k _ _ e)
theorem TyS.looks {X : Cx} {pins : List (Addr × Obj)} {σ : L2.St} {H : Hp} {s : Shared} {x : V} {u : Value} {T : String} (I : Inv X pins σ H s) (r : RelV x u) (t : TyS H x T) : PySem.W.Looks (model X.prog X.w) s.heap (typeOf u) (.type T) := by
  cases t with
  | non => cases (show u = Value.none from r); exact PySem.W.Looks.of_pure rfl
  | bl b => cases (show u = Value.bool b from r); exact PySem.W.Looks.of_pure rfl
  | int i => obtain ⟨t, q⟩ := (show ∃ t, u = Value.int i t from r); cases q; exact PySem.W.Looks.of_pure rfl
  | str z => obtain ⟨t, q⟩ := (show ∃ t, u = Value.str z t from r); cases q; exact PySem.W.Looks.of_pure rfl
  | @lst a xs e =>
    cases (show u = Value.ref a from r)
    obtain ⟨_, _, n, _, h1⟩ := (show ObjOk X.prog X.w H s.heap a (.lst xs) from I.hok a _ e)
    exact fun A Q E s' k q => wpAny_typeOf_ref (k _ _ h1) q
  | @tup a xs e =>
    cases (show u = Value.ref a from r)
    obtain ⟨_, _, _, o, h1, h2, _⟩ := (show ObjOk X.prog X.w H s.heap a (.tup xs) from I.hok a _ e)
    exact fun A Q E s' k q => wpAny_typeOf_ref (k _ _ h1) (by rw [h2]; exact q)
  | @dK a xs e =>
    cases (show u = Value.ref a from r)
    obtain ⟨_, _, vs, _, o, es, ep, h1, h2, _⟩ := (show ObjOk X.prog X.w H s.heap a (.dK xs) from I.hok a _ e)
    exact fun A Q E s' k q => wpAny_typeOf_ref (k _ _ h1) (by rw [h2.1]; exact q)
/-- what the written part says of C + T -/
def AddT (K : PySem.W.Frag) (C : Addr) (T : String) : Prop := ∃ fo ro, PySem.W.findIn K (.type T) "__add__" = some fo ∧ PySem.W.findIn K (.type T) "__radd__" = some ro ∧ PySem.W.subIn K (.type T) (.ref C) = some false
theorem AddT.of {K : PySem.W.Frag} {C : Addr} {T : String} {fo ro : Option Value} (a : PySem.W.findIn K (.type T) "__add__" = some fo) (b : PySem.W.findIn K (.type T) "__radd__" = some ro) (c : PySem.W.subIn K (.type T) (.ref C) = some false) : AddT K C T := ⟨fo, ro, a, b, c⟩
structure AddC (K : PySem.W.Frag) (C : Addr) : Prop where
  sf : PySem.W.selfFirst K C = true
  rd : ∃ g : Addr, PySem.W.findIn K (.ref C) "__radd__" = some (some (.ref g))
theorem AddC.of {K : PySem.W.Frag} {C g : Addr} (a : PySem.W.selfFirst K C = true) (b : PySem.W.findIn K (.ref C) "__radd__" = some (some (.ref g))) : AddC K C := ⟨a, g, b⟩
theorem dpI (K : PySem.W.Frag) (H : Hp) : ∀ ns : List Int, DpAll K H (ns.map V.int) (ns.map PyData.int)
  | [] => .nil
  | n :: ns => .cons (.int n) (dpI K H ns)
theorem depI : ∀ ns : List Int, PyData.depthAll (ns.map PyData.int) = 0
  | [] => rfl
  | n :: ns => by
    show max 0 (PyData.depthAll (ns.map PyData.int)) = 0
    rw [depI ns]; rfl
section
variable {X : Cx} {k : Nat} {C : Addr} {ps : List Str} {sp : Sp} {E : XK}
/-- a + b by the class's own __add__, which may raise; what it returns is an object -/
def rAddO (K : PySem.W.Frag) (C : Addr) (sp : Sp) (E : XK) : R2 := fun x y H Q => ∃ (a dx : Addr) (fs : List (Str × V)), x = .ref a ∧ H a = some (.ins C dx fs) ∧
  ((∃ (b db : Addr) (fb : List (Str × V)), y = .ref b ∧ H b = some (.ins C db fb)) ∨ (∃ T, TyS H y T ∧ AddT K C T)) ∧ sp [.ref a, y] H (fun v H' => ∃ p, v = .ref p ∧ Q (.ref p) H') E
theorem op_addO (c : MCalX X.prog X.w X.K X.mg X.base k C "__add__" ps sp) (ac : AddC X.K C) (hx : Passes (L2.CX X.prog X.w) X E) (hr : Room k X.A) : OpR X (binaryOp .Add) (rAddO X.K C sp E) := by
  obtain ⟨f, fd, F, h1, h2, kp, hb⟩ := c.ex
  obtain ⟨g, h3⟩ := ac.rd
  intro pins s σ H x y v u Q I rx ry h
  obtain ⟨a, dx, fs, rfl, ea, oy, q⟩ := h
  obtain rfl : v = Value.ref a := rx
  obtain ⟨mA, O, _⟩ := ins_get I.hok ea
  obtain ⟨od, J, _⟩ := O.look
  have go : wpAny (model X.prog X.w) X.A (call (.ref f) [.ref a, u]) (PySem.W.CmpBack (EP X pins σ Q)) X.xe s := by
    have hl : [V.ref a, y].length = ps.length := F.len _ _ _ _ q
    have bt : BindsTo s fd ⟨[.ref a, u], []⟩ (ps.zip [Value.ref a, u]) := by simpa using hb s [.ref a, u] I.kIn (by simpa using hl)
    refine wpAny_call (codeAny_mono (F.run X.A X.stack s H ⟨[.ref a, u], []⟩ [.ref a, u] [.ref a, y] _ E hr I.env0 bt (.cons rfl (.cons ry .nil)) q) ?_)
    intro res s' z
    match res, z with
    | .ok (.ret u'), z =>
      obtain ⟨v', H', J2, rv, p, rfl, q2⟩ := I.after z
      obtain rfl : u' = Value.ref p := rv
      exact ⟨.ref p, H', J2, rfl, q2⟩
    | .ok .next, z => exact False.elim z
    | .ok .brk, z => exact False.elim z
    | .ok .cont, z => exact False.elim z
    | .error er, z => exact hx pins σ H s er s' I z
  rcases oy with ⟨b, db, fb, rfl, eb⟩ | ⟨T, ty, fo, ro, t1, t2, no⟩
  · obtain rfl : u = Value.ref b := ry
    obtain ⟨mB, O2, _⟩ := ins_get I.hok eb
    obtain ⟨od2, J2, _⟩ := O2.look
    obtain ⟨m, fr⟩ := I.fr
    exact PySem.W.binop_K fr I.ok.mod.kin J J2.type ac.sf h1 h2 go
  · exact binL (op := .Add) I.kIn J (ty.looks I ry) ac.sf h1 h2 h3 (.inr ⟨g, rfl⟩) t1 t2 no go
/-- max of a tuple of ints -/
theorem call_maxT (calm : X.calm = true) (hu : X.A.units + 66 < cLine) : CallR X (.builtin "max") (fun vs H Q => ∃ (a : Addr) (n : Int) (ns : List Int), vs = [V.ref a] ∧ SqT X.K H a ((n :: ns).map V.int) ∧ Q (.int (ns.foldl max n)) H) := by
  intro pins s σ H vs us Q I r h
  obtain ⟨a, n, ns, rfl, sq, q⟩ := h
  obtain ⟨its, rv, tp, _⟩ := I.tuple sq
  rw [Vals.ref1 r]
  obtain ⟨as, rd⟩ := Dp.readsAll I _ _ its (dpI X.K H (n :: ns)) rv
  have dp : PyData.depthAll ((n :: ns).map PyData.int) = 0 := depI _
  refine PySem.W.max_tuple_data (x := .int n) (xs := ns.map PyData.int) (I.ok.hd calm) tp (by simpa using rd) ⟨?_, ?_⟩ ?_ fun i v h' tk bs hv rv' hk => ?_
  · intro x hx y hy
    obtain ⟨i, _, rfl⟩ := List.mem_map.mp (show x ∈ (n :: ns).map PyData.int from hx)
    obtain ⟨j, _, rfl⟩ := List.mem_map.mp (show y ∈ (n :: ns).map PyData.int from hy)
    rfl
  · intro x hx
    obtain ⟨i, _, rfl⟩ := List.mem_map.mp (show x ∈ (n :: ns).map PyData.int from hx)
    exact fun z => nomatch z
  · have e : PyData.depthAll (.int n :: ns.map PyData.int) = 0 := dp
    rw [e]; omega
  · rw [PySem.W.maxD_ints] at rv'
    cases rv'
    exact ⟨.int _, H, I.kept hk, ⟨_, rfl⟩, q⟩
end
end Pl
namespace Pl
open PySem PySem.Spec PyProof.Rows L2
/-! what some built-ins do, over the written part alone -/
def rTupleOf (K : PySem.W.Frag) : List V → Hp → VK → Prop := fun xs H Q => ∃ p ys, xs = [.ref p] ∧ ((SqL K H p ys ∧ ∀ l, H l = none → Q (.ref l) (upd H l (.tup ys))) ∨ (SqT K H p ys ∧ Q (.ref p) H))
def rListOf (K : PySem.W.Frag) : List V → Hp → VK → Prop := fun xs H Q => ∃ p ys, xs = [.ref p] ∧ (SqL K H p ys ∨ SqT K H p ys) ∧ ∀ l, H l = none → Q (.ref l) (upd H l (.lst ys))
def rLenSq (K : PySem.W.Frag) : List V → Hp → VK → Prop := fun xs H Q => ∃ p ys, xs = [.ref p] ∧ (SqL K H p ys ∨ SqT K H p ys) ∧ Q (.int ys.length) H
def rSortedT (K : PySem.W.Frag) : List V → Hp → VK → Prop := fun vs H Q => ∃ (a : Addr) (ns : List Int), vs = [V.ref a] ∧ SqT K H a (ns.map V.int) ∧ ns.length < 64 ∧
    ∀ (ns' : List Int) (p : Addr), ns'.Perm ns → ns'.Pairwise (· ≤ ·) → H p = none → Q (.ref p) (upd H p (.lst (ns'.map V.int)))
section
variable {X : Cx}
/-- xs[i] by values, 0 ≤ i, for xs[i] op= e -/
theorem get_list : PGet X (fun x y H Q => ∃ (p : Addr) (xs : List V) (i : Int) (v : V), x = .ref p ∧ y = .int i ∧ SqL X.K H p xs ∧ 0 ≤ i ∧ xs[i.toNat]? = some v ∧ Q v H) := by
  intro pins s σ H o i ov iv Q I ro ri h
  obtain ⟨p, xs, n, v, rfl, rfl, sq, n0, e, q⟩ := h
  obtain rfl : ov = Value.ref p := ro
  obtain ⟨t, rfl⟩ := (show ∃ t, iv = Value.int n t from ri)
  obtain ⟨its, rv, pl, hz⟩ := I.list sq
  obtain ⟨u, eu, ru⟩ := rv.get e
  have l1 := (List.getElem?_eq_some_iff.mp e).1
  have l2 : (sizeLine : Nat) = 16777216 := sizeLine_eq
  exact wpAny_getItem_list pl.isList n0 (by omega) (by simpa using eu) ⟨v, H, I, ru, q⟩
/-- a call that is shown not to raise -/
theorem passF : Passes (L2.CX X.prog X.w) X (fun _ _ _ => False) := fun _ _ _ _ _ _ _ c => by
  obtain ⟨_, _, _, _, _, _, _, _, _, _, _, _, z⟩ := c
  exact z.elim
end
end Pl
namespace Pl
open PySem PySem.Spec PyProof.Rows L2
section
open PySem.W
variable {prog : Program} {w : World} {A : Around} {E : Value → Shared → Prop} {s : Shared} {K : Frag} {x C L f : Addr} {h₀ : Heap} {m : Str → Option Value} {ox : Obj} {od : Option Obj} {b tb : Value}
theorem special_ne {Q : Option Value → Shared → Prop} (X : K.In s.heap) (I : InstAt s.heap x ox C od) (hne : findIn K (.ref C) "__ne__" = some (some (.builtin "object.__ne__")))
    (h : wpAny (model prog w) A (call (.builtin "object.__ne__") [.ref x, b]) (fun v => Q (some v)) E s) : wpAny (model prog w) A (callSpecialIfBound? (.ref x) "__ne__" [b]) Q E s := by
  simp only [callSpecialIfBound?, bindSpecialIfBound?]
  refine wpAny_holding (wpAny_bind (wpAny_bind (wpAny_bind (I.type.here ((looks_findIn X hne).here ?_)))))
  refine wpAny_bind (wpAny_askSetting (wpAny_ite ?_))
  simp only [PySem.F.cmp_object.ne.bind]
  have fin : wpAny (model prog w) A (call (.builtin "object.__ne__") ([.ref x] ++ [b]) >>= fun v => pure (some v)) Q E s := wpAny_bind (wpAny_mono h (fun v s' h' => wpAny_pure h') fun _ _ h' => h')
  split
  · exact wpAny_bind (wpAny_pure (wpAny_pure fin))
  · exact wpAny_tryCatch (wpAny_bind (wpAny_pure (wpAny_pure fin)))
theorem ne_entry {Q : PySem.Fin → Shared → Prop} (hu : A.units < cLine) (X : K.In s.heap) (I : InstAt s.heap x ox C od) (hs : findIn K (.ref C) "__eq__" = some (some (.ref f))) (hf : isFn K (.ref f) = true)
    (h : wpAny (model prog w) A (call (.ref f) [.ref x, b]) (fun v s' => ∃ r, v = .bool r ∧ Q (.done (.ret (.bool (!r)))) s') E s) : wpAny (model prog w) A (Builtin.«object.__ne__» ⟨[.ref x, b], []⟩) Q E s := by
  unfold Builtin.«object.__ne__»
  refine wpAny_bind (wpAny_pure ?_)
  refine wpAny_bind (wpAny_cRoomFor hu ?_)
  refine wpAny_bind (ifBound_K X I hs hf (wpAny_mono h (fun v s' hv => ?_) fun _ _ e => e))
  obtain ⟨r, rfl, q⟩ := hv
  exact wpAny_bind (wpAny_pure (wpAny_pure q))
theorem ne_K {Q : Value → Shared → Prop} (hu : A.units + 1 < cLine) (F : Fr h₀ L s.heap m) (X₀ : K.In h₀) (I : InstAt s.heap x ox C od) (hb : Looks (model prog w) s.heap (typeOf b) tb) (hn : notFirst K C tb = true)
    (hne : findIn K (.ref C) "__ne__" = some (some (.builtin "object.__ne__"))) (hm : mroIn K C (.type "object") = some true)
    (hs : findIn K (.ref C) "__eq__" = some (some (.ref f))) (hf : isFn K (.ref f) = true)
    (h : wpAny (model prog w) A.in1 (call (.ref f) [.ref x, b]) (fun v s' => ∃ r, v = .bool r ∧ Q (.bool (!r)) s') E s) : wpAny (model prog w) A (richCompare .NotEq (.ref x) b) Q E s := by
  have X := X₀.keeps F.keep
  have one : wpAny (model prog w) A (tryCompare (.ref x) "__ne__" b) (fun r s' => ∃ v, r = some v ∧ Q v s') E s := by
    unfold tryCompare
    refine wpAny_bind (special_ne X I hne (wpAny_call (codeAny_call_builtin PySem.F.cmp_object.ne.plain PySem.F.cmpEntry_ne
      (check_slot PySem.F.cmpKind_ne PySem.F.cmpSplit_ne (I.type.andThen (looks_mroIn X hm)) (PySem.F.cmpArgs_ne _ _) (ne_entry (A := A.in1) hu X I hs hf ?_)))))
    refine wpAny_mono h (fun v s' hv => ?_) fun _ _ e => e
    obtain ⟨r, rfl, q⟩ := hv
    exact ⟨r, rfl, wpAny_pure ⟨_, rfl, q⟩⟩
  unfold richCompare
  simp only [oneThing_ref]
  refine wpAny_holding (wpAny_bind (wpAny_cRoomFor (by omega) ?_))
  refine wpAny_bind (I.type.here (wpAny_bind (hb.here ?_)))
  split
  · rename_i q
    have e : subIn K tb (.ref C) = some false := by
      rcases Bool.or_eq_true_iff.mp hn with e | e
      · rw [beq_iff_eq.mp e] at q; simp at q
      · exact beq_iff_eq.mp e
    refine wpAny_bind ((looks_subIn X e).here ?_)
    simp only [Bool.false_eq_true, if_false]
    refine wpAny_bind (wpAny_mono one (fun r s' z => ?_) fun _ _ e => e)
    obtain ⟨v, rfl, hq⟩ := z
    exact wpAny_pure hq
  · refine wpAny_bind (wpAny_pure ?_)
    simp only [Bool.false_eq_true, if_false]
    refine wpAny_bind (wpAny_mono one (fun r s' z => ?_) fun _ _ e => e)
    obtain ⟨v, rfl, hq⟩ := z
    exact wpAny_pure hq
end
/-- what the written part says of == and != of C -/
structure EqC (K : PySem.W.Frag) (C : Addr) : Prop where
  ne : PySem.W.findIn K (.ref C) "__ne__" = some (some (.builtin "object.__ne__"))
  mro : PySem.W.mroIn K C (.type "object") = some true
/-- the second operand: of the class, or of a built-in type that is not below it -/
def EqY (K : PySem.W.Frag) (C : Addr) (H : Hp) (y : V) : Prop := (∃ (b db : Addr) (fb : List (Str × V)), y = .ref b ∧ H b = some (.ins C db fb)) ∨ (∃ T, TyS H y T ∧ PySem.W.subIn K (.type T) (.ref C) = some false)
def rEqO (K : PySem.W.Frag) (C : Addr) (sp : Sp) : R2 := fun x y H Q => ∃ (a dx : Addr) (fs : List (Str × V)), x = .ref a ∧ H a = some (.ins C dx fs) ∧ EqY K C H y ∧ sp [.ref a, y] H (fun v H' => ∃ r, v = .bl r ∧ Q (.bl r) H') E0
def rNeO (K : PySem.W.Frag) (C : Addr) (sp : Sp) : R2 := fun x y H Q => ∃ (a dx : Addr) (fs : List (Str × V)), x = .ref a ∧ H a = some (.ins C dx fs) ∧ EqY K C H y ∧ sp [.ref a, y] H (fun v H' => ∃ r, v = .bl r ∧ Q (.bl (!r)) H') E0
section
variable {X : Cx} {k : Nat} {C : Addr} {ps : List Str} {sp : Sp}
theorem EqY.looks {pins : List (Addr × Obj)} {σ : L2.St} {H : Hp} {s : Shared} {y : V} {u : Value} (I : Inv X pins σ H s) (r : RelV y u) (e : EqY X.K C H y) :
    ∃ tb, PySem.W.Looks (model X.prog X.w) s.heap (typeOf u) tb ∧ PySem.W.notFirst X.K C tb = true := by
  rcases e with ⟨b, db, fb, rfl, eb⟩ | ⟨T, ty, no⟩
  · obtain rfl : u = Value.ref b := r
    obtain ⟨mB, O, _⟩ := ins_get I.hok eb
    obtain ⟨od, J, _⟩ := O.look
    exact ⟨_, J.type, by simp [PySem.W.notFirst]⟩
  · exact ⟨_, ty.looks I r, by simp [PySem.W.notFirst, no]⟩
theorem op_eqO (c : MCal X.prog X.w X.K X.mg X.base k C "__eq__" ps sp) (hr : Room k X.A) : OpR X (compareOp .Eq) (rEqO X.K C sp) := by
  obtain ⟨f, fd, F, h1, h2, kp, hb⟩ := c.ex
  intro pins s σ H x y v u Q I rx ry h
  obtain ⟨a, dx, fs, rfl, ea, ey, q⟩ := h
  obtain rfl : v = Value.ref a := rx
  obtain ⟨tb, lk, nf⟩ := ey.looks I ry
  obtain ⟨mA, O, _⟩ := ins_get I.hok ea
  obtain ⟨od, J, _⟩ := O.look
  obtain ⟨m, fr⟩ := I.fr
  show wpAny (model X.prog X.w) X.A (richCompare .Eq (.ref a) u) (EP X pins σ Q) X.xe s
  refine PySem.W.cmp_K (op := .Eq) hr.units0 fr I.ok.mod.kin J lk nf h1 h2 ?_
  have hl : [V.ref a, y].length = ps.length := F.len _ _ _ _ q
  have bt : BindsTo s fd ⟨[.ref a, u], []⟩ (ps.zip [Value.ref a, u]) := by simpa using hb s [.ref a, u] I.kIn (by simpa using hl)
  refine wpAny_call (codeAny_mono (F.run X.A X.stack s H ⟨[.ref a, u], []⟩ [.ref a, u] [.ref a, y] _ E0 hr I.env0 bt (.cons rfl (.cons ry .nil)) q) ?_)
  intro res s' z
  match res, z with
  | .ok (.ret u'), z =>
    obtain ⟨v', H', J2, rv, r, rfl, q2⟩ := I.after z
    obtain rfl : u' = Value.bool r := rv
    exact ⟨.bl r, H', J2, rfl, q2⟩
  | .ok .next, z => exact False.elim z
  | .ok .brk, z => exact False.elim z
  | .ok .cont, z => exact False.elim z
  | .error er, z => exact False.elim z
theorem op_neO (c : MCal X.prog X.w X.K X.mg X.base k C "__eq__" ps sp) (ec : EqC X.K C) (hr : Room (k + 1) X.A) : OpR X (compareOp .NotEq) (rNeO X.K C sp) := by
  obtain ⟨f, fd, F, h1, h2, kp, hb⟩ := c.ex
  intro pins s σ H x y v u Q I rx ry h
  obtain ⟨a, dx, fs, rfl, ea, ey, q⟩ := h
  obtain rfl : v = Value.ref a := rx
  obtain ⟨tb, lk, nf⟩ := ey.looks I ry
  obtain ⟨mA, O, _⟩ := ins_get I.hok ea
  obtain ⟨od, J, _⟩ := O.look
  obtain ⟨m, fr⟩ := I.fr
  show wpAny (model X.prog X.w) X.A (richCompare .NotEq (.ref a) u) (EP X pins σ Q) X.xe s
  refine ne_K (by have := hr.un; omega) fr I.ok.mod.kin J lk nf ec.ne ec.mro h1 h2 ?_
  have hl : [V.ref a, y].length = ps.length := F.len _ _ _ _ q
  have bt : BindsTo s fd ⟨[.ref a, u], []⟩ (ps.zip [Value.ref a, u]) := by simpa using hb s [.ref a, u] I.kIn (by simpa using hl)
  refine wpAny_call (codeAny_mono (F.run X.A.in1 X.stack s H ⟨[.ref a, u], []⟩ [.ref a, u] [.ref a, y] _ E0 hr.in1 I.env0.in1 bt (.cons rfl (.cons ry .nil)) q) ?_)
  intro res s' z
  match res, z with
  | .ok (.ret u'), z =>
    obtain ⟨v', H', J2, rv, r, rfl, q2⟩ := I.after z
    obtain rfl : u' = Value.bool r := rv
    exact ⟨r, rfl, .bl (!r), H', J2, rfl, q2⟩
  | .ok .next, z => exact False.elim z
  | .ok .brk, z => exact False.elim z
  | .ok .cont, z => exact False.elim z
  | .error er, z => exact False.elim z
/-- repr(o), o an instance whose class has its own __repr__ -/
theorem call_reprO (c : MCal X.prog X.w X.K X.mg X.base k C "__repr__" ps sp) (hr : Room (k + 1) X.A) :
    CallR X (.builtin "repr") (fun xs H Q => ∃ (a dx : Addr) (fs : List (Str × V)), xs = [.ref a] ∧ H a = some (.ins C dx fs) ∧ sp [.ref a] H (fun v H' => ∃ z, v = .str z ∧ Q (.str z) H') E0) := by
  obtain ⟨f, fd, F, h1, h2, kp, hb⟩ := c.ex
  intro pins s σ H xs us Q I r h
  obtain ⟨a, dx, fs, rfl, ea, h⟩ := h
  obtain ⟨u, rfl, ru⟩ := vals1 r
  obtain rfl : u = Value.ref a := ru
  obtain ⟨mA, O, _⟩ := ins_get I.hok ea
  obtain ⟨od, J, _⟩ := O.look
  obtain ⟨m, fr⟩ := I.fr
  refine PySem.W.repr_K hr.in1.units0 fr I.ok.mod.kin J h1 h2 ?_
  have hl : [V.ref a].length = ps.length := F.len _ _ _ _ h
  have bt : BindsTo s fd ⟨[.ref a], []⟩ (ps.zip [Value.ref a]) := by simpa using hb s [.ref a] I.kIn (by simpa using hl)
  refine wpAny_call (codeAny_mono (F.run X.A.in1 X.stack s H ⟨[.ref a], []⟩ [.ref a] [.ref a] _ E0 hr.in1 I.env0.in1 bt (.cons rfl .nil) h) ?_)
  intro res s' z
  match res, z with
  | .ok (.ret u), z =>
    obtain ⟨v, H', J2, rv, n, rfl, q⟩ := I.after z
    obtain ⟨t, rfl⟩ := (show ∃ t, u = Value.str n t from rv)
    exact ⟨.str n, H', J2, ⟨_, rfl⟩, q⟩
  | .ok .next, z => exact False.elim z
  | .ok .brk, z => exact False.elim z
  | .ok .cont, z => exact False.elim z
  | .error er, z => exact False.elim z
end
end Pl
namespace Pl
open PySem PySem.Spec PyProof.Rows L2
/-! a list comprehension out of which an error may come -/
theorem note_eq {v : Value} {a b : Env} (h : a.frame = b.frame) : noteFrame v a = noteFrame v b := by
  unfold noteFrame PySem.frameOf
  rw [h]
theorem fly_of_call {X : Cx} {pins : List (Addr × Obj)} {σ : L2.St} {H : Hp} {s s' : Shared} {E : XK} {u : Value} (I : Inv X pins σ H s) (c : L2.CX X.prog X.w X.stack H s E u s') :
    ∃ (a : Addr) (B : Heap) (sI : Shared) (ps : List (Addr × Obj)) (σ1 : L2.St) (H1 : Hp) (cls : Value) (d : Option Addr), u = .ref a ∧ Inv X ps σ1 H1 sI ∧ (∀ b o, sI.heap.get? b = some o → b ∉ frs X.stack → B.get? b = some o) ∧
      sI.heap.UpToSlots s'.heap ∧ HandSPX.FlyingZ B X.stack a (Zc cls d) s'.heap ∧ H1 a = none ∧ s'.os = sI.os ∧ AllBare s'.gens ∧ E cls d H1 := by
  obtain ⟨a0, ⟨vs0, T0, oT0, ts0, oe0, q1, q2, q3, q4, q5, q6⟩⟩ : ∃ a0 : Addr, ∃ vs0 T0 oT0 ts0 oe0, u = .ref a0 ∧ s'.heap.get? a0 = some oe0 ∧ oe0.data = .fields vs0 ∧ vs0[1]? = some (.ref T0) ∧ s'.heap.get? T0 = some oT0 ∧ (oT0.data = .fields ts0 ∧ ts0[3]? = some Value.none) := by
    obtain ⟨a, B, H', cls, d, rfl, ⟨_, _, _, oe, vs, T, oT, ts, he, hz, hd, h1, hnT, hTe, hT, hdT, h3⟩, _⟩ := c
    exact ⟨a, vs, T, oT, ts, oe, rfl, he, hd, h1, hT, hdT, h3⟩
  obtain ⟨a, B, sI, ps, σ1, H1, cls, d, e, J, nb, up, sky, na, os, ag, w⟩ := XE.of_call (W := fun cls d _ H => E cls d H) I (fun _ _ _ h => h) c
  rw [e] at q1
  cases q1
  refine ⟨_, B, sI, ps, σ1, H1, cls, d, e, J, nb, up, ?_, na, os, ag, w⟩
  rcases sky with ⟨_, _, _, oe, vs, he, _, hd, h1⟩ | fl | ⟨_, _, _, oe, vs, T, oT, ts, he, _, hd, h1, _, _, hT, hdT, h3⟩
  · rw [q2] at he
    cases he
    rw [q3] at hd
    cases hd
    rw [q4] at h1
    cases h1
  · exact fl
  · rw [q2] at he
    cases he
    rw [q3] at hd
    cases hd
    rw [q4] at h1
    cases h1
    rw [q5] at hT
    cases hT
    rw [q6.1] at hdT
    cases hdT
    rw [q6.2] at h3
    cases h3
/-- what a comprehension's block comes to -/
def cPost (M : Model) (A : Around) (E : Value → Shared → Prop) (use : Option (Value → Sem Unit)) (Q : Value → Shared → Prop) (acc : Value) (C : Addr) (fr : Option Addr) : Result → Shared → Prop
  | .ok f, s' => compPost M A E use Q acc C (.ok f) s'
  | .error x, s' => ∃ m, s'.heap.Ns C m ∧ ∀ h2, Heap.SameBut C s'.heap h2 → ∀ ce : Env, ce.frame = fr → wpAny M A (passOn "comprehension.variables-let-go" x ce : Sem Value) (fun _ _ => False) E { s' with heap := h2 }
section
variable {M : Model} {A : Around} {E : Value → Shared → Prop} {s : Shared} {env : Env}
theorem compX {e : Expr} {scope : Scope} {pos : Pos} {mk first : Sem Value} {g : Comprehension} {gs : List Comprehension} {cl : List (Str × Addr)} {use : Option (Value → Sem Unit)} {Q : Value → Shared → Prop}
    (hcl : clausesOf e = g :: gs) (hs : ∀ x, foldedSetIterable g.iter env x = pure x) (hclos : closureFor scope env = pure cl) (hkind : scope.kind = .function) (hnames : ∀ x ∈ scope.names, x.2 = .local → scope.names.lookup x.1 = some .local)
    (h : wpAny M A first (fun x s1 => wpAny M A (pyIter x) (fun it s2 => wpAny M A mk (fun acc s3 => wpAny M A (newFunctionEnv scope env.globals cl [] env.qual none .none (some env)) (fun ce s4 =>
        codeAny M A (.compStart e 0 it acc { ce with scope := relabel scope env }) (cPost M A E use Q acc ce.locals ce.frame) s4) E s3) E s2) E s1) E s) :
    wpAny M A (comprehension e scope env pos mk false first use) Q E s := by
  have same : ∀ {α : Type} {t : Sem α} {P R : α → Shared → Prop} {z : Shared}, wpAny M A t P E z → (∀ a z, P a z → R a z) → wpAny M A t R E z := fun a b => wpAny_mono a b fun _ _ y => y
  unfold comprehension
  rw [hclos, hcl]
  refine wpAny_bind (same h fun x s1 h1 => wpAny_bind (wpAny_standAt (wpAny_bind (wpAny_of_eq (hs x) (wpAny_bind (wpAny_holding (same h1 fun it s2 h2 => ?_)))))))
  refine wpAny_standIf (wpAny_bind (same h2 fun acc s3 h3 => wpAny_bind (wpAny_pure (wpAny_bind (same h3 fun ce s4 h4 => ?_)))))
  dsimp only
  have hv : ∀ x ∈ (scope.names.filter fun x => (x.2 == .local || x.2 == .cell) && x.1 != (".0" : Str)).reverse, x.2 = .local → Env.kindOf { ce with scope := relabel scope env } x.1 = some .local :=
    fun x hx hl => lookup_relabel_local (hnames x (List.mem_filter.mp (List.mem_reverse.mp hx)).1 hl)
  refine wpAny_holding (wpAny_bind (wpAny_attempt (wpAny_holding (wpAny_run (codeAny_mono h4 fun r s5 hr => ?_)))))
  cases r with
  | ok f =>
    cases use with
    | none =>
      obtain ⟨m, hn, hr⟩ := hr
      exact wpAny_bind (wpAny_holding (wpAny_comp_letGo (cenv := { ce with scope := relabel scope env }) hkind _ s5 m hv hn fun h5 m5 _ sb => wpAny_pure (hr h5 sb)))
    | some u =>
      refine wpAny_bind (wpAny_rule (wpAny_bind (wpAny_holding (same hr fun _ s6 hr6 => ?_))))
      obtain ⟨m, hn, hr6⟩ := hr6
      refine wpAny_bind (wpAny_comp_letGo (cenv := { ce with scope := relabel scope env }) hkind _ s6 m (fun x hx hl => ?_) hn fun h6 m6 _ sb => wpAny_pure (hr6 h6 sb))
      rcases List.mem_append.mp hx with k | k
      · exact hv x (List.mem_of_mem_drop k) hl
      · exact hv x (List.mem_of_mem_take k) hl
  | error x =>
    obtain ⟨m, hn, hr⟩ : ∃ m, s5.heap.Ns ce.locals m ∧ ∀ h2, Heap.SameBut ce.locals s5.heap h2 → ∀ c2 : Env, c2.frame = ce.frame → wpAny M A (passOn "comprehension.variables-let-go" x c2 : Sem Value) (fun _ _ => False) E { s5 with heap := h2 } := hr
    exact wpAny_bind (wpAny_holding (wpAny_comp_letGo (cenv := { ce with scope := relabel scope env }) hkind _ s5 m hv hn fun h5 m5 _ sb => wpAny_mono (hr h5 sb _ rfl) (fun _ _ z => z.elim) fun _ _ y => y))
end
/-- the block's context, with its own wish of errors -/
abbrev blkE (X : Cx) (s : Shared) (H : Hp) (scope : Scope) (ce : Env) (fp : List Addr) (z : Value → Shared → Prop) : Cx := { X.blk s H scope ce fp with xe := z }
theorem inv_xe {X : Cx} {pins : List (Addr × Obj)} {σ : L2.St} {H : Hp} {s : Shared} {z : Value → Shared → Prop} (I : Inv X pins σ H s) : Inv { X with xe := z } pins σ H s := by
  obtain ⟨⟨a1, a2, a3, a4, a5, a6, a7, a8, a9, a10, a11, a12, a13, a14, a15, a16, a17, a18⟩, b1, b2, b3, b4, b5, b6, b7, b8, b9, b10⟩ := I
  exact ⟨⟨a1, a2, a3, a4, a5, a6, a7, a8, a9, a10, a11, a12, a13, a14, a15, a16, a17, a18⟩, b1, b2, b3, b4, b5, b6, b7, b8, b9, b10⟩
/-- an error out of the block is in the def's own air -/
theorem out_of_blk {X : Cx} {pins ps : List (Addr × Obj)} {σ σ1 : L2.St} {H3 H : Hp} {s3 s s' : Shared} {W : WX} {scope : Scope} {ce : Env} {fp : List Addr} {z : Value → Shared → Prop} {use : Option (Value → Sem Unit)} {Qf : Value → Shared → Prop} {acc u : Value}
    (tk : Takes X W) (hst : X.stack = X.env :: X.outer) (hfr : X.env.frame = some X.env.locals) (I3 : Inv X pins σ H3 s3) (cL : ce.locals = s3.heap.objs.size) (cF : ce.frame = X.env.frame)
    (f3 : ∀ b ∈ fp, (b ∈ X.ex ∨ X.s_0.heap.objs.size ≤ b) ∧ b ≠ X.env.locals ∧ (∀ x c, X.env.cells.lookup x = some c → c ≠ b) ∧ ∀ p ∈ X.pn ++ pins, p.1 ≠ b)
    (I : Inv (blkE X s3 H3 scope ce fp z) ps σ1 H s) (c : L2.CX X.prog X.w X.stack H s (AnyS W) u s') :
    notedBy (model X.prog X.w) X.A ce (fun x s2 => cPost (model X.prog X.w) X.A X.xe use Qf acc ce.locals X.env.frame (.error x) s2) u s' := by
  obtain ⟨a, B, sI, p1, σ2, H1, cls, d, rfl, J, nb, up, fl, na, os, ag, w⟩ := fly_of_call (X := blkE X s3 H3 scope ce fp z) I c
  have nfr : ce.locals ∉ frs X.stack := fun hb => by
    obtain ⟨_, o, e, _⟩ := J.ok.funs.mem hb
    have l := Heap.lt_size e
    rw [cL] at l
    exact absurd l (Nat.lt_irrefl _)
  obtain ⟨m, ⟨oC, es, ep, eC, dC, kC⟩, _⟩ := J.loc
  have eC : sI.heap.get? ce.locals = some oC := eC
  have bC : B.get? ce.locals = some oC := nb _ _ eC nfr
  have hfr2 : X.A.frames = some (X.env :: X.outer) := by rw [← hst]; exact J.ok.frames
  have fl2 : HandSPX.FlyingZ B (X.env :: X.outer) a (Zc cls d) s'.heap := by rw [← hst]; exact fl
  show wpAny _ _ (noteFrame (.ref a) ce) _ _ s'
  rw [note_eq cF]
  refine HandSPX.looks_onZ Zc.steady hfr2 hfr fl2 fun h1 held up1 => ?_
  obtain ⟨g1, g2, g3, oe, vs, T, oT, ts, he, hz, hd, hv1, hnT, hTe, hT, hdT, h3⟩ := held
  have c1 : h1.get? ce.locals = some oC := g1 _ _ bC
  refine ⟨m, ⟨oC, es, ep, c1, dC, kC⟩, fun h2 sb c2 hc2 => ?_⟩
  have off : ∀ b o, h1.get? b = some o → (∀ es ep, o.data ≠ .dict es ep) → b ≠ ce.locals := fun b o e k q => by
    rw [q, c1] at e
    cases e
    exact k _ _ dC
  have aC : a ≠ ce.locals := off _ _ he fun _ _ q => by rw [hd] at q; cases q
  have tC : T ≠ ce.locals := off _ _ hT fun _ _ q => by rw [hdT] at q; cases q
  have st2 : ∀ b o, b ≠ ce.locals → h1.get? b = some o → h2.get? b = some o := fun b o n e => (sb.2 b n).trans e
  have hide : ∀ {h : Heap} {b : Addr} {o : Obj}, (PySem.W.hideAll h [ce.locals]).get? b = some o → b ≠ ce.locals ∧ h.get? b = some o := fun {h b o} e => by
    refine ⟨fun q => ?_, PySem.W.of_hideAll _ e⟩
    rw [q, PySem.W.hideAll_none _ List.mem_cons_self] at e
    cases e
  have hid2 : ∀ {h : Heap} {b : Addr}, h.get? b = none → (PySem.W.hideAll h [ce.locals]).get? b = none := fun {h b} e => by
    cases q : (PySem.W.hideAll h [ce.locals]).get? b with
    | none => rfl
    | some o => rw [(hide q).2] at e; cases e
  have hid3 : ∀ {h : Heap} {b : Addr} {o : Obj}, h.get? b = some o → b ≠ ce.locals → (PySem.W.hideAll h [ce.locals]).get? b = some o := fun e n => PySem.W.hideAll_get _ e (by simpa using n)
  have tr2 : HandSPX.TracedZ h2 (PySem.W.hideAll B [ce.locals]) a (Zc cls d) (rawInt X.env.locals) := ⟨oe, vs, T, oT, ts, st2 _ _ aC he, hz, hd, hv1, hid2 hnT, hTe, st2 _ _ tC hT, hdT, h3⟩
  have sB : (PySem.W.hideAll B [ce.locals]).StaysIn h2 := fun b o e => st2 b o (hide e).1 (g1 b o (hide e).2)
  have ff0 : h1.FunFrames (PySem.W.hideAll B [ce.locals]) (X.env :: X.outer) := funFrames_none g3 fun L hL => hid2 (g3.mem hL).1
  have ff : ∀ {l : List Env}, h1.FunFrames (PySem.W.hideAll B [ce.locals]) l → (∀ L ∈ frs l, L ≠ ce.locals) → h2.FunFrames (PySem.W.hideAll B [ce.locals]) l := by
    intro l
    induction l with
    | nil => exact fun _ _ => trivial
    | cons e r ih =>
      rintro ⟨k1, ⟨L, o, k2, k3, k4, k5⟩, k6⟩ n
      exact ⟨k1, ⟨L, o, k2, k3, st2 L o (n L (List.mem_filterMap.mpr ⟨e, List.mem_cons_self, k2⟩)) k4, k5⟩, ih k6 fun b hb => n b (by
        obtain ⟨x, hx, q⟩ := List.mem_filterMap.mp hb
        exact List.mem_filterMap.mpr ⟨x, List.mem_cons_of_mem _ hx, q⟩)⟩
  have ff2 := ff ff0 fun L hL q => nfr (by rw [hst, ← q]; exact hL)
  show wpAny _ _ (PySem.passOn _ (.ref a) c2) _ _ _
  unfold PySem.passOn
  refine wpAny_bind (wpAny_field (s := { s' with heap := h2 }) (st2 _ _ aC he) hd hv1 ?_)
  rw [if_neg (by simp)]
  first
  | refine wpAny_bind (wpAny_pure ?_)
  | skip
  refine wpAny_bind ?_
  rw [hc2, hfr]
  refine HandSPX.setFlight_anyZ (s := { s' with heap := h2 }) sB ff2 tr2 fun h4 k1 k2 k3 k4 => wpAny_throw ?_
  have Jn : H1 ce.locals = none := J.free
  refine tk _ _ ⟨a, PySem.W.hideAll B [ce.locals], { sI with heap := PySem.W.hideAll sI.heap [ce.locals] }, pins, σ, H1, cls, d, rfl, ?_, fun b o e n => hid3 (nb b o (hide e).2 n) (hide e).1, ?_, .inr (.inr ⟨k1, hid2 g2, by rw [hst]; exact k2, k3⟩), na, os, ag, w σ⟩
  · have hn3 : ∀ b o, s3.heap.get? b = some o → b ≠ ce.locals := fun b o e q => by
      have l := Heap.lt_size e
      rw [q, cL] at l
      exact absurd l (Nat.lt_irrefl _)
    have U : Un (frs X.stack) fp H3 H1 s3.heap sI.heap := J.base
    refine I3.call' (ch := fp) J.os ⟨fun b o e n q r => hid3 (U.keep b o e n q r) (hn3 b o e), fun b o e n q r => ?_, U.free, fun b o e q => ?_, U.tups, U.frzs, U.tbls⟩ (fun b o e => ?_) J.bare f3
    · obtain ⟨sl, k⟩ := U.slot b o e n q r
      exact ⟨sl, hid3 k (hn3 b o e)⟩
    · obtain ⟨o', k⟩ := U.there b o e q
      exact ⟨o', hid3 k (hn3 b o e)⟩
    · refine (J.hok b o e).stay (fun c o2 hc r => hid3 r fun q => ?_) (fun _ r => r) fun _ _ r => r
      rcases hc with hc | hc
      · rw [hc] at q
        rw [q, Jn] at e
        cases e
      · rw [q, Jn] at hc
        cases hc
  · intro b o e k
    obtain ⟨n, e⟩ := hide e
    obtain ⟨sl, e1⟩ := up b o e k
    obtain ⟨sl2, e2⟩ := up1 b _ e1 k
    obtain ⟨sl3, e3⟩ := k4 b _ (st2 b _ n e2) k
    exact ⟨sl3, e3⟩
section
variable {X : Cx}
/-- the context of a comprehension's block whose errors are taken -/
abbrev Blk (X : Cx) (scope : Scope) (W : WX) (R : Cx → Prop) : Prop := ∀ (s : Shared) (H : Hp) (C : Addr) (cl : List (Str × Addr)) (fp : List Addr) (z : Value → Shared → Prop),
  Passes (L2.CX X.prog X.w) (blkE X s H scope (compEnvC scope cl C X.env) fp z) (AnyS W) → R (blkE X s H scope (compEnvC scope cl C X.env) fp z)
theorem lcX_core {pins : List (Addr × Obj)} {s : Shared} {σ : L2.St} {H : Hp} {Q : VK} {elt tg iter : Expr} {ifs : List Expr} {scope : Scope} {own : List (Str × Nat)} {pos pos' : Pos} {wi : TI} {g : TG} {tt : TT} {te : TE} {use : Option (Value → Sem Unit)} {Qf : Value → Shared → Prop} {W : WX}
    (hc : X.calm = true) (hN : X.N.Nodup) (tk : Takes X W) (hst : X.stack = X.env :: X.outer) (hfr : X.env.frame = some X.env.locals) (I : Inv X pins σ H s) (hi : PI X tg iter wi) (ok : BlkOk X.N X.env.scope scope own)
    (hg : Blk X scope W fun Y => PG Y tg g) (ht : Blk X scope W fun Y => PTs Y ifs tt) (he : Blk X scope W fun Y => PE Y elt te) (hs : ∀ x, foldedSetIterable iter X.env x = pure x) (h : tLc wi g tt te (own.map (·.2)) σ H Q)
    (fin : ∀ D C s' m H', Inv X pins σ H' s' → Q (.ref D) H' → s'.heap.Ns C m → FpOk X pins H' C → compPost (model X.prog X.w) X.A X.xe use Qf (.ref D) C (.ok .next) s') :
    wpAny (model X.prog X.w) X.A (comprehension (.ListComp elt [⟨tg, iter, ifs, 0⟩] scope pos) scope X.env pos' (newList []) false (eval iter X.env) use) Qf X.xe s := by
  refine compX (use := use) rfl hs (closure_ok fun y hy e => (ok.free y hy e).elim (fun k => I.ok.has _ (.inl k)) fun k => I.ok.has _ (.inr k)) ok.kind (fun y hy e => by rw [ok.uniq y hy, e]) ?_
  refine thn (hi.run pins s σ H _ I h) fun xv s1 hx => thn hx fun itv s2 h2 => ?_
  obtain ⟨it, fp, tn, J, H2, rfl, I2, T, st2, f2, q⟩ := h2
  refine wpAny_newObj_type (newEnv_comp ?_) (Nat.zero_le _)
  generalize hD : s2.heap.objs.size = D
  obtain ⟨Wv, ⟨m0, w0⟩, turn⟩ := q D (I2.hok.fresh (Nat.le_of_eq hD))
  generalize hs3 : ({ s2 with heap := s2.heap.push { cls := .type "list", data := .seq ([] : List Value).toArray } } : Shared) = s3
  have h3 : s3.heap = s2.heap.push { cls := .type "list", data := .seq ([] : List Value).toArray } := by rw [← hs3]
  have I3 : Inv X pins σ (upd H2 D (.lst [])) s3 := by
    rw [← hs3]
    exact I2.laid (t' := s2.toks) (fun _ _ e => Heap.get?_push_of_some _ e) (Nat.le_of_eq hD) ⟨Nat.zero_le _, [], 0, .nil, by rw [← hD]; exact Heap.get?_push_size _ rfl⟩
  have lt2 : ∀ b ∈ fp, b < s2.heap.objs.size := fun b hb => let ⟨_, e, _⟩ := T.obj _ _ st2 b hb; Heap.lt_size e
  have f3 : ∀ b ∈ fp, FpOk X pins (upd H2 D (.lst [])) b ∧ b < s3.heap.objs.size := fun b hb => by
    refine ⟨⟨?_, (f2 b hb).2⟩, by rw [h3, Heap.size_push]; exact Nat.lt_succ_of_lt (lt2 b hb)⟩
    rw [upd_ne (by rw [← hD]; exact Nat.ne_of_lt (lt2 b hb)), (f2 b hb).1]
  have f3' : ∀ b ∈ fp, (b ∈ X.ex ∨ X.s_0.heap.objs.size ≤ b) ∧ b ≠ X.env.locals ∧ (∀ x c, X.env.cells.lookup x = some c → c ≠ b) ∧ ∀ p ∈ X.pn ++ pins, p.1 ≠ b := fun b hb =>
    ⟨(f3 b hb).1.2.2.2.1, (f3 b hb).1.2.1, (f3 b hb).1.2.2.2.2.1, (f3 b hb).1.2.2.2.2.2⟩
  have st3 : tn 0 s3.heap := T.keep _ _ _ st2 fun _ _ _ e => by rw [h3]; exact Heap.get?_push_of_some _ e
  have I4 := block_start I3 ok hN f3
  show codeAny _ _ (.compStart _ 0 (.ref it) (.ref D) (compEnvC scope (cellsFrom (s3.heap.objs.size + 1) scope.names (cloFrom X.env.cells scope.names [])) s3.heap.objs.size X.env)) (cPost (model X.prog X.w) X.A X.xe use Qf (.ref D) s3.heap.objs.size X.env.frame) { s3 with heap := pushCells (s3.heap.push { cls := .type "dict", data := .dict #[] }) scope.names }
  have nfp : ∀ b ∈ fp, (upd H2 D (.lst [])) b = none := fun b hb => (f3 b hb).1.1
  have ps := fun (z : Value → Shared → Prop) (p : Passes (L2.CX X.prog X.w) (blkE X s3 (upd H2 D (.lst [])) scope (compEnvC scope (cellsFrom (s3.heap.objs.size + 1) scope.names (cloFrom X.env.cells scope.names [])) s3.heap.objs.size X.env) fp z) (AnyS W)) =>
    And.intro (hg _ _ _ _ _ z p) (And.intro (ht _ _ _ _ _ z p) (he _ _ _ _ _ z p))
  generalize hce : compEnvC scope (cellsFrom (s3.heap.objs.size + 1) scope.names (cloFrom X.env.cells scope.names [])) s3.heap.objs.size X.env = ce at I4 ps ⊢
  have cL : ce.locals = s3.heap.objs.size := by subst hce; rfl
  have cF : ce.frame = X.env.frame := by subst hce; rfl
  generalize hH3 : upd H2 D (.lst []) = H3 at I3 I4 ps w0 nfp f3
  generalize hs4 : ({ s3 with heap := pushCells (s3.heap.push { cls := .type "dict", data := .dict #[] }) scope.names } : Shared) = s4 at I4 ⊢
  have st4 : tn 0 s4.heap := T.keep _ _ _ st3 fun _ _ _ e => by rw [← hs4]; exact pushCells_keeps _ _ _ _ (Heap.get?_push_of_some _ e)
  obtain ⟨z, hz⟩ : ∃ z : Value → Shared → Prop, z = notedBy (model X.prog X.w) X.A ce (fun x s2 => cPost (model X.prog X.w) X.A X.xe use Qf (.ref D) s3.heap.objs.size X.env.frame (.error x) s2) := ⟨_, rfl⟩
  obtain ⟨Y, hY⟩ : ∃ Y : Cx, Y = blkE X s3 H3 scope ce fp z := ⟨_, rfl⟩
  have pas : Passes (L2.CX X.prog X.w) (blkE X s3 H3 scope ce fp z) (AnyS W) := fun ps' σ' H' s5 e s6 I5 c5 => by
    show z e s6
    rw [hz, ← cL]
    exact out_of_blk tk hst hfr I3 cL cF f3' I5 c5
  obtain ⟨pg, pt, pe⟩ := ps z pas
  have I4' : Inv (blkE X s3 H3 scope ce fp z) [] (wipe σ (own.map (·.2))) H3 s4 := inv_xe I4
  rw [← hY] at pg pt pe I4'
  have yp : Y.prog = X.prog := by rw [hY]
  have stat : ∀ {σ' : L2.St} {H' : Hp} {s' : Shared}, Inv Y [] σ' H' s' → (∀ b ∈ fp, H' b = none) → ∀ b ∈ fp, FpOk Y [] H' b := fun {σ' H' s'} I' hn b hb => by
    subst hY
    exact ⟨hn b hb, (I'.ok.exf b hb).1, I'.ok.exfs b hb, .inl hb, fun x c e => (I'.ok.exf b hb).2 x c e, fun p hp => absurd (show p ∈ ([] : List (Addr × Obj)) ++ [] from hp) (by simp)⟩
  have loop : codeAny (model X.prog X.w) X.A (.compLoop (.ListComp elt [⟨tg, iter, ifs, 0⟩] scope pos) 0 (.ref it) (.ref D) ce) (cPost (model X.prog X.w) X.A X.xe use Qf (.ref D) s3.heap.objs.size X.env.frame) s4 := by
    subst hY
    refine compLoop_any (fun n s' => ∃ i H', Inv (blkE X s3 H3 scope ce fp z) [] (wipe σ (own.map (·.2))) H' s' ∧ tn i s'.heap ∧ (∀ b ∈ fp, H' b = none) ∧ Wv i n H') ?_ m0 ⟨0, H3, I4', st4, nfp, w0⟩
    rw [← hz]
    rintro n s5 ⟨i, H5, I5, st5, n5, w5⟩
    rcases turn i n H5 w5 with ⟨stop, qq⟩ | ⟨go, Nx, hNx, step⟩
    · refine thnF (T.done (blkE X s3 H3 scope ce fp z) rfl rfl rfl hc i [] s5 _ H5 (fun _ _ => False) I5 (stat I5 n5) st5 stop) fun r s6 ⟨hr, I6⟩ => ?_
      subst hr
      have I7 : Inv X pins σ H5 s6 := I3.call' (ch := fp) I6.os I6.base I6.hok I6.bare f3'
      have nC : H5 s3.heap.objs.size = none := by rw [← cL]; exact I6.free
      obtain ⟨m, hn, _⟩ := I6.loc
      have hn : s6.heap.Ns ce.locals m := hn
      rw [cL] at hn
      exact fin D _ s6 m H5 I7 qq hn (I3.fpOk (Nat.le_refl _) nC)
    · refine thnF (T.item (blkE X s3 H3 scope ce fp z) rfl rfl rfl hc i [] s5 _ H5 (fun _ _ => False) I5 (stat I5 n5) st5 go) fun r s6 ⟨u, hr, h6⟩ => ?_
      subst hr
      refine thnF h6 fun _ s7 ⟨x, H7, I7, r7, y7, st7, n7⟩ => ?_
      have I7' := I7.pinned (stat I7 n7) (T.obj _ _ st7)
      refine thn (pg.run _ s7 _ H7 x u _ I7' r7 (step x H7 y7)) fun _ s8 ⟨σ8, H8, I8, hw8, q8⟩ => ?_
      refine thn (pt.run _ s8 σ8 H8 _ I8 q8) fun b s9 ⟨H9, I9, q9⟩ => ?_
      have again : ∀ {s' : Shared} {H' : Hp}, Inv (blkE X s3 H3 scope ce fp z) ([] ++ pinsAt fp s7.heap) σ8 H' s' → Nx H' → ∃ m, m < n ∧ ∃ i H', Inv (blkE X s3 H3 scope ce fp z) [] (wipe σ (own.map (·.2))) H' s' ∧ tn i s'.heap ∧ (∀ b ∈ fp, H' b = none) ∧ Wv i m H' := fun {s' H'} I' nx => by
        obtain ⟨m', hm, w'⟩ := hNx H' nx
        have pin' : ∀ b ∈ fp, ∀ o, s7.heap.get? b = some o → s'.heap.get? b = some o ∧ H' b = none := fun b hb o e =>
          let y := I'.pin (b, o) (List.mem_append_right _ (List.mem_append_right _ (mem_pinsAt hb e)))
          ⟨y.1, y.2.1⟩
        refine ⟨m', hm, i + 1, H', (I'.unpinned (pins := [])).weak (by rw [← hw8, wipe_length]) (fun j v e => ?_), T.keep _ _ _ st7 fun b hb o e => (pin' b hb o e).1, fun b hb => ?_, w'⟩
        · rw [← hw8] at e
          exact (wipe_some e).1
        · obtain ⟨o, e, _⟩ := T.obj _ _ st7 b hb
          exact (pin' b hb o e).2
      cases b with
      | false =>
        rw [if_neg Bool.false_ne_true] at q9 ⊢
        exact again I9 q9
      | true =>
        rw [if_pos rfl] at q9 ⊢
        refine thn (pe.run _ s9 σ8 H9 _ I9 q9) fun v s10 ⟨yv, H10, I10, r10, acc, hD10, hz10, nx⟩ => ?_
        exact app_ok (X := blkE X s3 H3 scope ce fp z) I10 hD10 hz10 r10 fun s11 I11 => again I11 nx
  exact codeAny_compStart_list loop (T.self X.A 0 _ _ _ st4 loop)
variable {elt tg iter : Expr} {ifs : List Expr} {scope : Scope} {own : List (Str × Nat)} {pos : Pos} {wi : TI} {g : TG} {tt : TT} {te : TE} {W : WX}
/-- as a value -/
theorem pe_lcX (tk : Takes X W) (hc : X.calm = true) (hN : X.N.Nodup) (hi : PI X tg iter wi) (ok : BlkOk X.N X.env.scope scope own)
    (hg : Blk X scope W fun Y => PG Y tg g) (ht : Blk X scope W fun Y => PTs Y ifs tt) (he : Blk X scope W fun Y => PE Y elt te) (hs : ∀ x, foldedSetIterable iter X.env x = pure x := by intro _; rfl)
    (hst : X.stack = X.env :: X.outer := by rfl) (hfr : X.env.frame = some X.env.locals := by rfl) :
    PE X (.ListComp elt [⟨tg, iter, ifs, 0⟩] scope pos) (tLc wi g tt te (own.map (·.2))) := by
  refine ⟨fun pins s σ H Q I h => ?_⟩
  rw [eval_ListComp]
  refine lcX_core hc hN tk hst hfr I hi ok hg ht he hs h fun D C s' m H' I' q hn f => ⟨m, hn, fun h2 sb => ?_⟩
  obtain ⟨f0, f1, f2, f3, f4, f5⟩ := f
  exact ⟨.ref D, H', I'.turned (t' := s'.toks) (fun b o hb e => (sb.2 b hb).trans e) f0 f1 f3 f4 f5, rfl, q⟩
/-- name = [..], a local -/
theorem ps_setLcX {i : Nat} {y : Str} {py spos : Pos} (tk : Takes X W) (hc : X.calm = true) (hN : X.N.Nodup) (hy : X.N[i]? = some y) (hyl : X.env.scope.names.lookup y = some .local)
    (hsw : swapsWith (.ListComp elt [⟨tg, iter, ifs, 0⟩] scope pos) (some (.Name y py)) spos.line X.env = pure true) (hi : PI X tg iter wi) (ok : BlkOk X.N X.env.scope scope own)
    (hg : Blk X scope W fun Y => PG Y tg g) (ht : Blk X scope W fun Y => PTs Y ifs tt) (he : Blk X scope W fun Y => PE Y elt te) (hs : ∀ x, foldedSetIterable iter X.env x = pure x := by intro _; rfl)
    (hst : X.stack = X.env :: X.outer := by rfl) (hfr : X.env.frame = some X.env.locals := by rfl) :
    PS X (.Assign [.Name y py] (.ListComp elt [⟨tg, iter, ifs, 0⟩] scope pos) spos) (tAsg (tLc wi g tt te (own.map (·.2))) (gName i)) := by
  refine ⟨fun pins s σ H D I h => ?_⟩
  rw [exec_Assign_Name_used _ _ _ _ hsw]
  refine wpAny_bind (wpAny_standAt (wpAny_bind ?_))
  show wpAny _ X.A (do let _ ← comprehension _ scope X.env (firstIterPos [⟨tg, iter, ifs, 0⟩] pos) (newList []) false (eval iter X.env) (some (assign (.Name y py) X.env))) _ _ s
  have h : tLc wi g tt te (own.map (·.2)) σ H (fun x H1 => gName i x σ H1 D.nx) := h
  refine wpAny_bind (thn (lcX_core (Qf := fun _ s' => SP X pins D .next s') hc hN tk hst hfr I hi ok hg ht he hs h fun L C s' m H' I' q hn f => ?_) fun _ s' hq => wpAny_pure (wpAny_pure hq))
  show wpAny _ _ (assign (.Name y py) X.env (.ref L)) _ _ _
  refine wpAny_assign_Name (store_ok2 (v := V.ref L) I' hN hy (.inl hyl) rfl (fun s2 I2 ⟨a, sb, ha⟩ => ?_) (.inr hyl))
  obtain ⟨f0, f1, f2, f3, f4, f5⟩ := f
  have haC : C ≠ a := ha.elim (fun k => by rw [k]; exact f1) fun k e => f4 y a k e.symm
  refine ⟨m, hn.sameBut sb haC, fun h3 sb3 => ?_⟩
  exact ⟨_, H', I2.turned (t' := s2.toks) (fun b o hb e => (sb3.2 b hb).trans e) f0 f1 f3 f4 f5, q⟩
end
end Pl
namespace Pl
open PySem PySem.Spec PyProof.Rows L2
/-! defs with a star parameter, objects made of a starred list, class methods, constants of a class -/
/-- a method by its raw promise -/
structure MCalR (P : Program) (w : World) (K : PySem.W.Frag) (mg : Str → Option Value) (base : Heap) (CX : CXT) (k : Nat) (C : Addr) (m : Str) (sp : Sp) : Prop where
  ex : ∃ f, FnR P w K mg base CX k f sp ∧ PySem.W.findIn K (.ref C) m = some (some (.ref f)) ∧ PySem.W.isFn K (.ref f) = true
theorem MCal.raw {P : Program} {w : World} {K : PySem.W.Frag} {mg : Str → Option Value} {base : Heap} {k : Nat} {C : Addr} {m : Str} {ps : List Str} {sp : Sp} (c : MCal P w K mg base k C m ps sp) : MCalR P w K mg base CX0 k C m sp := by
  obtain ⟨f, fd, F, h1, h2, kp, hb⟩ := c.ex
  exact ⟨f, (F.raw hb .nil).imp fun vs H Q E h => by simpa using h, h1, h2⟩
theorem MCalX.raw {P : Program} {w : World} {K : PySem.W.Frag} {mg : Str → Option Value} {base : Heap} {k : Nat} {C : Addr} {m : Str} {ps : List Str} {sp : Sp} (c : MCalX P w K mg base k C m ps sp) : MCalR P w K mg base (L2.CX P w) k C m sp := by
  obtain ⟨f, fd, F, h1, h2, kp, hb⟩ := c.ex
  exact ⟨f, (F.raw hb .nil).imp fun vs H Q E h => by simpa using h, h1, h2⟩
/-- what is left over stands in a new tuple -/
def spStar (sp : Sp) : Sp := fun vs H Q E => ∃ (a : V) (rest : List V), vs = a :: rest ∧ rest.length ≤ sizeLine ∧ ∀ p, H p = none → sp [a, .ref p] (upd H p (.tup rest)) Q E
def BindStar (x qual : Str) (st : Stmt) (p1 pv : Str) : Prop := ∀ (kV doc pm : Value) (an : Option Addr) (cdv ct : Value) (us rest : List Value), us.length = [p1].length →
  bindArgs (PySem.W.fnOf x qual (defArgs st) (defBody st) (defScope st) .none kV doc pm an cdv ct) ⟨us ++ rest, []⟩ = (newTuple rest >>= fun t => pure ([p1].zip us ++ [(pv, t)]))
section
variable {P : Program} {w : World} {K : PySem.W.Frag} {mg : Str → Option Value} {base : Heap} {C : Addr} {x qual : Str} {st : Stmt} {N : List Str} {p1 pv : Str} {k : Nat} {sp : Sp}
theorem MhK.star (D : MhK K C x qual st) (S : FnScope N [p1, pv] (defScope st)) (hb : BindStar x qual st p1 pv)
    (bod : ∀ (f : Addr) (cdv : Value) (A : Around) (out : List Env) (s : Shared) (H : Hp) (vs : List V) (Q : VK) (E : XK),
      Room k (A.deeper (envOfC qual (defScope st) s.heap.objs.size f cdv)) → sp vs H Q E →
      ∃ t, PSs (cxOf CX0 P w K mg base N qual (defScope st) f cdv A out s H E).nox (defBody st) t ∧ t { nx := fun _ H' => Q .non H', rt := Q } (start N vs) H) : MCalR P w K mg base CX0 (k + 1) C x (spStar sp) := by
  obtain ⟨f, a, i, od, an, sl, oc, kV, dc, pm, cd, ct, l, c, kp⟩ := D.ex
  refine ⟨f, (StX.fn_star (ps := [p1]) (pv := pv) (sp := sp) (k := k) l c S StX.cxUp_none (hb kV dc pm an cd ct) fun A out s H vs Q E hr h => ?_).imp fun vs H Q E h => ?_, a, i⟩
  · obtain ⟨t, h1, h2⟩ := bod f cd A out s H vs Q E hr h
    exact ⟨t, h1.nox, h2⟩
  · obtain ⟨v, rest, rfl, hl, q⟩ := h
    exact ⟨[v], rest, rfl, rfl, hl, q⟩
theorem MhK.starX (D : MhK K C x qual st) (S : FnScope N [p1, pv] (defScope st)) (hb : BindStar x qual st p1 pv)
    (bod : ∀ (f : Addr) (cdv : Value) (A : Around) (out : List Env) (s : Shared) (H : Hp) (vs : List V) (Q : VK) (E : XK),
      Room k (A.deeper (envOfC qual (defScope st) s.heap.objs.size f cdv)) → sp vs H Q E →
      ∃ t, PSs (cxOf (L2.CX P w) P w K mg base N qual (defScope st) f cdv A out s H E) (defBody st) t ∧ t { nx := fun _ H' => Q .non H', rt := Q } (start N vs) H) : MCalR P w K mg base (L2.CX P w) (k + 1) C x (spStar sp) := by
  obtain ⟨f, a, i, od, an, sl, oc, kV, dc, pm, cd, ct, l, c, kp⟩ := D.ex
  refine ⟨f, (StX.fn_star (ps := [p1]) (pv := pv) (sp := sp) (k := k) l c S StX.cxUp (hb kV dc pm an cd ct) fun A out s H vs Q E hr h => ?_).imp fun vs H Q E h => ?_, a, i⟩
  · exact bod f cd A out s H vs Q E hr h
  · obtain ⟨v, rest, rfl, hl, q⟩ := h
    exact ⟨[v], rest, rfl, rfl, hl, q⟩
end
/-- C(*e) -/
def tMkS (K : PySem.W.Frag) (C : Addr) (sp : Sp) (E : XK) (te : TE) : TE := fun σ H Q => te σ H fun y H1 => ∃ a xs, y = V.ref a ∧ (SqT K H1 a xs ∨ SqL K H1 a xs) ∧
  ∀ x dx, H1 x = none → H1 dx = none → dx ≠ x → sp (V.ref x :: xs) (upd (upd H1 dx (.own x)) x (.ins C dx [])) (fun v H2 => v = .non ∧ Q (.ref x) H2) E
section
variable {X : Cx} {CX : CXT} {k : Nat} {C : Addr} {sp : Sp} {E : XK} {p pos sps : Pos} {x : Str} {e fe : Expr} {es : List Expr} {te tf : TE} {t : TA}
theorem pe_mkS (c : MCalR X.prog X.w X.K X.mg X.base CX k C "__init__" sp) (hx : Passes CX X E) (mk : PySem.W.makesIn X.K C = true) (kc : PySem.W.keepIn X.K (.ref C) = true) (hm : X.mg x = some (.ref C)) (hr : Room (k + 1) X.A) (he : PE X e te)
    (hg : Gl X x := by rfl) (hdb : (x == ("__debug__" : Str)) = false := by decide) (hst : starEach [.Starred e sps] X.env = [(true, eval e X.env)] := by rfl) :
    PE X (.Call (.Name x p) [.Starred e sps] [] pos) (tMkS X.K C sp E te) := by
  obtain ⟨f, F, h1, h2⟩ := c.ex
  refine ⟨fun pins s σ H Q I h => wpAny_Call_Name_kw (ld_glob I hg hm ?_ hdb)⟩
  refine PySem.W.callWith_S (h₀ := X.base) I.ok.mod.kin kc (thn (he.run pins s σ H _ I h) fun v s1 ⟨y, H1, I1, ry, a, xs, ey, hxs, q⟩ => ?_) hst
  subst ey
  obtain rfl : v = Value.ref a := ry
  exact StX.star_any I1 hxs fun us s2 I2 rv => ⟨I2.kIn, StX.run_makeR ⟨mk, h1, h2, kc⟩ F hr hx I2 rv q⟩
/-- v(*e), v a variable that holds the class -/
def tMkV (K : PySem.W.Frag) (C : Addr) (sp : Sp) (E : XK) (tf te : TE) : TE := fun σ H Q => tf σ H fun z H0 => z = .ref C ∧ tMkS K C sp E te σ H0 Q
theorem pe_mkV (c : MCalR X.prog X.w X.K X.mg X.base CX k C "__init__" sp) (hx : Passes CX X E) (mk : PySem.W.makesIn X.K C = true) (kc : PySem.W.keepIn X.K (.ref C) = true) (hr : Room (k + 1) X.A) (hf : PE X fe tf) (he : PE X e te)
    (ht : eval (.Call fe [.Starred e sps] [] pos) X.env = (do callWith pos (← eval fe X.env) [] (backTo pos (starEach [.Starred e sps] X.env)) (backToKw pos (keywordEach [] X.env))) := by rfl)
    (hst : starEach [.Starred e sps] X.env = [(true, eval e X.env)] := by rfl) : PE X (.Call fe [.Starred e sps] [] pos) (tMkV X.K C sp E tf te) := by
  obtain ⟨f, F, h1, h2⟩ := c.ex
  refine ⟨fun pins s σ H Q I h => ?_⟩
  refine Call_ (thn (hf.run pins s σ H _ I h) fun u s0 ⟨z, H0, I0, rz, ez, h0⟩ => ?_) ht
  subst ez
  obtain rfl : u = Value.ref C := rz
  refine PySem.W.callWith_S (h₀ := X.base) I0.ok.mod.kin kc (thn (he.run pins s0 σ H0 _ I0 h0) fun v s1 ⟨y, H1, I1, ry, a, xs, ey, hxs, q⟩ => ?_) hst
  subst ey
  obtain rfl : v = Value.ref a := ry
  exact StX.star_any I1 hxs fun us s2 I2 rv => ⟨I2.kIn, StX.run_makeR ⟨mk, h1, h2, kc⟩ F hr hx I2 rv q⟩
/-- C(e, ..) by a raw promise -/
theorem pe_mkR (c : MCalR X.prog X.w X.K X.mg X.base CX k C "__init__" sp) (hx : Passes CX X E) (mk : PySem.W.makesIn X.K C = true) (kc : PySem.W.keepIn X.K (.ref C) = true) (hm : X.mg x = some (.ref C)) (hr : Room (k + 1) X.A) (ha : PA X (e :: es) t)
    (hg : Gl X x := by rfl) (hdb : (x == ("__debug__" : Str)) = false := by decide)
    (he : starEach (e :: es) X.env = (false, eval e X.env) :: starEach es X.env := by rfl) (hpl : (backTo pos (starEach es X.env)).any (·.1) = false := by rfl) :
    PE X (.Call (.Name x p) (e :: es) [] pos) (StX.tMakeR C sp E t) := by
  obtain ⟨f, F, h1, h2⟩ := c.ex
  exact StX.pe_makeR ⟨mk, h1, h2, kc⟩ F hr hg hm hx ha hdb he hpl
end
/-! class methods -/
structure CmK (K : PySem.W.Frag) (C : Addr) (m qual : Str) (st : Stmt) : Prop where
  ex : ∃ (mc : Value) (p g : Addr), ClX.CRead K C mc ∧ ClX.CMet K C mc m p g ∧ FnAt K g m qual st
theorem CmK.of {K : PySem.W.Frag} {C p g : Addr} {mc : Value} {m qual : Str} {st : Stmt} {rest : List Value} {od an : Option Addr} {sl : Array (Option Value)} {oc kV dc pm cd ct : Value}
    (rd : PySem.W.readsIn K C mc = true) (ga : PySem.W.specialIn K (.ref C) "__getattribute__" = some (some (.builtin "type.__getattribute__")))
    (at_ : PySem.W.findCls K (.ref C) mc m = some (.get (.builtin "classmethod.__get__") (.ref p) .none (.ref C))) (rc : PySem.W.recIn K p "classmethod" = some (.ref g :: rest)) (fi : PySem.W.fnIn K g = true)
    (l : K.lookup g = some ⟨oc, od, .func (PySem.W.fnOf m qual (defArgs st) (defBody st) (defScope st) .none kV dc pm an cd ct), sl⟩) (c : PySem.W.codeIn K cd qual = true) (k : PySem.W.keepIn K (.ref g) = true) : CmK K C m qual st :=
  ⟨⟨mc, p, g, ⟨rd, ga⟩, ⟨at_, ⟨rest, rc⟩, fi⟩, od, an, sl, oc, kV, dc, pm, cd, ct, l, c, k⟩⟩
structure CmCal (P : Program) (w : World) (K : PySem.W.Frag) (mg : Str → Option Value) (base : Heap) (CX : CXT) (k : Nat) (C : Addr) (m : Str) (sp : Sp) : Prop where
  ex : ∃ (mc : Value) (p g : Addr), ClX.CRead K C mc ∧ ClX.CMet K C mc m p g ∧ FnR P w K mg base CX k g sp
section
variable {P : Program} {w : World} {K : PySem.W.Frag} {mg : Str → Option Value} {base : Heap} {C : Addr} {x qual : Str} {st : Stmt} {N ps : List Str} {k : Nat} {sp : Sp}
theorem CmK.cal (D : CmK K C x qual st) (b : BindOk x qual st ps) (S : FnScope N ps (defScope st)) (lng : ∀ vs H Q E, sp vs H Q E → vs.length = ps.length)
    (bod : ∀ (f : Addr) (cdv : Value) (A : Around) (out : List Env) (s : Shared) (H : Hp) (vs : List V) (Q : VK) (E : XK),
      Room k (A.deeper (envOfC qual (defScope st) s.heap.objs.size f cdv)) → sp vs H Q E →
      ∃ t, PSs (cxOf CX0 P w K mg base N qual (defScope st) f cdv A out s H E).nox (defBody st) t ∧ t { nx := fun _ H' => Q .non H', rt := Q } (start N vs) H) : CmCal P w K mg base CX0 (k + 1) C x sp := by
  obtain ⟨mc, p, g, h1, h2, od, an, sl, oc, kV, dc, pm, cd, ct, l, c, kp⟩ := D.ex
  have F := fun_mk (st := st) l c kp
  exact ⟨mc, p, g, h1, h2, ((F.ok S lng (bod g)).raw (F.binds b) .nil).imp fun vs H Q E h => by simpa using h⟩
end
/-- a constant of a class -/
structure CvK (K : PySem.W.Frag) (C : Addr) (f : Str) (n : Int) : Prop where
  ex : ∃ (mc : Value) (t : Tok), ClX.CRead K C mc ∧ ClX.CVal K C mc f (.int n) (.int n t)
theorem CvK.of {K : PySem.W.Frag} {C : Addr} {mc : Value} {f : Str} {n : Int} {t : Tok} (rd : PySem.W.readsIn K C mc = true) (ga : PySem.W.specialIn K (.ref C) "__getattribute__" = some (some (.builtin "type.__getattribute__")))
    (at_ : PySem.W.findCls K (.ref C) mc f = some (.val (.int n t))) : CvK K C f n := ⟨⟨mc, t, ⟨rd, ga⟩, at_, ⟨t, rfl⟩⟩⟩
section
variable {X : Cx} {CX : CXT} {k : Nat} {C : Addr} {sp : Sp} {E : XK} {pos apos : Pos} {f m : Str} {e o : Expr} {es : List Expr} {te ta : TE} {t : TA} {n : Int} {pl : Sem Bool}
theorem pe_cv (c : CvK X.K C f n) (he : PE X e te) (hb : attributeBase e f X.env (eval e X.env) = eval e X.env := by rfl) : PE X (.Attribute e f pos) (fun σ H Q => te σ H fun x H1 => x = .ref C ∧ Q (.int n) H1) := by
  obtain ⟨mc, t, r, v⟩ := c.ex
  refine ⟨fun pins s σ H Q I h => ?_⟩
  refine attr_of hb (thn (he.run pins s σ H _ I h) fun u s1 ⟨x, H1, I1, rx, ex, q⟩ => ?_)
  subst ex
  obtain rfl : u = Value.ref C := rx
  exact ClX.getcval_ok I1 r v fun s2 I2 => ⟨.int n, H1, I2, v.rel, q⟩
theorem pe_cm (c : CmCal X.prog X.w X.K X.mg X.base CX k C m sp) (hx : Passes CX X E) (hr : Room k X.A) (he : PE X o ta) (ha : PA X (e :: es) t)
    (hst : starEach (e :: es) X.env = (false, eval e X.env) :: starEach es X.env := by rfl) (hpl : (backTo pos (starEach es X.env)).any (·.1) = false := by rfl)
    (ht : eval (.Call (.Attribute o m apos) (e :: es) [] pos) X.env = (do
      let ov ← eval o X.env
      standAt apos.atName
      let (f, first) ← holding [ov] (getMethod ov m pl)
      callWith pos f first (backTo pos (starEach (e :: es) X.env)) (backToKw pos (keywordEach [] X.env))) := by rfl) :
    PE X (.Call (.Attribute o m apos) (e :: es) [] pos) (ClX.tCMeth C sp E ta t) := by
  obtain ⟨mc, p, g, h1, h2, F⟩ := c.ex
  exact ClX.pe_cmeth he h1 h2 F hr hx ha hst hpl ht
end
end Pl
namespace Pl
open PySem PySem.Spec PyProof.Rows L2 TL
/-! the texts of amounts, lines, divisions -/
abbrev wd (n : Int) : Str := toString n
theorem wd_all : ∀ i : Fin 31, (decide (10 ∉ tl (wd (i.val : Int))) && decide (32 ∉ tl (wd (i.val : Int))) && decide ((tl (wd (i.val : Int))).length ≤ 2)) = true := by decide +kernel
theorem wd_inj31 : ∀ i j : Fin 31, wd (i.val : Int) = wd (j.val : Int) → i = j := by decide +kernel
theorem wd_ok {n : Int} (h0 : 0 ≤ n) (h1 : n ≤ 30) : 10 ∉ tl (wd n) ∧ 32 ∉ tl (wd n) ∧ (tl (wd n)).length ≤ 2 := by
  have e : ((n.toNat : Nat) : Int) = n := by omega
  have h := wd_all ⟨n.toNat, by omega⟩
  simp only [e, Bool.and_eq_true, decide_eq_true_eq] at h
  exact ⟨h.1.1, h.1.2, h.2⟩
theorem wd_inj {n m : Int} (h0 : 0 ≤ n) (h1 : n ≤ 30) (k0 : 0 ≤ m) (k1 : m ≤ 30) (h : wd n = wd m) : n = m := by
  have e : ((n.toNat : Nat) : Int) = n := by omega
  have e2 : ((m.toNat : Nat) : Int) = m := by omega
  have q := wd_inj31 ⟨n.toNat, by omega⟩ ⟨m.toNat, by omega⟩ (by simpa only [e, e2] using h)
  have := congrArg Fin.val q
  simp only at this
  omega
def line (ns : List Int) : Str := Str.join " " (ns.map wd)
def text (rows : List (List Int)) : Str := Str.join "" (rows.map fun ns => line ns ++ "\n")
theorem joinL_mem {S : List Nat} {c : Nat} : ∀ {ps : List (List Nat)}, c ∈ joinL S ps → c ∈ S ∨ ∃ p ∈ ps, c ∈ p
  | [], h => by simp [joinL] at h
  | [p], h => .inr ⟨p, List.mem_singleton.mpr rfl, h⟩
  | p :: q :: r, h => by
    unfold joinL at h
    rcases List.mem_append.mp h with h | h
    · exact .inr ⟨p, List.mem_cons_self, h⟩
    · rcases List.mem_append.mp h with h | h
      · exact .inl h
      · rcases joinL_mem h with h | ⟨z, hz, h⟩
        · exact .inl h
        · exact .inr ⟨z, List.mem_cons_of_mem _ hz, h⟩
theorem joinL_len {S : List Nat} {k : Nat} : ∀ {ps : List (List Nat)}, (∀ p ∈ ps, p.length ≤ k) → (joinL S ps).length ≤ (k + S.length) * ps.length
  | [], _ => Nat.zero_le _
  | [p], h => by
    have := h p (List.mem_singleton.mpr rfl)
    show p.length ≤ (k + S.length) * 1
    omega
  | p :: q :: r, h => by
    have h1 := h p List.mem_cons_self
    have h2 := joinL_len (S := S) (ps := q :: r) fun z hz => h z (List.mem_cons_of_mem _ hz)
    show (p ++ (S ++ joinL S (q :: r))).length ≤ (k + S.length) * ((q :: r).length + 1)
    rw [List.length_append, List.length_append, Nat.mul_add, Nat.mul_one]
    omega
theorem tl_line (ns : List Int) : tl (line ns) = joinL [32] (ns.map fun n => tl (wd n)) := by
  unfold line
  rw [tl_join, List.map_map]
  rfl
theorem line_free {ns : List Int} (am : ∀ r ∈ ns, 0 ≤ r ∧ r ≤ 30) : 10 ∉ tl (line ns) := fun h => by
  rw [tl_line] at h
  rcases joinL_mem h with h | ⟨p, hp, h⟩
  · exact absurd h (by decide)
  · obtain ⟨n, hn, rfl⟩ := List.mem_map.mp hp
    exact (wd_ok (am n hn).1 (am n hn).2).1 h
theorem line_len {ns : List Int} (am : ∀ r ∈ ns, 0 ≤ r ∧ r ≤ 30) : (line ns).length ≤ 3 * ns.length := by
  have h : (tl (line ns)).length ≤ 3 * ns.length := by
    rw [tl_line]
    have := joinL_len (S := [32]) (k := 2) (ps := ns.map fun n => tl (wd n)) fun p hp => by
      obtain ⟨n, hn, rfl⟩ := List.mem_map.mp hp
      exact (wd_ok (am n hn).1 (am n hn).2).2.2
    simpa using this
  rw [len_tl]; exact h
theorem split_line {ns : List Int} (ne : ns ≠ []) (am : ∀ r ∈ ns, 0 ≤ r ∧ r ≤ 30) : Txt.split (line ns) " " = ns.map wd := by
  have e : line ns = Txt.join " " (ns.map wd) := (join_eq _ _).symm
  rw [e]
  refine split_join (s := 32) (S := []) rfl (by decide +kernel) (by simpa using ne) fun p hp => ?_
  obtain ⟨n, hn, rfl⟩ := List.mem_map.mp hp
  exact (wd_ok (am n hn).1 (am n hn).2).2.1
theorem tl_text (rows : List (List Int)) : tl (text rows) = (rows.map fun ns => tl (line ns) ++ [10]).flatten := by
  unfold text
  rw [tl_join]
  have e : ∀ ps : List (List Nat), joinL [] ps = ps.flatten := by
    intro ps
    induction ps with
    | nil => rfl
    | cons p r ih =>
      cases r with
      | nil => simp [joinL]
      | cons q r => 
        show p ++ ([] ++ joinL [] (q :: r)) = _
        rw [ih]
        simp
  have z : tl ("" : Str) = [] := rfl
  rw [z, e, List.map_map]
  refine congrArg List.flatten (List.map_congr_left fun ns _ => ?_)
  show tl (line ns ++ "\n") = _
  rw [tl_append]
  rfl
theorem body_tl : ∀ {rows : List (List Int)}, rows ≠ [] → (rows.map fun ns => tl (line ns) ++ [10]).flatten = joinL [10] (rows.map fun ns => tl (line ns)) ++ [10]
  | [], h => absurd rfl h
  | [r], _ => by simp [joinL]
  | r :: q :: rs, _ => by
    have ih := body_tl (rows := q :: rs) (by simp)
    rw [List.map_cons, List.flatten_cons, ih]
    show (tl (line r) ++ [10]) ++ _ = (tl (line r) ++ ([10] ++ joinL [10] ((q :: rs).map fun ns => tl (line ns)))) ++ [10]
    simp
def body (rows : List (List Int)) : Str := Str.join "\n" (rows.map line)
theorem tl_body (rows : List (List Int)) : tl (body rows) = joinL [10] (rows.map fun ns => tl (line ns)) := by
  unfold body
  rw [tl_join, List.map_map]
  rfl
theorem text_tl {rows : List (List Int)} (h : rows ≠ []) : tl (text rows) = tl (body rows) ++ [10] := by rw [tl_text, body_tl h, tl_body]
theorem text_ends {rows : List (List Int)} (h : rows ≠ []) : Txt.endswith (text rows) "\n" = true := by
  have e := text_tl h
  have l : (text rows).length = (tl (body rows)).length + 1 := by rw [len_tl, e]; simp
  unfold Txt.endswith
  have y1 : ("\n" : Str).length = 1 := rfl
  rw [y1, StrLaws.subAt_eq, l, Nat.add_sub_cancel]
  show (decide (0 + 1 ≤ (tl (body rows)).length + 1) && ((tl (text rows)).drop (tl (body rows)).length).take 1 == [10]) = true
  rw [e, List.drop_left]
  simp
theorem text_cut {rows : List (List Int)} (h : rows ≠ []) : cutS (text rows) none (some (-1)) = body rows := by
  refine ext_tl ?_
  have e := text_tl h
  have l : (text rows).length = (tl (body rows)).length + 1 := by rw [len_tl, e]; simp
  have i1 : HT.sIx (text rows).length 0 none = 0 := HT.sIx_none _ _
  have i2 : HT.sIx (text rows).length (text rows).length (some (-1)) = (tl (body rows)).length := by
    rw [l]
    unfold HT.sIx
    simp
    try omega
  unfold cutS
  show (((tl (text rows)).drop _).take _) = _
  rw [i1, i2, e, List.drop_zero, Nat.sub_zero, List.take_left]
theorem body_split {rows : List (List Int)} (h : rows ≠ []) (am : ∀ ns ∈ rows, ∀ r ∈ ns, 0 ≤ r ∧ r ≤ 30) : Txt.split (body rows) "\n" = rows.map line := by
  have e : body rows = Txt.join "\n" (rows.map line) := (join_eq _ _).symm
  rw [e]
  refine split_join (s := 10) (S := []) rfl (by decide +kernel) (by simpa using h) fun p hp => ?_
  obtain ⟨n, hn, rfl⟩ := List.mem_map.mp hp
  exact line_free (am n hn)
theorem text_len {rows : List (List Int)} {m k : Nat} (hk : rows.length ≤ k) (hm : ∀ ns ∈ rows, ns.length ≤ m) (am : ∀ ns ∈ rows, ∀ r ∈ ns, 0 ≤ r ∧ r ≤ 30) : (text rows).length ≤ (3 * m + 1) * k := by
  have h : (tl (text rows)).length ≤ (3 * m + 1) * rows.length := by
    rw [tl_text]
    induction rows with
    | nil => simp
    | cons r rs ih =>
      have h1 := line_len (am r List.mem_cons_self)
      have h2 := hm r List.mem_cons_self
      have h3 := ih (by simp at hk; omega) (fun ns h => hm ns (List.mem_cons_of_mem _ h)) (fun ns h => am ns (List.mem_cons_of_mem _ h))
      rw [List.map_cons, List.flatten_cons, List.length_append, List.length_append, ← len_tl]
      simp only [List.length_cons, List.length_nil, Nat.mul_add, Nat.mul_one]
      omega
  rw [len_tl]
  exact Nat.le_trans h (Nat.mul_le_mul_left _ hk)
theorem body_len {rows : List (List Int)} (h : rows ≠ []) : (body rows).length + 1 = (text rows).length := by
  rw [len_tl, len_tl, text_tl h]; simp
/-! methods without arguments, texts with values in them -/
section
variable {X : Cx} {k : Nat} {C : Addr} {ps : List Str} {sp : Sp} {E : XK} {pos apos : Pos} {m : Str} {o v1 v2 : Expr} {rest : List Expr} {ta : TE} {ts : List TE} {pl : Sem Bool}
def tMt0 (C : Addr) (m : Str) (sp : Sp) (E : XK) (ta : TE) : TE := fun σ H Q => ta σ H fun x H1 => ∃ a dx fs, x = .ref a ∧ H1 a = some (.ins C dx fs) ∧ fs.lookup m = none ∧ sp [x] H1 Q E
theorem pe_mt0 (c : MCal X.prog X.w X.K X.mg X.base k C m ps sp) (cl : Cls X.K C) (hr : Room k X.A) (he : PE X o ta)
    (ht : eval (.Call (.Attribute o m apos) [] [] pos) X.env = (do
      let ov ← eval o X.env
      standAt apos.atName
      let (f, first) ← holding [ov] (getMethod ov m pl)
      callWith pos f first (backTo pos (starEach [] X.env)) (backToKw pos (keywordEach [] X.env))) := by rfl) : PE X (.Call (.Attribute o m apos) [] [] pos) (tMt0 C m sp E0 ta) := by
  obtain ⟨f, fd, F, h1, h2, kp, hb⟩ := c.ex
  exact pe_meth0 (dvs := []) he cl ⟨h1, h2, kp⟩ F hr hb .nil pass0 ht
theorem pe_mt0X (c : MCalX X.prog X.w X.K X.mg X.base k C m ps sp) (hx : Passes (L2.CX X.prog X.w) X E) (cl : Cls X.K C) (hr : Room k X.A) (he : PE X o ta)
    (ht : eval (.Call (.Attribute o m apos) [] [] pos) X.env = (do
      let ov ← eval o X.env
      standAt apos.atName
      let (f, first) ← holding [ov] (getMethod ov m pl)
      callWith pos f first (backTo pos (starEach [] X.env)) (backToKw pos (keywordEach [] X.env))) := by rfl) : PE X (.Call (.Attribute o m apos) [] [] pos) (tMt0 C m sp E ta) := by
  obtain ⟨f, fd, F, h1, h2, kp, hb⟩ := c.ex
  exact pe_meth0 (dvs := []) he cl ⟨h1, h2, kp⟩ F hr hb .nil hx ht
def tJoined (ts : List TE) : TE := fun σ H Q => tJs ts Str.empty σ H fun out H1 => Q (.str out) H1
theorem pe_js (h : PJ X (v1 :: v2 :: rest) ts) : PE X (.JoinedStr (v1 :: v2 :: rest) pos) (tJoined ts) := pe_joined h
end
end Pl
namespace Pl
open PySem PySem.Spec PyProof.Rows L2
/-! zip(*rows), rows some tuples -/
section
variable {M : Model} {A : Around} {E : Value → Shared → Prop}
/-- a loop whose turns end as foreseen -/
theorem forIn_wp {α β : Type} {f : α → β → Sem (ForInStep β)} : ∀ (l : List α) (r : Nat → β) (P : Nat → Shared → Prop) (s : Shared),
    (∀ j x s, l[j]? = some x → P j s → wpAny M A (f x (r j)) (fun t s' => t = .yield (r (j + 1)) ∧ P (j + 1) s') E s) → P 0 s → wpAny M A (forIn l (r 0) f) (fun t s' => t = r l.length ∧ P l.length s') E s
  | [], r, P, s, _, h => by
    rw [List.forIn_nil]
    exact wpAny_pure ⟨rfl, h⟩
  | x :: l, r, P, s, st, h => by
    rw [List.forIn_cons]
    refine wpAny_bind (wpAny_mono (st 0 x s rfl h) (fun t s' ht => ?_) fun _ _ e => e)
    obtain ⟨rfl, h'⟩ := ht
    exact forIn_wp l (fun j => r (j + 1)) (fun j => P (j + 1)) s' (fun j y s q => st (j + 1) y s q) h'
end
def tiO (l : Addr) : Obj := { cls := .type "tuple_iterator", data := .fields #[.ref l, .int 0 0] }
/-- the iterators laid one after another -/
def itH (h : Heap) : List Addr → Heap
  | [] => h
  | l :: r => itH (h.push (tiO l)) r
def itV (n : Nat) : List Addr → List Value
  | [] => []
  | l :: r => .ref n :: itV (n + 1) r
theorem itH_keep : ∀ {ls : List Addr} {h : Heap} {b : Addr} {o : Obj}, h.get? b = some o → (itH h ls).get? b = some o
  | [], _, _, _, e => e
  | l :: r, h, b, o, e => itH_keep (ls := r) (Heap.get?_push_of_some _ e)
theorem itH_size : ∀ {ls : List Addr} {h : Heap}, (itH h ls).objs.size = h.objs.size + ls.length
  | [], _ => rfl
  | l :: r, h => by
    show (itH (h.push (tiO l)) r).objs.size = _
    rw [itH_size, Heap.size_push, List.length_cons]
    omega
theorem itH_at : ∀ {ls : List Addr} {h : Heap} {j : Nat} {l : Addr}, ls[j]? = some l → (itH h ls).get? (h.objs.size + j) = some (tiO l)
  | l :: r, h, 0, _, e => by
    cases e
    exact itH_keep (ls := r) (h := h.push (tiO l)) (Heap.get?_push_size _ rfl)
  | l :: r, h, j + 1, x, e => by
    have z := itH_at (ls := r) (h := h.push (tiO l)) (j := j) e
    rw [Heap.size_push] at z
    rw [show h.objs.size + (j + 1) = h.objs.size + 1 + j by omega]
    exact z
theorem itV_at : ∀ {ls : List Addr} {n j : Nat}, j < ls.length → (itV n ls)[j]? = some (.ref (n + j))
  | l :: r, n, 0, _ => rfl
  | l :: r, n, j + 1, h => by
    have z := itV_at (ls := r) (n := n + 1) (j := j) (by simpa using h)
    rw [show n + (j + 1) = n + 1 + j by omega]
    exact z
theorem itV_len : ∀ {ls : List Addr} {n : Nat}, (itV n ls).length = ls.length
  | [], _ => rfl
  | l :: r, n => by
    show (itV (n + 1) r).length + 1 = _
    rw [itV_len]
    rfl
section
variable {prog : Program} {w : World} {A : Around} {E : Value → Shared → Prop}
theorem iterAll_go {f : Value → Array Value → Sem (ForInStep (Array Value))} (hf : ∀ x a, f x a = (do let v ← holding a.toList (pyIter x); pure (.yield (a.push v)))) : ∀ (ls : List Addr) (acc : Array Value) (s : Shared) (Q : Array Value → Shared → Prop),
    (∀ l ∈ ls, ∃ xs, s.heap.IsTuple l xs) → Q (acc ++ (itV s.heap.objs.size ls).toArray) { s with heap := itH s.heap ls } → wpAny (model prog w) A (forIn (ls.map Value.ref) acc f) Q E s
  | [], acc, s, Q, _, h => by
    rw [List.map_nil, List.forIn_nil]
    refine wpAny_pure ?_
    have e : acc ++ (itV s.heap.objs.size []).toArray = acc := by simp [itV]
    rw [e] at h
    exact h
  | l :: r, acc, s, Q, ht, h => by
    rw [List.map_cons, List.forIn_cons, hf]
    obtain ⟨xs, hl⟩ := ht l List.mem_cons_self
    refine wpAny_bind (wpAny_bind (wpAny_holding (wpAny_pyIter_tuple hl (wpAny_pure ?_))))
    refine iterAll_go hf r _ _ Q (fun b hb => ?_) ?_
    · obtain ⟨ys, z⟩ := ht b (List.mem_cons_of_mem _ hb)
      exact ⟨ys, z.push _⟩
    · have e : (acc.push (Value.ref s.heap.objs.size)) ++ (itV (s.heap.push (tiO l)).objs.size r).toArray = acc ++ (itV s.heap.objs.size (l :: r)).toArray := by
        rw [Heap.size_push]
        apply Array.toList_inj.mp
        simp [itV]
      show Q ((acc.push (Value.ref s.heap.objs.size)) ++ (itV (s.heap.push (tiO l)).objs.size r).toArray) { s with heap := itH (s.heap.push (tiO l)) r }
      rw [e]
      exact h
theorem iterAll_wp {ls : List Addr} {s : Shared} {Q : List Value → Shared → Prop} (ht : ∀ l ∈ ls, ∃ xs, s.heap.IsTuple l xs) (h : Q (itV s.heap.objs.size ls) { s with heap := itH s.heap ls }) :
    wpAny (model prog w) A (Builtin.SmallTypes.iterAll (ls.map Value.ref)) Q E s := by
  unfold Builtin.SmallTypes.iterAll
  refine wpAny_bind (iterAll_go (fun x a => rfl) ls #[] s _ ht (wpAny_pure ?_))
  have e : (#[] ++ (itV s.heap.objs.size ls).toArray : Array Value).toList = itV s.heap.objs.size ls := by simp
  show Q (#[] ++ (itV s.heap.objs.size ls).toArray : Array Value).toList _
  rw [e]
  exact h
end
abbrev zN3 (h : Heap) (ls : List Addr) : Heap := (itH h ls).push { cls := .type "tuple", data := .seq (itV h.objs.size ls).toArray }
abbrev zN4 (h : Heap) (ls : List Addr) : Heap := (zN3 h ls).push { cls := .type "tuple", data := .seq ((itV h.objs.size ls).map fun _ => Value.none).toArray }
abbrev zN5 (h : Heap) (ls : List Addr) : Heap := (zN4 h ls).push { cls := .type "zip", data := .fields #[.none, .bool false, .bool false, .ref (itH h ls).objs.size, .ref (zN3 h ls).objs.size] }
theorem meets_zipN (ls : List Addr) (hn : ls.length ≤ 100) :
    Meets (Builtin.«zip.__new__» ⟨.type "zip" :: ls.map Value.ref, []⟩) (fun _ R s => (∀ l ∈ ls, ∃ xs, s.heap.IsTuple l xs) ∧ R (.ok (.ret (.ref (zN4 s.heap ls).objs.size))) { s with heap := zN5 s.heap ls }) :=
  .of_wp fun prog w A R s h => by
    obtain ⟨hp, g, d, tk, os⟩ := s
    obtain ⟨ht, h⟩ := h
    have ht : ∀ l ∈ ls, ∃ xs, Heap.IsTuple (Shared.heap ⟨hp, g, d, tk, os⟩) l xs := ht
    have hsub := sub_zip
    unfold Builtin.«zip.__new__»
    refine wpAny_bind (wpAny_of_eq (a := ((.type "zip" : Value), ls.map Value.ref)) ?_ ?_)
    · unfold Builtin.SmallTypes.newClass
      show (isType (.type "zip") >>= _) = _
      rw [show isType (.type "zip") = pure true from rfl]
      show (isSubtype (.type "zip") (.type "zip") >>= _) = _
      rw [hsub]
      rfl
    dsimp only
    rw [if_neg (by simp)]
    have z1 : (itV hp.objs.size ls).length ≤ sizeLine := by rw [itV_len]; exact Nat.le_trans hn (by decide)
    have z2 : ((itV hp.objs.size ls).map fun _ => Value.none).length ≤ sizeLine := by rw [List.length_map]; exact z1
    refine wpAny_bind (iterAll_wp ht (wpAny_bind (wpAny_newTuple (wpAny_bind (wpAny_newTuple (wpAny_bind ?_) z2)) z1)))
    show wpAny _ _ (newObj (.type "zip") (.fields #[.none, .bool false, .bool false, .ref (itH hp ls).objs.size, .ref (zN3 hp ls).objs.size])) _ _ _
    exact wpAny_newObj_type (wpAny_pure ⟨_, rfl, h⟩) (by size_fits)
/-- the checks of the call's form -/
theorem zip_checks : ∀ us : List Value, 2 ≤ us.length → us.length ≤ 4 → checkTypeCall "zip" ⟨us, []⟩ = pure () ∧ checkBuiltinCall "zip.__new__" ⟨.type "zip" :: us, []⟩ = pure () ∧ ∀ obj, argsOk "object.__init__" ⟨obj :: us, []⟩
  | [a, b], _, _ => ⟨F.typeCall_zip_2 _ _, F.newCall_zip_2 _ _, fun obj => F.args_object_init_3 obj _ _⟩
  | [a, b, c], _, _ => ⟨by kernel_rfl, by kernel_rfl, fun obj => by unfold argsOk; kernel_rfl⟩
  | [a, b, c, d], _, _ => ⟨by kernel_rfl, by kernel_rfl, fun obj => by unfold argsOk; kernel_rfl⟩
  | [], h, _ => absurd h (by simp)
  | [_], h, _ => absurd h (by simp)
  | _ :: _ :: _ :: _ :: _ :: _, _, h => absurd h (by simp)
section
variable {prog : Program} {w : World} {A : Around} {E : Value → Shared → Prop} {s : Shared}
theorem call_zipN {ls : List Addr} {Q : Value → Shared → Prop} (h2 : 2 ≤ ls.length) (h4 : ls.length ≤ 4) (ht : ∀ l ∈ ls, ∃ xs, s.heap.IsTuple l xs)
    (h : Q (.ref (zN4 s.heap ls).objs.size) { s with heap := zN5 s.heap ls }) : wpAny (model prog w) A (call (.type "zip") (ls.map Value.ref)) Q E s := by
  obtain ⟨c1, c2, c3⟩ := zip_checks (ls.map Value.ref) (by simpa using h2) (by simpa using h4)
  exact callType_new F.called_zip (by decide) c1 c2 c3 F.entry_zip_new (meets_zipN ls (by omega)) ⟨ht, ⟨_, Heap.get?_push_size _ rfl, rfl⟩, h⟩
end
abbrev ZR (h : Heap) (z TI TO : Addr) (f0 : Value) (f1 : Bool) : Prop := h.get? z = some { cls := .type "zip", dict := none, data := .fields #[f0, .bool f1, .bool false, .ref TI, .ref TO], slots := #[] }
abbrev TupO (h : Heap) (T : Addr) (us : List Value) : Prop := h.get? T = some { cls := .type "tuple", data := .seq us.toArray }
/-- the iterators stand at i, the first j of them one further -/
def ItsJ (h : Heap) (its ls : List Addr) (i j : Nat) : Prop := ∀ (m : Nat) (it l : Addr), its[m]? = some it → ls[m]? = some l → h.IsTupleIter it l (if m < j then i + 1 else i)
def Fld0 (f0 : Value) : Prop := f0 = .none ∨ ∃ T : Nat, f0 = rawInt T
theorem take_set {α : Type} {xs olds : List α} {j : Nat} {x : α} (h : xs[j]? = some x) (l : olds.length = xs.length) : (xs.take j ++ olds.drop j).set j x = xs.take (j + 1) ++ olds.drop (j + 1) := by
  have lt : j < xs.length := (List.getElem?_eq_some_iff.mp h).1
  have e1 : (xs.take j).length = j := by rw [List.length_take]; omega
  rw [List.set_append_right _ _ (by omega), e1, Nat.sub_self, List.drop_eq_getElem_cons (show j < olds.length by omega), List.set_cons_zero, List.take_add_one, h]
  simp
theorem ItsJ.start {h : Heap} {its ls : List Addr} {i n : Nat} (q : ItsJ h its ls i n) (l : its.length ≤ n) : ItsJ h its ls (i + 1) 0 := fun m it l' e1 e2 => by
  have z := q m it l' e1 e2
  rw [if_pos (Nat.lt_of_lt_of_le (List.getElem?_eq_some_iff.mp e1).1 l)] at z
  rw [if_neg (by omega)]
  exact z
/-- one of them moves -/
theorem ItsJ.next {h h' : Heap} {its ls : List Addr} {i j : Nat} {it l : Addr} (q : ItsJ h its ls i j) (nd : its.Nodup) (e1 : its[j]? = some it) (e2 : ls[j]? = some l) (k : ∀ b ∈ its, b ≠ it → ∀ o, h.get? b = some o → h'.get? b = some o) (a : h'.IsTupleIter it l (i + 1)) : ItsJ h' its ls i (j + 1) := fun m b l' f1 f2 => by
  by_cases c : m = j
  · subst c
    rw [e1] at f1
    rw [e2] at f2
    cases f1
    cases f2
    rw [if_pos (Nat.lt_succ_self _)]
    exact a
  · have z := q m b l' f1 f2
    have n : b ≠ it := fun z => by
      rw [z] at f1
      exact c ((List.getElem?_inj (List.getElem?_eq_some_iff.mp f1).1 nd).mp (f1.trans e1.symm))
    have e : (if m < j + 1 then i + 1 else i) = (if m < j then i + 1 else i) := by
      by_cases d : m < j
      · rw [if_pos d, if_pos (by omega)]
      · rw [if_neg d, if_neg (by omega)]
    rw [e]
    exact z.at fun o q => k b (List.mem_of_getElem? f1) n o q
section
variable {prog : Program} {w : World} {A : Around} {E : Value → Shared → Prop} {s : Shared} {z TI TO : Addr} {its ls : List Addr}
theorem free_or_held {f0 : Value} {f1 : Bool} {Q : Bool → Shared → Prop} (hz : ZR s.heap z TI TO f0 f1) (hf : Fld0 f0) (yes : Q true s) (no : ∀ h1, ZR h1 z TI TO f0 true → Heap.SameBut z s.heap h1 → Q false { s with heap := h1 }) :
    wpAny (model prog w) A (Builtin.SmallTypes.ownedTupleIsFree (.ref z)) Q E s := by
  rcases hf with rfl | ⟨T, rfl⟩
  · unfold Builtin.SmallTypes.ownedTupleIsFree
    exact wpAny_bind (wpAny_field hz rfl (x := .none) rfl (wpAny_pure yes))
  · cases e : s.heap.get? T with
    | some o => exact wpAny_tupleHeld_zip hz e no
    | none =>
      unfold Builtin.SmallTypes.ownedTupleIsFree
      refine wpAny_bind (wpAny_field hz rfl (x := rawInt T) rfl ?_)
      show wpAny _ _ (loadIfAlive ((T : Int).toNat) >>= _) _ _ _
      rw [Int.toNat_natCast]
      refine wpAny_bind ?_
      have k : (fun (a : Option Obj) (s' : Shared) => wpAny (model prog w) A (if a.isNone = true then pure true else do
          if (← field (.ref z) 1) != .bool true then setField (.ref z) 1 (.bool true)
          return false) Q E s') (s.heap.get? T) s := by
        rw [e]
        exact wpAny_pure yes
      exact fun _ _ _ => k
theorem zipN_item {f0 : Value} {f1 : Bool} {i : Nat} {olds xs : List Value} {Q : Value → Shared → Prop} (ap : (z :: TI :: TO :: its).Nodup) (al : ∀ l ∈ ls, l ∉ z :: TI :: TO :: its) (ne : its ≠ []) (few : its.length ≤ 100) (ll : its.length = ls.length)
    (hz : ZR s.heap z TI TO f0 f1) (hf : Fld0 f0) (hTI : TupO s.heap TI (its.map Value.ref)) (hTO : TupO s.heap TO olds) (lo : olds.length = its.length) (hi : ItsJ s.heap its ls i 0) (lx : xs.length = its.length)
    (hx : ∀ (j : Nat) (l : Addr) (x : Value), ls[j]? = some l → xs[j]? = some x → ∃ items, s.heap.IsTuple l items ∧ items[i]? = some x)
    (hQ : ∀ h' g0 g1 olds', ZR h' z TI TO g0 g1 → Fld0 g0 → TupO h' TI (its.map Value.ref) → TupO h' TO olds' → olds'.length = its.length → ItsJ h' its ls (i + 1) 0 → TupO h' s.heap.objs.size xs → h'.objs.size = s.heap.objs.size + 1 →
      (∀ c o, c ∉ z :: TI :: TO :: its → s.heap.get? c = some o → h'.get? c = some o) → Q (.ref s.heap.objs.size) { s with heap := h' }) :
    wpAny (model prog w) A (Builtin.«zip.__next__» ⟨[.ref z], []⟩) (fun fin s' => ∃ v, fin = .done (.ret v) ∧ Q v s') E s := by
  show wpAny _ _ (field (.ref z) 2 >>= _) _ _ _
  refine wpAny_bind (wpAny_field hz rfl (x := .bool false) rfl ?_)
  show wpAny _ _ (field (.ref z) 3 >>= _) _ _ _
  refine wpAny_bind (wpAny_field hz rfl (x := .ref TI) rfl ?_)
  refine wpAny_bind (wpAny_seqItems hTI rfl ?_)
  have emp : ((its.map Value.ref).toArray).isEmpty = false := by
    cases its with
    | nil => exact absurd rfl ne
    | cons a r => simp
  simp only [emp, Bool.false_eq_true, if_false]
  have nd : (z ≠ TI ∧ z ≠ TO ∧ z ∉ its) ∧ (TI ≠ TO ∧ TI ∉ its) ∧ TO ∉ its ∧ its.Nodup := by simpa [not_or] using ap
  refine wpAny_bind (free_or_held hz hf ?_ fun h1 hz1 sb1 => ?_)
  · simp only [if_true]
    refine wpAny_bind (wpAny_rule ?_)
    refine wpAny_bind (wpAny_field hz rfl (x := .ref TO) rfl ?_)
    refine wpAny_bind (wpAny_setField_rec hz (by simp) fun h1 hz1 sb1 => ?_)
    replace hz1 : ZR h1 z TI TO .ellipsis f1 := hz1
    refine wpAny_bind (wpAny_mono (forIn_wp (its.map Value.ref).zipIdx (fun _ => (none, ())) (fun j s' => ∃ h, s' = { s with heap := h } ∧ h.objs.size = s.heap.objs.size ∧ ZR h z TI TO .ellipsis f1 ∧ TupO h TI (its.map Value.ref) ∧
      TupO h TO (xs.take j ++ olds.drop j) ∧ ItsJ h its ls i j ∧ ∀ c o, c ∉ z :: TI :: TO :: its → s.heap.get? c = some o → h.get? c = some o) _ ?_ ?_) ?_ fun _ _ e => e)
    · rintro j ⟨v, k⟩ s2 hj ⟨h, rfl, sz, hz2, hTI2, hTO2, hi2, kp⟩
      obtain ⟨it, e1, rfl, rfl⟩ : ∃ it, its[j]? = some it ∧ v = .ref it ∧ k = j := by
        rw [List.getElem?_zipIdx, List.getElem?_map] at hj
        cases q : its[j]? with
        | none => rw [q] at hj; cases hj
        | some it =>
          rw [q] at hj
          simp at hj
          exact ⟨it, rfl, hj.1.symm, hj.2.symm⟩
      have lt : k < its.length := (List.getElem?_eq_some_iff.mp e1).1
      have e2 : ls[k]? = some ls[k] := List.getElem?_eq_getElem (by omega)
      have e3 : xs[k]? = some xs[k] := List.getElem?_eq_getElem (by omega)
      obtain ⟨items, hl, hx2⟩ := hx k _ _ e2 e3
      have ml := al _ (List.mem_of_getElem? e2)
      have mi := List.mem_of_getElem? e1
      have it0 := hi2 k it _ e1 e2
      rw [if_neg (Nat.lt_irrefl _)] at it0
      have nTO : TO ≠ it := fun q => nd.2.2.1 (by rw [q]; exact mi)
      have nTI : TI ≠ it := fun q => nd.2.1.2 (by rw [q]; exact mi)
      have nz : z ≠ it := fun q => nd.1.2.2 (by rw [q]; exact mi)
      refine wpAny_bind (wpAny_onRaise ?_)
      show wpAny _ _ (Builtin.SmallTypes.nextOf (.ref it) >>= _) _ _ _
      refine wpAny_bind (RZ.nextOf_tuple_item (s := { s with heap := h }) it0 (hl.at fun o q => kp _ o ml q) hx2 fun h3 it3 sb3 => wpAny_pure ?_)
      have hTO3 : TupO h3 TO (xs.take k ++ olds.drop k) := (sb3.2 _ nTO).trans hTO2
      refine wpAny_bind (wpAny_seqItems hTO3 rfl ?_)
      have lz : (xs.take k ++ olds.drop k).length ≤ 100 := by rw [List.length_append, List.length_take, List.length_drop]; omega
      refine wpAny_bind (wpAny_updateSeq hTO3 rfl ?_ (by rw [List.size_toArray]; exact Nat.le_trans lz (by decide)) (by rw [Array.size_setIfInBounds, List.size_toArray]; exact Nat.le_trans lz (by decide)))
      refine wpAny_bind (wpAny_letGo (wpAny_pure ⟨rfl, _, rfl, ?_, ?_, ?_, ?_, ?_, ?_⟩))
      · rw [(Heap.SameBut.update ..).1, sb3.1, sz]
      · exact ((Heap.SameBut.update ..).2 _ nd.1.2.1).trans ((sb3.2 _ nz).trans hz2)
      · exact ((Heap.SameBut.update ..).2 _ nd.2.1.1).trans ((sb3.2 _ nTI).trans hTI2)
      · show (Heap.update _ TO _).get? TO = _
        rw [Heap.get?_update_self _ hTO3 rfl]
        simp only [Obj.mapSeq]
        rw [← take_set e3 (by omega), ← List.setIfInBounds_toArray]
        rw [if_pos (by simp)]
      · refine hi2.next nd.2.2.2 e1 e2 (fun b hb nb o q => ?_) (it3.at fun o q => ((Heap.SameBut.update ..).2 _ (Ne.symm nTO)).trans q)
        exact ((Heap.SameBut.update ..).2 _ (fun q => nd.2.2.1 (by rw [← q]; exact hb))).trans ((sb3.2 _ nb).trans q)
      · intro c o hc q
        simp only [List.mem_cons, not_or] at hc
        exact ((Heap.SameBut.update ..).2 _ hc.2.2.1).trans ((sb3.2 _ (fun y => hc.2.2.2 (by rw [y]; exact mi))).trans (kp c o (by simp only [List.mem_cons, not_or]; exact hc) q))
    · refine ⟨h1, rfl, sb1.1, hz1, (sb1.2 _ (Ne.symm nd.1.1)).trans hTI, (sb1.2 _ (Ne.symm nd.1.2.1)).trans hTO, fun m it l f1 f2 => ?_, fun c o hc q => ?_⟩
      · exact (hi m it l f1 f2).at fun o q => (sb1.2 _ (fun y => nd.1.2.2 (by rw [← y]; exact List.mem_of_getElem? f1))).trans q
      · simp only [List.mem_cons, not_or] at hc
        exact (sb1.2 _ hc.1).trans q
    · rintro t s2 ⟨rfl, h, rfl, sz, hz2, hTI2, hTO2, hi2, kp⟩
      have ez : (its.map Value.ref).zipIdx.length = its.length := by simp
      rw [ez] at hTO2 hi2
      rw [← lx, List.take_length, lx, ← lo, List.drop_length, List.append_nil] at hTO2
      dsimp only
      refine wpAny_bind (wpAny_seqItems hTO2 rfl ?_)
      have lxz : xs.length ≤ sizeLine := Nat.le_trans (show xs.length ≤ 100 by omega) (by decide)
      show wpAny _ _ (newTuple xs.toArray.toList >>= _) _ _ _
      rw [show xs.toArray.toList = xs by simp]
      refine wpAny_bind (wpAny_newTuple ?_ lxz)
      have zlt : z < h.objs.size := Heap.lt_size hz2
      have hz3 : ZR (h.push { cls := .type "tuple", data := .seq xs.toArray }) z TI TO .ellipsis f1 := Heap.get?_push_of_some _ hz2
      refine wpAny_bind ?_
      show wpAny _ _ (Builtin.SmallTypes.ownedTupleHandOut (.ref z) (.ref h.objs.size)) _ _ _
      unfold Builtin.SmallTypes.ownedTupleHandOut
      refine wpAny_bind (wpAny_setField_rec hz3 (by simp) fun h4 hz4 sb4 => ?_)
      replace hz4 : ZR h4 z TI TO (rawInt h.objs.size) f1 := hz4
      refine wpAny_setField_rec hz4 (by simp) fun h5 hz5 sb5 => ?_
      replace hz5 : ZR h5 z TI TO (rawInt h.objs.size) false := hz5
      have up : ∀ c o, c ≠ z → h.get? c = some o → h5.get? c = some o := fun c o n e => (sb5.2 _ n).trans ((sb4.2 _ n).trans (Heap.get?_push_of_some _ e))
      have hT5 : TupO h5 h.objs.size xs := (sb5.2 _ (Nat.ne_of_gt zlt)).trans ((sb4.2 _ (Nat.ne_of_gt zlt)).trans (Heap.get?_push_size _ rfl))
      have s5 : h5.objs.size = h.objs.size + 1 := by rw [sb5.1, sb4.1, Heap.size_push]
      refine wpAny_pure ⟨_, rfl, ?_⟩
      rw [sz] at hT5 s5 ⊢
      refine hQ h5 _ _ xs hz5 (.inr ⟨_, rfl⟩) (up _ _ (Ne.symm nd.1.1) hTI2) (up _ _ (Ne.symm nd.1.2.1) hTO2) lx ?_ hT5 s5 fun c o hc q => up c o (fun y => hc (by rw [y]; exact List.mem_cons_self)) (kp c o hc q)
      intro m it l g1 g2
      exact (hi2.start (Nat.le_refl _) m it l g1 g2).at fun o q => up it o (fun y => nd.1.2.2 (by rw [← y]; exact List.mem_of_getElem? g1)) q
  · simp only [Bool.false_eq_true, if_false]
    refine wpAny_bind ?_
    rw [← Array.forIn_toList]
    show wpAny _ _ (forIn (its.map Value.ref) _ _) _ _ _
    refine wpAny_mono (forIn_wp (its.map Value.ref) (fun j => (none, (xs.take j).toArray)) (fun j s' => ∃ h, s' = { s with heap := h } ∧ h.objs.size = s.heap.objs.size ∧ ZR h z TI TO f0 true ∧ TupO h TI (its.map Value.ref) ∧
      TupO h TO olds ∧ ItsJ h its ls i j ∧ ∀ c o, c ∉ z :: TI :: TO :: its → s.heap.get? c = some o → h.get? c = some o) _ ?_ ?_) ?_ fun _ _ e => e
    · rintro k v s2 hj ⟨h, rfl, sz, hz2, hTI2, hTO2, hi2, kp⟩
      obtain ⟨it, e1, rfl⟩ : ∃ it, its[k]? = some it ∧ v = .ref it := by
        rw [List.getElem?_map] at hj
        cases q : its[k]? with
        | none => rw [q] at hj; cases hj
        | some it =>
          rw [q] at hj
          exact ⟨it, rfl, (Option.some.inj hj).symm⟩
      have lt : k < its.length := (List.getElem?_eq_some_iff.mp e1).1
      have e2 : ls[k]? = some ls[k] := List.getElem?_eq_getElem (by omega)
      have e3 : xs[k]? = some xs[k] := List.getElem?_eq_getElem (by omega)
      obtain ⟨items, hl, hx2⟩ := hx k _ _ e2 e3
      have ml := al _ (List.mem_of_getElem? e2)
      have mi := List.mem_of_getElem? e1
      have it0 := hi2 k it _ e1 e2
      rw [if_neg (Nat.lt_irrefl _)] at it0
      refine wpAny_bind (wpAny_holding ?_)
      show wpAny _ _ (Builtin.SmallTypes.nextOf (.ref it) >>= _) _ _ _
      refine wpAny_bind (RZ.nextOf_tuple_item (s := { s with heap := h }) it0 (hl.at fun o q => kp _ o ml q) hx2 fun h3 it3 sb3 => wpAny_pure ?_)
      refine wpAny_pure ⟨?_, h3, rfl, sb3.1.trans sz, (sb3.2 _ (fun q => nd.1.2.2 (by rw [q]; exact mi))).trans hz2, (sb3.2 _ (fun q => nd.2.1.2 (by rw [q]; exact mi))).trans hTI2,
        (sb3.2 _ (fun q => nd.2.2.1 (by rw [q]; exact mi))).trans hTO2, hi2.next nd.2.2.2 e1 e2 (fun b hb nb o q => (sb3.2 _ nb).trans q) it3, fun c o hc q => ?_⟩
      · show ForInStep.yield (none, ((xs.take k).toArray).push xs[k]) = _
        rw [List.take_add_one, e3]
        simp
      · exact (sb3.2 _ (fun y => hc (by rw [y]; simp [mi]))).trans (kp c o hc q)
    · refine ⟨h1, rfl, sb1.1, hz1, (sb1.2 _ (Ne.symm nd.1.1)).trans hTI, (sb1.2 _ (Ne.symm nd.1.2.1)).trans hTO, fun m it l f1 f2 => ?_, fun c o hc q => ?_⟩
      · exact (hi m it l f1 f2).at fun o q => (sb1.2 _ (fun y => nd.1.2.2 (by rw [← y]; exact List.mem_of_getElem? f1))).trans q
      · simp only [List.mem_cons, not_or] at hc
        exact (sb1.2 _ hc.1).trans q
    · rintro t s2 ⟨rfl, h, rfl, sz, hz2, hTI2, hTO2, hi2, kp⟩
      rw [List.length_map] at hi2
      have lxz : xs.length ≤ sizeLine := Nat.le_trans (show xs.length ≤ 100 by omega) (by decide)
      dsimp only
      have ex : xs.take (its.map Value.ref).length = xs := by rw [List.length_map, ← lx, List.take_length]
      rw [ex]
      refine wpAny_bind (wpAny_newTuple ?_ lxz)
      refine wpAny_pure ⟨_, rfl, ?_⟩
      show Q (.ref h.objs.size) _
      have s5 : (h.push { cls := .type "tuple", data := .seq xs.toArray }).objs.size = h.objs.size + 1 := Heap.size_push _ _
      have hT5 : TupO (h.push { cls := .type "tuple", data := .seq xs.toArray }) h.objs.size xs := Heap.get?_push_size _ rfl
      rw [sz] at s5 hT5 ⊢
      refine hQ _ _ _ olds (Heap.get?_push_of_some _ hz2) hf (Heap.get?_push_of_some _ hTI2) (Heap.get?_push_of_some _ hTO2) lo ?_ hT5 s5 fun c o hc q => Heap.get?_push_of_some _ (kp c o hc q)
      intro m it l g1 g2
      exact (hi2.start (Nat.le_refl _) m it l g1 g2).at fun o q => Heap.get?_push_of_some _ q
theorem zipN_end {f0 : Value} {f1 : Bool} {i : Nat} {it0 l0 : Addr} {itr : List Addr} {items : Array Value} {Q : Fin → Shared → Prop} (hh : A.handled = none) (ap : (z :: TI :: TO :: (it0 :: itr)).Nodup) (al : l0 ∉ z :: TI :: TO :: (it0 :: itr))
    (hz : ZR s.heap z TI TO f0 f1) (hf : Fld0 f0) (hTI : TupO s.heap TI ((it0 :: itr).map Value.ref)) (hi : s.heap.IsTupleIter it0 l0 i) (hl : s.heap.IsTuple l0 items) (he : items[i]? = none)
    (hE : ∀ h' e, (∀ c o, c ∉ z :: TI :: TO :: (it0 :: itr) → s.heap.get? c = some o → h'.get? c = some o) → (∃ o, h'.get? e = some o ∧ o.cls = .type "StopIteration") → E (.ref e) { s with heap := h' }) :
    wpAny (model prog w) A (Builtin.«zip.__next__» ⟨[.ref z], []⟩) Q E s := by
  have nd : z ≠ it0 := fun q => by
    rw [q] at ap
    simp at ap
  have ml : l0 ≠ z := fun q => al (by rw [q]; exact List.mem_cons_self)
  show wpAny _ _ (field (.ref z) 2 >>= _) _ _ _
  refine wpAny_bind (wpAny_field hz rfl (x := .bool false) rfl ?_)
  show wpAny _ _ (field (.ref z) 3 >>= _) _ _ _
  refine wpAny_bind (wpAny_field hz rfl (x := .ref TI) rfl ?_)
  refine wpAny_bind (wpAny_seqItems hTI rfl ?_)
  have emp : (((it0 :: itr).map Value.ref).toArray).isEmpty = false := by simp
  simp only [emp, Bool.false_eq_true, if_false]
  refine wpAny_bind (free_or_held hz hf ?_ fun h1 hz1 sb1 => ?_)
  · simp only [if_true]
    refine wpAny_bind (wpAny_rule ?_)
    refine wpAny_bind (wpAny_field hz rfl (x := .ref TO) rfl ?_)
    refine wpAny_bind (wpAny_setField_rec hz (by simp) fun h1 hz1 sb1 => ?_)
    replace hz1 : ZR h1 z TI TO .ellipsis f1 := hz1
    refine wpAny_bind ?_
    simp only [List.map_cons, List.zipIdx_cons, List.forIn_cons]
    refine wpAny_bind (wpAny_bind (wpAny_onRaise ?_))
    show wpAny _ _ (Builtin.SmallTypes.nextOf (.ref it0) >>= _) _ _ _
    refine wpAny_bind (RZ.nextOf_tuple_end (s := { s with heap := h1 }) hh (hi.at fun o q => (sb1.2 _ (Ne.symm nd)).trans q) (hl.at fun o q => (sb1.2 _ ml).trans q) he fun h2 e k2 ⟨oe, ho, hc⟩ => ?_)
    have hz2 : ZR h2 z TI TO .ellipsis f1 := k2 _ _ nd hz1
    have ez : e ≠ z := fun x => by
      subst x
      rw [hz2] at ho
      cases ho
      simp at hc
    refine wpAny_setField_rec hz2 (by simp) fun h3 _ sb3 => hE h3 e (fun c o hc q => ?_) ⟨oe, (sb3.2 _ ez).trans ho, hc⟩
    simp only [List.mem_cons, not_or] at hc
    exact (sb3.2 _ hc.1).trans (k2 _ _ hc.2.2.2.1 ((sb1.2 _ hc.1).trans q))
  · simp only [Bool.false_eq_true, if_false]
    refine wpAny_bind ?_
    rw [← Array.forIn_toList]
    simp only [List.map_cons, List.forIn_cons]
    refine wpAny_bind (wpAny_bind (wpAny_holding ?_))
    show wpAny _ _ (Builtin.SmallTypes.nextOf (.ref it0) >>= _) _ _ _
    refine wpAny_bind (RZ.nextOf_tuple_end (s := { s with heap := h1 }) hh (hi.at fun o q => (sb1.2 _ (Ne.symm nd)).trans q) (hl.at fun o q => (sb1.2 _ ml).trans q) he fun h2 e k2 ho => hE h2 e (fun c o hc q => ?_) ho)
    simp only [List.mem_cons, not_or] at hc
    exact k2 _ _ hc.2.2.2.1 ((sb1.2 _ hc.1).trans q)
end
/-- the tuples at ls side by side, the items in new tuples -/
def ItzN (K : PySem.W.Frag) (ls : List Addr) : It :=
  ⟨fun i H => ∀ a ∈ ls, ∃ xs x, SqT K H a xs ∧ xs[i]? = some x,
    fun i H v H' => ∃ (T : Addr) (vs : List V), v = .ref T ∧ H T = none ∧ H' = upd H T (.tup vs) ∧ vs.length = ls.length ∧ ∀ (j : Nat) (a : Addr) (xs : List V), ls[j]? = some a → SqT K H a xs → xs[i]? = vs[j]?,
    fun i H => ∃ a r xs, ls = a :: r ∧ SqT K H a xs ∧ xs.length ≤ i⟩
/-- what stands in each of them at i -/
theorem cols {X : Cx} {pins : List (Addr × Obj)} {σ : L2.St} {H : Hp} {s : Shared} {i : Nat} (I : Inv X pins σ H s) : ∀ {ls : List Addr}, (∀ a ∈ ls, ∃ xs x, SqT X.K H a xs ∧ xs[i]? = some x) →
    ∃ (vs : List V) (us : List Value), Vals vs us ∧ vs.length = ls.length ∧ us.length = ls.length ∧ (∀ (j : Nat) (a : Addr) (xs : List V), ls[j]? = some a → SqT X.K H a xs → xs[i]? = vs[j]?) ∧
      ∀ (j : Nat) (l : Addr) (x : Value), ls[j]? = some l → us[j]? = some x → ∃ items, s.heap.IsTuple l items ∧ items[i]? = some x
  | [], _ => ⟨[], [], .nil, rfl, rfl, fun j a xs e => by simp at e, fun j l x e => by simp at e⟩
  | a :: r, h => by
    obtain ⟨vs, us, rv, l1, l2, k1, k2⟩ := cols I (ls := r) fun b hb => h b (List.mem_cons_of_mem _ hb)
    obtain ⟨xs, x, sq, hx⟩ := h a List.mem_cons_self
    obtain ⟨its, rv2, tp, _⟩ := I.tuple sq
    obtain ⟨u, hu, ru⟩ := rv2.get hx
    refine ⟨x :: vs, u :: us, .cons ru rv, by simp [l1], by simp [l2], fun j b ys e q => ?_, fun j b y e q => ?_⟩
    · cases j with
      | zero =>
        obtain rfl : a = b := Option.some.inj e
        rw [I.tuple_inj q sq]
        exact hx
      | succ j => exact k1 j b ys e q
    · cases j with
      | zero =>
        obtain rfl : a = b := Option.some.inj e
        obtain rfl : u = y := Option.some.inj q
        exact ⟨_, tp, by simpa using hu⟩
      | succ j => exact k2 j b y e q
theorem turn_zipN {P : Program} {w : World} {K : PySem.W.Frag} {x : Str} {tpos : Pos} {z TI TO : Addr} {its ls : List Addr} (ap : (z :: TI :: TO :: its).Nodup) (al : ∀ l ∈ ls, l ∉ z :: TI :: TO :: its) (ne : its ≠ []) (few : its.length ≤ 100) (ll : its.length = ls.length) :
    Turn P w K (.Name x tpos) (ItzN K ls) (z :: TI :: TO :: its) z (fun i h => ∃ f0 f1 olds, ZR h z TI TO f0 f1 ∧ Fld0 f0 ∧ TupO h TI (its.map Value.ref) ∧ TupO h TO olds ∧ olds.length = its.length ∧ ItsJ h its ls i 0) where
  mem := List.mem_cons_self
  obj := fun i h ⟨f0, f1, olds, hz, hf, hTI, hTO, lo, hi⟩ c hc => by
    rcases List.mem_cons.mp hc with rfl | hc
    · exact ⟨_, hz, fun v q => nomatch q⟩
    rcases List.mem_cons.mp hc with rfl | hc
    · exact ⟨_, hTI, fun v q => nomatch q⟩
    rcases List.mem_cons.mp hc with rfl | hc
    · exact ⟨_, hTO, fun v q => nomatch q⟩
    · obtain ⟨m, lt, e⟩ := List.getElem_of_mem hc
      obtain ⟨o, e1, _, d1⟩ := hi m c ls[m] (by rw [← e]; exact List.getElem?_eq_getElem lt) (List.getElem?_eq_getElem (by omega))
      exact ⟨o, e1, fun v q => by rw [d1] at q; cases q⟩
  keep := fun i h h' ⟨f0, f1, olds, hz, hf, hTI, hTO, lo, hi⟩ k => by
    refine ⟨f0, f1, olds, k z (by simp) _ hz, hf, k TI (by simp) _ hTI, k TO (by simp) _ hTO, lo, fun m it l e1 e2 => ?_⟩
    exact (hi m it l e1 e2).at fun o q => k it (by simp [List.mem_of_getElem? e1]) o q
  item := by
    rintro X hP hw hK hc i pins s σ H E I hfp ⟨f0, f1, olds, hz, hf, hTI, hTO, lo, hi⟩ hg
    subst hP hw hK
    obtain ⟨vs, us, rv, l1, l2, k1, k2⟩ := cols I hg
    have hT : s.TypeIs (.ref z) "zip" := ⟨_, hz, rfl⟩
    unfold pyNext
    refine wpAny_bind (wpAny_attempt (wpAny_callSpecial?_slot (name := Str.ofString "__next__") hT F.slot_zip_next (wpAny_call_entry F.slot_zip_next hT F.entry_zip_next
      (zipN_item (xs := us) ap al ne few ll hz hf hTI hTO lo hi (by omega) k2 fun h' g0 g1 olds' a1 a2 a3 a4 a5 a6 a7 a8 a9 => wpAny_pure ?_) (F.args_zip_next_1 _))))
    refine ⟨_, rfl, ?_⟩
    show wpAny _ _ (pure ()) _ _ _
    refine wpAny_pure ?_
    have new : ObjOk X.prog X.w (upd H s.heap.objs.size (.tup vs)) h' s.heap.objs.size (.tup vs) := ⟨by exact Nat.le_trans (show vs.length ≤ 100 by omega) (by decide), us, rv, ⟨_, a7, rfl, _, rfl⟩⟩
    have I1 : Inv X pins σ (upd H s.heap.objs.size (.tup vs)) { s with heap := h' } := I.turnedNew (t' := s.toks) (ch := z :: TI :: TO :: its) (fun c o hb q => a9 c o hb q) hfp (Nat.le_refl _) new
    refine ⟨.ref s.heap.objs.size, _, I1, rfl, ⟨_, vs, rfl, I.hok.fresh (Nat.le_refl _), rfl, l1, k1⟩, ⟨g0, g1, olds', a1, a2, a3, a4, a5, a6⟩, fun c hcm => ?_⟩
    have hlt : c < s.heap.objs.size := by
      rcases List.mem_cons.mp hcm with rfl | hc
      · exact Heap.lt_size hz
      rcases List.mem_cons.mp hc with rfl | hc
      · exact Heap.lt_size hTI
      rcases List.mem_cons.mp hc with rfl | hc
      · exact Heap.lt_size hTO
      · obtain ⟨m, lt, e⟩ := List.getElem_of_mem hc
        obtain ⟨o, e1, _, d1⟩ := hi m c ls[m] (by rw [← e]; exact List.getElem?_eq_getElem lt) (List.getElem?_eq_getElem (by omega))
        exact Heap.lt_size e1
    rw [upd_ne (Nat.ne_of_lt hlt)]
    exact (hfp c hcm).1
  done := by
    rintro X hP hw hK hc i pins s σ H E I hfp ⟨f0, f1, olds, hz, hf, hTI, hTO, lo, hi⟩ ⟨a, r, xs, rfl, sq, le⟩
    subst hP hw hK
    obtain ⟨itl, rv, tp, _⟩ := I.tuple sq
    have l1 := rv.length
    cases its with
    | nil => exact absurd rfl ne
    | cons it0 itr =>
      have hT : s.TypeIs (.ref z) "zip" := ⟨_, hz, rfl⟩
      have i0 : s.heap.IsTupleIter it0 a i := hi 0 it0 a rfl rfl
      unfold pyNext
      refine wpAny_bind (wpAny_attempt (wpAny_callSpecial?_slot (name := Str.ofString "__next__") hT F.slot_zip_next (wpAny_call_entry F.slot_zip_next hT F.entry_zip_next
        (zipN_end (I.ok.hd hc) ap (al a List.mem_cons_self) hz hf hTI i0 tp (by simp; omega) fun h' e hk he => ?_) (F.args_zip_next_1 _))))
      obtain ⟨o, ho, hc2⟩ := he
      refine wpAny_bind (wpAny_isInstance (T := "StopIteration") (b := true) ⟨o, ho, hc2⟩ isSubtype_stop ?_)
      exact wpAny_pure ⟨rfl, I.turnedL (t' := s.toks) (ch := z :: TI :: TO :: (it0 :: itr)) (fun c o hb q => hk c o hb q) hfp⟩
  self := fun A i s Q E ⟨f0, f1, olds, hz, _⟩ h => by
    have hT : s.TypeIs (.ref z) "zip" := ⟨_, hz, rfl⟩
    refine wpAny_pyIter_slot hT F.slot_zip_iter (wpAny_call_entry F.slot_zip_iter hT F.entry_zip_iter ?_ (F.args_zip_iter_1 _))
    show wpAny _ _ (ret (.ref z)) _ _ s
    exact wpAny_pure ⟨_, rfl, "zip", _, hT, F.slot_zip_next.lookup, h⟩
def itA (n : Nat) : List Addr → List Addr
  | [] => []
  | _ :: r => n :: itA (n + 1) r
theorem itA_map : ∀ {ls : List Addr} {n : Nat}, (itA n ls).map Value.ref = itV n ls
  | [], _ => rfl
  | l :: r, n => by
    show Value.ref n :: (itA (n + 1) r).map Value.ref = Value.ref n :: itV (n + 1) r
    rw [itA_map]
theorem itA_len {ls : List Addr} {n : Nat} : (itA n ls).length = ls.length := by rw [← List.length_map (f := Value.ref), itA_map, itV_len]
theorem itA_mem : ∀ {ls : List Addr} {n b : Nat}, b ∈ itA n ls → n ≤ b ∧ b < n + ls.length
  | l :: r, n, b, h => by
    rcases List.mem_cons.mp h with rfl | h
    · simp
    · have z := itA_mem (ls := r) h
      simp only [List.length_cons]
      omega
theorem itA_nodup : ∀ {ls : List Addr} {n : Nat}, (itA n ls).Nodup
  | [], _ => List.nodup_nil
  | l :: r, n => by
    refine List.nodup_cons.mpr ⟨fun h => ?_, itA_nodup⟩
    have z := itA_mem (ls := r) h
    omega
theorem itA_at {ls : List Addr} {n j it : Nat} (h : (itA n ls)[j]? = some it) : it = n + j ∧ j < ls.length := by
  have lt := (List.getElem?_eq_some_iff.mp h).1
  rw [itA_len] at lt
  have e := itV_at (ls := ls) (n := n) lt
  rw [← itA_map, List.getElem?_map, h] at e
  exact ⟨Value.ref.inj (Option.some.inj e), lt⟩
theorem vals_refs : ∀ {ls : List Addr} {us : List Value}, Vals (ls.map V.ref) us → us = ls.map Value.ref
  | [], _, .nil => rfl
  | l :: r, _, .cons h t => by
    rw [vals_refs t]
    exact congrArg (· :: r.map Value.ref) (show _ = Value.ref l from h)
def iZipS (K : PySem.W.Frag) (te : TE) : TI := fun σ H R => te σ H fun y H1 => ∃ (p : Addr) (ls : List Addr), y = .ref p ∧ (SqT K H1 p (ls.map V.ref) ∨ SqL K H1 p (ls.map V.ref)) ∧ 2 ≤ ls.length ∧ ls.length ≤ 4 ∧ (∀ a ∈ ls, ∃ xs, SqT K H1 a xs) ∧ R (ItzN K ls) H1
theorem pi_zipS {X : Cx} {e : Expr} {te : TE} {x : Str} {p pos tpos sps : Pos} (hg : Gl X "zip") (hm : X.mg "zip" = none) (he : PE X e te) (hst : starEach [.Starred e sps] X.env = [(true, eval e X.env)] := by rfl) :
    PI X (.Name x tpos) (.Call (.Name "zip" p) [.Starred e sps] [] pos) (iZipS X.K te) := by
  refine ⟨fun pins s σ H R I h => ?_⟩
  refine Call_ (ld_blt I hg hm PyProof.Rows.boot_zip ?_)
  show wpAny _ _ (callWith pos (.type "zip") [] (backTo pos (starEach [.Starred e sps] X.env)) []) _ _ _
  rw [hst]
  refine PySem.W.ks_call (P := fun _ => True) rfl (fun _ _ => ⟨.machine, .inr (.inl rfl), PySem.W.Looks.of_pure rfl⟩) (PySem.W.ks_lone ?_)
  refine thn (he.run pins s σ H _ I h) fun v s1 ⟨y, H1, I1, ry, a, ls, ey, hxs, l2, l4, ht, q⟩ => ?_
  subst ey
  obtain rfl : v = Value.ref a := ry
  refine StX.star_any I1 hxs fun us s2 I2 rv => ⟨trivial, ?_⟩
  obtain rfl := vals_refs rv
  have tt : ∀ l ∈ ls, ∃ xs, s2.heap.IsTuple l xs := fun l hl => by
    obtain ⟨xs, sq⟩ := ht l hl
    obtain ⟨its, _, tp, _⟩ := I2.tuple sq
    exact ⟨_, tp⟩
  refine call_zipN l2 l4 tt ?_
  have z0 : (itH s2.heap ls).objs.size = s2.heap.objs.size + ls.length := itH_size
  have z3 : (zN3 s2.heap ls).objs.size = s2.heap.objs.size + ls.length + 1 := by rw [Heap.size_push, z0]
  have z4 : (zN4 s2.heap ls).objs.size = s2.heap.objs.size + ls.length + 2 := by rw [Heap.size_push, z3]
  have g5 : (zN5 s2.heap ls).get? (zN4 s2.heap ls).objs.size = some _ := Heap.get?_push_size _ rfl
  have g4 : (zN5 s2.heap ls).get? (zN3 s2.heap ls).objs.size = some _ := Heap.get?_push_of_some _ (Heap.get?_push_size _ rfl)
  have g3 : (zN5 s2.heap ls).get? (itH s2.heap ls).objs.size = some _ := Heap.get?_push_of_some _ (Heap.get?_push_of_some _ (Heap.get?_push_size _ rfl))
  have kp : ∀ b o, s2.heap.get? b = some o → (zN5 s2.heap ls).get? b = some o := fun b o e => Heap.get?_push_of_some _ (Heap.get?_push_of_some _ (Heap.get?_push_of_some _ (itH_keep e)))
  have I3 : Inv X pins σ H1 { s2 with heap := zN5 s2.heap ls } := I2.kept (t' := s2.toks) kp
  have ap : ((zN4 s2.heap ls).objs.size :: (itH s2.heap ls).objs.size :: (zN3 s2.heap ls).objs.size :: itA s2.heap.objs.size ls).Nodup := by
    rw [z4, z0, z3]
    refine List.nodup_cons.mpr ⟨fun h => ?_, List.nodup_cons.mpr ⟨fun h => ?_, List.nodup_cons.mpr ⟨fun h => ?_, itA_nodup⟩⟩⟩
    · rcases List.mem_cons.mp h with h | h
      · omega
      rcases List.mem_cons.mp h with h | h
      · omega
      · have := itA_mem h
        omega
    · rcases List.mem_cons.mp h with h | h
      · omega
      · have := itA_mem h
        omega
    · have := itA_mem h
      omega
  have ge : ∀ b ∈ (zN4 s2.heap ls).objs.size :: (itH s2.heap ls).objs.size :: (zN3 s2.heap ls).objs.size :: itA s2.heap.objs.size ls, s2.heap.objs.size ≤ b := by
    rw [z4, z0, z3]
    intro b hb
    rcases List.mem_cons.mp hb with h | h
    · omega
    rcases List.mem_cons.mp h with h | h
    · omega
    rcases List.mem_cons.mp h with h | h
    · omega
    · exact (itA_mem h).1
  have st : ∃ f0 f1 olds, ZR (zN5 s2.heap ls) (zN4 s2.heap ls).objs.size (itH s2.heap ls).objs.size (zN3 s2.heap ls).objs.size f0 f1 ∧ Fld0 f0 ∧ TupO (zN5 s2.heap ls) (itH s2.heap ls).objs.size ((itA s2.heap.objs.size ls).map Value.ref) ∧
      TupO (zN5 s2.heap ls) (zN3 s2.heap ls).objs.size olds ∧ olds.length = (itA s2.heap.objs.size ls).length ∧ ItsJ (zN5 s2.heap ls) (itA s2.heap.objs.size ls) ls 0 0 := by
    refine ⟨.none, false, _, g5, .inl rfl, by rw [itA_map]; exact g3, g4, by rw [List.length_map, itV_len, itA_len], fun m it l e1 e2 => ?_⟩
    obtain ⟨rfl, _⟩ := itA_at e1
    exact ⟨_, Heap.get?_push_of_some _ (Heap.get?_push_of_some _ (Heap.get?_push_of_some _ (itH_at e2))), rfl, rfl⟩
  have T : Turn X.prog X.w X.K (.Name x tpos) (ItzN X.K ls) _ _ _ := turn_zipN (its := itA s2.heap.objs.size ls) (ls := ls) ap (fun l hl hm => by
    obtain ⟨xs, o, e, _⟩ := tt l hl
    exact absurd (Nat.lt_of_lt_of_le (Heap.lt_size e) (ge l hm)) (Nat.lt_irrefl _)) (fun z => by
    have := itA_len (ls := ls) (n := s2.heap.objs.size)
    rw [z] at this
    simp at this
    omega) (by rw [itA_len]; omega) itA_len
  exact T.self X.A 0 _ _ _ st ⟨_, _, _, _, H1, rfl, I3, T, st, fun b hb => I2.fpOk (ge b hb) (I2.hok.fresh (ge b hb)), q⟩
def rSumT (K : PySem.W.Frag) : List V → Hp → VK → Prop := fun vs H Q => ∃ (a : Addr) (ns : List Int), vs = [V.ref a] ∧ SqT K H a (ns.map V.int) ∧ Q (.int ns.sum) H
def rMaxT (K : PySem.W.Frag) : List V → Hp → VK → Prop := fun vs H Q => ∃ (a : Addr) (n : Int) (ns : List Int), vs = [V.ref a] ∧ SqT K H a ((n :: ns).map V.int) ∧ Q (.int (ns.foldl max n)) H
/-- a comprehension within a comprehension -/
theorem blkOk_in {N : List Str} {scO scope : Scope} {cl : List (Str × Addr)} {C : Addr} {env : Env} {own : List (Str × Nat)} (sc : Scope) (he : env.scope = sc) (h : blkC N (relS scO sc) scope own = true) : BlkOk N (compEnvC scO cl C env).scope scope own := by
  subst he
  exact blkOk_by h
def rJoin (K : PySem.W.Frag) : V → List V → Hp → VK → Prop := fun x xs H Q => ∃ (a : Str) (p : Addr) (ys : List Str), x = .str a ∧ xs = [.ref p] ∧ (SqL K H p (ys.map V.str) ∨ SqT K H p (ys.map V.str)) ∧
  (ys.map (·.length)).sum + ys.length * a.length ≤ 16777216 ∧ Q (.str (Txt.join a ys)) H
theorem pe_joinK {X : Cx} {K : PySem.W.Frag} {o e : Expr} {to te : TE} {apos pos : Pos} (ho : PE X o to) (he : PE X e te) (hK : X.K = K := by rfl) (hs : starEach [e] X.env = [(false, eval e X.env)] := by rfl)
    (hbase : attributeBase o "join" X.env (eval o X.env) = eval o X.env := by rfl) (hline : (apos.endLine == pos.line) = true := by rfl) : PE X (.Call (.Attribute o "join" apos) [e] [] pos) (tM1 (rJoin K) to te) := by
  subst hK
  exact pe_join ho he hs hbase hline
theorem pi_tupK {X : Cx} {K : PySem.W.Frag} {tg e : Expr} {te : TE} (he : PE X e te) (hK : X.K = K := by rfl) : PI X tg e (iTup K te) := by
  subst hK
  exact pi_tup he
theorem pi_listK {X : Cx} {K : PySem.W.Frag} {tg e : Expr} {te : TE} (he : PE X e te) (hK : X.K = K := by rfl) : PI X tg e (iList K te) := by
  subst hK
  exact pi_list he
end Pl
namespace Pl
open PySem PySem.Spec PyProof.Rows L2
/-! repr of any data -/
/-- it can be shown -/
def ShV (x : V) (d : PyData) : Prop := d.showable = true ∧ d.hasDict = false ∧ d.depth ≤ 60 ∧ d.shown.length ≤ sizeLine ∧ ∀ i, x = .int i → i.natAbs.log2 < 1920
def rReprV (K : PySem.W.Frag) : List V → Hp → VK → Prop := fun xs H Q => ∃ (x : V) (d : PyData), xs = [x] ∧ Dp K H x d ∧ ShV x d ∧ Q (.str d.shown) H
section
variable {X : Cx}
theorem call_reprV (gd : X.A.guards = some []) (hu : X.A.units + 66 < cLine) : CallR X (.builtin "repr") (rReprV X.K) := by
  intro pins s σ H xs us Q I r h
  obtain ⟨x, d, rfl, dp, ⟨sh, nd, dep, sz, lg⟩, q⟩ := h
  obtain ⟨u, rfl, ru⟩ := vals1 r
  cases dp with
  | non =>
    obtain rfl : u = Value.none := ru
    exact PySem.P.repr_of_none ⟨.str _, H, I.tok _, ⟨_, rfl⟩, by simpa [PyData.shown] using q⟩
  | bl b =>
    obtain rfl : u = Value.bool b := ru
    refine PySem.P.repr_of_bool ⟨.str _, H, I.tok _, ⟨_, rfl⟩, ?_⟩
    cases b <;> simpa [PyData.shown] using q
  | int i =>
    obtain ⟨t, rfl⟩ := (show ∃ t, u = Value.int i t from ru)
    exact PySem.P.repr_of_int (lg i rfl) ⟨.str _, H, I.tok _, ⟨_, rfl⟩, by simpa [PyData.shown] using q⟩
  | str z =>
    obtain ⟨t, rfl⟩ := (show ∃ t, u = Value.str z t from ru)
    rw [PyData.shown_str] at sz q
    exact PySem.P.repr_of_str ⟨.str _, H, I.tok _, ⟨_, rfl⟩, q⟩ sz
  | @lst a ys ds sq al =>
    exact call_reprD gd hu pins s σ H [.ref a] [u] Q I r ⟨a, _, rfl, .lst sq al, sh, nd, dep, sz, q⟩
  | @tup a ys ds sq al =>
    exact call_reprD gd hu pins s σ H [.ref a] [u] Q I r ⟨a, _, rfl, .tup sq al, sh, nd, dep, sz, q⟩
theorem readsInts {h : Heap} : ∀ {ns : List Int} {us : List Value}, Vals (ns.map V.int) us → ReadsAll h us (ns.map PyData.int) []
  | [], _, .nil => .nil
  | n :: ns, _, .cons r t => by
    obtain ⟨k, rfl⟩ := (show ∃ t, _ = Value.int n t from r)
    exact .cons (as := []) (.int n k) (readsInts t)
/-- a dict with an int and a tuple of ints -/
def dicD (k : Int) (ns : List Int) : PyData := .dict [(.int k, .tuple (ns.map PyData.int))]
theorem call_repr1 (gd : X.A.guards = some []) (hu : X.A.units + 66 < cLine) : CallR X (.builtin "repr") (fun xs H Q => ∃ (a t : Addr) (k : Int) (ns : List Int), xs = [.ref a] ∧ H a = some (.dK [(.inl k, .ref t)]) ∧ H t = some (.tup (ns.map V.int)) ∧
    (dicD k ns).showable = true ∧ (dicD k ns).depth ≤ 60 ∧ (dicD k ns).shown.length ≤ sizeLine ∧ Q (.str (dicD k ns).shown) H) := by
  intro pins s σ H xs us Q I r h
  obtain ⟨a, t, k, ns, rfl, ea, et, sh, dep, sz, q⟩ := h
  obtain ⟨u, rfl, ru⟩ := vals1 r
  obtain rfl : u = Value.ref a := ru
  obtain ⟨_, hm, vs, kv, o, es, ep, h1, h2, h3, h4, h5, h6⟩ := (show ObjOk X.prog X.w H s.heap a (.dK [(.inl k, .ref t)]) from I.hok a _ ea)
  obtain ⟨_, its, rv, ot, g1, g2, n, g3⟩ := (show ObjOk X.prog X.w H s.heap t (.tup (ns.map V.int)) from I.hok t _ et)
  have rt : Reads s.heap (.ref t) (.tuple (ns.map PyData.int)) [] := .tuple g1 g2 g3 (by simpa using readsInts rv)
  have rd : Reads s.heap (.ref a) (dicD k ns) (a :: [] ++ []) := by
    generalize hes : es.toList = l at h5
    have key : ∀ {kvs : List (Key × V)}, kvs = [(Sum.inl k, V.ref t)] → KV kvs vs → ∃ q, vs = [q] ∧ q.1 = Sum.inl k ∧ q.2 = Value.ref t := fun {kvs} e z => by
      cases z with
      | nil => cases e
      | cons hp hr =>
        cases e
        cases hr
        exact ⟨_, rfl, hp.1.symm, hp.2⟩
    obtain ⟨q, rfl, q1, q2⟩ := key rfl kv
    cases h5 with
    | cons hk hv hrest =>
      cases hrest
      rename_i e
      rw [q1] at hk
      rcases keyIs_shape (k := Sum.inl k) (v := e.key) hk with ⟨i, tk, e1, e2⟩ | ⟨i, tk, e1, e2⟩
      · cases e1
        refine .dict h1 h2.1 h3 ?_ ?_
        · rw [hes]
          exact .cons (as := []) (by show Reads _ e.key _ _; rw [e2]; exact .int _ _) .nil
        · rw [hes]
          exact .cons (as := []) (by show Reads _ e.val _ _; rw [hv, q2]; exact rt) .nil
      · cases e1
  refine repr_of_reads' rd sh (fun _ z => ?_) gd (by omega) (fun _ _ e => e) (fun h' v tk hk => ?_) sz
  · simp at z
    rw [z] at hm
    simp at hm
  · exact ⟨.str _, H, I.kept hk, ⟨_, rfl⟩, q⟩
/-- x is shown as z -/
def ThD (K : PySem.W.Frag) (H : Hp) (x : V) (z : Str) : Prop := (∃ d, Dp K H x d ∧ ShV x d ∧ z = d.shown) ∨
  (∃ (a t : Addr) (k : Int) (ns : List Int), x = .ref a ∧ H a = some (.dK [(.inl k, .ref t)]) ∧ H t = some (.tup (ns.map V.int)) ∧ (dicD k ns).showable = true ∧ (dicD k ns).depth ≤ 60 ∧ (dicD k ns).shown.length ≤ sizeLine ∧ z = (dicD k ns).shown)
def rReprW (K : PySem.W.Frag) : List V → Hp → VK → Prop := fun xs H Q => ∃ (x : V) (z : Str), xs = [x] ∧ ThD K H x z ∧ Q (.str z) H
theorem call_reprW (gd : X.A.guards = some []) (hu : X.A.units + 66 < cLine) : CallR X (.builtin "repr") (rReprW X.K) := by
  intro pins s σ H xs us Q I r h
  obtain ⟨x, z, rfl, ⟨d, dp, sv, rfl⟩ | ⟨a, t, k, ns, rfl, c1, c2, c3, c4, c5, rfl⟩, q⟩ := h
  · exact call_reprV gd hu pins s σ H [x] us Q I r ⟨x, d, rfl, dp, sv, q⟩
  · exact call_repr1 gd hu pins s σ H _ us Q I r ⟨a, t, k, ns, rfl, c1, c2, c3, c4, c5, q⟩
end
end Pl
namespace Pl
open PySem PySem.Spec PyProof.Rows L2 PySem.MeetsSeq PySem.MeetsSeq2 PySem.MeetsSeq3 PySem.SeqAt
section
variable {prog : Program} {w : World} {A : Around} {E : Value → Shared → Prop} {s : Shared}
theorem adj_rev (n : Nat) : Builtin.Slice.sliceAdjust none none (-1) (n : Int) = ((n : Int) - 1, -1) := by
  simp [Builtin.Slice.sliceAdjust]
theorem places_rev (n : Nat) : Builtin.Slice.slicePlaces ((n : Int) - 1) (-1) (-1) = n := by
  unfold Builtin.Slice.slicePlaces
  simp
  try omega
theorem fm_congr {α β : Type} {f g : α → Option β} : ∀ {l : List α}, (∀ x ∈ l, f x = g x) → l.filterMap f = l.filterMap g
  | [], _ => rfl
  | x :: l, h => by rw [List.filterMap_cons, List.filterMap_cons, h x List.mem_cons_self, fm_congr fun y hy => h y (List.mem_cons_of_mem _ hy)]
theorem pick_rev (xs : Array Value) : ((List.range xs.size).filterMap fun (m : Nat) => xs[(((xs.size : Int) - 1) + (m : Int) * (-1)).toNat]?).toArray = xs.toList.reverse.toArray := by
  congr 1
  have e : ∀ m ∈ List.range xs.size, xs[(((xs.size : Int) - 1) + (m : Int) * (-1)).toNat]? = (xs.toList.reverse)[m]? := fun m hm => by
    have := List.mem_range.mp hm
    rw [show (((xs.size : Int) - 1) + (m : Int) * (-1)).toNat = xs.size - 1 - m by omega, List.getElem?_reverse (by simpa using this)]
    simp
  rw [fm_congr e]
  have z := PySem.W.krv_all xs.toList.reverse.toArray
  simpa using z
theorem tup_rev {t sl : Addr} {items : Array Value} {vl vu vk : Value} {Q : Value → Shared → Prop} (ht : IsTup s.heap t items) (hs : s.heap.IsSliceOf sl vl vu vk) (pl : IsPart vl none) (pu : IsPart vu none) (pk : IsPart vk (some (-1)))
    (h : Q (.ref s.heap.objs.size) { s with heap := s.heap.push { cls := .type "tuple", data := .seq items.toList.reverse.toArray } }) (hsz : items.size ≤ sizeLine) : wpAny (model prog w) A (getItem (.ref t) (.ref sl)) Q E s := by
  have hok : sizeOk (.seq items.toList.reverse.toArray) := by
    show items.toList.reverse.toArray.size ≤ sizeLine
    simpa using hsz
  obtain ⟨os, hos, hcs, hds⟩ := id hs
  have hTs : s.TypeIs (.ref sl) "slice" := ⟨os, hos, hcs⟩
  unfold getItem
  try with_reducible refine wpAny_holding ?_
  first | refine wpAny_bind (wpAny_pure ?_) | skip
  refine wpAny_bind (wpAny_sequenceKey ht.typeIs (by decide) ?_)
  refine wpAny_bind (wpAny_callSpecial?_slot (name := Str.ofString "__getitem__") ht.typeIs PyProof.Rows.slot_tuple_getitem (wpAny_call_entry PyProof.Rows.slot_tuple_getitem ht.typeIs F.entry_tuple_getitem ?_ (F.args_tuple_getitem_2 _ _)))
  show wpAny _ _ (Builtin.Tuple.tupleItemsOf (.ref t) >>= _) _ _ s
  refine wpAny_bind (tupleItemsOf_ ht ?_)
  refine wpAny_bind (wpAny_typeOf hTs ?_)
  rw [if_pos (by decide)]
  refine wpAny_bind ?_
  unfold Builtin.Slice.sliceApplied Builtin.Slice.sliceFields
  refine wpAny_bind (wpAny_bind (wpAny_field hos hds (x := vl) rfl (wpAny_bind (wpAny_field hos hds (x := vu) rfl (wpAny_bind (wpAny_field hos hds (x := vk) rfl (wpAny_pure ?_)))))))
  refine wpAny_bind (HT.slicePart_ pk ?_)
  show wpAny _ _ (if ((-1 : Int) == 0) = true then _ else _) _ _ s
  rw [if_neg (by decide)]
  refine wpAny_bind (HT.slicePart_ pl (wpAny_bind (HT.slicePart_ pu (wpAny_bind (wpAny_pure ?_)))))
  show wpAny _ _ (match Builtin.Slice.sliceAdjust none none (-1) (items.size : Int) with | (lo, hi) => pure (lo, (-1 : Int), Builtin.Slice.slicePlaces lo hi (-1))) _ _ s
  rw [adj_rev]
  show wpAny _ _ (pure ((items.size : Int) - 1, (-1 : Int), Builtin.Slice.slicePlaces ((items.size : Int) - 1) (-1) (-1))) _ _ s
  rw [places_rev]
  refine wpAny_pure ?_
  show wpAny _ _ (if (((items.size : Int) - 1) == 0 && (-1 : Int) == 1 && items.size == items.size) = true then _ else _) _ _ s
  rw [if_neg (by simp), pick_rev]
  first
    | exact wpAny_bind (m := Builtin.Tuple.tupleExact _) (wpAny_newObj_type (wpAny_pure ⟨_, rfl, wpAny_pure h⟩) hok)
    | exact wpAny_bind (m := Builtin.Tuple.tupleExact _) (wpAny_newObj_type (wpAny_bind (wpAny_pure (wpAny_pure ⟨_, rfl, wpAny_pure h⟩))) hok)
    | exact wpAny_bind (wpAny_bind (m := Builtin.Tuple.tupleExact _) (wpAny_newObj_type (wpAny_pure (wpAny_pure ⟨_, rfl, wpAny_pure h⟩)) hok))
    | exact wpAny_bind (wpAny_bind (m := Builtin.Tuple.tupleExact _) (wpAny_newObj_type (wpAny_pure ⟨_, rfl, wpAny_pure h⟩) hok))
end
def tRevT (K : PySem.W.Frag) (te : TE) : TE := fun σ H Q => te σ H fun x H1 => ∃ a xs, x = .ref a ∧ SqT K H1 a xs ∧ ∀ p, H1 p = none → Q (.ref p) (upd H1 p (.tup xs.reverse))
section
variable {X : Cx}
theorem pe_revT {e : Expr} {te : TE} {k : Nat} {p1 p2 p3 pos : Pos} (he : PE X e te) : PE X (.Subscript e (.Slice none none (some (.UnaryOp .USub (.Constant (.int 1) k p1) p2)) p3) pos) (tRevT X.K te) := by
  refine ⟨fun pins s σ H Q I h => ?_⟩
  refine Subscript_ (thn (he.run pins s σ H _ I h) fun v s1 ⟨x, H1, I1, r1, a, xs, ex, hx, q⟩ => ?_)
  subst ex
  cases r1
  have step : PO X (some (.UnaryOp .USub (.Constant (.int 1) k p1) p2)) (tPart (tUn (rU fun i => .int (-i)) (tC (.int 1)))) := po_some (pe_un un_neg pe_int)
  refine wpAny_Slice (thn (po_none.run pins s1 σ H1 (fun o H2 => o = none ∧ H2 = H1) I1 ⟨rfl, rfl⟩) fun vl s2 ⟨l, H2, I2, pl, el, e2⟩ => ?_)
  subst el e2
  refine thn (po_none.run pins s2 σ H2 (fun o H3 => o = none ∧ H3 = H2) I2 ⟨rfl, rfl⟩) fun vu s3 ⟨u, H3, I3, pu, eu, e3⟩ => ?_
  subst eu e3
  refine thn (step.run pins s3 σ H3 (fun o H4 => o = some (-1) ∧ H4 = H3) I3 ⟨1, rfl, -1, rfl, rfl, rfl⟩) fun vs s4 ⟨o, H4, I4, ps, eo, e4⟩ => ?_
  subst eo e4
  have I5 : Inv X pins σ H4 { s4 with heap := s4.heap.push { cls := .type "slice", data := .fields #[vl, vu, vs] } } := I4.kept (t' := s4.toks) fun _ _ q => Heap.get?_push_of_some _ q
  obtain ⟨its, r, ht, hz⟩ := I5.tuple hx
  have hlen := r.length
  show wpAny (model X.prog X.w) X.A (subscriptTail e (.Slice none none (some (.UnaryOp .USub (.Constant (.int 1) k p1) p2)) p3) (.ref a) (.ref s4.heap.objs.size)) (EP X pins σ Q) X.xe { s4 with heap := s4.heap.push { cls := .type "slice", data := .fields #[vl, vu, vs] } }
  refine tail_any (ops := [.ref a, .ref s4.heap.objs.size]) ht.typeIs PyProof.Rows.slot_tuple_getitem.lookup ?_ (by with_unfolding_all rfl)
  refine tup_rev ht (Heap.IsSliceOf.new _ vl vu vs) pl pu ps ?_ (by rw [List.size_toArray]; omega)
  refine ⟨.ref _, _, I5.laid (t' := s4.toks) (o := .tup xs.reverse) (fun _ _ q => Heap.get?_push_of_some _ q) (Nat.le_refl _) ?_, rfl, q _ (I5.hok.fresh (Nat.le_refl _))⟩
  exact ⟨by rw [List.length_reverse]; exact hz, its.reverse, r.reverse, ⟨_, Heap.get?_push_size _ rfl, rfl, _, rfl⟩⟩
end
end Pl
namespace Pl
open PySem PySem.Spec PyProof.Rows L2
def top (i : Nat) : Stmt := PySem.Challenge.pw_poolshares_k12_whole_calm_shares_by_what.main.body.getD i (.Pass ⟨0, 0, 0, 0⟩)
/-- a source of numbers stands at a -/
def Src (H : Hp) (a : Addr) : Prop := ∃ x y z : Int, H a = some (.lst [.int x, .int y, .int z]) ∧ 0 ≤ x ∧ 0 ≤ y ∧ y < 2147483648 ∧ 0 ≤ z
theorem Src.upd {H : Hp} {a p : Addr} {o : HO} (s : Src H a) (n : H p = none) : Src (L2.upd H p o) a := by
  obtain ⟨x, y, z, h, r⟩ := s
  exact ⟨x, y, z, by rw [upd_ne (ne_of_none h n)]; exact h, r⟩
theorem Src.put {H : Hp} {a p : Addr} {o : HO} (s : Src H a) (n : p ≠ a) : Src (L2.upd H p o) a := by
  obtain ⟨x, y, z, h, r⟩ := s
  exact ⟨x, y, z, by rw [upd_ne n.symm]; exact h, r⟩
theorem Src.ne {H : Hp} {a p : Addr} (s : Src H a) (n : H p = none) : p ≠ a := by
  obtain ⟨x, y, z, h, r⟩ := s
  intro e
  rw [e, h] at n
  cases n
theorem Src.neT {H : Hp} {a p : Addr} {xs : List V} (s : Src H a) (n : H p = some (.tup xs)) : p ≠ a := by
  obtain ⟨x, y, z, h, r⟩ := s
  intro e
  rw [e, h] at n
  cases n
theorem Src.neI {H : Hp} {a p C d : Addr} {xs : List (Str × V)} (s : Src H a) (n : H p = some (.ins C d xs)) : p ≠ a := by
  obtain ⟨x, y, z, h, r⟩ := s
  intro e
  rw [e, h] at n
  cases n
theorem Src.same {H H' : Hp} {a : Addr} (s : Src H a) (k : Same H H') : Src H' a := by
  obtain ⟨x, y, z, h, r⟩ := s
  exact ⟨x, y, z, k _ _ h, r⟩
/-- all that was tracked stands as before, but for what is at a -/
def Kp (a : Addr) (H H' : Hp) : Prop := ∀ b o, b ≠ a → H b = some o → H' b = some o
theorem Kp.refl (a : Addr) (H : Hp) : Kp a H H := fun _ _ _ h => h
theorem Kp.trans {a : Addr} {H H1 H2 : Hp} (p : Kp a H H1) (q : Kp a H1 H2) : Kp a H H2 := fun b o n h => q b o n (p b o n h)
theorem Kp.of {a : Addr} {H H' : Hp} (p : Same H H') : Kp a H H' := fun b o _ h => p b o h
theorem Kp.upd {a : Addr} {H : Hp} {o : HO} : Kp a H (upd H a o) := fun b u n h => by rw [upd_ne n]; exact h
theorem Kp.new {a p : Addr} {H H' : Hp} {o : HO} (q : Kp a H H') (h : H' p = none) : Kp a H (L2.upd H' p o) := fun b u n e => by
  rw [upd_ne (ne_of_none (q b u n e) h)]; exact q b u n e
/-- what was not there before may be written -/
theorem Kp.put {a p : Addr} {H H' : Hp} {o : HO} (q : Kp a H H') (h : H p = none) : Kp a H (L2.upd H' p o) := fun b u n e => by
  rw [upd_ne (ne_of_none e h)]; exact q b u n e
theorem same_new {p : Addr} {H H' : Hp} {o : HO} (q : Same H H') (h : H' p = none) : Same H (L2.upd H' p o) := fun b u e => by
  rw [upd_ne (ne_of_none (q b u e) h)]; exact q b u e
theorem same_put {p : Addr} {H H' : Hp} {o : HO} (q : Same H H') (h : H p = none) : Same H (L2.upd H' p o) := fun b u e => by
  rw [upd_ne (ne_of_none e h)]; exact q b u e
theorem Kp.free {a p : Addr} {H H' : Hp} (q : Kp a H H') (n : p ≠ a) (h : H' p = none) : H p = none := by
  cases e : H p with
  | none => rfl
  | some o =>
    rw [q p o n e] at h
    cases h
theorem tyes {σ : L2.St} {H : Hp} {A B : Hp → Prop} (h : A H) : tYes σ H (fun b H3 => if b = true then A H3 else B H3) := by
  show if true = true then A H else B H
  rw [if_pos rfl]; exact h
theorem size_of {n : Nat} (h : n ≤ 1000) : n ≤ sizeLine := Nat.le_trans h (by decide)
theorem size_lt {n : Nat} (h : n ≤ 1000) : n < sizeLine := Nat.lt_of_le_of_lt h (by decide)
theorem at_of_lt {α : Type} {xs : List α} {r : Int} (h0 : 0 ≤ r) (h1 : r < xs.length) : ∃ v, v ∈ xs ∧ xs[r.toNat]? = some v ∧ atI xs r = some v := by
  have lt : r.toNat < xs.length := by omega
  have e : xs[r.toNat]? = some xs[r.toNat] := List.getElem?_eq_getElem lt
  refine ⟨xs[r.toNat], List.getElem_mem lt, e, ?_⟩
  have q := atI_nat e
  rw [Int.toNat_of_nonneg h0] at q
  exact q
/-- the built-in names are the built-in ones -/
structure Bn (mg : Str → Option Value) : Prop where
  n_len : mg "len" = none
  n_range : mg "range" = none
  n_max : mg "max" = none
  n_min : mg "min" = none
  n_sum : mg "sum" = none
  n_sorted : mg "sorted" = none
  n_all : mg "all" = none
  n_isinstance : mg "isinstance" = none
  n_repr : mg "repr" = none
  n_tuple : mg "tuple" = none
  n_list : mg "list" = none
  n_int : mg "int" = none
  n_bool : mg "bool" = none
  n_zip : mg "zip" = none
  n_str : mg "str" = none
def spDraw : Sp := fun vs H Q _ => ∃ (a : Addr) (m : Int), vs = [.ref a, .int m] ∧ Src H a ∧ 0 < m ∧ m ≤ 1000 ∧
  ∀ (r : Int) (H' : Hp), 0 ≤ r → r < m → Src H' a → Kp a H H' → Q (.int r) H'
def spCell (K : PySem.W.Frag) : Sp := fun vs H Q _ => ∃ (a : Addr) (ns : List Int) (i : Int), vs = [.ref a, .int i] ∧ SqL K H a (ns.map V.int) ∧ 0 ≤ i ∧ ∀ n : Int, Q (.int n) H
def spSource : Sp := fun vs H Q _ => ∃ c : Int, vs = [.int c] ∧ ∀ (p : Addr) (H' : Hp), H p = none → Src H' p → Same H H' → Q (.ref p) H'
def spChoose : Sp := fun vs H Q _ => ∃ (a l : Addr) (xs : List V), vs = [.ref a, .ref l] ∧ Src H a ∧ H l = some (.lst xs) ∧ l ≠ a ∧ 0 < xs.length ∧ xs.length ≤ 1000 ∧
  ∀ (v : V) (H' : Hp), v ∈ xs → Src H' a → Kp a H H' → Q v H'
/-- the ints are amounts -/
def Am (ns : List Int) : Prop := ∀ r ∈ ns, 0 ≤ r ∧ r ≤ 30
def spAmounts : Sp := fun vs H Q _ => ∃ (a : Addr) (n : Nat), vs = [.ref a, .int n] ∧ Src H a ∧ 2 ≤ n ∧ n ≤ 6 ∧
  ∀ (p : Addr) (ns : List Int) (H' : Hp), ns.length = n → Am ns → Src H' a → Kp a H H' → H' p = some (.tup (ns.map V.int)) → Q (.ref p) H'
/-- a list of amounts grows at D -/
def AInv (a D : Addr) (H1 : Hp) (i : Nat) (H : Hp) : Prop := ∃ ns : List Int, ns.length = i ∧ Am ns ∧ Src H a ∧ Kp a H1 H ∧ H D = some (.lst (ns.map V.int))
theorem AInv.start {a D : Addr} {H1 : Hp} (s : Src H1 a) (n : H1 D = none) : AInv a D H1 0 (L2.upd H1 D (.lst [])) :=
  ⟨[], rfl, fun _ h => (nomatch h), s.upd n, (Kp.refl a H1).new n, upd_same⟩
theorem AInv.src {a D : Addr} {H1 H : Hp} {i : Nat} (p : AInv a D H1 i H) : Src H a := p.elim fun _ q => q.2.2.1
theorem AInv.next {a D : Addr} {H1 H H' : Hp} {i : Nat} {r : Int} (p : AInv a D H1 i H) (hi : i ≤ 100) (n : H1 D = none) (da : D ≠ a) (s : Src H' a) (k : Kp a H H') (r0 : 0 ≤ r) (r1 : r ≤ 30) :
    ∃ acc, H' D = some (.lst acc) ∧ acc.length < sizeLine ∧ AInv a D H1 (i + 1) (L2.upd H' D (.lst (acc ++ [.int r]))) := by
  obtain ⟨ns, e, am, _, kp, hd⟩ := p
  refine ⟨ns.map V.int, k _ _ da hd, size_lt (by rw [List.length_map]; omega), ns ++ [r], ?_, ?_, s.put da, (kp.trans k).put n, ?_⟩
  · rw [List.length_append, e]; rfl
  · intro x hx
    rcases List.mem_append.mp hx with h | h
    · exact am x h
    · rw [List.mem_singleton.mp h]; exact ⟨r0, r1⟩
  · rw [upd_same, List.map_append]; rfl
section
variable {P : Program} {w : World} {K : PySem.W.Frag} {mg : Str → Option Value} {base : Heap}
abbrev st_l_cell : Stmt := top 32
theorem sc_l_cell : FnScope ["_law_script", "_law_index"] ["_law_script", "_law_index"] (defScope st_l_cell) := ⟨rfl, rfl, rfl, by decide +kernel, rfl, by decide +kernel, by decide +kernel⟩
theorem ok_cell (B : Bn mg) (D : Df K mg "_law_cell" st_l_cell ["_law_script", "_law_index"]) : Cal P w K mg base 2 "_law_cell" ["_law_script", "_law_index"] (spCell K) := by
  refine D.cal sc_l_cell (fun vs H Q E h => ?_) (fun f cdv A out s H vs Q E hr h => ?_)
  · obtain ⟨a, ns, i, rfl, _⟩ := h
    rfl
  obtain ⟨a, ns, i, rfl, sq, i0, k⟩ := h
  refine ⟨_, (pss_cons (ps_if (pt_cmpR op_lt (pv 1) (pe_callB call_len_seq (by rfl) B.n_len (by decide +kernel) (pa_cons (pv 0) pa_nil)) (nomark _)) (pss_one (ps_ret (pe_ix ix_list (pv 0) (pv 1) (fun _ _ => rfl)))) pss_nil)
   (pss_one (ps_ret pe_int))), ?_⟩
  refine ⟨_, rfl, _, rfl, a, _, rfl, .inl sq, _, _, rfl, rfl, _, rfl, ?_⟩
  refine ite2 (fun c => ?_) (fun c => k 0)
  have c2 : i < ((ns.map V.int).length : Int) := of_decide_eq_true c
  obtain ⟨v, hv, _, e⟩ := at_of_lt i0 c2
  obtain ⟨m, _, rfl⟩ := List.mem_map.mp hv
  exact ⟨_, rfl, _, rfl, a, _, _, _, rfl, rfl, sq, e, k m⟩
abbrev st_l_source : Stmt := top 33
theorem sc_l_source : FnScope ["_law_cell_here"] ["_law_cell_here"] (defScope st_l_source) := ⟨rfl, rfl, rfl, by decide +kernel, rfl, by decide +kernel, by decide +kernel⟩
theorem ok_source (B : Bn mg) (D : Df K mg "_law_source" st_l_source ["_law_cell_here"]) : Cal P w K mg base 2 "_law_source" ["_law_cell_here"] spSource := by
  refine D.cal sc_l_source (fun vs H Q E h => ?_) (fun f cdv A out s H vs Q E hr h => ?_)
  · obtain ⟨c, rfl, _⟩ := h
    rfl
  obtain ⟨c, rfl, k⟩ := h
  refine ⟨_, (pss_one (ps_ret (pe_lst (pa_cons (pe_callB (call_max2 rfl) (by rfl) B.n_max (by decide +kernel) (pa_cons pe_int (pa_cons (pe_op op_sub (pv 0) (pe_op op_pow pe_int pe_int)) pa_nil))) (pa_cons (pe_op op_add (pe_op op_mod (pv 0) pe_int) pe_int) (pa_cons pe_int pa_nil)))))), ?_⟩
  refine ⟨_, rfl, _, _, rfl, rfl, ⟨by decide, by decide, by decide⟩, _, _, rfl, rfl, _, _, rfl, _, rfl, _, _, rfl, rfl, (by show (0 : Int) < 2147483629; decide), _, _, rfl, rfl, (by show 3 ≤ sizeLine; decide), fun p hp => ?_⟩
  refine k p _ hp ⟨_, _, _, upd_same, ?_, ?_, ?_, by decide⟩ (same_new (Same.refl H) hp)
  · split <;> omega
  · have := Int.emod_nonneg c (show (2147483629 : Int) ≠ 0 by decide)
    show 0 ≤ c % 2147483629 + 1
    omega
  · have := Int.emod_lt_of_pos c (show (0 : Int) < 2147483629 by decide)
    show c % 2147483629 + 1 < 2147483648
    omega
abbrev st_l_draw : Stmt := top 34
theorem sc_l_draw : FnScope ["_law_source_here", "_law_many", "_law_found", "_law_mixed_here"] ["_law_source_here", "_law_many"] (defScope st_l_draw) := ⟨rfl, rfl, rfl, by decide +kernel, rfl, by decide +kernel, by decide +kernel⟩
theorem ok_draw (D : Df K mg "_law_draw" st_l_draw ["_law_source_here", "_law_many"]) : Cal P w K mg base 2 "_law_draw" ["_law_source_here", "_law_many"] spDraw := by
  refine D.cal sc_l_draw (fun vs H Q E h => ?_) (fun f cdv A out s H vs Q E hr h => ?_)
  · obtain ⟨a, m, rfl, _⟩ := h
    rfl
  obtain ⟨a, m, rfl, ⟨x, y, z, ha, x0, y0, y1, z0⟩, m0, m1, k⟩ := h
  refine ⟨_, (pss_cons (ps_if (pt_cmpR op_gt (pe_ix ix_list (pv 0) pe_int (fun _ _ => rfl)) pe_int (nomark _)) (pss_cons (ps_set (i := 2) sc_l_draw.nd rfl (.inl rfl) (pe_op op_mod (pe_ix ix_list (pv 0) pe_int (fun _ _ => rfl)) (pv 1)))
   (pss_cons (ps_asg (pe_op op_fdiv (pe_ix ix_list (pv 0) pe_int (fun _ _ => rfl)) (pv 1)) (pg_sub (pv 0) pe_int set_list))
   (pss_one (ps_ret (pv 2))))) pss_nil)
   (pss_cons (ps_asg (pe_op op_add (pe_ix ix_list (pv 0) pe_int (fun _ _ => rfl)) pe_int) (pg_sub (pv 0) pe_int set_list))
   (pss_cons (ps_asg (pe_op op_mod (pe_op op_add (pe_op op_add (pe_op op_mul (pe_ix ix_list (pv 0) pe_int (fun _ _ => rfl)) pe_int) (pe_op op_mul pe_int (pe_ix ix_list (pv 0) pe_int (fun _ _ => rfl)))) pe_int) pe_int) (pg_sub (pv 0) pe_int set_list))
   (pss_cons (ps_set (i := 3) sc_l_draw.nd rfl (.inl rfl) (pe_op op_mod (pe_op op_add (pe_op op_add (pe_op op_mul (pe_ix ix_list (pv 0) pe_int (fun _ _ => rfl)) (pe_ix ix_list (pv 0) pe_int (fun _ _ => rfl))) (pe_op op_mul pe_int (pe_ix ix_list (pv 0) pe_int (fun _ _ => rfl)))) pe_int) pe_int))
   (pss_cons (ps_set (i := 3) sc_l_draw.nd rfl (.inl rfl) (pe_op op_mod (pe_op op_add (pe_op op_mul (pv 3) (pv 3)) (pe_op op_mul pe_int (pv 3))) pe_int))
   (pss_one (ps_ret (pe_op op_mod (pe_op op_fdiv (pv 3) pe_int) (pv 1))))))))), ?_⟩
  refine ⟨_, rfl, a, _, _, _, rfl, rfl, SqL.of ha, rfl, _, _, rfl, rfl, _, rfl, ?_⟩
  refine ite2 (fun c => ?_) (fun c => ?_)
  · refine ⟨_, rfl, a, _, _, _, rfl, rfl, SqL.of ha, rfl, _, rfl, _, _, rfl, rfl, m0, ?_⟩
    refine ⟨_, rfl, a, _, _, _, rfl, rfl, SqL.of ha, rfl, _, rfl, _, _, rfl, rfl, ⟨m0, by omega⟩, ?_⟩
    refine ⟨_, rfl, a, _, _, _, rfl, rfl, ha, rfl, ?_⟩
    refine ⟨_, rfl, k _ _ (Int.emod_nonneg _ (by omega)) (Int.emod_lt_of_pos _ m0) ⟨_, _, _, upd_same, Int.ediv_nonneg x0 (by omega), y0, y1, z0⟩ Kp.upd⟩
  · refine ⟨_, rfl, a, _, _, _, rfl, rfl, SqL.of ha, rfl, _, _, rfl, rfl, ?_⟩
    refine ⟨_, rfl, a, _, _, _, rfl, rfl, ha, rfl, ?_⟩
    generalize hH1 : upd H a _ = H1
    have h1 : H1 a = some (.lst [.int x, .int y, .int (z + 1)]) := by rw [← hH1]; exact upd_same
    have q1 : Kp a H H1 := by rw [← hH1]; exact Kp.upd
    refine ⟨_, rfl, a, _, _, _, rfl, rfl, SqL.of h1, rfl, _, _, rfl, rfl, .inl ⟨by omega, by omega⟩, _, rfl, a, _, _, _, rfl, rfl, SqL.of h1, rfl, _, _, rfl, rfl, .inl ⟨by decide, by decide⟩, _, _, rfl, rfl, _, _, rfl, rfl, _, _, rfl, rfl, (by show (0 : Int) < 2147483647; decide), ?_⟩
    refine ⟨_, rfl, a, _, _, _, rfl, rfl, h1, rfl, ?_⟩
    generalize hy : (y * 48271 + 1009 * (z + 1) + 7) % 2147483647 = y'
    have b0 : 0 ≤ y' := by rw [← hy]; exact Int.emod_nonneg _ (by decide)
    have b1 : y' < 2147483647 := by rw [← hy]; exact Int.emod_lt_of_pos _ (by decide)
    generalize hH2 : upd H1 a _ = H2
    have h2 : H2 a = some (.lst [.int x, .int y', .int (z + 1)]) := by rw [← hH2, ← hy]; exact upd_same
    have q2 : Kp a H H2 := by rw [← hH2]; exact q1.trans Kp.upd
    refine ⟨_, rfl, a, _, _, _, rfl, rfl, SqL.of h2, rfl, _, rfl, a, _, _, _, rfl, rfl, SqL.of h2, rfl, _, _, rfl, rfl, .inl ⟨by omega, by omega⟩, _, rfl, a, _, _, _, rfl, rfl, SqL.of h2, rfl, _, _, rfl, rfl, .inl ⟨by decide, by decide⟩, _, _, rfl, rfl, _, _, rfl, rfl, _, _, rfl, rfl, (by show (0 : Int) < 2147483629; decide), ?_⟩
    generalize hu : (y' * y' + 69621 * y' + 11) % 2147483629 = u
    have u0 : 0 ≤ u := by rw [← hu]; exact Int.emod_nonneg _ (by decide)
    have u1 : u < 2147483629 := by rw [← hu]; exact Int.emod_lt_of_pos _ (by decide)
    refine ⟨_, rfl, _, rfl, _, _, rfl, rfl, .inl ⟨by omega, by omega⟩, _, rfl, _, _, rfl, rfl, .inl ⟨by decide, by decide⟩, _, _, rfl, rfl, _, _, rfl, rfl, (by show (0 : Int) < 2147483587; decide), ?_⟩
    refine ⟨_, rfl, _, _, rfl, rfl, ⟨by decide, by decide⟩, _, rfl, _, _, rfl, rfl, m0, ?_⟩
    exact k _ _ (Int.emod_nonneg _ (by omega)) (Int.emod_lt_of_pos _ m0) ⟨_, _, _, h2, x0, b0, by omega, by omega⟩ q2
abbrev st_l_choose : Stmt := top 35
theorem sc_l_choose : FnScope ["_law_source_here", "_law_values"] ["_law_source_here", "_law_values"] (defScope st_l_choose) := ⟨rfl, rfl, rfl, by decide +kernel, rfl, by decide +kernel, by decide +kernel⟩
theorem ok_choose (B : Bn mg) (c_l_draw : Cal P w K mg base 2 "_law_draw" ["_law_source_here", "_law_many"] spDraw) (D : Df K mg "_law_choose" st_l_choose ["_law_source_here", "_law_values"]) : Cal P w K mg base 3 "_law_choose" ["_law_source_here", "_law_values"] spChoose := by
  refine D.cal sc_l_choose (fun vs H Q E h => ?_) (fun f cdv A out s H vs Q E hr h => ?_)
  · obtain ⟨a, l, xs, rfl, _⟩ := h
    rfl
  obtain ⟨a, l, xs, rfl, src, hl, la, n0, n1, k⟩ := h
  refine ⟨_, (pss_one (ps_ret (pe_ix ix_list (pv 1) (pe_fn c_l_draw (hr.mono (by decide)) (pa_cons (pv 0) (pa_cons (pe_callB call_len_seq (by rfl) B.n_len (by decide +kernel) (pa_cons (pv 1) pa_nil)) pa_nil))) (fun _ _ => rfl)))), ?_⟩
  refine ⟨_, rfl, _, rfl, _, rfl, l, _, rfl, .inl (SqL.of hl), ?_⟩
  refine ⟨a, xs.length, rfl, src, by omega, by omega, fun r H' r0 r1 s' kp => ?_⟩
  obtain ⟨v, hv, _, e⟩ := at_of_lt r0 r1
  exact ⟨l, _, _, _, rfl, rfl, SqL.of (kp _ _ la hl), e, k v _ hv s' kp⟩
abbrev st_l_amounts : Stmt := top 37
theorem sc_l_amounts : FnScope ["_law_source_here", "_law_many", "_law_way", "_law_base", "_law_state"] ["_law_source_here", "_law_many"] (defScope st_l_amounts) := ⟨rfl, rfl, rfl, by decide +kernel, rfl, by decide +kernel, by decide +kernel⟩
theorem ok_amounts (B : Bn mg) (c_l_draw : Cal P w K mg base 2 "_law_draw" ["_law_source_here", "_law_many"] spDraw) (c_l_choose : Cal P w K mg base 3 "_law_choose" ["_law_source_here", "_law_values"] spChoose) (D : Df K mg "_law_amounts" st_l_amounts ["_law_source_here", "_law_many"]) : Cal P w K mg base 4 "_law_amounts" ["_law_source_here", "_law_many"] spAmounts := by
  refine D.cal sc_l_amounts (fun vs H Q E h => ?_) (fun f cdv A out s H vs Q E hr h => ?_)
  · obtain ⟨a, n, rfl, _⟩ := h
    rfl
  obtain ⟨a, n, rfl, src, n0, n1, k⟩ := h
  refine ⟨_, (pss_cons (ps_asg (pe_tup (pa_cons (pe_fn c_l_draw (hr.mono (by decide)) (pa_cons (pv 0) (pa_cons pe_int pa_nil))) (pa_cons (pe_fn c_l_draw (hr.mono (by decide)) (pa_cons (pv 0) (pa_cons pe_int pa_nil))) pa_nil))) (pg_tup rfl (pgs_cons (pg_name (i := 2) sc_l_amounts.nd rfl (.inl rfl)) (pgs_cons (pg_name (i := 3) sc_l_amounts.nd rfl (.inr rfl)) pgs_nil))))
   (pss_cons (ps_if (pt_cmpR op_eq (pv 2) pe_int (nomark _)) (pss_one (ps_ret (pe_callTy call_tuple_of (by rfl) B.n_tuple (by decide +kernel) (pa_cons (pe_lc (own := [("_law_state", 4)]) (g := gName 4) rfl sc_l_amounts.nd (pi_range1 (by rfl) B.n_range (pa_cons (pv 1) pa_nil)) (blkOk_by (N := ["_law_source_here", "_law_many", "_law_way", "_law_base", "_law_state"]) (sc := defScope st_l_amounts) (by decide +kernel)) (fun _ _ _ _ _ => (pg_name (i := 4) sc_l_amounts.nd rfl (.inl rfl))) (fun _ _ _ _ _ => pts_nil) (fun _ _ _ _ _ => (pe_fn c_l_draw (hr.mono (by decide)) (pa_cons (pv 0) (pa_cons pe_int pa_nil))))) pa_nil)))) pss_nil)
   (pss_cons (ps_if (pt_cmpR op_eq (pv 2) pe_int (nomark _)) (pss_one (ps_ret (pe_callTy call_tuple_of (by rfl) B.n_tuple (by decide +kernel) (pa_cons (pe_lc (own := [("_law_state", 4)]) (g := gName 4) rfl sc_l_amounts.nd (pi_range1 (by rfl) B.n_range (pa_cons (pv 1) pa_nil)) (blkOk_by (N := ["_law_source_here", "_law_many", "_law_way", "_law_base", "_law_state"]) (sc := defScope st_l_amounts) (by decide +kernel)) (fun _ _ _ _ _ => (pg_name (i := 4) sc_l_amounts.nd rfl (.inl rfl))) (fun _ _ _ _ _ => pts_nil) (fun _ _ _ _ _ => (pe_fn c_l_draw (hr.mono (by decide)) (pa_cons (pv 0) (pa_cons pe_int pa_nil))))) pa_nil)))) pss_nil)
   (pss_cons (ps_if (pt_cmpR op_eq (pv 2) pe_int (nomark _)) (pss_one (ps_ret (pe_callTy call_tuple_of (by rfl) B.n_tuple (by decide +kernel) (pa_cons (pe_lc (own := [("_law_state", 4)]) (g := gName 4) rfl sc_l_amounts.nd (pi_range1 (by rfl) B.n_range (pa_cons (pv 1) pa_nil)) (blkOk_by (N := ["_law_source_here", "_law_many", "_law_way", "_law_base", "_law_state"]) (sc := defScope st_l_amounts) (by decide +kernel)) (fun _ _ _ _ _ => (pg_name (i := 4) sc_l_amounts.nd rfl (.inl rfl))) (fun _ _ _ _ _ => pts_nil) (fun _ _ _ _ _ => (pe_op op_add (pv 3) (pe_fn c_l_draw (hr.mono (by decide)) (pa_cons (pv 0) (pa_cons pe_int pa_nil)))))) pa_nil)))) pss_nil)
   (pss_cons (ps_if (pt_cmpR op_eq (pv 2) pe_int (nomark _)) (pss_one (ps_ret (pe_callTy call_tuple_of (by rfl) B.n_tuple (by decide +kernel) (pa_cons (pe_lc (own := [("_law_state", 4)]) (g := gName 4) rfl sc_l_amounts.nd (pi_range1 (by rfl) B.n_range (pa_cons (pv 1) pa_nil)) (blkOk_by (N := ["_law_source_here", "_law_many", "_law_way", "_law_base", "_law_state"]) (sc := defScope st_l_amounts) (by decide +kernel)) (fun _ _ _ _ _ => (pg_name (i := 4) sc_l_amounts.nd rfl (.inl rfl))) (fun _ _ _ _ _ => pts_nil) (fun _ _ _ _ _ => (pe_fn c_l_choose (hr.mono (by decide)) (pa_cons (pv 0) (pa_cons (pe_lst (pa_cons pe_int (pa_cons pe_int pa_nil))) pa_nil))))) pa_nil)))) pss_nil)
   (pss_cons (ps_if (pt_cmpR op_eq (pv 2) pe_int (nomark _)) (pss_one (ps_ret (pe_callTy call_tuple_of (by rfl) B.n_tuple (by decide +kernel) (pa_cons (pe_lc (own := [("_law_state", 4)]) (g := gName 4) rfl sc_l_amounts.nd (pi_range1 (by rfl) B.n_range (pa_cons (pv 1) pa_nil)) (blkOk_by (N := ["_law_source_here", "_law_many", "_law_way", "_law_base", "_law_state"]) (sc := defScope st_l_amounts) (by decide +kernel)) (fun _ _ _ _ _ => (pg_name (i := 4) sc_l_amounts.nd rfl (.inl rfl))) (fun _ _ _ _ _ => pts_nil) (fun _ _ _ _ _ => (pe_fn c_l_choose (hr.mono (by decide)) (pa_cons (pv 0) (pa_cons (pe_lst (pa_cons (pv 3) (pa_cons (pe_op op_add (pv 3) pe_int) (pa_cons (pe_op op_sub pe_int (pv 3)) pa_nil)))) pa_nil))))) pa_nil)))) pss_nil)
   (pss_one (ps_ret (pe_callTy call_tuple_of (by rfl) B.n_tuple (by decide +kernel) (pa_cons (pe_callB cr_sorted (by rfl) B.n_sorted (by decide +kernel) (pa_cons (pe_lc (own := [("_law_state", 4)]) (g := gName 4) rfl sc_l_amounts.nd (pi_range1 (by rfl) B.n_range (pa_cons (pv 1) pa_nil)) (blkOk_by (N := ["_law_source_here", "_law_many", "_law_way", "_law_base", "_law_state"]) (sc := defScope st_l_amounts) (by decide +kernel)) (fun _ _ _ _ _ => (pg_name (i := 4) sc_l_amounts.nd rfl (.inl rfl))) (fun _ _ _ _ _ => pts_nil) (fun _ _ _ _ _ => (pe_fn c_l_draw (hr.mono (by decide)) (pa_cons (pv 0) (pa_cons pe_int pa_nil))))) pa_nil)) pa_nil)))))))))), ?_⟩
  refine ⟨_, rfl, a, 6, rfl, src, by decide, by decide, fun way H0 w0 w1 s0 k0 => ?_⟩
  refine ⟨_, rfl, a, 29, rfl, s0, by decide, by decide, fun bs H1 b0 b1 s1 k1 => ?_⟩
  have kk := k0.trans k1
  refine ⟨(by show 2 ≤ sizeLine; decide), fun q hq => ⟨q, _, rfl, SqT.of upd_same, rfl, _, _, rfl, _, _, rfl, rfl, ?_⟩⟩
  generalize hH2 : upd H1 q _ = H2
  have s2 : Src H2 a := by rw [← hH2]; exact s1.upd hq
  have k2 : Kp a H H2 := by rw [← hH2]; exact kk.new hq
  have fin : ∀ {D : Addr} {H' : Hp}, AInv a D H2 n H' → ∃ p ys, [V.ref D] = [V.ref p] ∧ ((SqL K H' p ys ∧ ∀ l, H' l = none → Q (.ref l) (upd H' l (.tup ys))) ∨ (SqT K H' p ys ∧ Q (.ref p) H')) := by
    rintro D H' ⟨ns, e, am, s', kp, hd⟩
    exact ⟨D, _, rfl, .inl ⟨SqL.of hd, fun l hl => k l ns _ e am (s'.upd hl) ((k2.trans kp).new hl) upd_same⟩⟩
  refine ⟨_, rfl, rfl, _, rfl, ite2 (fun c => ?_) (fun c => ?_)⟩
  · refine ⟨_, rfl, n, rfl, by omega, by omega, fun D hD => lc_range (lo := 0) (n := n) (AInv a D H2) (AInv.start s2 hD) (fun i H3 hi p => ⟨rfl, tyes ?_⟩) (fun H3 p => fin p)⟩
    have s3 : Src H3 a := p.src
    refine ⟨_, rfl, a, 31, rfl, s3, by decide, by decide, fun r H4 r0 r1 s4 k4 => ?_⟩
    exact p.next (by omega) hD (s2.ne hD) s4 k4 r0 (by omega)
  refine ⟨_, rfl, rfl, _, rfl, ite2 (fun c => ?_) (fun c => ?_)⟩
  · refine ⟨_, rfl, n, rfl, by omega, by omega, fun D hD => lc_range (lo := 0) (n := n) (AInv a D H2) (AInv.start s2 hD) (fun i H3 hi p => ⟨rfl, tyes ?_⟩) (fun H3 p => fin p)⟩
    have s3 : Src H3 a := p.src
    refine ⟨_, rfl, a, 4, rfl, s3, by decide, by decide, fun r H4 r0 r1 s4 k4 => ?_⟩
    exact p.next (by omega) hD (s2.ne hD) s4 k4 r0 (by omega)
  refine ⟨_, rfl, rfl, _, rfl, ite2 (fun c => ?_) (fun c => ?_)⟩
  · refine ⟨_, rfl, n, rfl, by omega, by omega, fun D hD => lc_range (lo := 0) (n := n) (AInv a D H2) (AInv.start s2 hD) (fun i H3 hi p => ⟨rfl, tyes ?_⟩) (fun H3 p => fin p)⟩
    have s3 : Src H3 a := p.src
    refine ⟨_, rfl, _, rfl, a, 3, rfl, s3, by decide, by decide, fun r H4 r0 r1 s4 k4 => ⟨_, _, rfl, rfl, ?_⟩⟩
    exact p.next (by omega) hD (s2.ne hD) s4 k4 (by omega) (by omega)
  refine ⟨_, rfl, rfl, _, rfl, ite2 (fun c => ?_) (fun c => ?_)⟩
  · refine ⟨_, rfl, n, rfl, by omega, by omega, fun D hD => lc_range (lo := 0) (n := n) (AInv a D H2) (AInv.start s2 hD) (fun i H3 hi p => ⟨rfl, tyes ?_⟩) (fun H3 p => fin p)⟩
    have s3 : Src H3 a := p.src
    refine ⟨_, rfl, (by show 2 ≤ sizeLine; decide), fun l hl => ?_⟩
    refine ⟨a, l, _, rfl, s3.upd hl, upd_same, s3.ne hl, (by show 0 < 2; decide), (by show 2 ≤ 1000; decide), fun v H4 hv s4 k4 => ?_⟩
    have k5 : Kp a H3 H4 := ((Kp.refl a H3).new hl).trans k4
    rcases List.mem_cons.mp hv with rfl | hv
    · exact p.next (by omega) hD (s2.ne hD) s4 k5 (by decide) (by decide)
    rw [List.mem_singleton.mp hv]
    exact p.next (by omega) hD (s2.ne hD) s4 k5 (by decide) (by decide)
  refine ⟨_, rfl, rfl, _, rfl, ite2 (fun c => ?_) (fun c => ?_)⟩
  · refine ⟨_, rfl, n, rfl, by omega, by omega, fun D hD => lc_range (lo := 0) (n := n) (AInv a D H2) (AInv.start s2 hD) (fun i H3 hi p => ⟨rfl, tyes ?_⟩) (fun H3 p => fin p)⟩
    have s3 : Src H3 a := p.src
    refine ⟨_, rfl, _, rfl, _, rfl, _, _, rfl, rfl, _, rfl, _, _, rfl, rfl, (by show 3 ≤ sizeLine; decide), fun l hl => ?_⟩
    refine ⟨a, l, _, rfl, s3.upd hl, upd_same, s3.ne hl, (by show 0 < 3; decide), (by show 3 ≤ 1000; decide), fun v H4 hv s4 k4 => ?_⟩
    have k5 : Kp a H3 H4 := ((Kp.refl a H3).new hl).trans k4
    rcases List.mem_cons.mp hv with rfl | hv
    · exact p.next (by omega) hD (s2.ne hD) s4 k5 (by omega) (by omega)
    rcases List.mem_cons.mp hv with rfl | hv
    · exact p.next (r := bs + 1) (by omega) hD (s2.ne hD) s4 k5 (by omega) (by omega)
    rw [List.mem_singleton.mp hv]
    exact p.next (r := 30 - bs) (by omega) hD (s2.ne hD) s4 k5 (by omega) (by omega)
  refine ⟨_, rfl, n, rfl, by omega, by omega, fun D hD => lc_range (lo := 0) (n := n) (AInv a D H2) (AInv.start s2 hD) (fun i H3 hi p => ⟨rfl, tyes ?_⟩) (fun H3 p => ?_)⟩
  · have s3 : Src H3 a := p.src
    refine ⟨_, rfl, a, 31, rfl, s3, by decide, by decide, fun r H4 r0 r1 s4 k4 => ?_⟩
    exact p.next (by omega) hD (s2.ne hD) s4 k4 r0 (by omega)
  · obtain ⟨ns, e, am, s', kp, hd⟩ := p
    refine ⟨D, ns, rfl, SqL.of hd, by omega, fun ns' p' pm sd hp => ?_⟩
    refine ⟨p', _, rfl, .inl ⟨SqL.of upd_same, fun l hl => k l ns' _ ?_ (fun r hr => am r (pm.mem_iff.mp hr)) ((s'.upd hp).upd hl) (((k2.trans kp).new hp).new hl) upd_same⟩⟩
    rw [pm.length_eq, e]
end
end Pl
namespace Pl
open PySem PySem.Spec PyProof.Rows L2
/-! the mathematics -/
/-- the ints in ascending order -/
def srt (ns : List Int) : List Int := ns.mergeSort
theorem srt_perm (ns : List Int) : (srt ns).Perm ns := List.mergeSort_perm _ _
theorem srt_sorted (ns : List Int) : (srt ns).Pairwise (· ≤ ·) := by
  have h := List.pairwise_mergeSort (le := fun (a b : Int) => decide (a ≤ b)) (fun a b c h1 h2 => by simp at *; omega) (fun a b => by simp; omega) ns
  exact h.imp fun h => by simpa using h
theorem srt_of {l ns : List Int} (p : l.Perm ns) (s : l.Pairwise (· ≤ ·)) : l = srt ns := PySem.W.ksm_same (p.trans (srt_perm ns).symm) s (srt_sorted ns)
theorem srt_length (ns : List Int) : (srt ns).length = ns.length := (srt_perm ns).length_eq
/-- the sum of the k smallest -/
def low (ns : List Int) (k : Nat) : Int := ((srt ns).take k).sum
theorem cut_take {xs : List V} {n : Nat} (h : n ≤ xs.length) : cutV xs none (some (n : Int)) = xs.take n := by
  unfold cutV
  rw [HT.sIx_none, HT.sIx_nat, List.drop_zero, Nat.sub_zero, Nat.min_eq_left h]
/-- the second is at least as calm as the first -/
def calm (ns ms : List Int) : Bool := decide (ns.sum = ms.sum) && (List.range (ns.length + 1)).all fun k => decide (low ns k ≤ low ms k)
/-- an integer from 0 to m -/
def isTo (m : Int) : V → Bool
  | .int i => decide (0 ≤ i) && decide (i ≤ m)
  | _ => false
def isInt : V → Bool
  | .int _ => true
  | _ => false
/-- what isinstance says of the value: whether it is an int that is no bool -/
def Kd (K : PySem.W.Frag) (H : Hp) (x : V) : Prop := ∃ (t : Value) (bi bb : Bool), TyX K H x t ∧ PySem.W.kitOne K t (.type "int") = some bi ∧ PySem.W.kitOne K t (.type "bool") = some bb ∧ (bi && !bb) = isInt x
theorem Kd.int {K : PySem.W.Frag} {H : Hp} (i : Int) : Kd K H (.int i) := ⟨_, true, false, .base (.int i), kit_ty (by decide +kernel), kit_ty (by decide +kernel), rfl⟩
theorem TyX.same {K : PySem.W.Frag} {H H' : Hp} {x : V} {t : Value} (s : Same H H') (h : TyX K H x t) : TyX K H' x t := by
  cases h with
  | base b =>
    refine .base ?_
    cases b with
    | non => exact .non
    | bl y => exact .bl y
    | int i => exact .int i
    | str y => exact .str y
    | flt y => exact .flt y
    | lst e => exact .lst (s _ _ e)
    | frz e => exact .frz (s _ _ e)
    | tup e => exact .tup (s _ _ e)
    | dK e => exact .dK (s _ _ e)
    | dT e => exact .dT (s _ _ e)
    | ins e cl a b c d => exact .ins (s _ _ e) cl a b c d
  | byt b => exact .byt b
  | set e => exact .set (s _ _ e)
  | kList e c => exact .kList e c
  | kTuple e c => exact .kTuple e c
  | kDict e c => exact .kDict e c
  | fTuple e => exact .fTuple (s _ _ e)
  | fDict e => exact .fDict (s _ _ e)
theorem Kd.same {K : PySem.W.Frag} {H H' : Hp} {x : V} (s : Same H H') (h : Kd K H x) : Kd K H' x := by
  obtain ⟨t, bi, bb, ty, r⟩ := h
  exact ⟨t, bi, bb, TyX.same s ty, r⟩
/-! what the top has written of Share -/
structure Cn (mg : Str → Option Value) : Prop where
  c_FEWEST_STATES : ∃ t, mg "FEWEST_STATES" = some (.int 2 t)
  c_MOST_STATES : ∃ t, mg "MOST_STATES" = some (.int 6 t)
  c_MOST_IN_A_STATE : ∃ t, mg "MOST_IN_A_STATE" = some (.int 30 t)
structure ShK (K : PySem.W.Frag) (mg : Str → Option Value) (C : Addr) : Prop where
  cl : Cls K C
  nB : NoAttr K C "by_state"
  mgC : mg "Share" = some (.ref C)
  mks : PySem.W.makesIn K C = true
  kc : PySem.W.keepIn K (.ref C) = true
  ca : PySem.W.findIn K (.ref C) "__class__" = some (some (.builtin "object.__class__"))
  cg : PySem.W.specialIn K (.builtin "object.__class__") "__get__" = some (some (.builtin "getset_descriptor.__get__"))
  ct : PySem.W.takesIn K (.builtin "object.__class__") = some true
  mro : PySem.W.mroIn K C (.type "object") = some true
  kit : PySem.W.kitOne K (.ref C) (.ref C) = some true
  fi : ∀ f, PySem.W.findIn K (.ref C) "__call__" = some (some (.ref f)) → PySem.W.fnIn K f = true
/-- the same, of the written part alone -/
structure ShF (K : PySem.W.Frag) (C : Addr) : Prop where
  pg : PySem.W.plainGet K C Str.empty = true
  hd : PySem.W.hasDictIn K C = true
  po : PySem.W.plainOver K C = true
  sa : PySem.W.findIn K (.ref C) "__setattr__" = some (some (.builtin "object.__setattr__"))
  nB : PySem.W.findIn K (.ref C) "by_state" = some none
  mks : PySem.W.makesIn K C = true
  kc : PySem.W.keepIn K (.ref C) = true
  ca : PySem.W.findIn K (.ref C) "__class__" = some (some (.builtin "object.__class__"))
  cg : PySem.W.specialIn K (.builtin "object.__class__") "__get__" = some (some (.builtin "getset_descriptor.__get__"))
  ct : PySem.W.takesIn K (.builtin "object.__class__") = some true
  mro : PySem.W.mroIn K C (.type "object") = some true
  kit : PySem.W.kitOne K (.ref C) (.ref C) = some true
theorem ShF.k {K : PySem.W.Frag} {mg : Str → Option Value} {C : Addr} (s : ShF K C) (c : CallF K C) (g : mg "Share" = some (.ref C)) : ShK K mg C :=
  ⟨⟨s.pg, s.hd, s.po, s.sa⟩, s.nB, g, s.mks, s.kc, s.ca, s.cg, s.ct, s.mro, s.kit, fun f h => by
    obtain ⟨f', a, b⟩ := c.ex
    rw [a] at h
    cases h
    exact b⟩
def shF (t : Addr) : List (Str × V) := [("by_state", .ref t)]
theorem shF_get (t : Addr) : (shF t).lookup ("by_state" : Str) = some (.ref t) := by simp [shF, List.lookup]
/-- a share with the amounts ns stands at s, its tuple at t -/
def ShAt (C : Addr) (H : Hp) (s t : Addr) (ns : List Int) : Prop := (∃ dx, H s = some (.ins C dx (shF t))) ∧ H t = some (.tup (ns.map V.int)) ∧ 2 ≤ ns.length ∧ ns.length ≤ 6 ∧ Am ns
theorem ShAt.same {C : Addr} {H H' : Hp} {s t : Addr} {ns : List Int} (h : ShAt C H s t ns) (k : Same H H') : ShAt C H' s t ns := by
  obtain ⟨⟨dx, h1⟩, h2, r⟩ := h
  exact ⟨⟨dx, k _ _ h1⟩, k _ _ h2, r⟩
theorem ShAt.kp {C : Addr} {H H' : Hp} {s t a : Addr} {ns : List Int} (h : ShAt C H s t ns) (sr : Src H a) (k : Kp a H H') : ShAt C H' s t ns := by
  obtain ⟨⟨dx, h1⟩, h2, r⟩ := h
  exact ⟨⟨dx, k _ _ (sr.neI h1) h1⟩, k _ _ (sr.neT h2) h2, r⟩
def spIsI (K : PySem.W.Frag) : Sp := fun vs H Q _ => ∃ x : V, vs = [x] ∧ Kd K H x ∧ Q (.bl (isInt x)) H
def spIsInt (K : PySem.W.Frag) : Sp := fun vs H Q _ => ∃ (x : V) (m : Int), vs = [x, .int m] ∧ Kd K H x ∧ Q (.bl (isTo m x)) H
/-- a tuple of 2 to 6 integers from 0 to 30 -/
def isAm (xs : List V) : Bool := decide (2 ≤ xs.length) && decide (xs.length ≤ 6) && xs.all (isTo 30)
def spIsAm (K : PySem.W.Frag) : Sp := fun vs H Q _ => ∃ x : V, vs = [x] ∧
  ((∃ (p : Addr) (xs : List V), x = .ref p ∧ H p = some (.tup xs) ∧ xs.length ≤ 1000 ∧ (∀ y ∈ xs, Kd K H y) ∧ ∀ H', Same H H' → Q (.bl (isAm xs)) H') ∨
   (∃ t, TyX K H x t ∧ PySem.W.kitOne K t (.type "tuple") = some false ∧ Q (.bl false) H))
theorem isAm_ints {ns : List Int} (h2 : 2 ≤ ns.length) (h6 : ns.length ≤ 6) (am : Am ns) : isAm (ns.map V.int) = true := by
  simp only [isAm, List.length_map, Bool.and_eq_true, decide_eq_true_eq, List.all_eq_true]
  refine ⟨⟨h2, h6⟩, fun x hx => ?_⟩
  obtain ⟨i, hi, rfl⟩ := List.mem_map.mp hx
  obtain ⟨a, b⟩ := am i hi
  simp [isTo, a, b]
/-- a tuple of two parts, or no tuple -/
def spIsPr (K : PySem.W.Frag) : Sp := fun vs H Q _ => ∃ x : V, vs = [x] ∧
  ((∃ (p : Addr) (xs : List V), x = .ref p ∧ H p = some (.tup xs) ∧ Q (.bl (decide ((xs.length : Int) = 2))) H) ∨
   (∃ t, TyX K H x t ∧ PySem.W.kitOne K t (.type "tuple") = some false ∧ Q (.bl false) H))
def spInit (C : Addr) : Sp := fun vs H Q _ => ∃ (p t dx : Addr) (ns : List Int), vs = [.ref p, .ref t] ∧ H p = some (.ins C dx []) ∧ H t = some (.tup (ns.map V.int)) ∧ 2 ≤ ns.length ∧ ns.length ≤ 6 ∧ Am ns ∧
  ∀ H', Kp p H H' → ShAt C H' p t ns → Q .non H'
theorem mk_at {C t x dx : Addr} {ns : List Int} {H : Hp} {R : Hp → Prop} {E : XK} (nx : H x = none) (nd : H dx = none) (ht : H t = some (.tup (ns.map V.int))) (h2 : 2 ≤ ns.length) (h6 : ns.length ≤ 6) (am : Am ns)
    (k : ∀ H' : Hp, Same H H' → ShAt C H' x t ns → R H') : spInit C (.ref x :: ([.ref t] ++ [])) (upd (upd H dx (.own x)) x (.ins C dx [])) (fun v H2 => v = .non ∧ R H2) E := by
  have s1 : Same H (upd (upd H dx (.own x)) x (.ins C dx [])) := same_put (same_put (Same.refl H) nd) nx
  refine ⟨x, t, dx, ns, rfl, upd_same, s1 _ _ ht, h2, h6, am, fun H' kp sh => ⟨rfl, k H' (fun b o e => kp b o (ne_of_none e nx) (s1 b o e)) sh⟩⟩
def spTotal (C : Addr) : Sp := fun vs H Q _ => ∃ (s t : Addr) (ns : List Int), vs = [.ref s] ∧ ShAt C H s t ns ∧ Q (.int ns.sum) H
def spLen (C : Addr) : Sp := fun vs H Q _ => ∃ (s t : Addr) (ns : List Int), vs = [.ref s] ∧ ShAt C H s t ns ∧ Q (.int ns.length) H
def spCall (C : Addr) : Sp := fun vs H Q _ => ∃ (s t : Addr) (ns : List Int) (k : Nat), vs = [.ref s, .int k] ∧ ShAt C H s t ns ∧ k ≤ ns.length ∧ ∀ H', Same H H' → Q (.int (low ns k)) H'
def spPair (C : Addr) : Sp := fun vs H Q _ => ∃ (s1 t1 s2 t2 : Addr) (ns ms : List Int), vs = [.ref s1, .ref s2] ∧ ShAt C H s1 t1 ns ∧ ShAt C H s2 t2 ms ∧ ns.length = ms.length ∧ Q .non H
def spCalm (C : Addr) : Sp := fun vs H Q _ => ∃ (s1 t1 s2 t2 : Addr) (ns ms : List Int), vs = [.ref s1, .ref s2] ∧ ShAt C H s1 t1 ns ∧ ShAt C H s2 t2 ms ∧ ns.length = ms.length ∧
  ∀ H', Same H H' → Q (.bl (calm ns ms)) H'
def spCalmer (C : Addr) : Sp := fun vs H Q _ => ∃ (s1 t1 s2 t2 : Addr) (ns ms : List Int), vs = [.ref s1, .ref s2] ∧ ShAt C H s1 t1 ns ∧ ShAt C H s2 t2 ms ∧ ns.length = ms.length ∧
  ∀ H', Same H H' → Q (.bl (calm ns ms && !calm ms ns)) H'
end Pl
namespace Pl
open PySem PySem.Spec PyProof.Rows L2
section
variable {P : Program} {w : World} {K : PySem.W.Frag} {mg : Str → Option Value} {base : Heap} {CShare : Addr}
abbrev st_is_integer : Stmt := top 1
theorem sc_is_integer : FnScope ["thing"] ["thing"] (defScope st_is_integer) := ⟨rfl, rfl, rfl, by decide +kernel, rfl, by decide +kernel, by decide +kernel⟩
theorem ok_isi (B : Bn mg) (D : Df K mg "is_integer" st_is_integer ["thing"]) : Cal P w K mg base 1 "is_integer" ["thing"] (spIsI K) := by
  refine D.cal sc_is_integer (fun vs H Q E h => ?_) (fun f cdv A out s H vs Q E hr h => ?_)
  · obtain ⟨x, rfl, _⟩ := h
    rfl
  obtain ⟨x, rfl, ⟨t, bi, bb, ty, k1, k2, kd⟩, k⟩ := h
  refine ⟨_, (pss_one (ps_ret (pe_and (pe_callB call_isi (by rfl) B.n_isinstance (by decide +kernel) (pa_cons (pv 0) (pa_cons (pe_bltn (v := .ty "int") (by rfl) B.n_int (by decide +kernel) rfl) pa_nil))) (pe_one (pe_not (pe_callB call_isi (by rfl) B.n_isinstance (by decide +kernel) (pa_cons (pv 0) (pa_cons (pe_bltn (v := .ty "bool") (by rfl) B.n_bool (by decide +kernel) rfl) pa_nil)))))))), ?_⟩
  refine ⟨_, rfl, x, _, t, _, bi, rfl, .ty _, ty, k1, bi, rfl, ?_⟩
  rw [← kd] at k
  cases bi with
  | false => exact iteF k
  | true =>
    refine iteT ⟨_, rfl, x, _, t, _, bb, rfl, .ty _, ty, k2, bb, rfl, ?_⟩
    exact k
abbrev st_is_integer_to : Stmt := top 2
theorem sc_is_integer_to : FnScope ["thing", "most"] ["thing", "most"] (defScope st_is_integer_to) := ⟨rfl, rfl, rfl, by decide +kernel, rfl, by decide +kernel, by decide +kernel⟩
theorem ok_isint (c_is_integer : Cal P w K mg base 1 "is_integer" ["thing"] (spIsI K)) (D : Df K mg "is_integer_to" st_is_integer_to ["thing", "most"]) : Cal P w K mg base 2 "is_integer_to" ["thing", "most"] (spIsInt K) := by
  refine D.cal sc_is_integer_to (fun vs H Q E h => ?_) (fun f cdv A out s H vs Q E hr h => ?_)
  · obtain ⟨x, m, rfl, _⟩ := h
    rfl
  obtain ⟨x, m, rfl, kd, k⟩ := h
  refine ⟨_, (pss_one (ps_ret (pe_and (pe_fn c_is_integer (hr.mono (by decide)) (pa_cons (pv 0) pa_nil)) (pe_one (pe_chain op_le op_le pe_int (pv 0) (pv 1)))))), ?_⟩
  refine ⟨_, rfl, x, rfl, kd, _, rfl, ?_⟩
  cases x with
  | int i =>
    refine iteT ?_
    refine ⟨_, rfl, _, _, rfl, rfl, _, rfl, ?_⟩
    have e : isTo m (.int i) = (decide (0 ≤ i) && decide (i ≤ m)) := rfl
    rw [e] at k
    refine ite2 (fun c => ?_) (fun c => ?_)
    · have c2 : decide (0 ≤ i) = true := c
      rw [c2] at k
      exact ⟨_, rfl, _, _, rfl, rfl, k⟩
    · have c2 : decide (0 ≤ i) = false := by simpa using c
      rw [c2] at k
      exact k
  | _ => exact iteF k
abbrev st_is_amounts : Stmt := top 15
theorem sc_is_amounts : FnScope ["thing", "amount"] ["thing"] (defScope st_is_amounts) := ⟨rfl, rfl, rfl, by decide +kernel, rfl, by decide +kernel, by decide +kernel⟩
theorem ok_isam (B : Bn mg) (Cc : Cn mg) (c_is_integer_to : Cal P w K mg base 2 "is_integer_to" ["thing", "most"] (spIsInt K)) (D : Df K mg "is_amounts" st_is_amounts ["thing"]) : Cal P w K mg base 3 "is_amounts" ["thing"] (spIsAm K) := by
  refine D.cal sc_is_amounts (fun vs H Q E h => ?_) (fun f cdv A out s H vs Q E hr h => ?_)
  · obtain ⟨x, rfl, _⟩ := h
    rfl
  obtain ⟨x, rfl, h⟩ := h
  refine ⟨_, (pss_cons (ps_if (PW.pt (pw_or (pt_not (pt_val (pe_callB call_isi (by rfl) B.n_isinstance (by decide +kernel) (pa_cons (pv 0) (pa_cons (pe_bltn (v := .ty "tuple") (by rfl) B.n_tuple (by decide +kernel) rfl) pa_nil))))) (pw_or1 (pt_not (pt_chain op_le op_le (pe_glob (v := .int 2) rfl Cc.c_FEWEST_STATES.choose_spec ⟨_, rfl⟩) (pe_callB call_len_seq (by rfl) B.n_len (by decide +kernel) (pa_cons (pv 0) pa_nil)) (pe_glob (v := .int 6) rfl Cc.c_MOST_STATES.choose_spec ⟨_, rfl⟩)))))) (pss_one (ps_ret pe_bl)) pss_nil)
   (pss_one (ps_ret (pe_callB (cr_all rfl) (by rfl) B.n_all (by decide +kernel) (pa_cons (pe_lc (own := [("amount", 1)]) (g := gName 1) rfl sc_is_amounts.nd (pi_tup (pv 0)) (blkOk_by (N := ["thing", "amount"]) (sc := defScope st_is_amounts) (by decide +kernel)) (fun _ _ _ _ _ => (pg_name (i := 1) sc_is_amounts.nd rfl (.inl rfl))) (fun _ _ _ _ _ => pts_nil) (fun _ _ _ _ _ => (pe_fn c_is_integer_to (hr.mono (by decide)) (pa_cons (pv 1) (pa_cons (pe_glob (v := .int 30) rfl Cc.c_MOST_IN_A_STATE.choose_spec ⟨_, rfl⟩) pa_nil))))) pa_nil))))), ?_⟩
  rcases h with ⟨p, xs, rfl, hp, xl, kd, k⟩ | ⟨t, ty, kt, k⟩
  · refine ⟨_, rfl, _, _, _, _, true, rfl, .ty _, .base (.tup hp), kit_ty (by decide +kernel), _, rfl, iteF ?_⟩
    refine ⟨_, rfl, p, _, rfl, .inr (SqT.of hp), _, _, rfl, rfl, _, rfl, ?_⟩
    have no : isAm xs = false → Q (.bl false) H := fun e => by
      have z := k H (Same.refl H)
      rw [e] at z
      exact z
    refine ite2 (fun c => ?_) (fun c => ?_)
    · refine ⟨_, _, rfl, rfl, _, rfl, ?_⟩
      have c2 : (2 : Int) ≤ xs.length := of_decide_eq_true c
      refine ite2 (fun c3 => ?_) (fun c3 => ?_)
      · refine no ?_
        have c4 : ¬ ((xs.length : Int) ≤ 6) := by simpa using c3
        have c5 : decide (xs.length ≤ 6) = false := by simp; omega
        simp [isAm, c5]
      · have c4 : (xs.length : Int) ≤ 6 := by simpa using c3
        have e0 : isAm xs = xs.all (isTo 30) := by
          have a1 : decide (2 ≤ xs.length) = true := by simp; omega
          have a2 : decide (xs.length ≤ 6) = true := by simp; omega
          simp [isAm, a1, a2]
        refine ⟨_, rfl, p, rfl, ⟨_, SqT.of hp⟩, fun D hD => lc_tup (K := K) (a := p) (xs := xs) (fun i H' => Same H H' ∧ H' D = some (.lst ((xs.take i).map fun x => .bl (isTo 30 x))))
          ⟨same_new (Same.refl H) hD, upd_same⟩ (fun i H' _ q => SqT.of (q.1 _ _ hp)) (fun i x H' hx q => ⟨rfl, tyes ?_⟩) (fun H' q => ?_)⟩
        · refine ⟨_, rfl, x, 30, rfl, (kd x (List.mem_of_getElem? hx)).same q.1, ?_⟩
          refine ⟨_, q.2, size_lt (by simp; omega), same_put q.1 hD, ?_⟩
          rw [upd_same, List.take_add_one, hx, List.map_append]
          rfl
        · refine ⟨D, xs.map (isTo 30), rfl, ?_, ?_⟩
          · have e := q.2
            rw [List.take_length] at e
            rw [List.map_map]
            exact SqL.of e
          · have z := k H' q.1
            rw [e0] at z
            have e1 : (xs.map (isTo 30)).all id = xs.all (isTo 30) := by rw [List.all_map]; rfl
            rw [e1]
            exact z
    · refine ⟨_, rfl, iteT (no ?_)⟩
      have c4 : ¬ ((2 : Int) ≤ xs.length) := by simpa using c
      have c5 : decide (2 ≤ xs.length) = false := by simp; omega
      simp [isAm, c5]
  · exact ⟨_, rfl, x, _, t, _, false, rfl, .ty _, ty, kt, _, rfl, iteT (iteT k)⟩
abbrev st_ShInit : Stmt := inClass (top 14) 0
theorem sc_ShInit : FnScope ["self", "amounts"] ["self", "amounts"] (defScope st_ShInit) := ⟨rfl, rfl, rfl, by decide +kernel, rfl, by decide +kernel, by decide +kernel⟩
theorem ok_init (SShare : ShK K mg CShare) (c_is_amounts : Cal P w K mg base 3 "is_amounts" ["thing"] (spIsAm K)) (D : Mh K CShare "__init__" "Share.__init__" st_ShInit ["self", "amounts"]) : MCal P w K mg base 4 CShare "__init__" ["self", "amounts"] (spInit CShare) := by
  refine D.cal sc_ShInit (fun vs H Q E h => ?_) (fun f cdv A out s H vs Q E hr h => ?_)
  · obtain ⟨p, t, dx, ns, rfl, _⟩ := h
    rfl
  obtain ⟨p, t, dx, ns, rfl, hp, ht, h2, h6, am, k⟩ := h
  refine ⟨_, (pss_cons (ps_if (pt_not (pt_val (pe_fn c_is_amounts (hr.mono (by decide)) (pa_cons (pv 1) pa_nil)))) (pss_one ps_never) pss_nil)
   (pss_one (ps_fld (pv 0) (pv 1) rfl))), ?_⟩
  refine ⟨_, rfl, .ref t, rfl, .inl ⟨t, _, rfl, ht, by rw [List.length_map]; omega, fun y hy => ?_, fun H1 s1 => ?_⟩⟩
  · obtain ⟨i, _, rfl⟩ := List.mem_map.mp hy
    exact Kd.int i
  rw [isAm_ints h2 h6 am]
  refine ⟨_, rfl, iteF ?_⟩
  refine ⟨_, rfl, _, rfl, p, CShare, dx, _, rfl, s1 _ _ hp, SShare.cl, SShare.nB, (by show 0 < 1000; decide), ?_⟩
  have tp : t ≠ p := ne_of ht hp (by intro z; cases z)
  exact k _ (fun b o n e => by rw [upd_ne n]; exact s1 _ _ e) ⟨⟨dx, upd_same⟩, by rw [upd_ne tp]; exact s1 _ _ ht, h2, h6, am⟩
end
end Pl
namespace Pl
open PySem PySem.Spec PyProof.Rows L2
section
variable {P : Program} {w : World} {K : PySem.W.Frag} {mg : Str → Option Value} {base : Heap} {CShare : Addr}
abbrev st_Sh_len : Stmt := inClass (top 14) 4
theorem sc_Sh_len : FnScope ["self"] ["self"] (defScope st_Sh_len) := ⟨rfl, rfl, rfl, by decide +kernel, rfl, by decide +kernel, by decide +kernel⟩
theorem ok_len (B : Bn mg) (SShare : ShK K mg CShare) (D : Mh K CShare "__len__" "Share.__len__" st_Sh_len ["self"]) : MCal P w K mg base 2 CShare "__len__" ["self"] (spLen CShare) := by
  refine D.cal sc_Sh_len (fun vs H Q E h => ?_) (fun f cdv A out s H vs Q E hr h => ?_)
  · obtain ⟨s, t, ns, rfl, _⟩ := h
    rfl
  obtain ⟨s, t, ns, rfl, ⟨⟨dx, h1⟩, h2, _⟩, k⟩ := h
  refine ⟨_, (pss_one (ps_ret (pe_callB call_len_seq (by rfl) B.n_len (by decide +kernel) (pa_cons (pe_fld (pv 0) rfl) pa_nil)))), ?_⟩
  refine ⟨_, rfl, s, CShare, dx, _, _, rfl, h1, SShare.cl, SShare.nB, shF_get t, t, _, rfl, .inr (SqT.of h2), ?_⟩
  rw [List.length_map]
  exact k
end
end Pl
namespace Pl
open PySem PySem.Spec PyProof.Rows L2
section
variable {P : Program} {w : World} {K : PySem.W.Frag} {mg : Str → Option Value} {base : Heap} {CShare : Addr}
abbrev st_Sh_amounts : Stmt := inClass (top 14) 1
theorem sc_Sh_amounts : FnScope ["self"] ["self"] (defScope st_Sh_amounts) := ⟨rfl, rfl, rfl, by decide +kernel, rfl, by decide +kernel, by decide +kernel⟩
theorem ok_pamounts (SShare : ShK K mg CShare) (D : Ph K CShare "amounts" "Share.amounts" st_Sh_amounts ["self"]) : PCal P w K mg base 2 CShare "amounts" ["self"] (getSp CShare "by_state") := by
  refine D.cal sc_Sh_amounts (fun vs H Q E h => ?_) (fun f cdv A out s H vs Q E hr h => ?_)
  · obtain ⟨a, dx, fs, v, rfl, _⟩ := h
    rfl
  obtain ⟨a, dx, fs, v, rfl, h1, l, k⟩ := h
  refine ⟨_, (pss_one (ps_ret (pe_fld (pv 0) rfl))), ?_⟩
  exact ⟨_, rfl, a, CShare, dx, _, _, rfl, h1, SShare.cl, SShare.nB, l, k⟩
end
end Pl
namespace Pl
open PySem PySem.Spec PyProof.Rows L2
section
variable {P : Program} {w : World} {K : PySem.W.Frag} {mg : Str → Option Value} {base : Heap} {CShare : Addr}
abbrev st_Sh_total : Stmt := inClass (top 14) 2
theorem sc_Sh_total : FnScope ["self"] ["self"] (defScope st_Sh_total) := ⟨rfl, rfl, rfl, by decide +kernel, rfl, by decide +kernel, by decide +kernel⟩
theorem ok_total (B : Bn mg) (SShare : ShK K mg CShare) (D : Ph K CShare "total" "Share.total" st_Sh_total ["self"]) : PCal P w K mg base 2 CShare "total" ["self"] (spTotal CShare) := by
  refine D.cal sc_Sh_total (fun vs H Q E h => ?_) (fun f cdv A out s H vs Q E hr h => ?_)
  · obtain ⟨s, t, ns, rfl, _⟩ := h
    rfl
  obtain ⟨s, t, ns, rfl, ⟨⟨dx, h1⟩, h2, _⟩, k⟩ := h
  refine ⟨_, (pss_one (ps_ret (pe_callB (call_sumT rfl) (by rfl) B.n_sum (by decide +kernel) (pa_cons (pe_fld (pv 0) rfl) pa_nil)))), ?_⟩
  exact ⟨_, rfl, s, CShare, dx, _, _, rfl, h1, SShare.cl, SShare.nB, shF_get t, t, ns, rfl, SqT.of h2, k⟩
abbrev st_Sh_call : Stmt := inClass (top 14) 3
theorem sc_Sh_call : FnScope ["self", "k"] ["self", "k"] (defScope st_Sh_call) := ⟨rfl, rfl, rfl, by decide +kernel, rfl, by decide +kernel, by decide +kernel⟩
theorem ok_call (B : Bn mg) (SShare : ShK K mg CShare) (c_is_integer_to : Cal P w K mg base 2 "is_integer_to" ["thing", "most"] (spIsInt K)) (D : Mh K CShare "__call__" "Share.__call__" st_Sh_call ["self", "k"]) : MCal P w K mg base 3 CShare "__call__" ["self", "k"] (spCall CShare) := by
  refine D.cal sc_Sh_call (fun vs H Q E h => ?_) (fun f cdv A out s H vs Q E hr h => ?_)
  · obtain ⟨s, t, ns, n, rfl, _⟩ := h
    rfl
  obtain ⟨s, t, ns, n, rfl, ⟨⟨dx, h1⟩, h2, _, l6, _⟩, ln, k⟩ := h
  refine ⟨_, (pss_cons (ps_if (pt_not (pt_val (pe_fn c_is_integer_to (hr.mono (by decide)) (pa_cons (pv 1) (pa_cons (pe_callB call_len_seq (by rfl) B.n_len (by decide +kernel) (pa_cons (pe_fld (pv 0) rfl) pa_nil)) pa_nil))))) (pss_one ps_never) pss_nil)
   (pss_one (ps_ret (pe_callB (cr_sum rfl) (by rfl) B.n_sum (by decide +kernel) (pa_cons (pe_slice sl_list (pe_callB call_sortedT (by rfl) B.n_sorted (by decide +kernel) (pa_cons (pe_fld (pv 0) rfl) pa_nil)) po_none (po_some (pv 1))) pa_nil))))), ?_⟩
  refine ⟨_, rfl, _, rfl, s, CShare, dx, _, _, rfl, h1, SShare.cl, SShare.nB, shF_get t, t, _, rfl, .inr (SqT.of h2), .int n, _, rfl, Kd.int n, ?_⟩
  have e : isTo ((ns.map V.int).length : Int) (.int n) = true := by
    rw [List.length_map]
    show (decide (0 ≤ (n : Int)) && decide ((n : Int) ≤ ns.length)) = true
    simp; omega
  rw [e]
  refine ⟨_, rfl, iteF ?_⟩
  refine ⟨_, rfl, s, CShare, dx, _, _, rfl, h1, SShare.cl, SShare.nB, shF_get t, t, ns, rfl, SqT.of h2, by omega, fun ys p pm sd hp => ?_⟩
  obtain rfl := srt_of pm sd
  refine ⟨_, rfl, n, rfl, p, _, rfl, SqL.of upd_same, fun q hq => ?_⟩
  rw [cut_take (by rw [List.length_map, srt_length]; exact ln), ← List.map_take]
  exact ⟨q, _, rfl, SqL.of upd_same, k _ (same_new (same_new (Same.refl H) hp) hq)⟩
abbrev st_check_pair : Stmt := top 17
theorem sc_check_pair : FnScope ["one", "other"] ["one", "other"] (defScope st_check_pair) := ⟨rfl, rfl, rfl, by decide +kernel, rfl, by decide +kernel, by decide +kernel⟩
theorem ok_pair (B : Bn mg) (SShare : ShK K mg CShare) (m_len : MCal P w K mg base 2 CShare "__len__" ["self"] (spLen CShare)) (D : Df K mg "check_pair" st_check_pair ["one", "other"]) : Cal P w K mg base 4 "check_pair" ["one", "other"] (spPair CShare) := by
  refine D.cal sc_check_pair (fun vs H Q E h => ?_) (fun f cdv A out s H vs Q E hr h => ?_)
  · obtain ⟨s1, t1, s2, t2, ns, ms, rfl, _⟩ := h
    rfl
  obtain ⟨s1, t1, s2, t2, ns, ms, rfl, sh1, sh2, ln, k⟩ := h
  refine ⟨_, (pss_cons (ps_if (PW.pt (pw_or (pt_not (pt_val (pe_callB call_isi (by rfl) B.n_isinstance (by decide +kernel) (pa_cons (pv 0) (pa_cons (pe_glob (v := .ref CShare) rfl SShare.mgC rfl) pa_nil))))) (pw_or1 (pt_not (pt_val (pe_callB call_isi (by rfl) B.n_isinstance (by decide +kernel) (pa_cons (pv 1) (pa_cons (pe_glob (v := .ref CShare) rfl SShare.mgC rfl) pa_nil)))))))) (pss_one ps_never) pss_nil)
   (pss_one (ps_if (pt_cmpR op_ne (pe_callB (call_lenM m_len (hr.mono (by decide))) (by rfl) B.n_len (by decide +kernel) (pa_cons (pv 0) pa_nil)) (pe_callB (call_lenM m_len (hr.mono (by decide))) (by rfl) B.n_len (by decide +kernel) (pa_cons (pv 1) pa_nil)) (nomark _)) (pss_one ps_never) pss_nil))), ?_⟩
  obtain ⟨⟨d1, a1⟩, _, _, l1, _⟩ := id sh1
  obtain ⟨⟨d2, a2⟩, _, _, l2, _⟩ := id sh2
  have ty : ∀ {s d t : Addr}, H s = some (.ins CShare d (shF t)) → TyX K H (.ref s) (.ref CShare) := fun e => .base (.ins e SShare.cl SShare.ca SShare.cg SShare.ct SShare.mro)
  refine ⟨_, rfl, _, _, _, _, true, rfl, .own _, ty a1, SShare.kit, _, rfl, iteF ?_⟩
  refine ⟨_, rfl, _, _, _, _, true, rfl, .own _, ty a2, SShare.kit, _, rfl, iteF ?_⟩
  refine ⟨_, rfl, s1, d1, _, rfl, a1, s1, t1, ns, rfl, sh1, ns.length, rfl, by omega, ?_⟩
  refine ⟨_, rfl, s2, d2, _, rfl, a2, s2, t2, ms, rfl, sh2, ms.length, rfl, by omega, rfl, _, rfl, ?_⟩
  rw [ln]
  exact iteNS rfl k
abbrev st_is_calm : Stmt := top 18
theorem sc_is_calm : FnScope ["one", "other", "k"] ["one", "other"] (defScope st_is_calm) := ⟨rfl, rfl, rfl, by decide +kernel, rfl, by decide +kernel, by decide +kernel⟩
theorem ok_calm (B : Bn mg) (SShare : ShK K mg CShare) (c_check_pair : Cal P w K mg base 4 "check_pair" ["one", "other"] (spPair CShare)) (m_len : MCal P w K mg base 2 CShare "__len__" ["self"] (spLen CShare))
    (p_total : PCal P w K mg base 2 CShare "total" ["self"] (spTotal CShare)) (m_call : MCal P w K mg base 3 CShare "__call__" ["self", "k"] (spCall CShare)) (D : Df K mg "is_calm" st_is_calm ["one", "other"]) : Cal P w K mg base 5 "is_calm" ["one", "other"] (spCalm CShare) := by
  refine D.cal sc_is_calm (fun vs H Q E h => ?_) (fun f cdv A out s H vs Q E hr h => ?_)
  · obtain ⟨s1, t1, s2, t2, ns, ms, rfl, _⟩ := h
    rfl
  obtain ⟨s1, t1, s2, t2, ns, ms, rfl, sh1, sh2, ln, k⟩ := h
  refine ⟨_, (pss_cons (ps_expr (pe_fn c_check_pair (hr.mono (by decide)) (pa_cons (pv 0) (pa_cons (pv 1) pa_nil))))
   (pss_cons (ps_if (pt_cmpR op_ne (pe_pr p_total SShare.cl (hr.mono (by decide)) (pv 0)) (pe_pr p_total SShare.cl (hr.mono (by decide)) (pv 1)) (nomark _)) (pss_one (ps_ret pe_bl)) pss_nil)
   (pss_one (ps_ret (pe_callB (cr_all rfl) (by rfl) B.n_all (by decide +kernel) (pa_cons (pe_lc (own := [("k", 2)]) (g := gName 2) rfl sc_is_calm.nd (pi_range1 (by rfl) B.n_range (pa_cons (pe_op op_add (pe_callB (call_lenM m_len (hr.mono (by decide))) (by rfl) B.n_len (by decide +kernel) (pa_cons (pv 0) pa_nil)) pe_int) pa_nil)) (blkOk_by (N := ["one", "other", "k"]) (sc := defScope st_is_calm) (by decide +kernel)) (fun _ _ _ _ _ => (pg_name (i := 2) sc_is_calm.nd rfl (.inl rfl))) (fun _ _ _ _ _ => pts_nil) (fun _ _ _ _ _ => (pe_cmpR op_le (pe_callM m_call SShare.fi (hr.mono (by decide)) (pv 0) (pa_cons (pv 2) pa_nil)) (pe_callM m_call SShare.fi (hr.mono (by decide)) (pv 1) (pa_cons (pv 2) pa_nil)) (nomark _)))) pa_nil)))))), ?_⟩
  obtain ⟨⟨d1, a1⟩, _, _, l1, _⟩ := id sh1
  obtain ⟨⟨d2, a2⟩, _, _, l2, _⟩ := id sh2
  refine ⟨_, rfl, _, rfl, s1, t1, s2, t2, ns, ms, rfl, sh1, sh2, ln, ?_⟩
  refine ⟨_, rfl, s1, d1, _, rfl, a1, s1, t1, ns, rfl, sh1, _, rfl, s2, d2, _, rfl, a2, s2, t2, ms, rfl, sh2, rfl, _, rfl, ?_⟩
  refine ite2 (fun c => ?_) (fun c => ?_)
  · have z := k H (Same.refl H)
    have e : calm ns ms = false := by
      have c2 : ¬ (ns.sum = ms.sum) := by simpa using c
      simp [calm, c2]
    rw [e] at z
    exact z
  · have c2 : ns.sum = ms.sum := by simpa using c
    refine ⟨_, rfl, s1, d1, _, rfl, a1, s1, t1, ns, rfl, sh1, ns.length, rfl, by omega, _, _, rfl, rfl, _, rfl, by omega, by omega, fun D hD => ?_⟩
    have tn : ((ns.length : Int) + 1).toNat = ns.length + 1 := by omega
    rw [tn]
    refine lc_range (lo := 0) (n := ns.length + 1) (fun i H' => Same H H' ∧ H' D = some (.lst ((List.range i).map fun k => .bl (decide (low ns k ≤ low ms k)))))
      ⟨same_new (Same.refl H) hD, upd_same⟩ (fun i H' hi q => ⟨rfl, tyes ?_⟩) (fun H' q => ?_)
    · refine ⟨_, rfl, s1, rfl, _, rfl, .inr ⟨_, _, q.1 _ _ a1⟩, s1, t1, ns, i, by simp, sh1.same q.1, by omega, fun H2 k2 => ?_⟩
      refine ⟨_, rfl, s2, rfl, _, rfl, .inr ⟨_, _, k2 _ _ (q.1 _ _ a2)⟩, s2, t2, ms, i, by simp, (sh2.same q.1).same k2, by omega, fun H3 k3 => ?_⟩
      refine ⟨_, _, rfl, rfl, _, k3 _ _ (k2 _ _ q.2), size_lt (by simp; omega), same_put ((q.1.trans k2).trans k3) hD, ?_⟩
      rw [upd_same, List.range_succ, List.map_append]
      rfl
    · refine ⟨D, (List.range (ns.length + 1)).map fun k => decide (low ns k ≤ low ms k), rfl, ?_, ?_⟩
      · rw [List.map_map]
        exact SqL.of q.2
      · have z := k H' q.1
        have e : calm ns ms = ((List.range (ns.length + 1)).map fun k => decide (low ns k ≤ low ms k)).all id := by
          simp [calm, c2, List.all_map]
        rw [e] at z
        exact z
end
end Pl
namespace Pl
open PySem PySem.Spec PyProof.Rows L2
section
variable {P : Program} {w : World} {K : PySem.W.Frag} {mg : Str → Option Value} {base : Heap} {CShare : Addr}
abbrev st_is_calmer : Stmt := top 19
theorem sc_is_calmer : FnScope ["one", "other"] ["one", "other"] (defScope st_is_calmer) := ⟨rfl, rfl, rfl, by decide +kernel, rfl, by decide +kernel, by decide +kernel⟩
theorem ok_calmer (c_is_calm : Cal P w K mg base 5 "is_calm" ["one", "other"] (spCalm CShare)) (D : Df K mg "is_calmer" st_is_calmer ["one", "other"]) : Cal P w K mg base 6 "is_calmer" ["one", "other"] (spCalmer CShare) := by
  refine D.cal sc_is_calmer (fun vs H Q E h => ?_) (fun f cdv A out s H vs Q E hr h => ?_)
  · obtain ⟨s1, t1, s2, t2, ns, ms, rfl, _⟩ := h
    rfl
  obtain ⟨s1, t1, s2, t2, ns, ms, rfl, sh1, sh2, ln, k⟩ := h
  refine ⟨_, (pss_one (ps_ret (pe_and (pe_fn c_is_calm (hr.mono (by decide)) (pa_cons (pv 0) (pa_cons (pv 1) pa_nil))) (pe_one (pe_not (pe_fn c_is_calm (hr.mono (by decide)) (pa_cons (pv 1) (pa_cons (pv 0) pa_nil)))))))), ?_⟩
  refine ⟨_, rfl, _, rfl, s1, t1, s2, t2, ns, ms, rfl, sh1, sh2, ln, fun H1 k1 => ⟨_, rfl, ?_⟩⟩
  cases e : calm ns ms with
  | false =>
    rw [e] at k
    exact iteF (k H1 k1)
  | true =>
    rw [e] at k
    exact iteT ⟨_, rfl, _, rfl, s2, t2, s1, t1, ms, ns, rfl, sh2.same k1, sh1.same k1, ln.symm, fun H2 k2 => ⟨_, rfl, k H2 (k1.trans k2)⟩⟩
end
end Pl
namespace Pl
open PySem PySem.Spec PyProof.Rows L2
theorem low_succ {ns : List Int} {i : Nat} {x : Int} (h : (srt ns)[i]? = some x) : low ns (i + 1) = low ns i + x := by
  unfold low
  rw [List.take_add_one, h, List.sum_append]
  simp
theorem perm_sum {l m : List Int} (h : l.Perm m) : l.sum = m.sum := by
  induction h with
  | nil => rfl
  | cons x _ ih => simp [ih]
  | swap x y l => simp; omega
  | trans _ _ a b => exact a.trans b
theorem low_zero (ns : List Int) : low ns 0 = 0 := rfl
theorem low_all (ns : List Int) : low ns ns.length = ns.sum := by
  unfold low
  rw [← srt_length ns, List.take_length]
  exact perm_sum (srt_perm ns)
theorem dpInts (K : PySem.W.Frag) (H : Hp) : ∀ ns : List Int, DpAll K H (ns.map V.int) (ns.map PyData.int)
  | [] => .nil
  | n :: ns => .cons (.int n) (dpInts K H ns)
theorem depthInts : ∀ ns : List Int, PyData.depthAll (ns.map PyData.int) = 0
  | [] => rfl
  | n :: ns => by
    show max 0 (PyData.depthAll (ns.map PyData.int)) = 0
    rw [depthInts ns]; rfl
theorem layInts : ∀ ns : List Int, PyData.canLayAll0 (ns.map PyData.int) = true
  | [] => by simp [PyData.canLayAll0]
  | n :: ns => by
    simp only [List.map_cons, PyData.canLayAll0, PyData.canLay0, layInts ns, Bool.and_self]
theorem shapedInts (ns : List Int) : SeqAt.shaped (.list (ns.map PyData.int)) = true := by
  show (PyData.canLay0 (.list (ns.map PyData.int)) && decide (PyData.depth (.list (ns.map PyData.int)) ≤ 64)) = true
  simp only [PyData.canLay0, PyData.depth, layInts, depthInts]
  decide
theorem cons_erase {x : Int} : ∀ {ns : List Int} {j : Nat}, ns[j]? = some x → ([x] ++ ns.eraseIdx j).Perm ns
  | [], _, h => by simp at h
  | n :: ns, 0, h => by
    obtain rfl : n = x := by simpa using h
    exact List.Perm.refl _
  | n :: ns, j + 1, h => by
    have q := cons_erase (ns := ns) (j := j) (by simpa using h)
    show (x :: n :: ns.eraseIdx j).Perm (n :: ns)
    exact (List.Perm.swap n x _).trans (List.Perm.cons n q)
theorem map_erase {α β : Type} (f : α → β) : ∀ (l : List α) (j : Nat), (l.map f).eraseIdx j = (l.eraseIdx j).map f
  | [], j => rfl
  | x :: l, 0 => rfl
  | x :: l, j + 1 => by
    show f x :: (l.map f).eraseIdx j = f x :: (l.eraseIdx j).map f
    rw [map_erase f l j]
theorem perm_erase {ns ms zs : List Int} {j : Nat} {x : Int} (p : (ms ++ ns).Perm zs) (h : ns[j]? = some x) : ((ms ++ [x]) ++ ns.eraseIdx j).Perm zs := by
  refine List.Perm.trans ?_ p
  rw [List.append_assoc]
  refine List.Perm.append_left _ ?_
  exact cons_erase h
theorem at_int {ms : List Int} {r : Int} (h0 : 0 ≤ r) (h1 : r < ms.length) : ∃ x, ms[r.toNat]? = some x ∧ x ∈ ms ∧ atI (ms.map V.int) r = some (.int x) := by
  obtain ⟨x, hx, e, _⟩ := at_of_lt h0 h1
  refine ⟨x, e, hx, ?_⟩
  have z := atI_nat (xs := ms.map V.int) (j := r.toNat) (v := .int x) (by rw [List.getElem?_map, e]; rfl)
  rw [Int.toNat_of_nonneg h0] at z
  exact z
theorem ix_of {n : Nat} {r : Int} (h0 : 0 ≤ r) (h1 : r < n) : ixN n r = some r.toNat := by
  unfold ixN
  rw [if_pos h0, if_pos h1]
theorem am_set {ms : List Int} {j : Nat} {x : Int} (am : Am ms) (h0 : 0 ≤ x) (h1 : x ≤ 30) : Am (ms.set j x) := fun r hr => by
  rcases List.mem_or_eq_of_mem_set hr with h | h
  · exact am r h
  · rw [h]; exact ⟨h0, h1⟩
end Pl
namespace Pl
open PySem PySem.Spec PyProof.Rows L2
/-- what repr can show -/
def Shw (d : PyData) : Prop := d.showable = true ∧ d.hasDict = false ∧ d.depth ≤ 60 ∧ d.shown.length ≤ sizeLine
/-- data that is not too large to be shown: depth at most k, weight at most m -/
structure Fit (k m : Nat) (d : PyData) : Prop where
  lay : d.canLay0 = true
  short : d.intsShort 13 = true
  dep : d.depth ≤ k
  wt : d.weight ≤ m
  sh : d.showable = true
  nd : d.hasDict = false
structure FitAll (k m : Nat) (ds : List PyData) : Prop where
  lay : PyData.canLayAll0 ds = true
  short : PyData.intsShortAll 13 ds = true
  dep : PyData.depthAll ds ≤ k
  wt : PyData.weightAll ds ≤ m
  sh : PyData.showableAll ds = true
  nd : PyData.hasDictAll ds = false
theorem Fit.shw {k m : Nat} {d : PyData} (f : Fit k m d) (hk : k ≤ 60 := by decide) (hm : m ≤ 2 ^ 20 := by decide) : Shw d := by
  refine ⟨f.sh, f.nd, Nat.le_trans f.dep hk, PyData.shown_fits_of_layable0 (B := 13) (by decide) (by decide) ?_ f.short⟩
  have a1 := f.lay
  have a2 : d.depth ≤ 64 := Nat.le_trans f.dep (by omega)
  have a3 : d.weight ≤ 2 ^ 20 := Nat.le_trans f.wt hm
  simp only [PyData.layable0, a1, a2, a3, decide_true, Bool.and_self]
theorem Fit.mono {k k' m m' : Nat} {d : PyData} (f : Fit k m d) (hk : k ≤ k') (hm : m ≤ m') : Fit k' m' d := ⟨f.lay, f.short, Nat.le_trans f.dep hk, Nat.le_trans f.wt hm, f.sh, f.nd⟩
theorem FitAll.mono {k k' m m' : Nat} {d : List PyData} (f : FitAll k m d) (hk : k ≤ k') (hm : m ≤ m') : FitAll k' m' d := ⟨f.lay, f.short, Nat.le_trans f.dep hk, Nat.le_trans f.wt hm, f.sh, f.nd⟩
theorem FitAll.nil {k : Nat} : FitAll k 0 [] := ⟨by simp [PyData.canLayAll0], by simp [PyData.intsShortAll], by simp [PyData.depthAll], by simp [PyData.weightAll], by simp [PyData.showableAll], by simp [PyData.hasDictAll]⟩
theorem FitAll.cons {k m n : Nat} {d : PyData} {ds : List PyData} (f : Fit k m d) (g : FitAll k n ds) : FitAll k (m + 1 + n) (d :: ds) := by
  refine ⟨?_, ?_, ?_, ?_, ?_, ?_⟩
  · simp [PyData.canLayAll0, f.lay, g.lay]
  · simp [PyData.intsShortAll, f.short, g.short]
  · have a := f.dep
    have b := g.dep
    simp only [PyData.depthAll]; omega
  · have a := f.wt
    have b := g.wt
    simp only [PyData.weightAll]; omega
  · simp [PyData.showableAll, f.sh, g.sh]
  · simp [PyData.hasDictAll, f.nd, g.nd]
theorem Fit.list {k m : Nat} {ds : List PyData} (f : FitAll k m ds) : Fit (k + 1) m (.list ds) :=
  ⟨by simpa [PyData.canLay0] using f.lay, by simpa [PyData.intsShort] using f.short, by simpa [PyData.depth] using f.dep, by simpa [PyData.weight] using f.wt, by simpa [PyData.showable] using f.sh, by simpa [PyData.hasDict] using f.nd⟩
theorem Fit.tuple {k m : Nat} {ds : List PyData} (f : FitAll k m ds) : Fit (k + 1) m (.tuple ds) :=
  ⟨by simpa [PyData.canLay0] using f.lay, by simpa [PyData.intsShort] using f.short, by simpa [PyData.depth] using f.dep, by simpa [PyData.weight] using f.wt, by simpa [PyData.showable] using f.sh, by simpa [PyData.hasDict] using f.nd⟩
theorem Fit.int {k : Nat} {i : Int} (h : i.natAbs < 2 ^ 30) : Fit k 31 (.int i) := by
  have lg : i.natAbs.log2 < 30 := by
    rcases Nat.eq_zero_or_pos i.natAbs with z | z
    · rw [z]; decide
    · exact (Nat.log2_lt (by omega)).mpr h
  refine ⟨by simp [PyData.canLay0], ?_, by simp [PyData.depth], ?_, ?_, by simp [PyData.hasDict]⟩
  · simp only [PyData.intsShort, decide_eq_true_eq]
    exact PyData.shown_int_le (by omega)
  · simp only [PyData.weight]
    split <;> omega
  · simp only [PyData.showable, decide_eq_true_eq]
    omega
theorem Fit.bool {k : Nat} (b : Bool) : Fit k 0 (.bool b) := ⟨by simp [PyData.canLay0], by simp [PyData.intsShort], by simp [PyData.depth], by simp [PyData.weight], by simp [PyData.showable], by simp [PyData.hasDict]⟩
theorem Fit.none {k : Nat} : Fit k 0 .none := ⟨by simp [PyData.canLay0], by simp [PyData.intsShort], by simp [PyData.depth], by simp [PyData.weight], by simp [PyData.showable], by simp [PyData.hasDict]⟩
theorem Fit.str {k : Nat} {x : Str} (h : PyData.strOk x = true) : Fit k x.cps.size (.str x) := ⟨by simpa [PyData.canLay0] using h, by simp [PyData.intsShort], by simp [PyData.depth], by simp [PyData.weight], by simp [PyData.showable], by simp [PyData.hasDict]⟩
theorem FitAll.ints {k : Nat} : ∀ {ns : List Int}, (∀ x ∈ ns, x.natAbs < 2 ^ 30) → FitAll k (32 * ns.length) (ns.map PyData.int)
  | [], _ => FitAll.nil
  | n :: ns, h => (FitAll.cons (Fit.int (h n List.mem_cons_self)) (FitAll.ints (ns := ns) fun x hx => h x (List.mem_cons_of_mem _ hx))).mono (Nat.le_refl _) (by simp; omega)
def spEqual (K : PySem.W.Frag) : Sp := fun vs H Q _ => ∃ (p q : Addr) (d e : PyData), vs = [.ref p, .ref q] ∧ Dp K H (.ref p) d ∧ Dp K H (.ref q) e ∧ Shw d ∧ Shw e ∧ Q (.bl (decide (V.str d.shown = V.str e.shown))) H
section
variable {P : Program} {w : World} {K : PySem.W.Frag} {mg : Str → Option Value} {base : Heap} {CShare : Addr}
abbrev st_l_is_equal : Stmt := top 36
theorem sc_l_is_equal : FnScope ["_law_actual", "_law_expected"] ["_law_actual", "_law_expected"] (defScope st_l_is_equal) := ⟨rfl, rfl, rfl, by decide +kernel, rfl, by decide +kernel, by decide +kernel⟩
theorem ok_equal (B : Bn mg) (D : Df K mg "_law_is_equal" st_l_is_equal ["_law_actual", "_law_expected"]) : CalG P w K mg base 2 "_law_is_equal" ["_law_actual", "_law_expected"] (spEqual K) := by
  refine D.calG sc_l_is_equal (fun vs H Q E h => ?_) (fun f cdv A out s H vs Q E gd hr h => ?_)
  · obtain ⟨p, q, d, e, rfl, _⟩ := h
    rfl
  obtain ⟨p, q, d, e, rfl, dp, dq, ⟨a1, a2, a3, a4⟩, ⟨b1, b2, b3, b4⟩, k⟩ := h
  refine ⟨_, (pss_one (ps_ret (pe_cmpR op_eq (pe_callB (call_reprD gd (un66 hr)) (by rfl) B.n_repr (by decide +kernel) (pa_cons (pv 0) pa_nil)) (pe_callB (call_reprD gd (un66 hr)) (by rfl) B.n_repr (by decide +kernel) (pa_cons (pv 1) pa_nil)) (nomark _)))), ?_⟩
  exact ⟨_, rfl, p, d, rfl, dp, a1, a2, a3, a4, _, rfl, q, e, rfl, dq, b1, b2, b3, b4, rfl, k⟩
end
end Pl
namespace Pl
open PySem PySem.Spec PyProof.Rows L2
theorem sqT_same {K : PySem.W.Frag} {H H' : Hp} {a : Addr} {xs : List V} (e : Same H H') (h : SqT K H a xs) : SqT K H' a xs := by
  rcases h with (h | ⟨o, h⟩) | h
  · exact .inl (.inl (e _ _ h))
  · exact .inl (.inr ⟨o, e _ _ h⟩)
  · exact .inr h
mutual
theorem dpSame {K : PySem.W.Frag} {H H' : Hp} (k : Same H H') : ∀ (d : PyData) (v : V), Dp K H v d → Dp K H' v d
  | .none, _, h => by cases h; exact .non
  | .bool b, _, h => by cases h; exact .bl b
  | .int i, _, h => by cases h; exact .int i
  | .str z, _, h => by cases h; exact .str z
  | .list ds, _, h => by
    cases h with
    | lst a b => exact .lst (k.seq a) (dpSameAll k ds _ b)
  | .tuple ds, _, h => by
    cases h with
    | tup a b => exact .tup (sqT_same k a) (dpSameAll k ds _ b)
  | .dict _, _, h => by cases h
theorem dpSameAll {K : PySem.W.Frag} {H H' : Hp} (k : Same H H') : ∀ (ds : List PyData) (vs : List V), DpAll K H vs ds → DpAll K H' vs ds
  | [], _, h => by cases h; exact .nil
  | d :: ds, _, h => by
    cases h with
    | cons a b => exact .cons (dpSame k d _ a) (dpSameAll k ds _ b)
end
end Pl
namespace Pl
open PySem PySem.Spec PyProof.Rows L2
section
variable {P : Program} {w : World} {K : PySem.W.Frag} {mg : Str → Option Value} {base : Heap} {CShare : Addr}
/-- the same values in some order -/
def spMixed (K : PySem.W.Frag) : Sp := fun vs H Q _ => ∃ (a l : Addr) (ns : List Int), vs = [.ref a, .ref l] ∧ Src H a ∧ (SqL K H l (ns.map V.int) ∨ SqT K H l (ns.map V.int)) ∧ (∀ H', Kp a H H' → SqL K H' l (ns.map V.int) ∨ SqT K H' l (ns.map V.int)) ∧ ns.length ≤ 100 ∧
  ∀ (p : Addr) (ms : List Int) (H' : Hp), ms.Perm ns → Src H' a → Kp a H H' → H' p = some (.tup (ms.map V.int)) → Q (.ref p) H'
abbrev st_l_mixed : Stmt := top 39
theorem sc_l_mixed : FnScope ["_law_source_here", "_law_values", "_law_left", "_law_found", "_law_lap"] ["_law_source_here", "_law_values"] (defScope st_l_mixed) := ⟨rfl, rfl, rfl, by decide +kernel, rfl, by decide +kernel, by decide +kernel⟩
theorem ok_mixed (B : Bn mg) (c_l_draw : Cal P w K mg base 2 "_law_draw" ["_law_source_here", "_law_many"] spDraw) (D : Df K mg "_law_mixed" st_l_mixed ["_law_source_here", "_law_values"]) : Cal P w K mg base 3 "_law_mixed" ["_law_source_here", "_law_values"] (spMixed K) := by
  refine D.cal sc_l_mixed (fun vs H Q E h => ?_) (fun f cdv A out s H vs Q E hr h => ?_)
  · obtain ⟨a, l, ns, rfl, _⟩ := h
    rfl
  obtain ⟨a, l, ns, rfl, src, sq, sqk, ln, k⟩ := h
  refine ⟨_, (pss_cons (ps_par (i := 2) (j := 3) (by rfl) sc_l_mixed.nd rfl rfl (by decide) rfl rfl (pa_cons (pe_callTy call_list_of (by rfl) B.n_list (by decide +kernel) (pa_cons (pv 1) pa_nil)) (pa_cons (pe_lst pa_nil) pa_nil)) (by rfl))
   (pss_cons (ps_for PassesOwn.never rfl (pi_range1 (by rfl) B.n_range (pa_cons (pe_callB call_len_seq (by rfl) B.n_len (by decide +kernel) (pa_cons (pv 1) pa_nil)) pa_nil)) (pg_name (i := 4) sc_l_mixed.nd rfl (.inl rfl))
   (pss_one (ps_expr (pe_bm PySem.F.plainAttrs_list PySem.F.slot_list_append PySem.F.type_list_append mt_append (pv 3) (pa_cons (pe_bm PySem.F.plainAttrs_list PySem.F.slot_list_pop PySem.F.type_list_pop mt_popAt (pv 2) (pa_cons (pe_fn c_l_draw (hr.mono (by decide)) (pa_cons (pv 0) (pa_cons (pe_callB call_len_seq (by rfl) B.n_len (by decide +kernel) (pa_cons (pv 2) pa_nil)) pa_nil))) pa_nil)) pa_nil)))))
   (pss_one (ps_ret (pe_callTy call_tuple_of (by rfl) B.n_tuple (by decide +kernel) (pa_cons (pv 3) pa_nil)))))), ?_⟩
  refine ⟨_, rfl, l, _, rfl, sq, fun p hp => ⟨Nat.zero_le _, fun q hq => ⟨_, _, rfl, ?_⟩⟩⟩
  have pq : p ≠ q := fun e => by
    rw [← e, upd_same] at hq
    cases hq
  have hq0 : H q = none := by
    rw [upd_ne pq.symm] at hq
    exact hq
  have pa : p ≠ a := src.ne hp
  have qa : q ≠ a := src.ne hq0
  generalize hH1 : upd (upd H p _) q _ = H1
  have s1 : Src H1 a := by rw [← hH1]; exact (src.upd hp).upd hq
  have k1 : Kp a H H1 := by rw [← hH1]; exact ((Kp.refl a H).new hp).new hq
  have hP : H1 p = some (.lst (ns.map V.int)) := by rw [← hH1, upd_ne pq, upd_same]
  have hQ : H1 q = some (.lst (([] : List Int).map V.int)) := by rw [← hH1, upd_same]; rfl
  refine ⟨_, rfl, l, _, rfl, sqk H1 k1, _, rfl, ?_, ?_, ?_⟩
  · omega
  · rw [List.length_map]; omega
  have tn : (((ns.map V.int).length : Nat) : Int).toNat = ns.length := by rw [List.length_map]; omega
  rw [tn]
  refine for_range (lo := 0) (n := ns.length) (fun i σ H' => ∃ (v : Option V) (ms rest : List Int), σ = [some (.ref a), some (.ref l), some (.ref p), some (.ref q), v] ∧ Src H' a ∧ Kp a H H' ∧ ms.length = i ∧ (ms ++ rest).Perm ns ∧ H' p = some (.lst (rest.map V.int)) ∧ H' q = some (.lst (ms.map V.int)))
    ⟨none, [], ns, rfl, s1, k1, rfl, List.Perm.refl _, hP, hQ⟩ ?_ ?_
  · rintro i σ H2 hi ⟨v, ms, rest, rfl, s2, k2, ml, pm, h2, h3⟩
    have lr : rest.length = ns.length - i := by
      have := pm.length_eq
      rw [List.length_append] at this
      omega
    refine ⟨_, rfl, .inl ⟨rfl, _, SqL.of h3⟩, _, rfl, .inl ⟨rfl, _, SqL.of h2⟩, _, rfl, _, rfl, p, _, rfl, .inl (SqL.of h2), ?_⟩
    refine ⟨a, rest.length, by rw [List.length_map]; rfl, s2, by omega, by omega, fun r H3 r0 r1 s3 k3 => ?_⟩
    have h2' := k3 _ _ pa h2
    have h3' := k3 _ _ qa h3
    have lt : r.toNat < rest.length := by omega
    have e1 : rest[r.toNat]? = some rest[r.toNat] := List.getElem?_eq_getElem lt
    refine ⟨p, _, r, r.toNat, .int rest[r.toNat], rfl, rfl, h2', by omega, by omega, ?_, ?_, ?_⟩
    · rw [List.length_map]
      have z := (ixN_seq (n := rest.length) (i := r) (j := r.toNat) (by unfold ixN; rw [if_pos r0, if_pos (by omega)])).1
      exact z
    · rw [List.getElem?_map, e1]; rfl
    · have q3 : (upd H3 p (.lst ((rest.map V.int).eraseIdx r.toNat))) q = some (.lst (ms.map V.int)) := by rw [upd_ne pq.symm]; exact h3'
      refine ⟨q, _, _, rfl, rfl, q3, size_lt (by rw [List.length_map]; omega), ?_⟩
      refine ⟨_, ms ++ [rest[r.toNat]], rest.eraseIdx r.toNat, rfl, (s3.put pa).put qa, ((k2.trans k3).put hp).put hq0, by simp [ml], perm_erase pm e1, ?_, ?_⟩
      · rw [upd_ne pq, upd_same, map_erase]
      · rw [upd_same, List.map_append]; rfl
  · rintro σ H2 ⟨v, ms, rest, rfl, s2, k2, ml, pm, h2, h3⟩
    have r0 : rest = [] := by
      have := pm.length_eq
      rw [List.length_append] at this
      exact List.length_eq_zero_iff.mp (by omega)
    subst r0
    rw [List.append_nil] at pm
    refine ⟨_, rfl, q, _, rfl, .inl ⟨SqL.of h3, fun z hz => ?_⟩⟩
    exact k z ms _ pm (s2.upd hz) (k2.new hz) upd_same
/-- amounts for as many states come out -/
def OutAm (a : Addr) (n : Nat) (H : Hp) (Q : VK) : Prop := ∀ (p : Addr) (ms : List Int) (H' : Hp), ms.length = n → Am ms → Src H' a → Kp a H H' → H' p = some (.tup (ms.map V.int)) → Q (.ref p) H'
def spCalmed : Sp := fun vs H Q _ => ∃ (a t : Addr) (ns : List Int) (n : Nat), vs = [.ref a, .ref t, .int n] ∧ Src H a ∧ H t = some (.tup (ns.map V.int)) ∧ Am ns ∧ 1 ≤ ns.length ∧ ns.length ≤ 6 ∧ n ≤ 100 ∧ OutAm a ns.length H Q
abbrev st_l_calmed : Stmt := top 38
theorem sc_l_calmed : FnScope ["_law_source_here", "_law_row", "_law_turns", "_law_left", "_law_turn", "_law_low", "_law_high", "_law_step"] ["_law_source_here", "_law_row", "_law_turns"] (defScope st_l_calmed) := ⟨rfl, rfl, rfl, by decide +kernel, rfl, by decide +kernel, by decide +kernel⟩
theorem ok_calmed (B : Bn mg) (c_l_draw : Cal P w K mg base 2 "_law_draw" ["_law_source_here", "_law_many"] spDraw) (c_l_mixed : Cal P w K mg base 3 "_law_mixed" ["_law_source_here", "_law_values"] (spMixed K)) (D : Df K mg "_law_calmed" st_l_calmed ["_law_source_here", "_law_row", "_law_turns"]) : Cal P w K mg base 4 "_law_calmed" ["_law_source_here", "_law_row", "_law_turns"] spCalmed := by
  refine D.cal sc_l_calmed (fun vs H Q E h => ?_) (fun f cdv A out s H vs Q E hr h => ?_)
  · obtain ⟨a, t, ns, n, rfl, _⟩ := h
    rfl
  obtain ⟨a, t, ns, n, rfl, src, ht, am, l1, l6, n100, k⟩ := h
  refine ⟨_, (pss_cons (ps_set (i := 3) sc_l_calmed.nd rfl (.inl rfl) (pe_callTy call_list_of (by rfl) B.n_list (by decide +kernel) (pa_cons (pv 1) pa_nil)))
   (pss_cons (ps_for PassesOwn.never rfl (pi_range1 (by rfl) B.n_range (pa_cons (pv 2) pa_nil)) (pg_name (i := 4) sc_l_calmed.nd rfl (.inl rfl))
   (pss_cons (ps_par (i := 5) (j := 6) (by rfl) sc_l_calmed.nd rfl rfl (by decide) rfl rfl (pa_cons (pe_fn c_l_draw (hr.mono (by decide)) (pa_cons (pv 0) (pa_cons (pe_callB call_len_seq (by rfl) B.n_len (by decide +kernel) (pa_cons (pv 3) pa_nil)) pa_nil))) (pa_cons (pe_fn c_l_draw (hr.mono (by decide)) (pa_cons (pv 0) (pa_cons (pe_callB call_len_seq (by rfl) B.n_len (by decide +kernel) (pa_cons (pv 3) pa_nil)) pa_nil))) pa_nil)) (by rfl))
   (pss_one (ps_if (pt_cmpR op_le (pe_op op_add (pe_ix ix_list (pv 3) (pv 5) (fun _ _ => rfl)) pe_int) (pe_ix ix_list (pv 3) (pv 6) (fun _ _ => rfl)) (nomark _)) (pss_cons (ps_set (i := 7) sc_l_calmed.nd rfl (.inl rfl) (pe_op op_add pe_int (pe_fn c_l_draw (hr.mono (by decide)) (pa_cons (pv 0) (pa_cons (pe_op op_fdiv (pe_op op_sub (pe_ix ix_list (pv 3) (pv 6) (fun _ _ => rfl)) (pe_ix ix_list (pv 3) (pv 5) (fun _ _ => rfl))) pe_int) pa_nil)))))
   (pss_cons (ps_asg (pe_op op_add (pe_ix ix_list (pv 3) (pv 5) (fun _ _ => rfl)) (pv 7)) (pg_sub (pv 3) (pv 5) set_list))
   (pss_one (ps_asg (pe_op op_sub (pe_ix ix_list (pv 3) (pv 6) (fun _ _ => rfl)) (pv 7)) (pg_sub (pv 3) (pv 6) set_list))))) pss_nil))))
   (pss_one (ps_ret (pe_fn c_l_mixed (hr.mono (by decide)) (pa_cons (pv 0) (pa_cons (pv 3) pa_nil))))))), ?_⟩
  refine ⟨_, rfl, t, _, rfl, .inr (SqT.of ht), fun l hl => ?_⟩
  have la : l ≠ a := src.ne hl
  refine ⟨_, rfl, n, rfl, by omega, by omega, ?_⟩
  have tn : ((n : Nat) : Int).toNat = n := by omega
  rw [tn]
  refine for_range (lo := 0) (n := n) (fun i σ H' => ∃ (v4 v5 v6 v7 : Option V) (ms : List Int), σ = [some (.ref a), some (.ref t), some (.int n), some (.ref l), v4, v5, v6, v7] ∧ Src H' a ∧ Kp a H H' ∧ ms.length = ns.length ∧ Am ms ∧ H' l = some (.lst (ms.map V.int)))
    ⟨none, none, none, none, ns, rfl, src.upd hl, (Kp.refl a H).new hl, rfl, am, upd_same⟩ ?_ ?_
  · rintro i σ H1 hi ⟨v4, v5, v6, v7, ms, rfl, s1, k1, ml, am1, h1⟩
    refine ⟨_, rfl, _, rfl, l, _, rfl, .inl (SqL.of h1), a, ms.length, by rw [List.length_map]; rfl, s1, by omega, by omega, fun r1 H2 r10 r11 s2 k2 => ?_⟩
    have h2 := k2 _ _ la h1
    refine ⟨_, rfl, _, rfl, l, _, rfl, .inl (SqL.of h2), a, ms.length, by rw [List.length_map]; rfl, s2, by omega, by omega, fun r2 H3 r20 r21 s3 k3 => ⟨_, _, rfl, ?_⟩⟩
    have h3 := k3 _ _ la h2
    obtain ⟨x1, e1, m1, a1⟩ := at_int r10 r11
    obtain ⟨x2, e2, m2, a2⟩ := at_int r20 r21
    obtain ⟨b10, b11⟩ := am1 _ m1
    obtain ⟨b20, b21⟩ := am1 _ m2
    refine ⟨_, rfl, _, rfl, l, _, _, _, rfl, rfl, SqL.of h3, a1, _, _, rfl, rfl, _, rfl, _, rfl, l, _, _, _, rfl, rfl, SqL.of h3, a2, _, _, rfl, rfl, _, rfl, ?_⟩
    refine ite2 (fun c => ?_) (fun c => ?_)
    · have c2 : x1 + 2 ≤ x2 := of_decide_eq_true c
      refine ⟨_, rfl, _, rfl, _, rfl, l, _, _, _, rfl, rfl, SqL.of h3, a2, _, rfl, _, rfl, l, _, _, _, rfl, rfl, SqL.of h3, a1, _, _, rfl, rfl, _, _, rfl, rfl, ⟨by decide, by decide⟩, ?_⟩
      refine ⟨a, (x2 - x1) / 2, rfl, s3, by omega, by omega, fun r3 H4 r30 r31 s4 k4 => ⟨_, _, rfl, rfl, ?_⟩⟩
      have h4 := k4 _ _ la h3
      refine ⟨_, rfl, _, rfl, l, _, _, _, rfl, rfl, SqL.of h4, a1, _, rfl, _, _, rfl, rfl, _, rfl, _, rfl, l, _, _, r1.toNat, rfl, rfl, h4, ix_of r10 (by rw [List.length_map]; exact r11), ?_⟩
      have em : (ms.map V.int).set r1.toNat (.int (x1 + (1 + r3))) = (ms.set r1.toNat (x1 + (1 + r3))).map V.int := List.map_set.symm
      generalize hH5 : upd H4 l _ = H5
      have h5 : H5 l = some (.lst ((ms.set r1.toNat (x1 + (1 + r3))).map V.int)) := by rw [← hH5, upd_same, ← em]
      have s5 : Src H5 a := by rw [← hH5]; exact s4.put la
      have k5 : Kp a H H5 := by rw [← hH5]; exact (((k1.trans k2).trans k3).trans k4).put hl
      have rr : r1.toNat ≠ r2.toNat := fun z => by
        rw [z, e2] at e1
        have := Option.some.inj e1
        omega
      have ln5 : (ms.set r1.toNat (x1 + (1 + r3))).length = ms.length := List.length_set
      have e5 : (ms.set r1.toNat (x1 + (1 + r3)))[r2.toNat]? = some x2 := by rw [List.getElem?_set_ne rr]; exact e2
      have a5 : atI ((ms.set r1.toNat (x1 + (1 + r3))).map V.int) r2 = some (.int x2) := by
        have z := atI_nat (xs := (ms.set r1.toNat (x1 + (1 + r3))).map V.int) (j := r2.toNat) (v := .int x2) (by rw [List.getElem?_map, e5]; rfl)
        rw [Int.toNat_of_nonneg r20] at z
        exact z
      refine ⟨_, rfl, _, rfl, l, _, _, _, rfl, rfl, SqL.of h5, a5, _, rfl, _, _, rfl, rfl, _, rfl, _, rfl, l, _, _, r2.toNat, rfl, rfl, h5, ix_of r20 (by rw [List.length_map, ln5]; exact r21), ?_⟩
      refine ⟨_, _, _, _, (ms.set r1.toNat (x1 + (1 + r3))).set r2.toNat (x2 - (1 + r3)), rfl, s5.put la, k5.put hl, by rw [List.length_set, ln5, ml], am_set (am_set am1 (by omega) (by omega)) (by omega) (by omega), ?_⟩
      simp only [upd_same, List.map_set]
    · exact ⟨_, _, _, _, ms, rfl, s3, (k1.trans k2).trans k3, ml, am1, h3⟩
  · rintro σ H1 ⟨v4, v5, v6, v7, ms, rfl, s1, k1, ml, am1, h1⟩
    refine ⟨_, rfl, _, rfl, a, l, ms, rfl, s1, .inl (SqL.of h1), fun H' z => .inl (SqL.of (z _ _ la h1)), by omega, fun p ys H2 pm s2 k2 hp => ?_⟩
    exact k p ys H2 (by rw [pm.length_eq, ml]) (fun r hr => am1 r (pm.mem_iff.mp hr)) s2 (k1.trans k2) hp
def spOther : Sp := fun vs H Q _ => ∃ (a t : Addr) (ns : List Int), vs = [.ref a, .ref t] ∧ Src H a ∧ H t = some (.tup (ns.map V.int)) ∧ Am ns ∧ 2 ≤ ns.length ∧ ns.length ≤ 6 ∧ OutAm a ns.length H Q
abbrev st_l_other : Stmt := top 40
theorem sc_l_other : FnScope ["_law_source_here", "_law_row", "_law_way", "_law_left", "_law_one", "_law_two", "_law_at"] ["_law_source_here", "_law_row"] (defScope st_l_other) := ⟨rfl, rfl, rfl, by decide +kernel, rfl, by decide +kernel, by decide +kernel⟩
theorem ok_other (B : Bn mg) (c_l_draw : Cal P w K mg base 2 "_law_draw" ["_law_source_here", "_law_many"] spDraw) (c_l_mixed : Cal P w K mg base 3 "_law_mixed" ["_law_source_here", "_law_values"] (spMixed K)) (c_l_calmed : Cal P w K mg base 4 "_law_calmed" ["_law_source_here", "_law_row", "_law_turns"] spCalmed) (c_l_amounts : Cal P w K mg base 4 "_law_amounts" ["_law_source_here", "_law_many"] spAmounts) (D : Df K mg "_law_other" st_l_other ["_law_source_here", "_law_row"]) : Cal P w K mg base 5 "_law_other" ["_law_source_here", "_law_row"] spOther := by
  refine D.cal sc_l_other (fun vs H Q E h => ?_) (fun f cdv A out s H vs Q E hr h => ?_)
  · obtain ⟨a, t, ns, rfl, _⟩ := h
    rfl
  obtain ⟨a, t, ns, rfl, src, ht, am, l2, l6, k⟩ := h
  have ta : t ≠ a := src.neT ht
  refine ⟨_, (pss_cons (ps_set (i := 2) sc_l_other.nd rfl (.inl rfl) (pe_fn c_l_draw (hr.mono (by decide)) (pa_cons (pv 0) (pa_cons pe_int pa_nil))))
   (pss_cons (ps_if (pt_cmpR op_lt (pv 2) pe_int (nomark _)) (pss_one (ps_ret (pe_fn c_l_calmed (hr.mono (by decide)) (pa_cons (pv 0) (pa_cons (pv 1) (pa_cons (pe_op op_add pe_int (pe_fn c_l_draw (hr.mono (by decide)) (pa_cons (pv 0) (pa_cons pe_int pa_nil)))) pa_nil)))))) pss_nil)
   (pss_cons (ps_if (pt_cmpR op_eq (pv 2) pe_int (nomark _)) (pss_one (ps_ret (pe_fn c_l_mixed (hr.mono (by decide)) (pa_cons (pv 0) (pa_cons (pv 1) pa_nil))))) pss_nil)
   (pss_cons (ps_if (pt_cmpR op_eq (pv 2) pe_int (nomark _)) (pss_cons (ps_par3 (i := 3) (j := 4) (l := 5) (by rfl) sc_l_other.nd rfl rfl rfl (by decide) (by decide) (by decide) rfl rfl rfl (pa_cons (pe_callTy call_list_of (by rfl) B.n_list (by decide +kernel) (pa_cons (pv 1) pa_nil)) (pa_cons (pe_fn c_l_draw (hr.mono (by decide)) (pa_cons (pv 0) (pa_cons (pe_callB call_len_seq (by rfl) B.n_len (by decide +kernel) (pa_cons (pv 1) pa_nil)) pa_nil))) (pa_cons (pe_fn c_l_draw (hr.mono (by decide)) (pa_cons (pv 0) (pa_cons (pe_callB call_len_seq (by rfl) B.n_len (by decide +kernel) (pa_cons (pv 1) pa_nil)) pa_nil))) pa_nil))) (by rfl))
   (pss_cons (ps_if (PW.pt (pw_and (pt_cmpR op_gt (pe_ix ix_list (pv 3) (pv 4) (fun _ _ => rfl)) pe_int (nomark _)) (pw_and1 (pt_cmpR op_lt (pe_ix ix_list (pv 3) (pv 5) (fun _ _ => rfl)) pe_int (nomark _))))) (pss_cons (ps_asg (pe_op op_sub (pe_ix ix_list (pv 3) (pv 4) (fun _ _ => rfl)) pe_int) (pg_sub (pv 3) (pv 4) set_list))
   (pss_one (ps_asg (pe_op op_add (pe_ix ix_list (pv 3) (pv 5) (fun _ _ => rfl)) pe_int) (pg_sub (pv 3) (pv 5) set_list)))) pss_nil)
   (pss_one (ps_ret (pe_callTy call_tuple_of (by rfl) B.n_tuple (by decide +kernel) (pa_cons (pv 3) pa_nil)))))) pss_nil)
   (pss_cons (ps_if (pt_cmpR op_eq (pv 2) pe_int (nomark _)) (pss_cons (ps_par (i := 3) (j := 6) (by rfl) sc_l_other.nd rfl rfl (by decide) rfl rfl (pa_cons (pe_callTy call_list_of (by rfl) B.n_list (by decide +kernel) (pa_cons (pv 1) pa_nil)) (pa_cons (pe_fn c_l_draw (hr.mono (by decide)) (pa_cons (pv 0) (pa_cons (pe_callB call_len_seq (by rfl) B.n_len (by decide +kernel) (pa_cons (pv 1) pa_nil)) pa_nil))) pa_nil)) (by rfl))
   (pss_cons (ps_asg (pe_callB (call_min2 rfl) (by rfl) B.n_min (by decide +kernel) (pa_cons pe_int (pa_cons (pe_op op_add (pe_ix ix_list (pv 3) (pv 6) (fun _ _ => rfl)) pe_int) pa_nil))) (pg_sub (pv 3) (pv 6) set_list))
   (pss_one (ps_ret (pe_fn c_l_mixed (hr.mono (by decide)) (pa_cons (pv 0) (pa_cons (pv 3) pa_nil))))))) pss_nil)
   (pss_one (ps_ret (pe_fn c_l_amounts (hr.mono (by decide)) (pa_cons (pv 0) (pa_cons (pe_callB call_len_seq (by rfl) B.n_len (by decide +kernel) (pa_cons (pv 1) pa_nil)) pa_nil)))))))))), ?_⟩
  refine ⟨_, rfl, a, 6, rfl, src, by decide, by decide, fun way H1 w0 w1 s1 k1 => ?_⟩
  have h1 := k1 _ _ ta ht
  refine ⟨_, rfl, _, _, rfl, rfl, _, rfl, ite2 (fun c => ?_) (fun c => ?_)⟩
  · refine ⟨_, rfl, _, rfl, _, rfl, a, 6, rfl, s1, by decide, by decide, fun r H2 r0 r1 s2 k2 => ⟨_, _, rfl, rfl, ?_⟩⟩
    refine ⟨a, t, ns, (1 + r).toNat, ?_, s2, k2 _ _ ta h1, am, by omega, l6, by omega, fun p ms H3 e am3 s3 k3 hp => k p ms H3 e am3 s3 ((k1.trans k2).trans k3) hp⟩
    have e : (((1 + r).toNat : Nat) : Int) = 1 + r := by omega
    rw [e]
    rfl
  refine ⟨_, rfl, rfl, _, rfl, ite2 (fun c => ?_) (fun c => ?_)⟩
  · refine ⟨_, rfl, _, rfl, a, t, ns, rfl, s1, .inr (SqT.of h1), fun H' z => .inr (SqT.of (z _ _ ta h1)), by omega, fun p ms H2 pm s2 k2 hp => ?_⟩
    exact k p ms H2 pm.length_eq (fun r hr => am r (pm.mem_iff.mp hr)) s2 (k1.trans k2) hp
  refine ⟨_, rfl, rfl, _, rfl, ite2 (fun c => ?_) (fun c => ?_)⟩
  · refine ⟨_, rfl, t, _, rfl, .inr (SqT.of h1), fun l hl => ?_⟩
    have la : l ≠ a := s1.ne hl
    generalize hH2 : upd H1 l _ = H2
    have s2 : Src H2 a := by rw [← hH2]; exact s1.upd hl
    have k2 : Kp a H1 H2 := by rw [← hH2]; exact (Kp.refl a H1).new hl
    have hL : H2 l = some (.lst (ns.map V.int)) := by rw [← hH2, upd_same]
    have ht2 := k2 _ _ ta h1
    have hl0 : H l = none := k1.free la hl
    refine ⟨_, rfl, _, rfl, t, _, rfl, .inr (SqT.of ht2), a, ns.length, by rw [List.length_map]; rfl, s2, by omega, by omega, fun r1 H3 r10 r11 s3 k3 => ?_⟩
    have ht3 := k3 _ _ ta ht2
    refine ⟨_, rfl, _, rfl, t, _, rfl, .inr (SqT.of ht3), a, ns.length, by rw [List.length_map]; rfl, s3, by omega, by omega, fun r2 H4 r20 r21 s4 k4 => ?_⟩
    have hL5 := k4 _ _ la (k3 _ _ la hL)
    have kk : Kp a H H4 := ((k1.trans k2).trans k3).trans k4
    refine ⟨_, _, _, rfl, ?_⟩
    obtain ⟨x1, e1, m1, a1⟩ := at_int r10 r11
    obtain ⟨x2, e2, m2, a2⟩ := at_int r20 r21
    obtain ⟨b10, b11⟩ := am _ m1
    obtain ⟨b20, b21⟩ := am _ m2
    have fin : ∀ (ms : List Int) (H6 : Hp), ms.length = ns.length → Am ms → Src H6 a → Kp a H H6 → H6 l = some (.lst (ms.map V.int)) → ∃ p ys, [V.ref l] = [V.ref p] ∧ ((SqL K H6 p ys ∧ ∀ z, H6 z = none → Q (.ref z) (upd H6 z (.tup ys))) ∨ (SqT K H6 p ys ∧ Q (.ref p) H6)) :=
      fun ms H6 e am6 s6 k6 h6 => ⟨l, _, rfl, .inl ⟨SqL.of h6, fun z hz => k z ms _ e am6 (s6.upd hz) (k6.new hz) upd_same⟩⟩
    refine ⟨_, rfl, _, rfl, l, _, _, _, rfl, rfl, SqL.of hL5, a1, _, _, rfl, rfl, _, rfl, ite2 (fun c1 => ?_) (fun c1 => ?_)⟩
    · have c1' : 0 < x1 := of_decide_eq_true c1
      refine ⟨_, rfl, _, rfl, l, _, _, _, rfl, rfl, SqL.of hL5, a2, _, _, rfl, rfl, _, rfl, ite2 (fun c2 => ?_) (fun c2 => ?_)⟩
      · have c2' : x2 < 30 := of_decide_eq_true c2
        refine ⟨_, rfl, _, rfl, l, _, _, _, rfl, rfl, SqL.of hL5, a1, _, _, rfl, rfl, _, rfl, _, rfl, l, _, _, r1.toNat, rfl, rfl, hL5, ix_of r10 (by rw [List.length_map]; exact r11), ?_⟩
        generalize hH6 : upd H4 l _ = H6
        have h6 : H6 l = some (.lst ((ns.set r1.toNat (x1 - 1)).map V.int)) := by rw [← hH6, upd_same, List.map_set]
        have s6 : Src H6 a := by rw [← hH6]; exact s4.put la
        have k6 : Kp a H H6 := by rw [← hH6]; exact kk.put hl0
        have ln6 : (ns.set r1.toNat (x1 - 1)).length = ns.length := List.length_set
        have am6 : Am (ns.set r1.toNat (x1 - 1)) := am_set am (by omega) (by omega)
        obtain ⟨y2, f2, n2, g2⟩ := at_int (ms := ns.set r1.toNat (x1 - 1)) r20 (by rw [ln6]; exact r21)
        have y30 : 0 ≤ y2 ∧ y2 < 30 := by
          refine ⟨(am6 _ n2).1, ?_⟩
          by_cases rr : r1.toNat = r2.toNat
          · rw [rr, List.getElem?_set_self (by omega)] at f2
            have := Option.some.inj f2
            omega
          · rw [List.getElem?_set_ne rr, e2] at f2
            have := Option.some.inj f2
            omega
        refine ⟨_, rfl, _, rfl, l, _, _, _, rfl, rfl, SqL.of h6, g2, _, _, rfl, rfl, _, rfl, _, rfl, l, _, _, r2.toNat, rfl, rfl, h6, ix_of r20 (by rw [List.length_map, ln6]; exact r21), ?_⟩
        refine ⟨_, rfl, fin ((ns.set r1.toNat (x1 - 1)).set r2.toNat (y2 + 1)) _ (by rw [List.length_set, ln6]) (am_set am6 (by omega) (by omega)) (s6.put la) (k6.put hl0) ?_⟩
        simp only [upd_same, List.map_set]
      · exact ⟨_, rfl, fin ns H4 rfl am s4 kk hL5⟩
    · exact ⟨_, rfl, fin ns H4 rfl am s4 kk hL5⟩
  refine ⟨_, rfl, rfl, _, rfl, ite2 (fun c => ?_) (fun c => ?_)⟩
  · refine ⟨_, rfl, t, _, rfl, .inr (SqT.of h1), fun l hl => ?_⟩
    have la : l ≠ a := s1.ne hl
    generalize hH2 : upd H1 l _ = H2
    have s2 : Src H2 a := by rw [← hH2]; exact s1.upd hl
    have k2 : Kp a H1 H2 := by rw [← hH2]; exact (Kp.refl a H1).new hl
    have hL : H2 l = some (.lst (ns.map V.int)) := by rw [← hH2, upd_same]
    have ht2 := k2 _ _ ta h1
    have hl0 : H l = none := k1.free la hl
    refine ⟨_, rfl, _, rfl, t, _, rfl, .inr (SqT.of ht2), a, ns.length, by rw [List.length_map]; rfl, s2, by omega, by omega, fun r1 H3 r10 r11 s3 k3 => ⟨_, _, rfl, ?_⟩⟩
    have hL3 := k3 _ _ la hL
    obtain ⟨x1, e1, m1, a1⟩ := at_int r10 r11
    obtain ⟨b10, b11⟩ := am _ m1
    refine ⟨_, rfl, _, rfl, l, _, _, _, rfl, rfl, SqL.of hL3, a1, _, _, rfl, rfl, _, _, rfl, _, rfl, _, rfl, l, _, _, r1.toNat, rfl, rfl, hL3, ix_of r10 (by rw [List.length_map]; exact r11), ?_⟩
    generalize hz : (if x1 + 1 < 30 then x1 + 1 else 30) = z
    have z1 : 0 ≤ z ∧ z ≤ 30 := by
      rw [← hz]
      split <;> omega
    have h4 : upd H3 l (.lst ((ns.map V.int).set r1.toNat (.int z))) l = some (.lst ((ns.set r1.toNat z).map V.int)) := by rw [upd_same, List.map_set]
    refine ⟨_, rfl, _, rfl, a, l, ns.set r1.toNat z, rfl, s3.put la, .inl (SqL.of h4), fun H' q => .inl (SqL.of (q _ _ la h4)), by rw [List.length_set]; omega, fun p ms H5 pm s5 k5 hp => ?_⟩
    have am4 : Am (ns.set r1.toNat z) := am_set am z1.1 z1.2
    exact k p ms H5 (by rw [pm.length_eq, List.length_set]) (fun r hr => am4 r (pm.mem_iff.mp hr)) s5 ((((k1.trans k2).trans k3).put hl0).trans k5) hp
  · refine ⟨_, rfl, _, rfl, t, _, rfl, .inr (SqT.of h1), a, ns.length, by rw [List.length_map]; rfl, s1, l2, l6, fun p ms H2 e am2 s2 k2 hp => ?_⟩
    exact k p ms H2 e am2 s2 (k1.trans k2) hp
end
end Pl
namespace Pl
/-! the steps of a path: plain mathematics -/
theorem sum_map_nonneg {f : Int → Int} (h : ∀ x, 0 ≤ f x) : ∀ l : List Int, 0 ≤ (l.map f).sum
  | [] => by simp
  | x :: l => by
    have a := h x
    have b := sum_map_nonneg h l
    simp only [List.map_cons, List.sum_cons]; omega
theorem sum_take_le {f : Int → Int} (h : ∀ x, 0 ≤ f x) (l : List Int) (k : Nat) : ((l.take k).map f).sum ≤ (l.map f).sum := by
  have e : l.map f = (l.take k).map f ++ (l.drop k).map f := by rw [← List.map_append, List.take_append_drop]
  rw [e, List.sum_append]
  have := sum_map_nonneg h (l.drop k)
  omega
theorem perm_sum_map {f : Int → Int} {l m : List Int} (h : l.Perm m) : (l.map f).sum = (m.map f).sum := perm_sum (h.map f)
theorem sum_sub_const (c : Int) : ∀ l : List Int, (l.map fun x => c - x).sum = c * l.length - l.sum
  | [] => by simp
  | x :: l => by
    simp only [List.map_cons, List.sum_cons, List.length_cons, sum_sub_const c l]
    have : ((l.length + 1 : Nat) : Int) = (l.length : Int) + 1 := by omega
    rw [this, Int.mul_add, Int.mul_one]; omega
theorem sum_le_map {f g : Int → Int} : ∀ {l : List Int}, (∀ x ∈ l, f x ≤ g x) → (l.map f).sum ≤ (l.map g).sum
  | [], _ => by simp
  | x :: l, h => by
    have a := h x List.mem_cons_self
    have b := sum_le_map (l := l) fun y hy => h y (List.mem_cons_of_mem _ hy)
    simp only [List.map_cons, List.sum_cons]; omega
theorem sum_map_congr {f g : Int → Int} : ∀ {l : List Int}, (∀ x ∈ l, f x = g x) → (l.map f).sum = (l.map g).sum := fun h => by
  rw [List.map_congr_left h]
theorem sum_zero : ∀ l : List Int, (l.map fun _ => (0 : Int)).sum = 0
  | [] => rfl
  | x :: l => by
    simp only [List.map_cons, List.sum_cons, sum_zero l]; rfl
theorem pairwise_get {s : List Int} (sd : s.Pairwise (· ≤ ·)) {i j : Nat} {x y : Int} (hij : i ≤ j) (hi : s[i]? = some x) (hj : s[j]? = some y) : x ≤ y := by
  rcases Nat.lt_or_eq_of_le hij with h | rfl
  · obtain ⟨a, e1⟩ := List.getElem?_eq_some_iff.mp hi
    obtain ⟨b, e2⟩ := List.getElem?_eq_some_iff.mp hj
    rw [← e1, ← e2]
    exact List.pairwise_iff_getElem.mp sd i j a b h
  · rw [hi] at hj
    rw [Option.some.inj hj]; exact Int.le_refl _
/-- the sum of the k smallest is at most that of any k -/
theorem take_srt_le {v : List Int} {k : Nat} (hk : k ≤ v.length) : ((srt v).take k).sum ≤ (v.take k).sum := by
  cases k with
  | zero => simp
  | succ k =>
    have sl := srt_length v
    obtain ⟨c, ec⟩ : ∃ c, (srt v)[k]? = some c := ⟨(srt v)[k]'(by omega), List.getElem?_eq_getElem (by omega)⟩
    have f0 : ∀ x : Int, 0 ≤ max 0 (c - x) := fun x => by omega
    have h1 : ((v.take (k + 1)).map fun x => c - x).sum ≤ ((v.take (k + 1)).map fun x => max 0 (c - x)).sum := sum_le_map fun x _ => by omega
    have h2 := sum_take_le (f := fun x => max 0 (c - x)) f0 v (k + 1)
    have h3 : (v.map fun x => max 0 (c - x)).sum = ((srt v).map fun x => max 0 (c - x)).sum := (perm_sum_map (srt_perm v)).symm
    have h4 : ((srt v).map fun x => max 0 (c - x)).sum = (((srt v).take (k + 1)).map fun x => c - x).sum := by
      have e : (srt v).map (fun x => max 0 (c - x)) = ((srt v).take (k + 1)).map (fun x => max 0 (c - x)) ++ ((srt v).drop (k + 1)).map (fun x => max 0 (c - x)) := by rw [← List.map_append, List.take_append_drop]
      rw [e, List.sum_append]
      have z : (((srt v).drop (k + 1)).map fun x => max 0 (c - x)).sum = 0 := by
        have : (((srt v).drop (k + 1)).map fun x => max 0 (c - x)).sum = (((srt v).drop (k + 1)).map fun _ => (0 : Int)).sum := sum_map_congr fun x hx => by
          obtain ⟨j, hj, e⟩ := List.getElem_of_mem hx
          have e2 : (srt v)[k + 1 + j]? = some x := by
            rw [← e, List.getElem_drop]
            exact List.getElem?_eq_getElem (by rw [List.length_drop] at hj; omega)
          have := pairwise_get (srt_sorted v) (by omega) ec e2
          omega
        rw [this]
        exact sum_zero _
      have y : (((srt v).take (k + 1)).map fun x => max 0 (c - x)).sum = (((srt v).take (k + 1)).map fun x => c - x).sum := sum_map_congr fun x hx => by
        obtain ⟨j, hj, e⟩ := List.getElem_of_mem hx
        have jl : j < k + 1 := by rw [List.length_take] at hj; omega
        have e2 : (srt v)[j]? = some x := by
          rw [← e, List.getElem_take]
          exact List.getElem?_eq_getElem (by omega)
        have := pairwise_get (srt_sorted v) (show j ≤ k by omega) e2 ec
        omega
      rw [z, y]; omega
    rw [sum_sub_const] at h1
    rw [h3, h4, sum_sub_const] at h2
    have l1 : (v.take (k + 1)).length = k + 1 := by rw [List.length_take]; omega
    have l2 : ((srt v).take (k + 1)).length = k + 1 := by rw [List.length_take]; omega
    rw [l1] at h1
    rw [l2] at h2
    omega
theorem sum_set {f : Int → Int} : ∀ {l : List Int} {i : Nat} {x y : Int}, l[i]? = some x → ((l.set i y).map f).sum = (l.map f).sum - f x + f y
  | [], i, x, y, h => by simp at h
  | z :: l, 0, x, y, h => by
    obtain rfl : z = x := by simpa using h
    simp only [List.set_cons_zero, List.map_cons, List.sum_cons]; omega
  | z :: l, i + 1, x, y, h => by
    have := sum_set (f := f) (l := l) (i := i) (x := x) (y := y) (by simpa using h)
    simp only [List.set_cons_succ, List.map_cons, List.sum_cons, this]; omega
theorem sum_take_set {l : List Int} {i : Nat} {x y : Int} (h : l[i]? = some x) (k : Nat) : ((l.set i y).take k).sum = (l.take k).sum + (if i < k then y - x else 0) := by
  rw [List.take_set]
  by_cases c : i < k
  · have e : (l.take k)[i]? = some x := by rw [List.getElem?_take_of_lt c]; exact h
    have z := sum_set (f := id) (y := y) e
    simp only [List.map_id, id] at z
    rw [z, if_pos c]; omega
  · rw [List.set_eq_of_length_le (by rw [List.length_take]; omega), if_neg c]; omega
/-- the sum of the squares -/
def sq (l : List Int) : Int := (l.map fun x => x * x).sum
/-- p is the first place of difference, q the first behind it with more -/
structure PQ (a b : List Int) (p q : Nat) (x y : Int) : Prop where
  hx : a[p]? = some x
  hy : a[q]? = some y
  lt : p < q
  pd : ∀ z, b[p]? = some z → x ≠ z
  pe : ∀ i, i < p → a[i]? = b[i]?
  qd : ∀ z, b[q]? = some z → z < y
  qe : ∀ i u z, p < i → i < q → a[i]? = some u → b[i]? = some z → u ≤ z
/-- a can become b by steps: ascending both, b at least as calm -/
structure Gd (a b : List Int) : Prop where
  sa : a.Pairwise (· ≤ ·)
  sb : b.Pairwise (· ≤ ·)
  ln : a.length = b.length
  pre : ∀ k, (a.take k).sum ≤ (b.take k).sum
  tot : a.sum = b.sum
  ama : Am a
  amb : Am b
/-- the amounts behind one step -/
def stp (a : List Int) (p q : Nat) (x y : Int) : List Int := srt ((a.set p (x + 1)).set q (y - 1))
theorem PQ.less {a b : List Int} {p q : Nat} {x y : Int} (g : Gd a b) (h : PQ a b p q x y) : ∃ z, b[p]? = some z ∧ x < z := by
  have pl : p < a.length := (List.getElem?_eq_some_iff.mp h.hx).1
  obtain ⟨z, hz⟩ : ∃ z, b[p]? = some z := ⟨b[p]'(by have := g.ln; omega), List.getElem?_eq_getElem _⟩
  refine ⟨z, hz, ?_⟩
  have e : a.take p = b.take p := by
    apply List.ext_getElem?
    intro i
    by_cases c : i < p
    · rw [List.getElem?_take_of_lt c, List.getElem?_take_of_lt c]; exact h.pe i c
    · rw [List.getElem?_take_eq_none (by omega), List.getElem?_take_eq_none (by omega)]
  have q1 := g.pre (p + 1)
  rw [List.take_add_one, List.take_add_one, h.hx, hz, e, List.sum_append, List.sum_append] at q1
  simp at q1
  have := h.pd z hz
  omega
end Pl
namespace Pl
theorem least_nat {Pr : Nat → Prop} [DecidablePred Pr] : ∀ {n : Nat}, Pr n → ∃ m, Pr m ∧ ∀ i, i < m → ¬ Pr i := by
  intro n
  induction n using Nat.strongRecOn with
  | _ n ih =>
    intro h
    by_cases c : ∃ m, m < n ∧ Pr m
    · obtain ⟨m, lt, hm⟩ := c
      exact ih m lt hm
    · exact ⟨n, h, fun i hi hp => c ⟨i, hi, hp⟩⟩
theorem Gd.pq {a b : List Int} (g : Gd a b) (ne : a ≠ b) : ∃ p q x y, PQ a b p q x y := by
  have d : ∃ i, i < a.length ∧ a[i]? ≠ b[i]? := by
    refine Classical.byContradiction fun z => ne ?_
    apply List.ext_getElem?
    intro i
    by_cases c : i < a.length
    · exact Classical.byContradiction fun y => z ⟨i, c, y⟩
    · rw [List.getElem?_eq_none (by omega), List.getElem?_eq_none (by have := g.ln; omega)]
  obtain ⟨i0, hi0⟩ := d
  obtain ⟨p, ⟨pl, pd⟩, pmin⟩ := least_nat (Pr := fun i => i < a.length ∧ a[i]? ≠ b[i]?) hi0
  have ex : a[p]? = some a[p] := List.getElem?_eq_getElem pl
  have pl2 : p < b.length := by have := g.ln; omega
  have ez : b[p]? = some b[p] := List.getElem?_eq_getElem pl2
  have pe : ∀ i, i < p → a[i]? = b[i]? := fun i hi => Classical.byContradiction fun y => pmin i hi ⟨by omega, y⟩
  have e : a.take p = b.take p := by
    apply List.ext_getElem?
    intro i
    by_cases c : i < p
    · rw [List.getElem?_take_of_lt c, List.getElem?_take_of_lt c]; exact pe i c
    · rw [List.getElem?_take_eq_none (by omega), List.getElem?_take_eq_none (by omega)]
  have neq : a[p] ≠ b[p] := fun z => pd (by rw [ex, ez, z])
  have lt : a[p] < b[p] := by
    have q1 := g.pre (p + 1)
    rw [List.take_add_one, List.take_add_one, ex, ez, e, List.sum_append, List.sum_append] at q1
    simp at q1
    omega
  -- somewhere behind p there is more
  have m : ∃ i, p < i ∧ ∃ u z, a[i]? = some u ∧ b[i]? = some z ∧ z < u := by
    refine Classical.byContradiction fun no => ?_
    have le : ∀ k, p + 1 ≤ k → k ≤ a.length → (a.take k).sum + 1 ≤ (b.take k).sum := by
      intro k
      induction k with
      | zero => intro h; omega
      | succ k ih =>
        intro h1 h2
        rw [List.take_add_one, List.take_add_one, List.sum_append, List.sum_append]
        have e1 : a[k]? = some (a[k]'(by omega)) := List.getElem?_eq_getElem _
        have e2 : b[k]? = some (b[k]'(by have := g.ln; omega)) := List.getElem?_eq_getElem _
        rcases Nat.lt_or_eq_of_le h1 with h | h
        · have := ih (by omega) (by omega)
          have c : a[k]'(by omega) ≤ b[k]'(by have := g.ln; omega) := by
            refine Classical.byContradiction fun y => no ⟨k, by omega, _, _, e1, e2, by omega⟩
          rw [e1, e2]
          simp
          omega
        · obtain rfl : p = k := by omega
          rw [e, ex, ez]
          simp
          omega
    have z := le a.length (by omega) (Nat.le_refl _)
    rw [List.take_length, g.ln, List.take_length] at z
    have := g.tot
    omega
  obtain ⟨i1, hi1⟩ := m
  have dec : DecidablePred fun i => p < i ∧ ∃ u z, a[i]? = some u ∧ b[i]? = some z ∧ z < u := fun _ => Classical.propDecidable _
  obtain ⟨q, ⟨ql, u, z, eu, ezz, uz⟩, qmin⟩ := least_nat (Pr := fun i => p < i ∧ ∃ u z, a[i]? = some u ∧ b[i]? = some z ∧ z < u) hi1
  refine ⟨p, q, a[p], u, ex, eu, ql, fun z hz => ?_, pe, fun w hw => ?_, fun i s t h1 h2 h3 h4 => ?_⟩
  · rw [ez] at hz
    rw [← Option.some.inj hz]
    exact neq
  · rw [ezz] at hw
    rw [← Option.some.inj hw]
    exact uz
  · refine Classical.byContradiction fun c => qmin i h2 ⟨h1, s, t, h3, h4, by omega⟩
/-- one step: still on the way, the squares' sum falls -/
theorem PQ.step {a b : List Int} {p q : Nat} {x y : Int} (g : Gd a b) (h : PQ a b p q x y) : Gd (stp a p q x y) b ∧ sq (stp a p q x y) + 2 ≤ sq a ∧ x + 2 ≤ y := by
  obtain ⟨z, hz, xz⟩ := h.less g
  have ql : q < a.length := (List.getElem?_eq_some_iff.mp h.hy).1
  have pl : p < a.length := (List.getElem?_eq_some_iff.mp h.hx).1
  obtain ⟨t, ht⟩ : ∃ t, b[q]? = some t := ⟨b[q]'(by have := g.ln; omega), List.getElem?_eq_getElem _⟩
  have ty := h.qd t ht
  have zt : z ≤ t := pairwise_get g.sb (by have := h.lt; omega) hz ht
  have hy2 : (a.set p (x + 1))[q]? = some y := by rw [List.getElem?_set_ne (by have := h.lt; omega)]; exact h.hy
  have vl : ((a.set p (x + 1)).set q (y - 1)).length = a.length := by simp
  have takes : ∀ k, (((a.set p (x + 1)).set q (y - 1)).take k).sum = (a.take k).sum + (if p < k then 1 else 0) - (if q < k then 1 else 0) := by
    intro k
    rw [sum_take_set hy2, sum_take_set h.hx]
    split <;> split <;> omega
  have mid : ∀ k, p < k → k ≤ q → (a.take k).sum + 1 ≤ (b.take k).sum := by
    intro k
    induction k with
    | zero => intro h1; omega
    | succ k ih =>
      intro h1 h2
      rw [List.take_add_one, List.take_add_one, List.sum_append, List.sum_append]
      have e1 : a[k]? = some (a[k]'(by omega)) := List.getElem?_eq_getElem _
      have e2 : b[k]? = some (b[k]'(by have := g.ln; omega)) := List.getElem?_eq_getElem _
      rcases Nat.lt_or_ge p k with c | c
      · have i1 := ih c (by omega)
        have i2 := h.qe k _ _ c (by omega) e1 e2
        rw [e1, e2]
        simp
        omega
      · obtain rfl : p = k := by omega
        have e : a.take p = b.take p := by
          apply List.ext_getElem?
          intro i
          by_cases c : i < p
          · rw [List.getElem?_take_of_lt c, List.getElem?_take_of_lt c]; exact h.pe i c
          · rw [List.getElem?_take_eq_none (by omega), List.getElem?_take_eq_none (by omega)]
        rw [e, h.hx, hz]
        simp
        omega
  have pre : ∀ k, (((a.set p (x + 1)).set q (y - 1)).take k).sum ≤ (b.take k).sum := by
    intro k
    rw [takes k]
    have g1 := g.pre k
    have hpq := h.lt
    by_cases c1 : p < k
    · by_cases c2 : q < k
      · rw [if_pos c1, if_pos c2]; omega
      · have := mid k c1 (by omega)
        rw [if_pos c1, if_neg c2]; omega
    · rw [if_neg c1, if_neg (by omega)]; omega
  have ama := g.ama
  have amb := g.amb
  have bx := ama x (List.mem_of_getElem? h.hx)
  have by' := ama y (List.mem_of_getElem? h.hy)
  have bz := amb z (List.mem_of_getElem? hz)
  have bt := amb t (List.mem_of_getElem? ht)
  have amv : Am ((a.set p (x + 1)).set q (y - 1)) := am_set (am_set ama (by omega) (by omega)) (by omega) (by omega)
  refine ⟨⟨srt_sorted _, g.sb, by unfold stp; rw [srt_length, vl]; exact g.ln, fun k => ?_, ?_, fun r hr => amv r ((srt_perm _).mem_iff.mp hr), amb⟩, ?_, by omega⟩
  · by_cases c : k ≤ a.length
    · exact Int.le_trans (take_srt_le (by rw [vl]; exact c)) (pre k)
    · have e1 : (stp a p q x y).take k = (stp a p q x y).take a.length := by
        rw [List.take_of_length_le (by unfold stp; rw [srt_length, vl]; omega), List.take_of_length_le (by unfold stp; rw [srt_length, vl]; omega)]
      have e2 : b.take k = b.take a.length := by rw [List.take_of_length_le (by have := g.ln; omega), List.take_of_length_le (by have := g.ln; omega)]
      rw [e1, e2]
      exact Int.le_trans (take_srt_le (by rw [vl]; exact Nat.le_refl _)) (pre _)
  · have e : (stp a p q x y).sum = ((a.set p (x + 1)).set q (y - 1)).sum := perm_sum (srt_perm _)
    have z := takes a.length
    rw [List.take_of_length_le (by rw [vl]; exact Nat.le_refl _), List.take_length, if_pos pl, if_pos ql] at z
    rw [e, z, ← g.tot]; omega
  · have e : sq (stp a p q x y) = sq ((a.set p (x + 1)).set q (y - 1)) := perm_sum_map (srt_perm _)
    have z1 := sum_set (f := fun x => x * x) (y := y - 1) hy2
    have z2 := sum_set (f := fun x => x * x) (y := x + 1) h.hx
    have z3 : sq ((a.set p (x + 1)).set q (y - 1)) = sq a - x * x + (x + 1) * (x + 1) - y * y + (y - 1) * (y - 1) := by
      unfold sq
      rw [z1, z2]
    have a1 : (x + 1) * (x + 1) = x * x + 2 * x + 1 := by rw [Int.add_mul, Int.mul_add]; omega
    have a2 : (y - 1) * (y - 1) = y * y - 2 * y + 1 := by rw [Int.sub_mul, Int.mul_sub]; omega
    rw [e, z3, a1, a2]
    omega
theorem PQ.uniq {a b : List Int} {p q p' q' : Nat} {x y x' y' : Int} (ln : a.length = b.length) (h : PQ a b p q x y) (h' : PQ a b p' q' x' y') : p = p' ∧ q = q' ∧ x = x' ∧ y = y' := by
  have pp : p = p' := by
    have g1 : ∀ {p q p' q' : Nat} {x y x' y' : Int}, PQ a b p q x y → PQ a b p' q' x' y' → ¬ p < p' := by
      intro p q p' q' x y x' y' k k' c
      have e := k'.pe p c
      rw [k.hx] at e
      exact k.pd x e.symm rfl
    have a1 := g1 h h'
    have a2 := g1 h' h
    omega
  subst pp
  have qq : q = q' := by
    have g1 : ∀ {q q' : Nat} {x y x' y' : Int}, PQ a b p q x y → PQ a b p q' x' y' → ¬ q < q' := by
      intro q q' x y x' y' k k' c
      have ql : q < a.length := (List.getElem?_eq_some_iff.mp k.hy).1
      have ht : b[q]? = some (b[q]'(by omega)) := List.getElem?_eq_getElem _
      have a1 := k.qd _ ht
      have a2 := k'.qe q _ _ k.lt c k.hy ht
      omega
    have a1 := g1 h h'
    have a2 := g1 h' h
    omega
  subst qq
  refine ⟨rfl, rfl, ?_, ?_⟩
  · have := h.hx.symm.trans h'.hx
    exact Option.some.inj this
  · have := h.hy.symm.trans h'.hy
    exact Option.some.inj this
end Pl
namespace Pl
open PySem PySem.Spec PyProof.Rows L2
noncomputable def nxt (a b : List Int) : List Int := Classical.epsilon fun c => ∃ p q x y, PQ a b p q x y ∧ c = stp a p q x y
theorem nxt_eq {a b : List Int} {p q : Nat} {x y : Int} (ln : a.length = b.length) (h : PQ a b p q x y) : nxt a b = stp a p q x y := by
  obtain ⟨p', q', x', y', h', e⟩ := Classical.epsilon_spec (p := fun c => ∃ p q x y, PQ a b p q x y ∧ c = stp a p q x y) ⟨_, p, q, x, y, h, rfl⟩
  obtain ⟨rfl, rfl, rfl, rfl⟩ := h.uniq ln h'
  exact e
/-- the amounts behind k steps -/
noncomputable def it (a b : List Int) : Nat → List Int
  | 0 => a
  | k + 1 => nxt (it a b k) b
/-- b is reached with the k-th step, not earlier -/
def Fin (a b : List Int) (k : Nat) : Prop := it a b k = b ∧ ∀ j, j < k → it a b j ≠ b
theorem Fin.uniq {a b : List Int} {k k' : Nat} (h : Fin a b k) (h' : Fin a b k') : k = k' := by
  rcases Nat.lt_trichotomy k k' with c | c | c
  · exact absurd h.1 (h'.2 k c)
  · exact c
  · exact absurd h'.1 (h.2 k' c)
theorem gd_it {a b : List Int} (g : Gd a b) : ∀ k, (∀ j, j < k → it a b j ≠ b) → Gd (it a b k) b ∧ sq (it a b k) + 2 * k ≤ sq a
  | 0, _ => ⟨g, by show sq a + 2 * 0 ≤ sq a; omega⟩
  | k + 1, h => by
    obtain ⟨g1, s1⟩ := gd_it g k fun j hj => h j (by omega)
    obtain ⟨p, q, x, y, pq⟩ := g1.pq (h k (by omega))
    obtain ⟨g2, s2, _⟩ := pq.step g1
    have e : it a b (k + 1) = stp (it a b k) p q x y := nxt_eq g1.ln pq
    rw [e]
    refine ⟨g2, ?_⟩
    have : ((k + 1 : Nat) : Int) = (k : Int) + 1 := by omega
    rw [this]; omega
theorem sq_nonneg (l : List Int) : 0 ≤ sq l := sum_map_nonneg (fun x => by
  rcases Int.le_total 0 x with h | h
  · exact Int.mul_nonneg h h
  · have := Int.mul_nonneg (show 0 ≤ -x by omega) (show 0 ≤ -x by omega)
    rwa [Int.neg_mul_neg] at this) l
theorem sq_le {l : List Int} (am : Am l) : sq l ≤ 900 * l.length := by
  have gen : ∀ l : List Int, (∀ x ∈ l, 0 ≤ x ∧ x ≤ 30) → sq l ≤ 900 * l.length := by
    intro l
    induction l with
    | nil => intro _; simp [sq]
    | cons x l ih =>
      intro h
      have a := h x List.mem_cons_self
      have b := ih fun y hy => h y (List.mem_cons_of_mem _ hy)
      have c : x * x ≤ 900 := by
        have := Int.mul_le_mul a.2 a.2 a.1 (by decide)
        simpa using this
      simp only [sq, List.map_cons, List.sum_cons, List.length_cons] at b ⊢
      have : ((l.length + 1 : Nat) : Int) = (l.length : Int) + 1 := by omega
      rw [this]; omega
  exact gen l am
theorem it_few {a b : List Int} (g : Gd a b) (l6 : a.length ≤ 6) {k : Nat} (h : ∀ j, j < k → it a b j ≠ b) : k ≤ 2700 := by
  have s1 := (gd_it g k h).2
  have s2 := sq_nonneg (it a b k)
  have s3 := sq_le g.ama
  omega
/-- the steps as data -/
noncomputable def dStep (a b : List Int) (j : Nat) : PyData := .tuple ((it a b j).map PyData.int)
noncomputable def dSteps (a b : List Int) (k : Nat) : List PyData := (List.range (k + 1)).map (dStep a b)
theorem dSteps_succ (a b : List Int) (k : Nat) : dSteps a b (k + 1) = dSteps a b k ++ [dStep a b (k + 1)] := by
  unfold dSteps
  rw [List.range_succ, List.map_append]
  rfl
theorem dpAll_snoc {K : PySem.W.Frag} {H : Hp} {v : V} {d : PyData} : ∀ {vs : List V} {ds : List PyData}, DpAll K H vs ds → Dp K H v d → DpAll K H (vs ++ [v]) (ds ++ [d])
  | _, _, .nil, h => .cons h .nil
  | _, _, .cons a b, h => .cons a (dpAll_snoc b h)
/-- the first n of the values are tuples that stand in the heap -/
def TupI (H : Hp) (vs : List V) (f : Nat → List Int) (n : Nat) : Prop := ∀ i, i < n → ∃ t, vs[i]? = some (.ref t) ∧ H t = some (.tup ((f i).map V.int))
theorem TupI.same {H H' : Hp} {vs : List V} {f : Nat → List Int} {n : Nat} (h : TupI H vs f n) (k : Same H H') : TupI H' vs f n := fun i hi => by
  obtain ⟨t, e, ht⟩ := h i hi
  exact ⟨t, e, k _ _ ht⟩
theorem TupI.put {H : Hp} {l : Addr} {ys : List V} {o : HO} {vs : List V} {f : Nat → List Int} {n : Nat} (h : TupI H vs f n) (hl : H l = some (.lst ys)) : TupI (L2.upd H l o) vs f n := fun i hi => by
  obtain ⟨t, e, ht⟩ := h i hi
  exact ⟨t, e, by rw [upd_ne (ne_of ht hl (by intro z; cases z))]; exact ht⟩
theorem TupI.snoc {H : Hp} {u : Addr} {vs : List V} {f : Nat → List Int} {n : Nat} (h : TupI H vs f n) (hn : vs.length = n) (hu : H u = some (.tup ((f n).map V.int))) : TupI H (vs ++ [.ref u]) f (n + 1) := fun i hi => by
  rcases Nat.lt_or_eq_of_le (Nat.le_of_lt_succ hi) with z | z
  · obtain ⟨t, e, ht⟩ := h i z
    exact ⟨t, by rw [List.getElem?_append_left (by omega)]; exact e, ht⟩
  · subst z
    exact ⟨u, by rw [List.getElem?_append_right (by omega), hn]; simp, hu⟩
/-- the steps so far stand in the list at l -/
def SInv (K : PySem.W.Frag) (l : Addr) (a b : List Int) (H0 : Hp) (k : Nat) (H : Hp) : Prop :=
  Same H0 H ∧ (∀ j, j < k → it a b j ≠ b) ∧ ∃ (pre : List V) (r : Addr), pre.length = k ∧ H l = some (.lst (pre ++ [.ref r])) ∧ H r = some (.tup ((it a b k).map V.int)) ∧ DpAll K H (pre ++ [.ref r]) (dSteps a b k) ∧ TupI H (pre ++ [.ref r]) (it a b) (k + 1)
def spAsc (C : Addr) : Sp := fun vs H Q _ => ∃ (s t : Addr) (ns : List Int), vs = [.ref s] ∧ ShAt C H s t ns ∧ ∀ (p : Addr) (H' : Hp), Same H H' → H' p = some (.tup ((srt ns).map V.int)) → Q (.ref p) H'
def spMoved : Sp := fun vs H Q _ => ∃ (t : Addr) (a : List Int) (p q : Nat) (x y : Int), vs = [.ref t, .int p, .int q] ∧ H t = some (.tup (a.map V.int)) ∧ a.length ≤ 6 ∧ a[p]? = some x ∧ a[q]? = some y ∧ p ≠ q ∧
  ∀ (u : Addr) (H' : Hp), Same H H' → H' u = some (.tup ((stp a p q x y).map V.int)) → Q (.ref u) H'
def spToward : Sp := fun vs H Q _ => ∃ (t1 t2 : Addr) (a b : List Int), vs = [.ref t1, .ref t2] ∧ H t1 = some (.tup (a.map V.int)) ∧ H t2 = some (.tup (b.map V.int)) ∧ a.length ≤ 6 ∧ Gd a b ∧ a ≠ b ∧
  ∀ (u : Addr) (H' : Hp), Same H H' → H' u = some (.tup ((nxt a b).map V.int)) → Q (.ref u) H'
def spBetween (K : PySem.W.Frag) : Sp := fun vs H Q _ => ∃ (t1 t2 : Addr) (a b : List Int), vs = [.ref t1, .ref t2] ∧ H t1 = some (.tup (a.map V.int)) ∧ H t2 = some (.tup (b.map V.int)) ∧ a.length ≤ 6 ∧ Gd a b ∧
  ∀ (p : Addr) (k : Nat) (ws : List V) (H' : Hp), Same H H' → Fin a b k → k ≤ 2700 → H' p = some (.tup ws) → ws.length = k + 1 → TupI H' ws (it a b) (k + 1) → Dp K H' (.ref p) (.tuple (dSteps a b k)) → Q (.ref p) H'
section
variable {P : Program} {w : World} {K : PySem.W.Frag} {mg : Str → Option Value} {base : Heap} {CShare : Addr}
abbrev st_ascending : Stmt := top 23
theorem sc_ascending : FnScope ["share"] ["share"] (defScope st_ascending) := ⟨rfl, rfl, rfl, by decide +kernel, rfl, by decide +kernel, by decide +kernel⟩
theorem ok_asc (B : Bn mg) (SShare : ShK K mg CShare) (p_amounts : PCal P w K mg base 2 CShare "amounts" ["self"] (getSp CShare "by_state")) (D : Df K mg "ascending" st_ascending ["share"]) : Cal P w K mg base 4 "ascending" ["share"] (spAsc CShare) := by
  refine D.cal sc_ascending (fun vs H Q E h => ?_) (fun f cdv A out s H vs Q E hr h => ?_)
  · obtain ⟨s, t, ns, rfl, _⟩ := h
    rfl
  obtain ⟨s, t, ns, rfl, ⟨⟨dx, h1⟩, h2, _, l6, _⟩, k⟩ := h
  refine ⟨_, (pss_one (ps_ret (pe_callTy call_tuple_of (by rfl) B.n_tuple (by decide +kernel) (pa_cons (pe_callB call_sortedT (by rfl) B.n_sorted (by decide +kernel) (pa_cons (pe_pr p_amounts SShare.cl (hr.mono (by decide)) (pv 0)) pa_nil)) pa_nil)))), ?_⟩
  refine ⟨_, rfl, s, dx, _, rfl, h1, s, dx, _, _, rfl, h1, shF_get t, t, ns, rfl, SqT.of h2, by omega, fun ys l pm sd hl => ?_⟩
  obtain rfl := srt_of pm sd
  exact ⟨l, _, rfl, .inl ⟨SqL.of upd_same, fun q hq => k q _ (same_new (same_new (Same.refl H) hl) hq) upd_same⟩⟩
abbrev st_moved : Stmt := top 24
theorem sc_moved : FnScope ["amounts", "low", "high", "after"] ["amounts", "low", "high"] (defScope st_moved) := ⟨rfl, rfl, rfl, by decide +kernel, rfl, by decide +kernel, by decide +kernel⟩
theorem ok_moved (B : Bn mg) (D : Df K mg "moved" st_moved ["amounts", "low", "high"]) : Cal P w K mg base 2 "moved" ["amounts", "low", "high"] spMoved := by
  refine D.cal sc_moved (fun vs H Q E h => ?_) (fun f cdv A out s H vs Q E hr h => ?_)
  · obtain ⟨t, a, p, q, x, y, rfl, _⟩ := h
    rfl
  obtain ⟨t, a, p, q, x, y, rfl, ht, l6, hx, hy, pq, k⟩ := h
  have pl : p < a.length := (List.getElem?_eq_some_iff.mp hx).1
  have ql : q < a.length := (List.getElem?_eq_some_iff.mp hy).1
  refine ⟨_, (pss_cons (ps_set (i := 3) sc_moved.nd rfl (.inl rfl) (pe_callTy call_list_of (by rfl) B.n_list (by decide +kernel) (pa_cons (pv 0) pa_nil)))
   (pss_cons (ps_augS (pv 3) (pv 2) get_list pe_int ip_sub set_list)
   (pss_cons (ps_augS (pv 3) (pv 1) get_list pe_int ip_add set_list)
   (pss_one (ps_ret (pe_callTy call_tuple_of (by rfl) B.n_tuple (by decide +kernel) (pa_cons (pe_callB cr_sorted (by rfl) B.n_sorted (by decide +kernel) (pa_cons (pv 3) pa_nil)) pa_nil))))))), ?_⟩
  refine ⟨_, rfl, t, _, rfl, .inr (SqT.of ht), fun l hl => ?_⟩
  refine ⟨_, rfl, _, rfl, l, _, _, .int y, rfl, rfl, SqL.of upd_same, by omega, by rw [Int.toNat_natCast, List.getElem?_map, hy]; rfl, _, _, rfl, rfl, l, _, _, q, rfl, rfl, upd_same, ?_, ?_⟩
  · rw [List.length_map, ix_of (by omega) (by omega), Int.toNat_natCast]
  have e1 : (a.map V.int).set q (.int (y - 1)) = (a.set q (y - 1)).map V.int := List.map_set.symm
  generalize hH1 : upd (upd H l _) l _ = H1
  have h1 : H1 l = some (.lst ((a.set q (y - 1)).map V.int)) := by rw [← hH1, upd_same, ← e1]
  have s1 : Same H H1 := by rw [← hH1]; exact same_put (same_new (Same.refl H) hl) hl
  have hx1 : (a.set q (y - 1))[p]? = some x := by rw [List.getElem?_set_ne pq.symm]; exact hx
  refine ⟨_, rfl, _, rfl, l, _, _, .int x, rfl, rfl, SqL.of h1, by omega, by rw [Int.toNat_natCast, List.getElem?_map, hx1]; rfl, _, _, rfl, rfl, l, _, _, p, rfl, rfl, h1, ?_, ?_⟩
  · rw [List.length_map, List.length_set, ix_of (by omega) (by omega), Int.toNat_natCast]
  have e2 : upd H1 l (.lst (((a.set q (y - 1)).map V.int).set p (.int (x + 1)))) l = some (.lst (((a.set p (x + 1)).set q (y - 1)).map V.int)) := by
    rw [upd_same, List.set_comm _ _ pq]
    simp only [List.map_set]
  refine ⟨_, rfl, l, _, rfl, SqL.of e2, by simp; omega, fun ys u pm sd hu => ?_⟩
  obtain rfl := srt_of pm sd
  exact ⟨u, _, rfl, .inl ⟨SqL.of upd_same, fun z hz => k z _ (same_new (same_new (same_put s1 hl) hu) hz) upd_same⟩⟩
theorem sqT_put {K : PySem.W.Frag} {H : Hp} {a l : Addr} {xs ys : List V} {o : HO} (h : SqT K H a xs) (hl : H l = some (.lst ys)) : SqT K (L2.upd H l o) a xs := by
  rcases h with (h | ⟨ob, h⟩) | h
  · exact .inl (.inl (by rw [upd_ne (ne_of h hl (by intro z; cases z))]; exact h))
  · exact .inl (.inr ⟨ob, by rw [upd_ne (ne_of h hl (by intro z; cases z))]; exact h⟩)
  · exact .inr h
theorem dpIntsAny {K : PySem.W.Frag} {H H' : Hp} : ∀ (ns : List Int) (xs : List V), DpAll K H xs (ns.map PyData.int) → DpAll K H' xs (ns.map PyData.int)
  | [], _, h => by cases h; exact .nil
  | n :: ns, _, h => by
    cases h with
    | cons a b => cases a; exact .cons (.int n) (dpIntsAny ns _ b)
theorem dpAllPut {K : PySem.W.Frag} {H : Hp} {l : Addr} {ys : List V} {o : HO} {a b : List Int} (hl : H l = some (.lst ys)) : ∀ (js : List Nat) (vs : List V), DpAll K H vs (js.map (dStep a b)) → DpAll K (L2.upd H l o) vs (js.map (dStep a b))
  | [], _, h => by cases h; exact .nil
  | j :: js, _, h => by
    cases h with
    | cons d r =>
      refine .cons ?_ (dpAllPut hl js _ r)
      have d2 : Dp K H _ (.tuple ((it a b j).map PyData.int)) := d
      cases d2 with
      | tup s i => exact .tup (sqT_put s hl) (dpIntsAny _ _ i)
theorem size_lt' {n : Nat} (h : n ≤ 10000) : n < sizeLine := Nat.lt_of_le_of_lt h (by decide)
theorem shapedTup (ns : List Int) : SeqAt.shaped (.tuple (ns.map PyData.int)) = true := by
  show (PyData.canLay0 (.tuple (ns.map PyData.int)) && decide (PyData.depth (.tuple (ns.map PyData.int)) ≤ 64)) = true
  simp only [PyData.canLay0, PyData.depth, layInts, depthInts]
  decide
/-- the places that pass a test, of which the first is p -/
def FstI (D : Addr) (H0 : Hp) (p : Nat) (i : Nat) (H : Hp) : Prop := Same H0 H ∧ ∃ js : List Int, js.length ≤ i ∧ H D = some (.lst (js.map V.int)) ∧ (i ≤ p → js = []) ∧ (p < i → ∃ r, js = (p : Int) :: r)
theorem FstI.start {D : Addr} {H0 : Hp} {p : Nat} (h : H0 D = none) : FstI D H0 p 0 (L2.upd H0 D (.lst [])) := ⟨same_new (Same.refl H0) h, [], Nat.le_refl _, upd_same, fun _ => rfl, fun z => by omega⟩
theorem FstI.no {D : Addr} {H0 H : Hp} {p i : Nat} (q : FstI D H0 p i H) (ne : i ≠ p) : FstI D H0 p (i + 1) H := by
  obtain ⟨s, js, l, h, a, b⟩ := q
  exact ⟨s, js, by omega, h, fun z => a (by omega), fun z => b (by omega)⟩
theorem FstI.yes {D : Addr} {H0 H : Hp} {p i : Nat} (q : FstI D H0 p i H) (h0 : H0 D = none) (le : p ≤ i) (few : i ≤ 100) : ∃ acc, H D = some (.lst acc) ∧ acc.length < sizeLine ∧ FstI D H0 p (i + 1) (L2.upd H D (.lst (acc ++ [.int i]))) := by
  obtain ⟨s, js, l, h, a, b⟩ := q
  refine ⟨_, h, size_lt (by rw [List.length_map]; omega), same_put s h0, js ++ [(i : Int)], by simp; omega, by rw [upd_same, List.map_append]; rfl, fun z => by omega, fun _ => ?_⟩
  rcases Nat.lt_or_eq_of_le le with c | c
  · obtain ⟨r, e⟩ := b c
    exact ⟨r ++ [(i : Int)], by rw [e]; rfl⟩
  · have e := a (by omega)
    exact ⟨[], by rw [e, c]; rfl⟩
theorem FstI.fst {D : Addr} {H0 H : Hp} {p n : Nat} (q : FstI D H0 p n H) (lt : p < n) : ∃ xs : List V, H D = some (.lst xs) ∧ atI xs 0 = some (.int p) := by
  obtain ⟨s, js, l, h, a, b⟩ := q
  obtain ⟨r, e⟩ := b lt
  refine ⟨_, h, ?_⟩
  rw [e]
  exact atI_nat (j := 0) rfl
theorem rg_at {n i : Nat} {x : V} (h : (rgV 0 n)[i]? = some x) : i < n ∧ x = .int i := by
  have l := (List.getElem?_eq_some_iff.mp h).1
  rw [rgV_length] at l
  have lt : i < n := by omega
  refine ⟨lt, ?_⟩
  have e : (((n : Nat) : Int) - 0).toNat = n := by omega
  simp only [rgV, e, List.getElem?_map, List.getElem?_range lt] at h
  have := Option.some.inj h
  rw [← this]
  show V.int (0 + (i : Int)) = V.int i
  rw [Int.zero_add]
abbrev st_step_towards : Stmt := top 26
theorem sc_step_towards : FnScope ["now", "goal", "places", "low", "high", "at"] ["now", "goal"] (defScope st_step_towards) := ⟨rfl, rfl, rfl, by decide +kernel, rfl, by decide +kernel, by decide +kernel⟩
theorem ok_toward (B : Bn mg) (c_moved : Cal P w K mg base 2 "moved" ["amounts", "low", "high"] spMoved) (D : Df K mg "step_towards" st_step_towards ["now", "goal"]) : Cal P w K mg base 3 "step_towards" ["now", "goal"] spToward := by
  refine D.cal sc_step_towards (fun vs H Q E h => ?_) (fun f cdv A out s H vs Q E hr h => ?_)
  · obtain ⟨t1, t2, a, b, rfl, _⟩ := h
    rfl
  obtain ⟨t1, t2, a, b, rfl, h1, h2, l6, g, ne, k⟩ := h
  obtain ⟨p, q, x, y, pq⟩ := g.pq ne
  have ln := g.ln
  have pl : p < a.length := (List.getElem?_eq_some_iff.mp pq.hx).1
  have ql : q < a.length := (List.getElem?_eq_some_iff.mp pq.hy).1
  rw [nxt_eq ln pq] at k
  refine ⟨_, (pss_cons (ps_set (i := 2) sc_step_towards.nd rfl (.inl rfl) (pe_listRg rfl (by rfl) B.n_list (prg_1 (by rfl) B.n_range (pe_callB call_len_seq (by rfl) B.n_len (by decide +kernel) (pa_cons (pv 0) pa_nil)))))
   (pss_cons (ps_set (i := 3) sc_step_towards.nd rfl (.inr rfl) (pe_ix ix_list (pe_lc (own := [("at", 5)]) (g := gName 5) rfl sc_step_towards.nd (pi_list (pv 2)) (blkOk_by (N := ["now", "goal", "places", "low", "high", "at"]) (sc := defScope st_step_towards) (by decide +kernel)) (fun _ _ _ _ _ => (pg_name (i := 5) sc_step_towards.nd rfl (.inl rfl))) (fun _ _ _ _ _ => (pts_one (pt_cmpR op_ne (pe_ix (show IxR _ (rIxT K) from ix_tup) (pv 0) (pv 5) (fun _ _ => rfl)) (pe_ix (show IxR _ (rIxT K) from ix_tup) (pv 1) (pv 5) (fun _ _ => rfl)) (nomark _)))) (fun _ _ _ _ _ => (pv 5))) pe_int (fun _ _ => rfl)))
   (pss_cons (ps_set (i := 4) sc_step_towards.nd rfl (.inl rfl) (pe_ix ix_list (pe_lc (own := [("at", 5)]) (g := gName 5) rfl sc_step_towards.nd (pi_list (pv 2)) (blkOk_by (N := ["now", "goal", "places", "low", "high", "at"]) (sc := defScope st_step_towards) (by decide +kernel)) (fun _ _ _ _ _ => (pg_name (i := 5) sc_step_towards.nd rfl (.inl rfl))) (fun _ _ _ _ _ => (pts_one (PW.pt (pw_and (pt_cmpR op_gt (pv 5) (pv 3) (nomark _)) (pw_and1 (pt_cmpR op_gt (pe_ix (show IxR _ (rIxT K) from ix_tup) (pv 0) (pv 5) (fun _ _ => rfl)) (pe_ix (show IxR _ (rIxT K) from ix_tup) (pv 1) (pv 5) (fun _ _ => rfl)) (nomark _))))))) (fun _ _ _ _ _ => (pv 5))) pe_int (fun _ _ => rfl)))
   (pss_one (ps_ret (pe_fn c_moved (hr.mono (by decide)) (pa_cons (pv 0) (pa_cons (pv 3) (pa_cons (pv 4) pa_nil))))))))), ?_⟩
  refine ⟨_, rfl, t1, _, rfl, .inr (SqT.of h1), _, rfl, RgOk.of_le (by omega) (by rw [List.length_map]; omega) (by omega) (by omega), fun l hl => ?_⟩
  rw [List.length_map]
  generalize hH1 : upd H l _ = H1
  have k1 : Same H H1 := by rw [← hH1]; exact same_new (Same.refl H) hl
  have hl1 : H1 l = some (.lst (rgV 0 a.length)) := by rw [← hH1, upd_same]
  have rl : (rgV 0 (a.length : Int)).length = a.length := by rw [rgV_length]; omega
  have at1 : ∀ {i : Nat} {H' : Hp}, i < a.length → atI (a.map V.int) (i : Int) = some (.int (a[i]?.getD 0)) := fun {i _} hi => atI_nat (by rw [List.getElem?_map, List.getElem?_eq_getElem hi]; rfl)
  have at2 : ∀ {i : Nat} {H' : Hp}, i < a.length → atI (b.map V.int) (i : Int) = some (.int (b[i]?.getD 0)) := fun {i _} hi => atI_nat (by rw [List.getElem?_map, List.getElem?_eq_getElem (by omega)]; rfl)
  refine ⟨_, rfl, l, rfl, ⟨_, SqL.of hl1⟩, fun D hD => lc_list (K := K) (a := l) (xs := rgV 0 a.length) (FstI D H1 p) (FstI.start hD) (fun i H' _ q => SqL.of (q.1 _ _ hl1)) (fun i x' H' hx' fi => ?_) (fun H2 f2 => ?_)⟩
  · obtain ⟨il, rfl⟩ := rg_at hx'
    refine ⟨rfl, _, rfl, _, rfl, t1, _, _, _, rfl, rfl, SqT.of (fi.1 _ _ (k1 _ _ h1)), at1 (H' := H') il, _, rfl, _, rfl, t2, _, _, _, rfl, rfl, SqT.of (fi.1 _ _ (k1 _ _ h2)), at2 (H' := H') il, rfl, _, rfl, ?_⟩
    have ea : a[i]? = some (a[i]?.getD 0) := by rw [List.getElem?_eq_getElem il]; rfl
    have eb : b[i]? = some (b[i]?.getD 0) := by rw [List.getElem?_eq_getElem (show i < b.length by omega)]; rfl
    refine ite2 (fun c => ?_) (fun c => ?_)
    · refine ⟨_, rfl, fi.yes hD ?_ (by omega)⟩
      refine Classical.byContradiction fun z => ?_
      have e := pq.pe i (by omega)
      rw [e] at c
      simp at c
    · refine fi.no fun z => ?_
      subst z
      have c2 : V.int (a[i]?.getD 0) = V.int (b[i]?.getD 0) := by simpa using c
      have e3 := V.int.inj c2
      have e4 : a[i]?.getD 0 = x := by rw [pq.hx]; rfl
      exact pq.pd _ eb (by rw [← e3, e4])
  · rw [rl] at f2
    obtain ⟨xs, ex, e0⟩ := f2.fst pl
    have k2 : Same H1 H2 := f2.1
    refine ⟨D, _, _, _, rfl, rfl, SqL.of ex, e0, ?_⟩
    refine ⟨_, rfl, l, rfl, ⟨_, SqL.of (k2 _ _ hl1)⟩, fun D2 hD2 => lc_list (K := K) (a := l) (xs := rgV 0 a.length) (FstI D2 H2 q) (FstI.start hD2) (fun i H' _ q' => SqL.of (q'.1 _ _ (k2 _ _ hl1))) (fun i x' H' hx' fi => ?_) (fun H3 f3 => ?_)⟩
    · obtain ⟨il, rfl⟩ := rg_at hx'
      have ea : a[i]? = some (a[i]?.getD 0) := by rw [List.getElem?_eq_getElem il]; rfl
      have eb : b[i]? = some (b[i]?.getD 0) := by rw [List.getElem?_eq_getElem (show i < b.length by omega)]; rfl
      have kk := k1.trans k2
      have plt := pq.lt
      refine ⟨rfl, _, rfl, _, rfl, _, _, rfl, rfl, _, rfl, ite2 (fun c => ?_) (fun c => ?_)⟩
      · have c1 : (p : Int) < (i : Int) := of_decide_eq_true c
        refine ⟨_, rfl, _, rfl, t1, _, _, _, rfl, rfl, SqT.of (fi.1 _ _ (kk _ _ h1)), at1 (H' := H') il, _, rfl, _, rfl, t2, _, _, _, rfl, rfl, SqT.of (fi.1 _ _ (kk _ _ h2)), at2 (H' := H') il, _, _, rfl, rfl, _, rfl, ite2 (fun c2 => ?_) (fun c2 => ?_)⟩
        · have c3 : b[i]?.getD 0 < a[i]?.getD 0 := of_decide_eq_true c2
          refine ⟨_, rfl, fi.yes hD2 ?_ (by omega)⟩
          refine Classical.byContradiction fun z => ?_
          have := pq.qe i _ _ (by omega) (by omega) ea eb
          omega
        · have c3 : ¬ b[i]?.getD 0 < a[i]?.getD 0 := fun z => c2 (decide_eq_true z)
          refine fi.no fun z => ?_
          subst z
          have := pq.qd _ eb
          rw [pq.hy] at c3
          exact c3 this
      · have c1 : ¬ (p : Int) < (i : Int) := fun z => c (decide_eq_true z)
        exact fi.no (by omega)
    · rw [rl] at f3
      obtain ⟨xs3, ex3, e3⟩ := f3.fst ql
      have kk : Same H H3 := (k1.trans k2).trans f3.1
      refine ⟨D2, _, _, _, rfl, rfl, SqL.of ex3, e3, ?_⟩
      refine ⟨_, rfl, _, rfl, _, rfl, t1, a, p, q, x, y, rfl, kk _ _ h1, l6, pq.hx, pq.hy, (by have := pq.lt; omega), fun u H4 k4 hu => k u H4 (kk.trans k4) hu⟩
abbrev st_steps_between : Stmt := top 25
theorem sc_steps_between : FnScope ["start", "goal", "steps"] ["start", "goal"] (defScope st_steps_between) := ⟨rfl, rfl, rfl, by decide +kernel, rfl, by decide +kernel, by decide +kernel⟩
theorem ok_between (B : Bn mg) (c_step_towards : Cal P w K mg base 3 "step_towards" ["now", "goal"] spToward) (D : Df K mg "steps_between" st_steps_between ["start", "goal"]) : Cal P w K mg base 4 "steps_between" ["start", "goal"] (spBetween K) := by
  refine D.cal sc_steps_between (fun vs H Q E h => ?_) (fun f cdv A out s H vs Q E hr h => ?_)
  · obtain ⟨t1, t2, a, b, rfl, _⟩ := h
    rfl
  obtain ⟨t1, t2, a, b, rfl, h1, h2, l6, g, k⟩ := h
  refine ⟨_, (pss_cons (ps_set (i := 2) sc_steps_between.nd rfl (.inl rfl) (pe_lst (pa_cons (pv 0) pa_nil)))
   (pss_cons (ps_while PassesOwn.never (pt_cmpR (op_neD hr.units) (pe_ix ix_list (pv 2) (pe_un un_neg pe_int) (fun _ _ => rfl)) (pv 1) (nomark _)) (pss_one (ps_expr (pe_bm PySem.F.plainAttrs_list PySem.F.slot_list_append PySem.F.type_list_append mt_append (pv 2) (pa_cons (pe_fn c_step_towards (hr.mono (by decide)) (pa_cons (pe_ix ix_list (pv 2) (pe_un un_neg pe_int) (fun _ _ => rfl)) (pa_cons (pv 1) pa_nil))) pa_nil)))))
   (pss_one (ps_ret (pe_callTy call_tuple_of (by rfl) B.n_tuple (by decide +kernel) (pa_cons (pv 2) pa_nil)))))), ?_⟩
  refine ⟨_, rfl, (by show 1 ≤ sizeLine; decide), fun l hl => ?_⟩
  generalize hH1 : upd H l _ = H1
  have k1 : Same H H1 := by rw [← hH1]; exact same_new (Same.refl H) hl
  have hl1 : H1 l = some (.lst ([] ++ [.ref t1])) := by rw [← hH1, upd_same]; rfl
  refine ⟨fun m σ H' => ∃ n : Nat, m = (sq (it a b n)).toNat ∧ σ = [some (.ref t1), some (.ref t2), some (.ref l)] ∧ SInv K l a b H n H',
    ⟨_, 0, rfl, rfl, k1, fun j hj => by omega, [], t1, rfl, hl1, k1 _ _ h1, .cons (.tup (SqT.of (k1 _ _ h1)) (dpInts _ _ _)) .nil, fun i hi => ⟨t1, by rw [show i = 0 by omega]; rfl, by rw [show i = 0 by omega]; exact k1 _ _ h1⟩⟩, ?_⟩
  rintro m σ H2 ⟨n, rfl, rfl, k2, ear, pre, r, pl, hl2, hr2, dp, tu⟩
  have n27 := it_few g l6 ear
  obtain ⟨gn, sn⟩ := gd_it g n ear
  refine ⟨_, rfl, 1, rfl, l, _, _, .ref r, rfl, rfl, SqL.of hl2, atI_last _ _, _, rfl, _, _, .tup (SqT.of hr2) (dpInts _ _ _), .tup (SqT.of (k2 _ _ h2)) (dpInts _ _ _), shapedTup _, shapedTup _, _, rfl, ?_⟩
  have eq : PyData.eqv (.tuple ((it a b n).map PyData.int)) (.tuple (b.map PyData.int)) = decide (it a b n = b) := by
    simp only [PyData.eqv]
    exact PySem.W.ked_eqvAll _ _
  rw [eq]
  refine ite2 (fun c => ?_) (fun c => ?_)
  · have ne : it a b n ≠ b := by simpa using c
    refine ⟨fun σ' H' => σ' = [some (.ref t1), some (.ref t2), some (.ref l)] ∧ SInv K l a b H (n + 1) H', fun σ' H' ⟨e1, e2⟩ => ⟨_, ?_, n + 1, rfl, e1, e2⟩, ?_⟩
    · obtain ⟨p, q, x, y, pq⟩ := gn.pq ne
      have s2 := (pq.step gn).2.1
      have e3 : it a b (n + 1) = stp (it a b n) p q x y := nxt_eq gn.ln pq
      rw [e3]
      have := sq_nonneg (stp (it a b n) p q x y)
      omega
    · refine ⟨_, rfl, .inl ⟨rfl, _, SqL.of hl2⟩, _, rfl, 1, rfl, l, _, _, .ref r, rfl, rfl, SqL.of hl2, atI_last _ _, _, rfl, r, t2, it a b n, b, rfl, hr2, k2 _ _ h2, by have := gn.ln; have := g.ln; omega, gn, ne, fun u H3 k3 hu => ?_⟩
      refine ⟨l, _, _, rfl, rfl, k3 _ _ hl2, size_lt' (by simp; omega), rfl, same_put (k2.trans k3) hl, fun j hj => ?_, pre ++ [.ref r], u, by simp [pl], upd_same, ?_, ?_, ?_⟩
      · rcases Nat.lt_succ_iff_lt_or_eq.mp hj with z | z
        · exact ear j z
        · rw [z]; exact ne
      · rw [upd_ne (ne_of hu (k3 _ _ hl2) (by intro z; cases z))]
        exact hu
      · rw [dSteps_succ]
        refine dpAll_snoc (dpAllPut (k3 _ _ hl2) _ _ (dpSameAll k3 _ _ dp)) (.tup (SqT.of ?_) (dpInts _ _ _))
        rw [upd_ne (ne_of hu (k3 _ _ hl2) (by intro z; cases z))]
        exact hu
      · refine ((tu.same k3).put (k3 _ _ hl2)).snoc (by simp [pl]) ?_
        rw [upd_ne (ne_of hu (k3 _ _ hl2) (by intro z; cases z))]
        exact hu
  · have e : it a b n = b := by simpa using c
    refine ⟨_, rfl, l, _, rfl, .inl ⟨SqL.of hl2, fun z hz => k z n _ _ (same_new k2 hz) ⟨e, ear⟩ n27 upd_same (by simp [pl]) (tu.same (same_new (Same.refl H2) hz)) (.tup (SqT.of upd_same) (dpSameAll (same_new (Same.refl H2) hz) _ _ dp))⟩⟩
/-- k is a gap -/
def gapB (ns ms : List Int) (k : Nat) : Bool := decide (low ms k < low ns k) || (decide (k = ns.length) && !decide (ns.sum = ms.sum))
def FGap (ns ms : List Int) (g : Nat) : Prop := gapB ns ms g = true ∧ g ≤ ns.length ∧ ∀ j, j < g → gapB ns ms j = false
theorem FGap.uniq {ns ms : List Int} {g g' : Nat} (h : FGap ns ms g) (h' : FGap ns ms g') : g = g' := by
  rcases Nat.lt_trichotomy g g' with c | c | c
  · have := h'.2.2 g c
    rw [h.1] at this
    cases this
  · exact c
  · have := h.2.2 g' c
    rw [h'.1] at this
    cases this
theorem gap_ex {ns ms : List Int} (h : calm ns ms = false) : ∃ g, FGap ns ms g := by
  have e : ∃ k, k ≤ ns.length ∧ gapB ns ms k = true := by
    by_cases c : ns.sum = ms.sum
    · have z : ¬ (List.range (ns.length + 1)).all (fun k => decide (low ns k ≤ low ms k)) = true := fun y => by
        simp only [calm, c, decide_true, Bool.true_and] at h
        rw [y] at h
        cases h
      refine Classical.byContradiction fun no => z ?_
      rw [List.all_eq_true]
      intro k hk
      have kl := List.mem_range.mp hk
      refine decide_eq_true (Classical.byContradiction fun y => no ⟨k, by omega, ?_⟩)
      have : low ms k < low ns k := by omega
      simp [gapB, this]
    · exact ⟨ns.length, Nat.le_refl _, by simp [gapB, c]⟩
  obtain ⟨k, kl, hk⟩ := e
  obtain ⟨g, hg, mn⟩ := least_nat (Pr := fun i => gapB ns ms i = true) hk
  refine ⟨g, hg, ?_, fun j hj => by simpa using mn j hj⟩
  refine Classical.byContradiction fun z => mn k (by omega) hk
def spIsGap (C : Addr) : Sp := fun vs H Q _ => ∃ (s1 t1 s2 t2 : Addr) (ns ms : List Int) (k : Nat), vs = [.ref s1, .ref s2, .int k] ∧ ShAt C H s1 t1 ns ∧ ShAt C H s2 t2 ms ∧ ns.length = ms.length ∧ k ≤ ns.length ∧ ∀ H', Same H H' → Q (.bl (gapB ns ms k)) H'
def spGap (C : Addr) : Sp := fun vs H Q _ => ∃ (s1 t1 s2 t2 : Addr) (ns ms : List Int), vs = [.ref s1, .ref s2] ∧ ShAt C H s1 t1 ns ∧ ShAt C H s2 t2 ms ∧ ns.length = ms.length ∧ calm ns ms = false ∧ ∀ (g : Nat) (H' : Hp), Same H H' → FGap ns ms g → Q (.int g) H'
/-- what path returns, as data -/
def PathD (ns ms : List Int) (d : PyData) : Prop := (calm ns ms = true ∧ ∃ k, Fin (srt ns) (srt ms) k ∧ k ≤ 2700 ∧ d = .tuple [.str "calmer", .tuple (dSteps (srt ns) (srt ms) k)]) ∨ (calm ns ms = false ∧ ∃ g, FGap ns ms g ∧ d = .tuple [.str "gap", .int g])
theorem PathD.uniq {ns ms : List Int} {d d' : PyData} (h : PathD ns ms d) (h' : PathD ns ms d') : d = d' := by
  rcases h with ⟨c, k, f, _, rfl⟩ | ⟨c, g, f, rfl⟩ <;> rcases h' with ⟨c', k', f', _, rfl⟩ | ⟨c', g', f', rfl⟩
  · rw [f.uniq f']
  · rw [c] at c'; cases c'
  · rw [c] at c'; cases c'
  · rw [f.uniq f']
/-- what path returns, as it stands in the heap -/
def PathV (H : Hp) (v : V) (ns ms : List Int) : Prop := (calm ns ms = true ∧ ∃ (k : Nat) (q p : Addr) (ws : List V), Fin (srt ns) (srt ms) k ∧ k ≤ 2700 ∧ v = .ref q ∧ H q = some (.tup [.str "calmer", .ref p]) ∧ H p = some (.tup ws) ∧ ws.length = k + 1 ∧ TupI H ws (it (srt ns) (srt ms)) (k + 1)) ∨
  (calm ns ms = false ∧ ∃ (g : Nat) (q : Addr), FGap ns ms g ∧ v = .ref q ∧ H q = some (.tup [.str "gap", .int g]))
theorem PathV.same {H H' : Hp} {v : V} {ns ms : List Int} (h : PathV H v ns ms) (k : Same H H') : PathV H' v ns ms := by
  rcases h with ⟨c, n, q, p, ws, f, n27, e, hq, hp, wl, tu⟩ | ⟨c, g, q, f, e, hq⟩
  · exact .inl ⟨c, n, q, p, ws, f, n27, e, k _ _ hq, k _ _ hp, wl, tu.same k⟩
  · exact .inr ⟨c, g, q, f, e, k _ _ hq⟩
def spPath (K : PySem.W.Frag) (C : Addr) : Sp := fun vs H Q _ => ∃ (s1 t1 s2 t2 : Addr) (ns ms : List Int), vs = [.ref s1, .ref s2] ∧ ShAt C H s1 t1 ns ∧ ShAt C H s2 t2 ms ∧ ns.length = ms.length ∧ ∀ (v : V) (d : PyData) (H' : Hp), Same H H' → PathV H' v ns ms → PathD ns ms d → Dp K H' v d → Q v H'
theorem calm_gd {ns ms : List Int} (ln : ns.length = ms.length) (a : Am ns) (b : Am ms) (h : calm ns ms = true) : Gd (srt ns) (srt ms) := by
  simp only [calm, Bool.and_eq_true, decide_eq_true_eq, List.all_eq_true] at h
  have tot : (srt ns).sum = (srt ms).sum := by rw [perm_sum (srt_perm ns), perm_sum (srt_perm ms), h.1]
  refine ⟨srt_sorted _, srt_sorted _, by rw [srt_length, srt_length, ln], fun k => ?_, tot, fun r hr => a r ((srt_perm ns).mem_iff.mp hr), fun r hr => b r ((srt_perm ms).mem_iff.mp hr)⟩
  by_cases c : k ≤ ns.length
  · exact h.2 k (List.mem_range.mpr (by omega))
  · rw [List.take_of_length_le (by rw [srt_length]; omega), List.take_of_length_le (by rw [srt_length]; omega), tot]
    exact Int.le_refl _
abbrev st_is_gap : Stmt := top 27
theorem sc_is_gap : FnScope ["one", "other", "k"] ["one", "other", "k"] (defScope st_is_gap) := ⟨rfl, rfl, rfl, by decide +kernel, rfl, by decide +kernel, by decide +kernel⟩
theorem ok_isgap (B : Bn mg) (SShare : ShK K mg CShare) (m_len : MCal P w K mg base 2 CShare "__len__" ["self"] (spLen CShare)) (p_total : PCal P w K mg base 2 CShare "total" ["self"] (spTotal CShare)) (m_call : MCal P w K mg base 3 CShare "__call__" ["self", "k"] (spCall CShare)) (D : Df K mg "is_gap" st_is_gap ["one", "other", "k"]) : Cal P w K mg base 4 "is_gap" ["one", "other", "k"] (spIsGap CShare) := by
  refine D.cal sc_is_gap (fun vs H Q E h => ?_) (fun f cdv A out s H vs Q E hr h => ?_)
  · obtain ⟨s1, t1, s2, t2, ns, ms, k, rfl, _⟩ := h
    rfl
  obtain ⟨s1, t1, s2, t2, ns, ms, n, rfl, sh1, sh2, ln, kn, k⟩ := h
  refine ⟨_, (pss_one (ps_ret (pe_or (pe_cmpR op_gt (pe_callM m_call SShare.fi (hr.mono (by decide)) (pv 0) (pa_cons (pv 2) pa_nil)) (pe_callM m_call SShare.fi (hr.mono (by decide)) (pv 1) (pa_cons (pv 2) pa_nil)) (nomark _)) (pe_one (pe_and (pe_cmpR op_eq (pv 2) (pe_callB (call_lenM m_len (hr.mono (by decide))) (by rfl) B.n_len (by decide +kernel) (pa_cons (pv 0) pa_nil)) (nomark _)) (pe_one (pe_cmpR op_ne (pe_pr p_total SShare.cl (hr.mono (by decide)) (pv 0)) (pe_pr p_total SShare.cl (hr.mono (by decide)) (pv 1)) (nomark _)))))))), ?_⟩
  obtain ⟨⟨d1, a1⟩, _, _, l1, _⟩ := id sh1
  obtain ⟨⟨d2, a2⟩, _, _, l2, _⟩ := id sh2
  refine ⟨_, rfl, s1, rfl, _, rfl, .inr ⟨_, _, a1⟩, s1, t1, ns, n, rfl, sh1, kn, fun H1 k1 => ?_⟩
  refine ⟨_, rfl, s2, rfl, _, rfl, .inr ⟨_, _, k1 _ _ a2⟩, s2, t2, ms, n, rfl, sh2.same k1, by omega, fun H2 k2 => ⟨_, _, rfl, rfl, _, rfl, ?_⟩⟩
  have kk := k1.trans k2
  have z := k H2 kk
  refine ite2 (fun c => ?_) (fun c => ?_)
  · have c2 : low ms n < low ns n := of_decide_eq_true c
    have e : gapB ns ms n = true := by simp [gapB, c2]
    rw [e] at z
    exact z
  · have c2 : decide (low ms n < low ns n) = false := by simpa using c
    refine ⟨_, rfl, _, rfl, s1, d1, _, rfl, kk _ _ a1, s1, t1, ns, rfl, sh1.same kk, ns.length, rfl, by omega, rfl, _, rfl, ?_⟩
    refine ite2 (fun c3 => ?_) (fun c3 => ?_)
    · have c4 : n = ns.length := by
        have := V.int.inj (of_decide_eq_true c3)
        omega
      refine ⟨_, rfl, s1, d1, _, rfl, kk _ _ a1, s1, t1, ns, rfl, sh1.same kk, _, rfl, s2, d2, _, rfl, kk _ _ a2, s2, t2, ms, rfl, sh2.same kk, rfl, ?_⟩
      have e : gapB ns ms n = !decide (V.int ns.sum = V.int ms.sum) := by
        unfold gapB
        rw [c2, decide_eq_true c4]
        simp
      rw [e] at z
      exact z
    · have c4 : ¬ n = ns.length := fun e => c3 (by rw [e]; simp)
      have e : gapB ns ms n = false := by simp [gapB, c2, c4]
      rw [e] at z
      exact z
abbrev st_smallest_gap : Stmt := top 28
theorem sc_smallest_gap : FnScope ["one", "other", "k"] ["one", "other"] (defScope st_smallest_gap) := ⟨rfl, rfl, rfl, by decide +kernel, rfl, by decide +kernel, by decide +kernel⟩
theorem ok_gap (B : Bn mg) (SShare : ShK K mg CShare) (m_len : MCal P w K mg base 2 CShare "__len__" ["self"] (spLen CShare)) (c_is_gap : Cal P w K mg base 4 "is_gap" ["one", "other", "k"] (spIsGap CShare)) (D : Df K mg "smallest_gap" st_smallest_gap ["one", "other"]) : Cal P w K mg base 5 "smallest_gap" ["one", "other"] (spGap CShare) := by
  refine D.cal sc_smallest_gap (fun vs H Q E h => ?_) (fun f cdv A out s H vs Q E hr h => ?_)
  · obtain ⟨s1, t1, s2, t2, ns, ms, rfl, _⟩ := h
    rfl
  obtain ⟨s1, t1, s2, t2, ns, ms, rfl, sh1, sh2, ln, nc, k⟩ := h
  obtain ⟨g, fg⟩ := gap_ex nc
  refine ⟨_, (pss_one (ps_ret (pe_ix ix_list (pe_lc (own := [("k", 2)]) (g := gName 2) rfl sc_smallest_gap.nd (pi_range1 (by rfl) B.n_range (pa_cons (pe_op op_add (pe_callB (call_lenM m_len (hr.mono (by decide))) (by rfl) B.n_len (by decide +kernel) (pa_cons (pv 0) pa_nil)) pe_int) pa_nil)) (blkOk_by (N := ["one", "other", "k"]) (sc := defScope st_smallest_gap) (by decide +kernel)) (fun _ _ _ _ _ => (pg_name (i := 2) sc_smallest_gap.nd rfl (.inl rfl))) (fun _ _ _ _ _ => (pts_one (pt_val (pe_fn c_is_gap (hr.mono (by decide)) (pa_cons (pv 0) (pa_cons (pv 1) (pa_cons (pv 2) pa_nil))))))) (fun _ _ _ _ _ => (pv 2))) pe_int (fun _ _ => rfl)))), ?_⟩
  obtain ⟨⟨d1, a1⟩, _, _, l1, _⟩ := id sh1
  refine ⟨_, rfl, s1, d1, _, rfl, a1, s1, t1, ns, rfl, sh1, ns.length, rfl, by omega, _, _, rfl, rfl, _, rfl, by omega, by omega, fun D hD => ?_⟩
  have tn : ((ns.length : Int) + 1).toNat = ns.length + 1 := by omega
  rw [tn]
  refine lc_range (lo := 0) (n := ns.length + 1) (FstI D H g) (FstI.start hD) (fun i H' hi q => ⟨rfl, ?_⟩) (fun H' q => ?_)
  · refine ⟨_, rfl, _, rfl, _, rfl, s1, t1, s2, t2, ns, ms, i, by simp, sh1.same q.1, sh2.same q.1, ln, by omega, fun H2 k2 => ⟨_, rfl, ?_⟩⟩
    have q2 : FstI D H g i H2 := by
      obtain ⟨s', js, l, h, a, b⟩ := q
      exact ⟨s'.trans k2, js, l, k2 _ _ h, a, b⟩
    refine ite2 (fun c => ?_) (fun c => ?_)
    · refine ⟨_, rfl, ?_⟩
      have y := q2.yes hD (Classical.byContradiction fun z => by
        have := fg.2.2 i (by omega)
        rw [c] at this
        cases this) (by omega)
      rw [Int.zero_add]
      exact y
    · exact q2.no fun z => by
        rw [z] at c
        exact c fg.1
  · obtain ⟨xs, ex, e0⟩ := q.fst (show g < ns.length + 1 by have := fg.2.1; omega)
    exact ⟨D, _, _, _, rfl, rfl, SqL.of ex, e0, k g H' q.1 fg⟩
abbrev st_path : Stmt := top 21
theorem sc_path : FnScope ["one", "other"] ["one", "other"] (defScope st_path) := ⟨rfl, rfl, rfl, by decide +kernel, rfl, by decide +kernel, by decide +kernel⟩
theorem ok_path (SShare : ShK K mg CShare) (c_is_calm : Cal P w K mg base 5 "is_calm" ["one", "other"] (spCalm CShare)) (c_ascending : Cal P w K mg base 4 "ascending" ["share"] (spAsc CShare)) (c_steps_between : Cal P w K mg base 4 "steps_between" ["start", "goal"] (spBetween K)) (c_smallest_gap : Cal P w K mg base 5 "smallest_gap" ["one", "other"] (spGap CShare)) (D : Df K mg "path" st_path ["one", "other"]) : Cal P w K mg base 6 "path" ["one", "other"] (spPath K CShare) := by
  refine D.cal sc_path (fun vs H Q E h => ?_) (fun f cdv A out s H vs Q E hr h => ?_)
  · obtain ⟨s1, t1, s2, t2, ns, ms, rfl, _⟩ := h
    rfl
  obtain ⟨s1, t1, s2, t2, ns, ms, rfl, sh1, sh2, ln, k⟩ := h
  refine ⟨_, (pss_cons (ps_if (pt_val (pe_fn c_is_calm (hr.mono (by decide)) (pa_cons (pv 0) (pa_cons (pv 1) pa_nil)))) (pss_one (ps_ret (pe_tup (pa_cons pe_str (pa_cons (pe_fn c_steps_between (hr.mono (by decide)) (pa_cons (pe_fn c_ascending (hr.mono (by decide)) (pa_cons (pv 0) pa_nil)) (pa_cons (pe_fn c_ascending (hr.mono (by decide)) (pa_cons (pv 1) pa_nil)) pa_nil))) pa_nil))))) pss_nil)
   (pss_one (ps_ret (pe_tup (pa_cons pe_str (pa_cons (pe_fn c_smallest_gap (hr.mono (by decide)) (pa_cons (pv 0) (pa_cons (pv 1) pa_nil))) pa_nil)))))), ?_⟩
  obtain ⟨_, _, _, l6, am1⟩ := id sh1
  obtain ⟨_, _, _, _, am2⟩ := id sh2
  refine ⟨_, rfl, _, rfl, s1, t1, s2, t2, ns, ms, rfl, sh1, sh2, ln, fun H1 k1 => ⟨_, rfl, ?_⟩⟩
  refine ite2 (fun c => ?_) (fun c => ?_)
  · refine ⟨_, rfl, s1, t1, ns, rfl, sh1.same k1, fun p1 H2 k2 hp1 => ?_⟩
    refine ⟨_, rfl, s2, t2, ms, rfl, (sh2.same k1).same k2, fun p2 H3 k3 hp2 => ?_⟩
    refine ⟨p1, p2, srt ns, srt ms, rfl, k3 _ _ hp1, hp2, by rw [srt_length]; exact l6, calm_gd ln am1 am2 c, fun p n ws H4 k4 fn n27 hp wl tu dp => ⟨(by show 2 ≤ sizeLine; decide), fun q hq => ?_⟩⟩
    have k5 : Same H4 (upd H4 q (.tup [.str "calmer", .ref p])) := same_new (Same.refl H4) hq
    refine k _ _ _ ((((k1.trans k2).trans k3).trans k4).trans k5) (.inl ⟨c, n, q, p, ws, fn, n27, rfl, upd_same, k5 _ _ hp, wl, tu.same k5⟩) (.inl ⟨c, n, fn, n27, rfl⟩) (.tup (SqT.of upd_same) (.cons (.str _) (.cons (dpSame k5 _ _ dp) .nil)))
  · have c2 : calm ns ms = false := by simpa using c
    refine ⟨_, rfl, _, rfl, s1, t1, s2, t2, ns, ms, rfl, sh1.same k1, sh2.same k1, ln, c2, fun g H2 k2 fg => ⟨(by show 2 ≤ sizeLine; decide), fun q hq => ?_⟩⟩
    exact k _ _ _ ((k1.trans k2).trans (same_new (Same.refl H2) hq)) (.inr ⟨c2, g, q, fg, rfl, upd_same⟩) (.inr ⟨c2, g, fg, rfl⟩) (.tup (SqT.of upd_same) (.cons (.str _) (.cons (.int _) .nil)))
end
end Pl
namespace Pl
open PySem PySem.Spec PyProof.Rows L2
theorem un65 {k : Nat} {A : Around} (hr : Room k A) : A.units + 65 < cLine := by
  have := hr.un
  omega
def tupD (z : List Int) : PyData := .tuple (z.map PyData.int)
theorem dpTupPut {K : PySem.W.Frag} {H : Hp} {l : Addr} {ys : List V} {o : HO} {v : V} {z : List Int} (hl : H l = some (.lst ys)) (h : Dp K H v (tupD z)) : Dp K (L2.upd H l o) v (tupD z) := by
  unfold tupD at h ⊢
  cases h with
  | tup s i => exact .tup (sqT_put s hl) (dpIntsAny _ _ i)
theorem dpAllPutL {K : PySem.W.Frag} {H : Hp} {l : Addr} {ys : List V} {o : HO} (hl : H l = some (.lst ys)) : ∀ (L : List (List Int)) (vs : List V), DpAll K H vs (L.map tupD) → DpAll K (L2.upd H l o) vs (L.map tupD)
  | [], _, h => by cases h; exact .nil
  | z :: L, _, h => by
    cases h with
    | cons d r => exact .cons (dpTupPut hl d) (dpAllPutL hl L _ r)
/-- c arises from a by one unit moved to an amount less by two or more -/
def Mv (a c : List Int) : Prop := ∃ (p q : Nat) (x y : Int), a[p]? = some x ∧ a[q]? = some y ∧ x + 2 ≤ y ∧ c = stp a p q x y
/-- all moves to a place before i, and those to i from a place before j, stand in the list at D -/
def MInv (K : PySem.W.Frag) (D : Addr) (H0 : Hp) (a : List Int) (i j : Nat) (H : Hp) : Prop := Same H0 H ∧ ∃ (L : List (List Int)) (vs : List V), vs.length ≤ 10 * i + j ∧ H D = some (.lst vs) ∧ DpAll K H vs (L.map tupD) ∧ (∀ z ∈ L, Mv a z) ∧
  (∀ (p q : Nat) (x y : Int), (p < i ∨ (p = i ∧ q < j)) → a[p]? = some x → a[q]? = some y → x + 2 ≤ y → stp a p q x y ∈ L)
theorem MInv.start {K : PySem.W.Frag} {D : Addr} {H0 : Hp} {a : List Int} (h : H0 D = none) : MInv K D H0 a 0 0 (L2.upd H0 D (.lst [])) :=
  ⟨same_new (Same.refl H0) h, [], [], by simp, upd_same, .nil, fun _ z => (List.not_mem_nil z).elim, fun p q x y z => by omega⟩
theorem MInv.row {K : PySem.W.Frag} {D : Addr} {H0 H : Hp} {a : List Int} {i : Nat} (l6 : a.length ≤ 6) (m : MInv K D H0 a i a.length H) : MInv K D H0 a (i + 1) 0 H := by
  obtain ⟨s, L, vs, vl, hd, dp, m1, m2⟩ := m
  refine ⟨s, L, vs, by omega, hd, dp, m1, fun p q x y h hx hy hxy => m2 p q x y ?_ hx hy hxy⟩
  rcases h with h | ⟨h, h'⟩
  · rcases Nat.lt_or_eq_of_le (Nat.le_of_lt_succ h) with z | z
    · exact .inl z
    · exact .inr ⟨z, (List.getElem?_eq_some_iff.mp hy).1⟩
  · omega
theorem MInv.no {K : PySem.W.Frag} {D : Addr} {H0 H : Hp} {a : List Int} {i j : Nat} {x y : Int} (m : MInv K D H0 a i j H) (hx : a[i]? = some x) (hy : a[j]? = some y) (c : ¬ x + 2 ≤ y) : MInv K D H0 a i (j + 1) H := by
  obtain ⟨s, L, vs, vl, hd, dp, m1, m2⟩ := m
  refine ⟨s, L, vs, by omega, hd, dp, m1, fun p q x' y' h hx' hy' hxy => ?_⟩
  rcases h with h | ⟨h, h'⟩
  · exact m2 p q x' y' (.inl h) hx' hy' hxy
  · rcases Nat.lt_or_eq_of_le (Nat.le_of_lt_succ h') with z | z
    · exact m2 p q x' y' (.inr ⟨h, z⟩) hx' hy' hxy
    · rw [h, hx] at hx'
      rw [z, hy] at hy'
      rw [Option.some.inj hx', Option.some.inj hy'] at c
      exact absurd hxy c
theorem MInv.yes {K : PySem.W.Frag} {D u : Addr} {H0 H H' : Hp} {a : List Int} {i j : Nat} {x y : Int} (m : MInv K D H0 a i j H) (h0 : H0 D = none) (k : Same H H') (few : i ≤ 6) (few2 : j ≤ 6) (hx : a[i]? = some x) (hy : a[j]? = some y) (c : x + 2 ≤ y) (hu : H' u = some (.tup ((stp a i j x y).map V.int))) :
    ∃ acc, H' D = some (.lst acc) ∧ acc.length < sizeLine ∧ MInv K D H0 a i (j + 1) (L2.upd H' D (.lst (acc ++ [.ref u]))) := by
  obtain ⟨s, L, vs, vl, hd, dp, m1, m2⟩ := m
  have hd' := k _ _ hd
  refine ⟨vs, hd', size_lt (by omega), same_put (s.trans k) h0, L ++ [stp a i j x y], vs ++ [.ref u], by simp; omega, upd_same, ?_, fun z hz => ?_, fun p q x' y' h hx' hy' hxy => ?_⟩
  · rw [List.map_append]
    refine dpAll_snoc (dpAllPutL hd' _ _ (dpSameAll k _ _ dp)) (.tup (SqT.of ?_) (dpInts _ _ _))
    rw [upd_ne (ne_of hu hd' (by intro z; cases z))]
    exact hu
  · rcases List.mem_append.mp hz with h | h
    · exact m1 z h
    · rw [List.mem_singleton.mp h]
      exact ⟨i, j, x, y, hx, hy, c, rfl⟩
  · rcases h with h | ⟨h, h'⟩
    · exact List.mem_append_left _ (m2 p q x' y' (.inl h) hx' hy' hxy)
    · rcases Nat.lt_or_eq_of_le (Nat.le_of_lt_succ h') with z | z
      · exact List.mem_append_left _ (m2 p q x' y' (.inr ⟨h, z⟩) hx' hy' hxy)
      · rw [h, hx] at hx'
        rw [z, hy] at hy'
        rw [← Option.some.inj hx', ← Option.some.inj hy', h, z]
        exact List.mem_append_right _ (List.mem_singleton.mpr rfl)
open Classical in
def spMove : Sp := fun vs H Q _ => ∃ (t1 t2 : Addr) (a c : List Int), vs = [.ref t1, .ref t2] ∧ H t1 = some (.tup (a.map V.int)) ∧ H t2 = some (.tup (c.map V.int)) ∧ a.length ≤ 6 ∧ ∀ H', Same H H' → Q (.bl (decide (Mv a c))) H'
theorem shapedTups : ∀ L : List (List Int), SeqAt.shaped (.list (L.map tupD)) = true := by
  have dep : ∀ L : List (List Int), PyData.depthAll (L.map tupD) ≤ 1 := by
    intro L
    induction L with
    | nil => simp [PyData.depthAll]
    | cons z L ih =>
      have e : PyData.depth (tupD z) = 1 := by simp [tupD, PyData.depth, depthInts]
      simp only [List.map_cons, PyData.depthAll, e]
      omega
  have lay : ∀ L : List (List Int), PyData.canLayAll0 (L.map tupD) = true := by
    intro L
    induction L with
    | nil => simp [PyData.canLayAll0]
    | cons z L ih =>
      have e : PyData.canLay0 (tupD z) = true := by simp only [tupD, PyData.canLay0]; exact layInts z
      simp only [List.map_cons, PyData.canLayAll0, e, ih, Bool.and_self]
  intro L
  have d := dep L
  show (PyData.canLay0 (.list (L.map tupD)) && decide (PyData.depth (.list (L.map tupD)) ≤ 64)) = true
  simp only [PyData.canLay0, PyData.depth, lay, Bool.true_and]
  exact decide_eq_true (by omega)
section
variable {P : Program} {w : World} {K : PySem.W.Frag} {mg : Str → Option Value} {base : Heap} {CShare : Addr}
abbrev st_is_move : Stmt := top 30
theorem sc_is_move : FnScope ["before", "after", "places", "low", "high"] ["before", "after"] (defScope st_is_move) := ⟨rfl, rfl, rfl, by decide +kernel, rfl, by decide +kernel, by decide +kernel⟩
open Classical in
theorem ok_move (B : Bn mg) (c_moved : Cal P w K mg base 2 "moved" ["amounts", "low", "high"] spMoved) (D : Df K mg "is_move" st_is_move ["before", "after"]) : Cal P w K mg base 3 "is_move" ["before", "after"] spMove := by
  refine D.cal sc_is_move (fun vs H Q E h => ?_) (fun f cdv A out s H vs Q E hr h => ?_)
  · obtain ⟨t1, t2, a, c, rfl, _⟩ := h
    rfl
  obtain ⟨t1, t2, a, c, rfl, h1, h2, l6, k⟩ := h
  refine ⟨_, (pss_cons (ps_set (i := 2) sc_is_move.nd rfl (.inr rfl) (pe_listRg rfl (by rfl) B.n_list (prg_1 (by rfl) B.n_range (pe_callB call_len_seq (by rfl) B.n_len (by decide +kernel) (pa_cons (pv 0) pa_nil)))))
   (pss_one (ps_ret (pe_cmpR (op_inD (un65 hr)) (pv 1) (pe_lc2 (own := [("low", 3), ("high", 4)]) (vs1 := [4]) (g := gName 3) (g1 := gName 4) (wi1 := iList K (tVar 2)) rfl sc_is_move.nd (pi_list (pv 2)) (blkOk_by (N := ["before", "after", "places", "low", "high"]) (sc := defScope st_is_move) (by decide +kernel)) (by decide) (fun _ _ _ _ _ => (pg_name (i := 3) sc_is_move.nd rfl (.inl rfl))) (fun _ _ _ _ _ => pts_nil) (fun _ _ _ _ _ => (pi_listK (K := K) (pv 2))) (fun _ _ _ _ _ => (pg_name (i := 4) sc_is_move.nd rfl (.inl rfl))) (fun _ _ _ _ _ => (pts_one (pt_cmpR op_ge (pe_op op_sub (pe_ix (show IxR _ (rIxT K) from ix_tup) (pv 0) (pv 4) (fun _ _ => rfl)) (pe_ix (show IxR _ (rIxT K) from ix_tup) (pv 0) (pv 3) (fun _ _ => rfl))) pe_int (nomark _)))) (fun _ _ _ _ _ => (pe_fn c_moved (hr.mono (by decide)) (pa_cons (pv 0) (pa_cons (pv 3) (pa_cons (pv 4) pa_nil)))))) (by rfl))))), ?_⟩
  refine ⟨_, rfl, t1, _, rfl, .inr (SqT.of h1), _, rfl, RgOk.of_le (by omega) (by rw [List.length_map]; omega) (by omega) (by omega), fun l hl => ?_⟩
  rw [List.length_map]
  generalize hH1 : upd H l _ = H1
  have k1 : Same H H1 := by rw [← hH1]; exact same_new (Same.refl H) hl
  have hl1 : H1 l = some (.lst (rgV 0 a.length)) := by rw [← hH1, upd_same]
  have rl : (rgV 0 (a.length : Int)).length = a.length := by rw [rgV_length]; omega
  have at1 : ∀ {i : Nat}, i < a.length → atI (a.map V.int) (i : Int) = some (.int (a[i]?.getD 0)) := fun {i} hi => atI_nat (by rw [List.getElem?_map, List.getElem?_eq_getElem hi]; rfl)
  have get1 : ∀ {i : Nat}, i < a.length → a[i]? = some (a[i]?.getD 0) := fun {i} hi => by rw [List.getElem?_eq_getElem hi]; rfl
  have rg1 : ∀ {i : Nat}, i < a.length → (rgV 0 (a.length : Int))[i]? = some ((rgV 0 (a.length : Int))[i]?.getD .non) := fun {i} hi => by
    rw [List.getElem?_eq_getElem (by rw [rl]; exact hi)]; rfl
  refine ⟨_, rfl, _, rfl, l, rfl, ⟨_, SqL.of hl1⟩, fun D hD => ?_⟩
  refine ⟨fun i m H' => m = a.length - i ∧ i ≤ a.length ∧ MInv K D H1 a i 0 H', ⟨a.length, by simp, Nat.zero_le _, MInv.start hD⟩, ?_⟩
  rintro i m H2 ⟨rfl, hi, p⟩
  have q : SqL K H2 l (rgV 0 a.length) := SqL.of (p.1 _ _ hl1)
  by_cases hlt : i < a.length
  · refine .inr ⟨⟨_, _, q, rg1 hlt⟩, MInv K D H1 a (i + 1) 0, fun H' p' => ⟨a.length - (i + 1), by omega, rfl, hlt, p'⟩, fun x H' y => ?_⟩
    obtain ⟨e, y⟩ := y
    subst e
    obtain ⟨_, rfl⟩ := rg_at (y _ q)
    refine ⟨rfl, tyes ⟨_, rfl, l, rfl, ⟨_, q⟩, fun j m H' => m = a.length - j ∧ j ≤ a.length ∧ MInv K D H1 a i j H', ⟨a.length, by simp, Nat.zero_le _, p⟩, ?_⟩⟩
    rintro j m H3 ⟨rfl, hj, p3⟩
    have q3 : SqL K H3 l (rgV 0 a.length) := SqL.of (p3.1 _ _ hl1)
    by_cases jlt : j < a.length
    · refine .inr ⟨⟨_, _, q3, rg1 jlt⟩, MInv K D H1 a i (j + 1), fun H' p' => ⟨a.length - (j + 1), by omega, rfl, jlt, p'⟩, fun x H' y => ?_⟩
      obtain ⟨e, y⟩ := y
      subst e
      obtain ⟨_, rfl⟩ := rg_at (y _ q3)
      have ht := p3.1 _ _ (k1 _ _ h1)
      refine ⟨rfl, _, rfl, _, rfl, t1, _, _, _, rfl, rfl, SqT.of ht, at1 jlt, _, rfl, _, rfl, t1, _, _, _, rfl, rfl, SqT.of ht, at1 hlt, _, _, rfl, rfl, _, _, rfl, rfl, _, rfl, ?_⟩
      refine ite2 (fun c => ?_) (fun c => ?_)
      · have c' : a[i]?.getD 0 + 2 ≤ a[j]?.getD 0 := by have := of_decide_eq_true c; omega
        refine ⟨_, rfl, _, rfl, _, rfl, t1, a, i, j, _, _, rfl, ht, l6, get1 hlt, get1 jlt, fun z => ?_, fun u H' s hu => p3.yes hD s (by omega) (by omega) (get1 hlt) (get1 jlt) c' hu⟩
        subst z
        omega
      · refine p3.no (get1 hlt) (get1 jlt) fun z => c (decide_eq_true ?_)
        omega
    · have e : j = a.length := by omega
      subst e
      exact .inl ⟨⟨_, q3, by rw [rl]; exact Nat.le_refl _⟩, p3.row l6⟩
  · have e : i = a.length := by omega
    subst e
    refine .inl ⟨⟨_, q, by rw [rl]; exact Nat.le_refl _⟩, ?_⟩
    obtain ⟨s2, L, vs, vl, hd, dp, m1, m2⟩ := p
    refine ⟨tupD c, L.map tupD, .tup (SqT.of (s2 _ _ (k1 _ _ h2))) (dpInts _ _ _), .lst (SqL.of hd) dp, shapedTup c, shapedTups L, ?_⟩
    have e : ((L.map tupD).any fun z => PyData.eqv z (tupD c)) = decide (Mv a c) := by
      refine Bool.eq_iff_iff.mpr ?_
      rw [List.any_eq_true, decide_eq_true_iff]
      have eq : ∀ z : List Int, PyData.eqv (tupD z) (tupD c) = decide (z = c) := fun z => by
        simp only [tupD, PyData.eqv]
        exact PySem.W.ked_eqvAll _ _
      constructor
      · rintro ⟨z, hz, h⟩
        obtain ⟨z', hz', rfl⟩ := List.mem_map.mp hz
        rw [eq] at h
        rw [← of_decide_eq_true h]
        exact m1 _ hz'
      · rintro ⟨p, q, x, y, hx, hy, xy, rfl⟩
        refine ⟨_, List.mem_map_of_mem (m2 p q x y (.inl (List.getElem?_eq_some_iff.mp hx).1) hx hy xy), ?_⟩
        rw [eq]
        exact decide_eq_true rfl
    rw [e]
    exact k _ (k1.trans s2)
end
end Pl
namespace Pl
open PySem PySem.Spec PyProof.Rows L2
def spSteps (C : Addr) : Sp := fun vs H Q _ => ∃ (s1 t1 s2 t2 : Addr) (ns ms : List Int) (p : Addr) (n : Nat) (ws : List V), vs = [.ref s1, .ref s2, .ref p] ∧ ShAt C H s1 t1 ns ∧ ShAt C H s2 t2 ms ∧ ns.length = ms.length ∧ calm ns ms = true ∧
  Fin (srt ns) (srt ms) n ∧ n ≤ 2700 ∧ H p = some (.tup ws) ∧ ws.length = n + 1 ∧ TupI H ws (it (srt ns) (srt ms)) (n + 1) ∧ ∀ H', Same H H' → Q (.bl true) H'
theorem atI_end {ws : List V} {n : Nat} {v : V} (wl : ws.length = n + 1) (h : ws[n]? = some v) : atI ws (-1) = some v := by
  have e : ws = ws.take n ++ [v] := by
    have := List.take_add_one (l := ws) (i := n)
    rw [h, List.take_of_length_le (by omega)] at this
    exact this
  rw [e]
  exact atI_last _ _
section
variable {P : Program} {w : World} {K : PySem.W.Frag} {mg : Str → Option Value} {base : Heap} {CShare : Addr}
abbrev st_is_steps : Stmt := top 29
theorem sc_is_steps : FnScope ["one", "other", "thing", "at", "step"] ["one", "other", "thing"] (defScope st_is_steps) := ⟨rfl, rfl, rfl, by decide +kernel, rfl, by decide +kernel, by decide +kernel⟩
open Classical in
theorem ok_steps (B : Bn mg) (c_is_amounts : Cal P w K mg base 3 "is_amounts" ["thing"] (spIsAm K)) (c_ascending : Cal P w K mg base 4 "ascending" ["share"] (spAsc CShare)) (c_is_move : Cal P w K mg base 3 "is_move" ["before", "after"] spMove) (D : Df K mg "is_steps" st_is_steps ["one", "other", "thing"]) : Cal P w K mg base 5 "is_steps" ["one", "other", "thing"] (spSteps CShare) := by
  refine D.cal sc_is_steps (fun vs H Q E h => ?_) (fun f cdv A out s H vs Q E hr h => ?_)
  · obtain ⟨s1, t1, s2, t2, ns, ms, p, n, ws, rfl, _⟩ := h
    rfl
  obtain ⟨s1, t1, s2, t2, ns, ms, p, n, ws, rfl, sh1, sh2, ln, cm, fn, n27, hp, wl, tu, k⟩ := h
  obtain ⟨_, _, l2, l6, am1⟩ := id sh1
  obtain ⟨_, _, _, _, am2⟩ := id sh2
  have g := calm_gd ln am1 am2 cm
  generalize ha : srt ns = a at *
  generalize hb : srt ms = b at *
  refine ⟨_, (pss_cons (ps_if (PW.pt (pw_or (pt_not (pt_val (pe_callB call_isi (by rfl) B.n_isinstance (by decide +kernel) (pa_cons (pv 2) (pa_cons (pe_bltn (v := .ty "tuple") (by rfl) B.n_tuple (by decide +kernel) rfl) pa_nil))))) (pw_or1 (pt_cmpR op_eq (pe_callB call_len_seq (by rfl) B.n_len (by decide +kernel) (pa_cons (pv 2) pa_nil)) pe_int (nomark _))))) (pss_one (ps_ret pe_bl)) pss_nil)
   (pss_cons (ps_if (pt_not (pt_val (pe_callB (cr_all rfl) (by rfl) B.n_all (by decide +kernel) (pa_cons (pe_lc (own := [("step", 4)]) (g := gName 4) rfl sc_is_steps.nd (pi_tup (pv 2)) (blkOk_by (N := ["one", "other", "thing", "at", "step"]) (sc := defScope st_is_steps) (by decide +kernel)) (fun _ _ _ _ _ => (pg_name (i := 4) sc_is_steps.nd rfl (.inl rfl))) (fun _ _ _ _ _ => pts_nil) (fun _ _ _ _ _ => (pe_fn c_is_amounts (hr.mono (by decide)) (pa_cons (pv 4) pa_nil)))) pa_nil)))) (pss_one (ps_ret pe_bl)) pss_nil)
   (pss_cons (ps_if (PW.pt (pw_or (pt_cmpR (op_neD hr.units) (pe_ix ix_tup (pv 2) pe_int (fun _ _ => rfl)) (pe_fn c_ascending (hr.mono (by decide)) (pa_cons (pv 0) pa_nil)) (nomark _)) (pw_or1 (pt_cmpR (op_neD hr.units) (pe_ix ix_tup (pv 2) (pe_un un_neg pe_int) (fun _ _ => rfl)) (pe_fn c_ascending (hr.mono (by decide)) (pa_cons (pv 1) pa_nil)) (nomark _))))) (pss_one (ps_ret pe_bl)) pss_nil)
   (pss_one (ps_ret (pe_callB (cr_all rfl) (by rfl) B.n_all (by decide +kernel) (pa_cons (pe_lc (own := [("at", 3)]) (g := gName 3) rfl sc_is_steps.nd (pi_range1 (by rfl) B.n_range (pa_cons (pe_op op_sub (pe_callB call_len_seq (by rfl) B.n_len (by decide +kernel) (pa_cons (pv 2) pa_nil)) pe_int) pa_nil)) (blkOk_by (N := ["one", "other", "thing", "at", "step"]) (sc := defScope st_is_steps) (by decide +kernel)) (fun _ _ _ _ _ => (pg_name (i := 3) sc_is_steps.nd rfl (.inl rfl))) (fun _ _ _ _ _ => pts_nil) (fun _ _ _ _ _ => (pe_fn c_is_move (hr.mono (by decide)) (pa_cons (pe_ix (show IxR _ (rIxT K) from ix_tup) (pv 2) (pv 3) (fun _ _ => rfl)) (pa_cons (pe_ix (show IxR _ (rIxT K) from ix_tup) (pv 2) (pe_op op_add (pv 3) pe_int) (fun _ _ => rfl)) pa_nil))))) pa_nil))))))), ?_⟩
  refine ⟨_, rfl, _, _, _, _, true, rfl, .ty _, .base (.tup hp), kit_ty (by decide +kernel), _, rfl, iteF ?_⟩
  refine ⟨_, rfl, p, _, rfl, .inr (SqT.of hp), rfl, _, rfl, ite2 (fun c => absurd (of_decide_eq_true c) (by rw [wl]; intro z; injection z with z; omega)) fun _ => ?_⟩
  have gi : ∀ i, i < n + 1 → Gd (it a b i) b := fun i hi => (gd_it g i fun j hj => fn.2 j (by omega)).1
  refine ⟨_, rfl, p, rfl, ⟨_, SqT.of hp⟩, fun D hD => lc_tup (K := K) (a := p) (xs := ws) (fun i H' => Same H H' ∧ H' D = some (.lst (List.replicate i (.bl true))))
    ⟨same_new (Same.refl H) hD, upd_same⟩ (fun i H' _ q => SqT.of (q.1 _ _ hp)) (fun i x H' hx q => ⟨rfl, tyes ?_⟩) (fun H1 q1 => ?_)⟩
  · have il := (List.getElem?_eq_some_iff.mp hx).1
    obtain ⟨t, e, ht⟩ := tu i (by omega)
    rw [e] at hx
    obtain rfl := Option.some.inj hx
    have gg := gi i (by omega)
    have lg : (it a b i).length = ns.length := by rw [gg.ln, ← hb, srt_length, ln]
    refine ⟨_, rfl, .ref t, rfl, .inl ⟨t, _, rfl, q.1 _ _ ht, by rw [List.length_map]; omega, fun y hy => ?_, fun H2 k2 => ?_⟩⟩
    · obtain ⟨z, _, rfl⟩ := List.mem_map.mp hy
      exact Kd.int z
    rw [isAm_ints (by omega) (by omega) gg.ama]
    refine ⟨_, k2 _ _ q.2, size_lt' (by rw [List.length_replicate]; omega), same_put (q.1.trans k2) hD, ?_⟩
    rw [upd_same, List.replicate_succ']
  · have e1 : (List.replicate ws.length true).map V.bl = List.replicate ws.length (.bl true) := List.map_replicate
    have e2 : (List.replicate ws.length true).all id = true := by
      rw [List.all_eq_true]
      intro x hx
      exact (List.mem_replicate.mp hx).2
    refine ⟨D, List.replicate ws.length true, rfl, SqL.of (by rw [e1]; exact q1.2), ?_⟩
    rw [e2]
    refine ⟨_, rfl, iteF ?_⟩
    obtain ⟨u0, w0, h0⟩ := tu 0 (by omega)
    obtain ⟨un, wn, hn⟩ := tu n (by omega)
    have k1 := q1.1
    have nee : ∀ x : List Int, PyData.eqv (.tuple (x.map PyData.int)) (.tuple (x.map PyData.int)) = true := fun x => by
      simp only [PyData.eqv]
      rw [PySem.W.ked_eqvAll]
      exact decide_eq_true rfl
    refine ⟨_, rfl, p, _, _, _, rfl, rfl, SqT.of (k1 _ _ hp), atI_nat (j := 0) w0, _, rfl, s1, t1, ns, rfl, sh1.same k1, fun q H2 k2 hq => ?_⟩
    rw [ha] at hq
    refine ⟨_, _, .tup (SqT.of (k2 _ _ (k1 _ _ h0))) (dpInts _ _ _), .tup (SqT.of hq) (dpInts _ _ _), shapedTup _, shapedTup _, _, rfl, ?_⟩
    rw [show it a b 0 = a from rfl, nee a]
    refine iteF ?_
    refine ⟨_, rfl, 1, rfl, p, _, _, _, rfl, rfl, SqT.of (k2 _ _ (k1 _ _ hp)), atI_end wl wn, _, rfl, s2, t2, ms, rfl, (sh2.same k1).same k2, fun q' H3 k3 hq' => ?_⟩
    rw [hb] at hq'
    refine ⟨_, _, .tup (SqT.of (k3 _ _ (k2 _ _ (k1 _ _ hn)))) (dpInts _ _ _), .tup (SqT.of hq') (dpInts _ _ _), shapedTup _, shapedTup _, _, rfl, ?_⟩
    rw [fn.1, nee b]
    refine iteF ?_
    have kk := (k1.trans k2).trans k3
    refine ⟨_, rfl, p, _, rfl, .inr (SqT.of (kk _ _ hp)), _, _, rfl, rfl, _, rfl, by omega, by rw [wl]; omega, fun D2 hD2 => ?_⟩
    have tn : ((ws.length : Int) - 1).toNat = n := by omega
    rw [tn]
    refine lc_range (lo := 0) (n := n) (fun i H' => Same H3 H' ∧ H' D2 = some (.lst (List.replicate i (.bl true))))
      ⟨same_new (Same.refl H3) hD2, upd_same⟩ (fun i H' hi q => ⟨rfl, tyes ?_⟩) (fun H' q => ?_)
    · obtain ⟨ui, wi, hti⟩ := tu i (by omega)
      obtain ⟨uj, wj, htj⟩ := tu (i + 1) (by omega)
      have gg := gi i (by omega)
      have lg : (it a b i).length = ns.length := by rw [gg.ln, ← hb, srt_length, ln]
      have kq := kk.trans q.1
      have mv : Mv (it a b i) (it a b (i + 1)) := by
        obtain ⟨p, q, x, y, pq⟩ := gg.pq (fn.2 i hi)
        exact ⟨p, q, x, y, pq.hx, pq.hy, (pq.step gg).2.2, nxt_eq gg.ln pq⟩
      refine ⟨_, rfl, _, rfl, p, _, _, _, rfl, rfl, SqT.of (kq _ _ hp), by simpa using atI_nat wi, ?_⟩
      refine ⟨_, rfl, _, rfl, _, _, rfl, rfl, p, _, _, _, rfl, rfl, SqT.of (kq _ _ hp), by simpa using atI_nat wj, ui, uj, _, _, rfl, kq _ _ hti, kq _ _ htj, by omega, fun H4 k4 => ?_⟩
      rw [decide_eq_true mv]
      refine ⟨_, k4 _ _ q.2, size_lt' (by rw [List.length_replicate]; omega), same_put (q.1.trans k4) hD2, ?_⟩
      rw [upd_same, List.replicate_succ']
    · have e1 : (List.replicate n true).map V.bl = List.replicate n (.bl true) := List.map_replicate
      have e2 : (List.replicate n true).all id = true := by
        rw [List.all_eq_true]
        intro x hx
        exact (List.mem_replicate.mp hx).2
      refine ⟨D2, List.replicate n true, rfl, SqL.of (by rw [e1]; exact q.2), ?_⟩
      rw [e2]
      exact k _ (kk.trans q.1)
end
end Pl
namespace Pl
open PySem PySem.Spec PyProof.Rows L2
section
variable {P : Program} {w : World} {K : PySem.W.Frag} {mg : Str → Option Value} {base : Heap} {CShare : Addr}
abbrev st_is_pair : Stmt := top 3
theorem sc_is_pair : FnScope ["thing"] ["thing"] (defScope st_is_pair) := ⟨rfl, rfl, rfl, by decide +kernel, rfl, by decide +kernel, by decide +kernel⟩
theorem ok_ispr (B : Bn mg) (D : Df K mg "is_pair" st_is_pair ["thing"]) : Cal P w K mg base 1 "is_pair" ["thing"] (spIsPr K) := by
  refine D.cal sc_is_pair (fun vs H Q E h => ?_) (fun f cdv A out s H vs Q E hr h => ?_)
  · obtain ⟨x, rfl, _⟩ := h
    rfl
  obtain ⟨x, rfl, h⟩ := h
  refine ⟨_, (pss_one (ps_ret (pe_and (pe_callB call_isi (by rfl) B.n_isinstance (by decide +kernel) (pa_cons (pv 0) (pa_cons (pe_bltn (v := .ty "tuple") (by rfl) B.n_tuple (by decide +kernel) rfl) pa_nil))) (pe_one (pe_cmpR op_eq (pe_callB call_len_seq (by rfl) B.n_len (by decide +kernel) (pa_cons (pv 0) pa_nil)) pe_int (nomark _)))))), ?_⟩
  rcases h with ⟨p, xs, rfl, hp, k⟩ | ⟨t, ty, kt, k⟩
  · refine ⟨_, rfl, _, _, _, _, true, rfl, .ty _, .base (.tup hp), kit_ty (by decide +kernel), _, rfl, iteT ?_⟩
    refine ⟨_, rfl, p, _, rfl, .inr (SqT.of hp), rfl, ?_⟩
    have e : decide (V.int (xs.length : Int) = V.int 2) = decide ((xs.length : Int) = 2) := by simp
    rw [← e] at k
    exact k
  · exact ⟨_, rfl, x, _, t, _, false, rfl, .ty _, ty, kt, _, rfl, iteF k⟩
end
end Pl
namespace Pl
open PySem PySem.Spec PyProof.Rows L2
def spShows (C : Addr) : Sp := fun vs H Q _ => ∃ (s1 t1 s2 t2 : Addr) (ns ms : List Int) (v : V), vs = [.ref s1, .ref s2, v] ∧ ShAt C H s1 t1 ns ∧ ShAt C H s2 t2 ms ∧ ns.length = ms.length ∧ PathV H v ns ms ∧ ∀ H', Same H H' → Q (.bl true) H'
section
variable {P : Program} {w : World} {K : PySem.W.Frag} {mg : Str → Option Value} {base : Heap} {CShare : Addr}
abbrev st_shows_path : Stmt := top 22
theorem sc_shows_path : FnScope ["one", "other", "thing", "word", "reason"] ["one", "other", "thing"] (defScope st_shows_path) := ⟨rfl, rfl, rfl, by decide +kernel, rfl, by decide +kernel, by decide +kernel⟩
theorem ok_shows (B : Bn mg) (SShare : ShK K mg CShare) (c_is_pair : Cal P w K mg base 1 "is_pair" ["thing"] (spIsPr K)) (c_check_pair : Cal P w K mg base 4 "check_pair" ["one", "other"] (spPair CShare)) (m_len : MCal P w K mg base 2 CShare "__len__" ["self"] (spLen CShare)) (c_is_integer_to : Cal P w K mg base 2 "is_integer_to" ["thing", "most"] (spIsInt K)) (c_is_gap : Cal P w K mg base 4 "is_gap" ["one", "other", "k"] (spIsGap CShare)) (c_is_steps : Cal P w K mg base 5 "is_steps" ["one", "other", "thing"] (spSteps CShare)) (D : Df K mg "shows_path" st_shows_path ["one", "other", "thing"]) : Cal P w K mg base 6 "shows_path" ["one", "other", "thing"] (spShows CShare) := by
  refine D.cal sc_shows_path (fun vs H Q E h => ?_) (fun f cdv A out s H vs Q E hr h => ?_)
  · obtain ⟨s1, t1, s2, t2, ns, ms, v, rfl, _⟩ := h
    rfl
  obtain ⟨s1, t1, s2, t2, ns, ms, v, rfl, sh1, sh2, ln, pth, k⟩ := h
  obtain ⟨⟨d1, a1⟩, _, _, l6, _⟩ := id sh1
  refine ⟨_, (pss_cons (ps_expr (pe_fn c_check_pair (hr.mono (by decide)) (pa_cons (pv 0) (pa_cons (pv 1) pa_nil))))
   (pss_cons (ps_if (pt_not (pt_val (pe_fn c_is_pair (hr.mono (by decide)) (pa_cons (pv 2) pa_nil)))) (pss_one (ps_ret pe_bl)) pss_nil)
   (pss_cons (ps_asg (pv 2) (pg_tup rfl (pgs_cons (pg_name (i := 3) sc_shows_path.nd rfl (.inl rfl)) (pgs_cons (pg_name (i := 4) sc_shows_path.nd rfl (.inl rfl)) pgs_nil))))
   (pss_cons (ps_if (pt_cmpR op_eq (pv 3) pe_str (nomark _)) (pss_one (ps_ret (pe_fn c_is_steps (hr.mono (by decide)) (pa_cons (pv 0) (pa_cons (pv 1) (pa_cons (pv 4) pa_nil)))))) pss_nil)
   (pss_one (ps_ret (pe_and (pe_cmpR op_eq (pv 3) pe_str (nomark _)) (pe_and (pe_fn c_is_integer_to (hr.mono (by decide)) (pa_cons (pv 4) (pa_cons (pe_callB (call_lenM m_len (hr.mono (by decide))) (by rfl) B.n_len (by decide +kernel) (pa_cons (pv 0) pa_nil)) pa_nil))) (pe_one (pe_fn c_is_gap (hr.mono (by decide)) (pa_cons (pv 0) (pa_cons (pv 1) (pa_cons (pv 4) pa_nil))))))))))))), ?_⟩
  refine ⟨_, rfl, _, rfl, s1, t1, s2, t2, ns, ms, rfl, sh1, sh2, ln, ?_⟩
  rcases pth with ⟨c, n, q, p, ws, fn, n27, rfl, hq, hp, wl, tu⟩ | ⟨c, g, q, fg, rfl, hq⟩
  · refine ⟨_, rfl, _, rfl, .inl ⟨q, _, rfl, hq, ?_⟩⟩
    refine ⟨_, rfl, ?_⟩
    refine ⟨_, rfl, q, _, rfl, SqT.of hq, rfl, _, _, rfl, _, _, rfl, rfl, ?_⟩
    refine ⟨_, rfl, rfl, _, rfl, iteT ?_⟩
    exact ⟨_, rfl, _, rfl, _, rfl, s1, t1, s2, t2, ns, ms, p, n, ws, rfl, sh1, sh2, ln, c, fn, n27, hp, wl, tu, k⟩
  · refine ⟨_, rfl, _, rfl, .inl ⟨q, _, rfl, hq, ?_⟩⟩
    refine ⟨_, rfl, ?_⟩
    refine ⟨_, rfl, q, _, rfl, SqT.of hq, rfl, _, _, rfl, _, _, rfl, rfl, ?_⟩
    refine ⟨_, rfl, rfl, _, rfl, iteF ?_⟩
    refine ⟨_, rfl, rfl, _, rfl, iteT ?_⟩
    refine ⟨_, rfl, _, rfl, s1, d1, _, rfl, a1, s1, t1, ns, rfl, sh1, ns.length, rfl, by omega, .int g, _, rfl, Kd.int g, ?_⟩
    have e : isTo (ns.length : Int) (.int g) = true := by
      have := fg.2.1
      show (decide (0 ≤ (g : Int)) && decide ((g : Int) ≤ ns.length)) = true
      simp; omega
    rw [e]
    refine ⟨_, rfl, iteT ?_⟩
    refine ⟨_, rfl, _, rfl, _, rfl, s1, t1, s2, t2, ns, ms, g, rfl, sh1, sh2, ln, fg.2.1, fun H' k' => ?_⟩
    rw [fg.1]
    exact k H' k'
end
end Pl
namespace Pl
open PySem PySem.Spec PyProof.Rows L2
/-- the amounts of both, added -/
def addl (ns ms : List Int) : List Int := List.zipWith (· + ·) ns ms
theorem addl_length {ns ms : List Int} (h : ns.length = ms.length) : (addl ns ms).length = ns.length := by simp [addl, h]
theorem addl_at {ns ms : List Int} {i : Nat} {x y : Int} (h1 : ns[i]? = some x) (h2 : ms[i]? = some y) : (addl ns ms)[i]? = some (x + y) := by
  unfold addl
  rw [List.getElem?_zipWith, h1, h2]
/-- whether none of them is above 30 -/
def fine (zs : List Int) : Bool := zs.all fun z => decide (z ≤ 30)
/-- what adding gives, as data -/
def dAdd (ns ms : List Int) : PyData := if ns.length = ms.length then (if fine (addl ns ms) = true then .tuple ((addl ns ms).map PyData.int) else .str "amounts") else .str "share"
theorem addl_nn {ns ms : List Int} (a : Am ns) (b : Am ms) : ∀ z ∈ addl ns ms, 0 ≤ z ∧ z ≤ 60 := by
  intro z hz
  obtain ⟨i, hi, rfl⟩ := List.getElem_of_mem hz
  simp only [addl, List.getElem_zipWith]
  have h1 := a _ (List.getElem_mem (show i < ns.length by simp [addl] at hi; omega))
  have h2 := b _ (List.getElem_mem (show i < ms.length by simp [addl] at hi; omega))
  omega
theorem fine_am {zs : List Int} (nn : ∀ z ∈ zs, 0 ≤ z ∧ z ≤ 60) (f : fine zs = true) : Am zs := fun z hz => by
  have := (List.all_eq_true.mp f) z hz
  have a := nn z hz
  simp at this
  omega
theorem notfine_isAm {zs : List Int} (f : fine zs = false) : isAm (zs.map V.int) = false := by
  cases e : isAm (zs.map V.int) with
  | false => rfl
  | true =>
    simp only [isAm, Bool.and_eq_true, List.all_eq_true] at e
    have : fine zs = true := List.all_eq_true.mpr fun z hz => by
      have q := e.2 (.int z) (List.mem_map.mpr ⟨z, hz, rfl⟩)
      have q2 : (decide (0 ≤ z) && decide (z ≤ 30)) = true := q
      simp only [Bool.and_eq_true] at q2
      exact q2.2
    rw [this] at f
    cases f
theorem foldl_max_le : ∀ (zs : List Int) (z b : Int), zs.foldl max z ≤ b ↔ z ≤ b ∧ ∀ x ∈ zs, x ≤ b
  | [], z, b => by simp
  | y :: zs, z, b => by
    rw [List.foldl_cons, foldl_max_le zs (max z y) b]
    simp only [List.mem_cons, forall_eq_or_imp]
    constructor
    · rintro ⟨h1, h2⟩
      exact ⟨by omega, by omega, h2⟩
    · rintro ⟨h1, h2, h3⟩
      exact ⟨by omega, h3⟩
theorem fine_max {z : Int} {zs : List Int} : fine (z :: zs) = decide (zs.foldl max z ≤ 30) := by
  have := Bool.eq_iff_iff (a := fine (z :: zs)) (b := decide (zs.foldl max z ≤ 30))
  rw [this, decide_eq_true_iff, foldl_max_le]
  simp [fine]
def spInitX (K : PySem.W.Frag) (C CA : Addr) : Sp := fun vs H Q E => ∃ (p t dx : Addr) (xs : List V), vs = [.ref p, .ref t] ∧ H p = some (.ins C dx []) ∧ H t = some (.tup xs) ∧ xs.length ≤ 1000 ∧ (∀ y ∈ xs, Kd K H y) ∧
  ((∀ ns, xs = ns.map V.int → 2 ≤ ns.length → ns.length ≤ 6 → Am ns → ∀ H', Kp p H H' → ShAt C H' p t ns → Q .non H') ∧ (isAm xs = true → ∃ ns : List Int, xs = ns.map V.int ∧ 2 ≤ ns.length ∧ ns.length ≤ 6 ∧ Am ns) ∧ (isAm xs = false → ∀ H', Same H H' → E (.ref CA) none H'))
def spPairX (K : PySem.W.Frag) (C CN : Addr) : Sp := fun vs H Q E => ∃ (s1 t1 : Addr) (ns : List Int) (y : V), vs = [.ref s1, y] ∧ ShAt C H s1 t1 ns ∧
  ((∃ (s2 t2 : Addr) (ms : List Int), y = .ref s2 ∧ ShAt C H s2 t2 ms ∧ (ns.length = ms.length → Q .non H) ∧ (¬ ns.length = ms.length → E (.ref CN) none H)) ∨ (∃ T, TyS H y T ∧ PySem.W.kitOne K (.type T) (.ref C) = some false ∧ E (.ref CN) none H))
def spAddX (K : PySem.W.Frag) (C CN CA : Addr) : Sp := fun vs H Q E => ∃ (s1 t1 : Addr) (ns : List Int) (y : V), vs = [.ref s1, y] ∧ ShAt C H s1 t1 ns ∧
  ((∃ (s2 t2 : Addr) (ms : List Int), y = .ref s2 ∧ ShAt C H s2 t2 ms ∧ (ns.length = ms.length → (fine (addl ns ms) = true → ∀ (s t : Addr) (H' : Hp), Same H H' → ShAt C H' s t (addl ns ms) → Q (.ref s) H') ∧ (fine (addl ns ms) = false → ∀ H', Same H H' → E (.ref CA) none H')) ∧ (¬ ns.length = ms.length → E (.ref CN) none H)) ∨
   (∃ T, TyS H y T ∧ PySem.W.kitOne K (.type T) (.ref C) = some false ∧ E (.ref CN) none H))
section
variable {P : Program} {w : World} {K : PySem.W.Frag} {mg : Str → Option Value} {base : Heap} {CShare CNoShare CNoAmounts : Addr}
theorem ok_initX (SShare : ShK K mg CShare) (e_NoAmounts : ExK K mg "NoAmounts" CNoAmounts) (c_is_amounts : Cal P w K mg base 3 "is_amounts" ["thing"] (spIsAm K)) (D : Mh K CShare "__init__" "Share.__init__" st_ShInit ["self", "amounts"]) : MCalX P w K mg base 4 CShare "__init__" ["self", "amounts"] (spInitX K CShare CNoAmounts) := by
  refine D.calX sc_ShInit (fun vs H Q E h => ?_) (fun f cdv A out s H vs Q E hr h => ?_)
  · obtain ⟨p, t, dx, xs, rfl, _⟩ := h
    rfl
  obtain ⟨p, t, dx, xs, rfl, hp, ht, lx, kd, k1, k2, k3⟩ := h
  refine ⟨_, (pss_cons (ps_if (pt_not (pt_val (pe_fn c_is_amounts (hr.mono (by decide)) (pa_cons (pv 1) pa_nil)))) (pss_one (ps_err e_NoAmounts (takes_of rfl rfl rfl rfl))) pss_nil)
   (pss_one (ps_fld (pv 0) (pv 1) rfl))), ?_⟩
  refine ⟨_, rfl, .ref t, rfl, .inl ⟨t, _, rfl, ht, lx, kd, fun H1 s1 => ?_⟩⟩
  cases e : isAm xs with
  | false => exact ⟨_, rfl, iteT (k3 e H1 s1)⟩
  | true =>
    obtain ⟨ns, rfl, h2, h6, am⟩ := k2 e
    refine ⟨_, rfl, iteF ?_⟩
    refine ⟨_, rfl, _, rfl, p, CShare, dx, _, rfl, s1 _ _ hp, SShare.cl, SShare.nB, (by show 0 < 1000; decide), ?_⟩
    have tp : t ≠ p := ne_of ht hp (by intro z; cases z)
    exact k1 ns rfl h2 h6 am _ (fun b o n e => by rw [upd_ne n]; exact s1 _ _ e) ⟨⟨dx, upd_same⟩, by rw [upd_ne tp]; exact s1 _ _ ht, h2, h6, am⟩
theorem ok_pairX (B : Bn mg) (SShare : ShK K mg CShare) (e_NoShare : ExK K mg "NoShare" CNoShare) (m_len : MCal P w K mg base 2 CShare "__len__" ["self"] (spLen CShare)) (D : Df K mg "check_pair" st_check_pair ["one", "other"]) : CalX P w K mg base 4 "check_pair" ["one", "other"] (spPairX K CShare CNoShare) := by
  refine D.calX sc_check_pair (fun vs H Q E h => ?_) (fun f cdv A out s H vs Q E hr h => ?_)
  · obtain ⟨s1, t1, ns, y, rfl, _⟩ := h
    rfl
  obtain ⟨s1, t1, ns, y, rfl, sh1, h⟩ := h
  refine ⟨_, (pss_cons (ps_if (PW.pt (pw_or (pt_not (pt_val (pe_callB call_isi (by rfl) B.n_isinstance (by decide +kernel) (pa_cons (pv 0) (pa_cons (pe_glob (v := .ref CShare) rfl SShare.mgC rfl) pa_nil))))) (pw_or1 (pt_not (pt_val (pe_callB call_isi (by rfl) B.n_isinstance (by decide +kernel) (pa_cons (pv 1) (pa_cons (pe_glob (v := .ref CShare) rfl SShare.mgC rfl) pa_nil)))))))) (pss_one (ps_err e_NoShare (takes_of rfl rfl rfl rfl))) pss_nil)
   (pss_one (ps_if (pt_cmpR op_ne (pe_callB (call_lenM m_len (hr.mono (by decide))) (by rfl) B.n_len (by decide +kernel) (pa_cons (pv 0) pa_nil)) (pe_callB (call_lenM m_len (hr.mono (by decide))) (by rfl) B.n_len (by decide +kernel) (pa_cons (pv 1) pa_nil)) (nomark _)) (pss_one (ps_err e_NoShare (takes_of rfl rfl rfl rfl))) pss_nil))), ?_⟩
  obtain ⟨⟨d1, a1⟩, _, _, l1, _⟩ := id sh1
  have ty : ∀ {s d t : Addr}, H s = some (.ins CShare d (shF t)) → TyX K H (.ref s) (.ref CShare) := fun e => .base (.ins e SShare.cl SShare.ca SShare.cg SShare.ct SShare.mro)
  refine ⟨_, rfl, _, _, _, _, true, rfl, .own _, ty a1, SShare.kit, _, rfl, iteF ?_⟩
  rcases h with ⟨s2, t2, ms, rfl, sh2, k1, k2⟩ | ⟨T, tyy, kt, k⟩
  · obtain ⟨⟨d2, a2⟩, _, _, l2, _⟩ := id sh2
    refine ⟨_, rfl, _, _, _, _, true, rfl, .own _, ty a2, SShare.kit, _, rfl, iteF ?_⟩
    refine ⟨_, rfl, s1, d1, _, rfl, a1, s1, t1, ns, rfl, sh1, ns.length, rfl, by omega, ?_⟩
    refine ⟨_, rfl, s2, d2, _, rfl, a2, s2, t2, ms, rfl, sh2, ms.length, rfl, by omega, rfl, _, rfl, ?_⟩
    refine ite2 (fun c => ?_) (fun c => ?_)
    · refine k2 fun e => ?_
      rw [e] at c
      simp at c
    · refine k1 ?_
      have c2 : V.int (ns.length : Int) = V.int (ms.length : Int) := by simpa using c
      have := V.int.inj c2
      omega
  · exact ⟨_, rfl, _, _, _, _, false, rfl, .own _, tyy.tyX, kt, _, rfl, iteT k⟩
end
end Pl
namespace Pl
/-! calm by what lacks of a bound: plain mathematics -/
def lack (ns : List Int) (c : Int) : Int := (ns.map fun x => max 0 (c - x)).sum
theorem lack_srt (ns : List Int) (c : Int) : lack (srt ns) c = lack ns c := perm_sum_map (srt_perm ns)
theorem lack_ge {ns : List Int} {k : Nat} (hk : k ≤ ns.length) (c : Int) : c * k - low ns k ≤ lack ns c := by
  have l : ((srt ns).take k).length = k := by rw [List.length_take, srt_length]; omega
  have a := sum_sub_const c ((srt ns).take k)
  rw [l] at a
  have b := sum_le_map (f := fun x => c - x) (g := fun x => max 0 (c - x)) (l := (srt ns).take k) fun x _ => by omega
  have d := sum_take_le (f := fun x => max 0 (c - x)) (fun x => by omega) (srt ns) k
  have e := lack_srt ns c
  unfold lack at e ⊢
  unfold low
  omega
theorem lack_at {ns : List Int} {k : Nat} {c : Int} (hk : k ≤ ns.length) (h1 : ∀ x ∈ (srt ns).take k, x ≤ c) (h2 : ∀ x ∈ (srt ns).drop k, c ≤ x) : lack ns c = c * k - low ns k := by
  have l : ((srt ns).take k).length = k := by rw [List.length_take, srt_length]; omega
  have a := sum_sub_const c ((srt ns).take k)
  rw [l] at a
  have b := sum_map_congr (f := fun x => max 0 (c - x)) (g := fun x => c - x) (l := (srt ns).take k) fun x hx => by have := h1 x hx; omega
  have d := sum_map_congr (f := fun x => max 0 (c - x)) (g := fun _ => (0 : Int)) (l := (srt ns).drop k) fun x hx => by have := h2 x hx; omega
  rw [sum_zero] at d
  have e := lack_srt ns c
  have s : lack (srt ns) c = (((srt ns).take k).map fun x => max 0 (c - x)).sum + (((srt ns).drop k).map fun x => max 0 (c - x)).sum := by
    unfold lack
    rw [← List.sum_append, ← List.map_append, List.take_append_drop]
  unfold low
  omega
theorem split_at (c : Int) : ∀ {s : List Int}, s.Pairwise (· ≤ ·) → ∃ k, k ≤ s.length ∧ (∀ x ∈ s.take k, x ≤ c) ∧ ∀ x ∈ s.drop k, c ≤ x
  | [], _ => ⟨0, by simp, by simp, by simp⟩
  | x :: s, h => by
    rw [List.pairwise_cons] at h
    by_cases xc : x ≤ c
    · obtain ⟨k, kl, a, b⟩ := split_at c h.2
      refine ⟨k + 1, by simp; omega, fun y hy => ?_, fun y hy => ?_⟩
      · rw [List.take_succ_cons] at hy
        rcases List.mem_cons.mp hy with z | z
        · rw [z]; exact xc
        · exact a y z
      · rw [List.drop_succ_cons] at hy
        exact b y hy
    · refine ⟨0, by simp, by simp, fun y hy => ?_⟩
      rw [List.drop_zero] at hy
      rcases List.mem_cons.mp hy with z | z
      · rw [z]; omega
      · have := h.1 y z; omega
/-- what is told of the bounds 1 to 30 -/
def lacks (ns ms : List Int) (n : Nat) : Bool := decide (ns.sum = ms.sum) && (List.range n).all fun i => decide (lack ms (i + 1) ≤ lack ns (i + 1))
theorem lacks_succ (ns ms : List Int) (n : Nat) : lacks ns ms (n + 1) = (lacks ns ms n && decide (lack ms (n + 1) ≤ lack ns (n + 1))) := by
  unfold lacks
  rw [List.range_succ, List.all_append, Bool.and_assoc]
  congr 1
  simp
theorem calm_iff {ns ms : List Int} : calm ns ms = true ↔ ns.sum = ms.sum ∧ ∀ k, k ≤ ns.length → low ns k ≤ low ms k := by
  simp only [calm, Bool.and_eq_true, decide_eq_true_eq, List.all_eq_true]
  constructor
  · rintro ⟨a, b⟩
    exact ⟨a, fun k hk => b k (List.mem_range.mpr (by omega))⟩
  · rintro ⟨a, b⟩
    exact ⟨a, fun k hk => b k (by have := List.mem_range.mp hk; omega)⟩
theorem calm_lack_le {ns ms : List Int} (ln : ns.length = ms.length) (h : calm ns ms = true) (c : Int) : lack ms c ≤ lack ns c := by
  obtain ⟨_, lo⟩ := calm_iff.mp h
  obtain ⟨k, kl, a, b⟩ := split_at c (srt_sorted ms)
  rw [srt_length] at kl
  rw [lack_at kl a b]
  have x := lo k (by omega)
  have y := lack_ge (ns := ns) (k := k) (by omega) c
  omega
theorem lack_zero {ns : List Int} (am : Am ns) : lack ns 0 = 0 := by
  unfold lack
  rw [sum_map_congr (g := fun _ => (0 : Int)) fun x hx => by have := am x hx; omega]
  exact sum_zero ns
theorem calm_of_lack {ns ms : List Int} (ln : ns.length = ms.length) (an : Am ns) (am : Am ms) (tot : ns.sum = ms.sum) (h : ∀ c : Int, 1 ≤ c → c ≤ 30 → lack ms c ≤ lack ns c) : calm ns ms = true := by
  refine calm_iff.mpr ⟨tot, fun k hk => ?_⟩
  cases k with
  | zero => exact Int.le_refl _
  | succ j =>
    have jl : j < (srt ns).length := by rw [srt_length]; omega
    have e : (srt ns)[j]? = some (srt ns)[j] := List.getElem?_eq_getElem jl
    generalize (srt ns)[j] = c at e
    have sd := srt_sorted ns
    have cm := an c ((srt_perm ns).mem_iff.mp (List.mem_of_getElem? e))
    have h1 : ∀ x ∈ (srt ns).take (j + 1), x ≤ c := fun x hx => by
      obtain ⟨i, hi⟩ := List.getElem?_of_mem hx
      have il := (List.getElem?_eq_some_iff.mp hi).1
      rw [List.length_take] at il
      rw [List.getElem?_take_of_lt (by omega)] at hi
      exact pairwise_get sd (by omega) hi e
    have h2 : ∀ x ∈ (srt ns).drop (j + 1), c ≤ x := fun x hx => by
      obtain ⟨i, hi⟩ := List.getElem?_of_mem hx
      rw [List.getElem?_drop] at hi
      exact pairwise_get sd (by omega) e hi
    have a := lack_at hk h1 h2
    have b := lack_ge (ns := ms) (k := j + 1) (by omega) c
    by_cases c0 : c = 0
    · subst c0
      rw [lack_zero an] at a
      rw [lack_zero am] at b
      omega
    · have := h c (by omega) cm.2
      omega
theorem calm_lacks {ns ms : List Int} (ln : ns.length = ms.length) (an : Am ns) (am : Am ms) : lacks ns ms 30 = calm ns ms := by
  refine Bool.eq_iff_iff.mpr ⟨fun h => ?_, fun h => ?_⟩
  · simp only [lacks, Bool.and_eq_true, decide_eq_true_eq, List.all_eq_true] at h
    refine calm_of_lack ln an am h.1 fun c c1 c2 => ?_
    have := h.2 (c - 1).toNat (List.mem_range.mpr (by omega))
    have e : (((c - 1).toNat : Nat) : Int) + 1 = c := by omega
    rw [e] at this
    exact this
  · simp only [lacks, Bool.and_eq_true, decide_eq_true_eq, List.all_eq_true]
    exact ⟨(calm_iff.mp h).1, fun i _ => calm_lack_le ln h _⟩
theorem calm_trans {ns ms zs : List Int} (ln : ns.length = ms.length) (h1 : calm ns ms = true) (h2 : calm ms zs = true) : calm ns zs = true := by
  obtain ⟨a1, b1⟩ := calm_iff.mp h1
  obtain ⟨a2, b2⟩ := calm_iff.mp h2
  exact calm_iff.mpr ⟨a1.trans a2, fun k hk => Int.le_trans (b1 k hk) (b2 k (by omega))⟩
theorem calm_perm {ns ms : List Int} (p : ns.Perm ms) : calm ns ms = true := by
  refine calm_iff.mpr ⟨perm_sum p, fun k _ => ?_⟩
  have e : srt ns = srt ms := srt_of ((srt_perm ns).trans p) (srt_sorted ns)
  unfold low
  rw [e]
  exact Int.le_refl _
theorem addl_low {ns zs : List Int} (ln : ns.length = zs.length) (k : Nat) : low (addl (srt ns) (srt zs)) k = low ns k + low zs k := by
  have l : (srt ns).length = (srt zs).length := by rw [srt_length, srt_length, ln]
  have sd : (addl (srt ns) (srt zs)).Pairwise (· ≤ ·) := by
    rw [List.pairwise_iff_getElem]
    intro i j hi hj ij
    simp only [addl, List.getElem_zipWith]
    simp only [addl, List.length_zipWith] at hi hj
    have a := (List.pairwise_iff_getElem.mp (srt_sorted ns)) i j (by omega) (by omega) ij
    have b := (List.pairwise_iff_getElem.mp (srt_sorted zs)) i j (by omega) (by omega) ij
    omega
  have e : addl (srt ns) (srt zs) = srt (addl (srt ns) (srt zs)) := srt_of (List.Perm.refl _) sd
  have gen : ∀ (a b : List Int), a.length = b.length → (addl a b).sum = a.sum + b.sum := by
    intro a
    induction a with
    | nil => intro b h; cases b with
      | nil => rfl
      | cons _ _ => cases h
    | cons x a ih => intro b h; cases b with
      | nil => cases h
      | cons y b =>
        have := ih b (by simpa using h)
        simp only [addl, List.zipWith_cons_cons, List.sum_cons] at this ⊢
        omega
  unfold low
  rw [← e, ← gen _ _ (by rw [List.length_take, List.length_take, l])]
  unfold addl
  rw [List.take_zipWith]
theorem calm_add {ns ms zs : List Int} (ln : ns.length = ms.length) (lz : ns.length = zs.length) : calm (addl (srt ns) (srt zs)) (addl (srt ms) (srt zs)) = calm ns ms := by
  have l1 : (addl (srt ns) (srt zs)).length = ns.length := by rw [addl_length (by rw [srt_length, srt_length, lz]), srt_length]
  have l2 : (addl (srt ms) (srt zs)).length = ms.length := by rw [addl_length (by rw [srt_length, srt_length]; omega), srt_length]
  have t1 : (addl (srt ns) (srt zs)).sum = ns.sum + zs.sum := by
    have := low_all (addl (srt ns) (srt zs))
    rw [l1, addl_low lz, low_all, lz, low_all] at this
    omega
  have t2 : (addl (srt ms) (srt zs)).sum = ms.sum + zs.sum := by
    have := low_all (addl (srt ms) (srt zs))
    rw [l2, addl_low (by omega), low_all, ← ln, lz, low_all] at this
    omega
  refine Bool.eq_iff_iff.mpr ?_
  rw [calm_iff, calm_iff, t1, t2, l1]
  refine and_congr ⟨fun h => by omega, fun h => by omega⟩ (forall_congr' fun k => imp_congr_right fun _ => ?_)
  rw [addl_low lz, addl_low (by omega)]
  exact ⟨fun h => by omega, fun h => by omega⟩
/-- one unit moved: calmer -/
theorem lack_stp {a : List Int} {p q : Nat} {x y : Int} (hx : a[p]? = some x) (hy : a[q]? = some y) (pq : p ≠ q) (c : Int) : lack (stp a p q x y) c = lack a c - max 0 (c - x) + max 0 (c - (x + 1)) - max 0 (c - y) + max 0 (c - (y - 1)) := by
  unfold stp
  rw [lack_srt]
  unfold lack
  rw [sum_set (x := y) (by rw [List.getElem?_set_ne pq]; exact hy), sum_set hx]
theorem sum_stp {a : List Int} {p q : Nat} {x y : Int} (hx : a[p]? = some x) (hy : a[q]? = some y) (pq : p ≠ q) : (stp a p q x y).sum = a.sum := by
  unfold stp
  rw [perm_sum (srt_perm _)]
  have e := sum_set (f := fun z => z) (l := a.set p (x + 1)) (i := q) (x := y) (y := y - 1) (by rw [List.getElem?_set_ne pq]; exact hy)
  have e2 := sum_set (f := fun z => z) (l := a) (i := p) (x := x) (y := x + 1) hx
  simp only [List.map_id'] at e e2
  omega
theorem mv_calmer {a c : List Int} (m : Mv a c) (ama : Am a) (amc : Am c) : c.length = a.length ∧ calm a c = true ∧ calm c a = false := by
  obtain ⟨p, q, x, y, hx, hy, xy, rfl⟩ := m
  have pq : p ≠ q := fun z => by
    subst z
    rw [hx] at hy
    have := Option.some.inj hy
    omega
  have ln : (stp a p q x y).length = a.length := by simp [stp, srt_length]
  have xm := ama x (List.mem_of_getElem? hx)
  have ym := ama y (List.mem_of_getElem? hy)
  refine ⟨ln, calm_of_lack ln.symm ama amc (sum_stp hx hy pq).symm fun d _ _ => ?_, ?_⟩
  · rw [lack_stp hx hy pq]
    omega
  · cases e : calm (stp a p q x y) a with
    | false => rfl
    | true =>
      have := calm_lack_le ln e (x + 1)
      rw [lack_stp hx hy pq] at this
      omega
end Pl
namespace Pl
open PySem PySem.Spec PyProof.Rows L2
def spLack (C : Addr) : Sp := fun vs H Q _ => ∃ (s t : Addr) (ns : List Int) (c : Int), vs = [.ref s, .int c] ∧ ShAt C H s t ns ∧ ∀ H', Same H H' → Q (.int (lack ns c)) H'
def spTold (C : Addr) : Sp := fun vs H Q _ => ∃ (s1 t1 s2 t2 : Addr) (ns ms : List Int), vs = [.ref s1, .ref s2] ∧ ShAt C H s1 t1 ns ∧ ShAt C H s2 t2 ms ∧ ns.length = ms.length ∧ ∀ H', Same H H' → Q (.bl true) H'
theorem PathV.word {H : Hp} {v : V} {ns ms : List Int} (h : PathV H v ns ms) : ∃ (q : Addr) (y : V) (wd : Str), v = .ref q ∧ H q = some (.tup [.str wd, y]) ∧ decide (V.str wd = V.str "calmer") = calm ns ms ∧ decide (V.str wd = V.str "gap") = !calm ns ms := by
  rcases h with ⟨c, n, q, p, ws, f, n27, e, hq, hp, wl, tu⟩ | ⟨c, g, q, f, e, hq⟩
  · refine ⟨q, _, _, e, hq, ?_, ?_⟩ <;> rw [c] <;> decide +kernel
  · refine ⟨q, _, _, e, hq, ?_, ?_⟩ <;> rw [c] <;> decide +kernel
theorem cut_drop {xs : List V} {n : Nat} (h : n ≤ xs.length) : cutV xs (some (n : Int)) none = xs.drop n := by
  unfold cutV
  rw [HT.sIx_none, HT.sIx_nat, Nat.min_eq_left h, List.take_of_length_le (by rw [List.length_drop]; exact Nat.le_refl _)]
theorem ShAt.put {C D s t : Addr} {H : Hp} {ns : List Int} {ys : List V} {o : HO} (sh : ShAt C H s t ns) (hD : H D = some (.lst ys)) : ShAt C (L2.upd H D o) s t ns := by
  obtain ⟨⟨dx, h1⟩, h2, r⟩ := sh
  exact ⟨⟨dx, by rw [upd_ne (ne_of h1 hD (by intro z; cases z))]; exact h1⟩, by rw [upd_ne (ne_of h2 hD (by intro z; cases z))]; exact h2, r⟩
/-- shares of the first i amounts stand in the list at D -/
def ShInv (C D : Addr) (H0 : Hp) (f : Nat → List Int) (i : Nat) (H : Hp) : Prop := Same H0 H ∧ ∃ os : List V, os.length = i ∧ H D = some (.lst os) ∧ ∀ j, j < i → ∃ s t, os[j]? = some (.ref s) ∧ ShAt C H s t (f j)
theorem ShInv.start {C D : Addr} {H0 : Hp} {f : Nat → List Int} (h : H0 D = none) : ShInv C D H0 f 0 (L2.upd H0 D (.lst [])) := ⟨same_new (Same.refl H0) h, [], rfl, upd_same, fun j hj => by omega⟩
theorem ShInv.step {C D o t : Addr} {H0 H H' : Hp} {f : Nat → List Int} {i : Nat} (q : ShInv C D H0 f i H) (k : Same H H') (hD : H0 D = none) (few : i ≤ 10000) (sh : ShAt C H' o t (f i)) :
    ∃ acc, H' D = some (.lst acc) ∧ acc.length < sizeLine ∧ ShInv C D H0 f (i + 1) (L2.upd H' D (.lst (acc ++ [.ref o]))) := by
  obtain ⟨k0, os, ol, hd, ss⟩ := q
  have hd' := k _ _ hd
  refine ⟨os, hd', size_lt' (by omega), same_put (k0.trans k) hD, os ++ [.ref o], by simp [ol], upd_same, fun j hj => ?_⟩
  rcases Nat.lt_or_eq_of_le (Nat.le_of_lt_succ hj) with z | z
  · obtain ⟨s, u, e, sa⟩ := ss j z
    exact ⟨s, u, by rw [List.getElem?_append_left (by omega)]; exact e, (sa.same k).put hd'⟩
  · subst z
    exact ⟨o, t, by rw [List.getElem?_append_right (by omega), ol]; simp, sh.put hd'⟩
section
variable {P : Program} {w : World} {K : PySem.W.Frag} {mg : Str → Option Value} {base : Heap} {CShare : Addr}
abbrev st_l_lack : Stmt := top 41
theorem sc_l_lack : FnScope ["_law_share", "_law_bound", "_law_amount"] ["_law_share", "_law_bound"] (defScope st_l_lack) := ⟨rfl, rfl, rfl, by decide +kernel, rfl, by decide +kernel, by decide +kernel⟩
theorem ok_lack (B : Bn mg) (SShare : ShK K mg CShare) (p_amounts : PCal P w K mg base 2 CShare "amounts" ["self"] (getSp CShare "by_state")) (D : Df K mg "_law_lack" st_l_lack ["_law_share", "_law_bound"]) : Cal P w K mg base 4 "_law_lack" ["_law_share", "_law_bound"] (spLack CShare) := by
  refine D.cal sc_l_lack (fun vs H Q E h => ?_) (fun f cdv A out s H vs Q E hr h => ?_)
  · obtain ⟨s, t, ns, c, rfl, _⟩ := h
    rfl
  obtain ⟨s, t, ns, c, rfl, ⟨⟨dx, h1⟩, h2, _, l6, _⟩, k⟩ := h
  refine ⟨_, (pss_one (ps_ret (pe_callB (cr_sum rfl) (by rfl) B.n_sum (by decide +kernel) (pa_cons (pe_lc (own := [("_law_amount", 2)]) (g := gName 2) rfl sc_l_lack.nd (pi_tup (pe_pr p_amounts SShare.cl (hr.mono (by decide)) (pv 0))) (blkOk_by (N := ["_law_share", "_law_bound", "_law_amount"]) (sc := defScope st_l_lack) (by decide +kernel)) (fun _ _ _ _ _ => (pg_name (i := 2) sc_l_lack.nd rfl (.inl rfl))) (fun _ _ _ _ _ => pts_nil) (fun _ _ _ _ _ => (pe_callB (call_max2 rfl) (by rfl) B.n_max (by decide +kernel) (pa_cons pe_int (pa_cons (pe_op op_sub (pv 1) (pv 2)) pa_nil))))) pa_nil)))), ?_⟩
  refine ⟨_, rfl, s, dx, _, rfl, h1, s, dx, _, _, rfl, h1, shF_get t, t, rfl, ⟨_, SqT.of h2⟩, fun D hD => lc_tup (K := K) (a := t) (xs := ns.map V.int) (fun i H' => Same H H' ∧ H' D = some (.lst (((ns.take i).map fun x => max 0 (c - x)).map V.int)))
    ⟨same_new (Same.refl H) hD, upd_same⟩ (fun i H' _ q => SqT.of (q.1 _ _ h2)) (fun i x H' hx q => ⟨rfl, tyes ?_⟩) (fun H1 q1 => ?_)⟩
  · rw [List.getElem?_map] at hx
    cases e : ns[i]? with
    | none => rw [e] at hx; cases hx
    | some z =>
      rw [e] at hx
      obtain rfl : V.int z = x := Option.some.inj hx
      refine ⟨_, rfl, _, rfl, _, _, rfl, rfl, _, _, rfl, _, q.2, size_lt (by simp; omega), same_put q.1 hD, ?_⟩
      rw [upd_same, List.take_add_one, e, List.map_append, List.map_append]
      have m : (if c - z > 0 then c - z else 0) = max 0 (c - z) := by split <;> omega
      rw [m]
      rfl
  · have e := q1.2
    rw [List.length_map, List.take_length] at e
    exact ⟨D, _, rfl, SqL.of e, k _ q1.1⟩
abbrev st_l_is_told : Stmt := top 42
theorem sc_l_is_told : FnScope ["_law_one", "_law_other_here", "_law_due", "_law_bound", "_law_found", "_law_told", "_law_steps", "_law_step", "_law_later"] ["_law_one", "_law_other_here"] (defScope st_l_is_told) := ⟨rfl, rfl, rfl, by decide +kernel, rfl, by decide +kernel, by decide +kernel⟩
theorem ok_told (B : Bn mg) (SShare : ShK K mg CShare) (m_initShare : MCal P w K mg base 4 CShare "__init__" ["self", "amounts"] (spInit CShare)) (p_total : PCal P w K mg base 2 CShare "total" ["self"] (spTotal CShare)) (m_call : MCal P w K mg base 3 CShare "__call__" ["self", "k"] (spCall CShare)) (m_len : MCal P w K mg base 2 CShare "__len__" ["self"] (spLen CShare))
    (c_l_lack : Cal P w K mg base 4 "_law_lack" ["_law_share", "_law_bound"] (spLack CShare)) (c_path : Cal P w K mg base 6 "path" ["one", "other"] (spPath K CShare)) (c_is_calm : Cal P w K mg base 5 "is_calm" ["one", "other"] (spCalm CShare)) (c_is_calmer : Cal P w K mg base 6 "is_calmer" ["one", "other"] (spCalmer CShare)) (c_shows_path : Cal P w K mg base 6 "shows_path" ["one", "other", "thing"] (spShows CShare)) (c_l_is_equal : CalG P w K mg base 2 "_law_is_equal" ["_law_actual", "_law_expected"] (spEqual K)) (D : Df K mg "_law_is_told" st_l_is_told ["_law_one", "_law_other_here"]) : CalG P w K mg base 7 "_law_is_told" ["_law_one", "_law_other_here"] (spTold CShare) := by
  refine D.calG sc_l_is_told (fun vs H Q E h => ?_) (fun f cdv A out s H vs Q E gd hr h => ?_)
  · obtain ⟨s1, t1, s2, t2, ns, ms, rfl, _⟩ := h
    rfl
  obtain ⟨s1, t1, s2, t2, ns, ms, rfl, sh1, sh2, ln, k⟩ := h
  obtain ⟨⟨d1, a1⟩, b1, l2, l6, am1⟩ := id sh1
  obtain ⟨⟨d2, a2⟩, b2, _, _, am2⟩ := id sh2
  refine ⟨_, (pss_cons (ps_set (i := 2) sc_l_is_told.nd rfl (.inl rfl) (pe_cmpR op_eq (pe_pr p_total SShare.cl (hr.mono (by decide)) (pv 0)) (pe_pr p_total SShare.cl (hr.mono (by decide)) (pv 1)) (nomark _)))
   (pss_cons (ps_for PassesOwn.never rfl (pi_range2 (by rfl) B.n_range (pa_cons pe_int (pa_cons pe_int pa_nil))) (pg_name (i := 3) sc_l_is_told.nd rfl (.inl rfl))
   (pss_one (ps_set (i := 2) sc_l_is_told.nd rfl (.inl rfl) (pe_and (pv 2) (pe_one (pe_cmpR op_le (pe_fn c_l_lack (hr.mono (by decide)) (pa_cons (pv 1) (pa_cons (pv 3) pa_nil))) (pe_fn c_l_lack (hr.mono (by decide)) (pa_cons (pv 0) (pa_cons (pv 3) pa_nil))) (nomark _)))))))
   (pss_cons (ps_set (i := 4) sc_l_is_told.nd rfl (.inl rfl) (pe_fn c_path (hr.mono (by decide)) (pa_cons (pv 0) (pa_cons (pv 1) pa_nil))))
   (pss_cons (ps_set (i := 5) sc_l_is_told.nd rfl (.inl rfl) (pe_lst (pa_cons (pe_fn c_is_calm (hr.mono (by decide)) (pa_cons (pv 0) (pa_cons (pv 1) pa_nil))) (pa_cons (pe_cmpR op_eq (pe_ix ix_tup (pv 4) pe_int (fun _ _ => rfl)) pe_str (nomark _)) (pa_cons (pe_cmpR op_eq (pe_ix ix_tup (pv 4) pe_int (fun _ _ => rfl)) pe_str (nomark _)) (pa_cons (pe_fn c_shows_path (hr.mono (by decide)) (pa_cons (pv 0) (pa_cons (pv 1) (pa_cons (pv 4) pa_nil)))) pa_nil))))))
   (pss_cons (ps_if (pt_not (pt_val (pe_fnG c_l_is_equal gd (hr.mono (by decide)) (pa_cons (pv 5) (pa_cons (pe_lst (pa_cons (pv 2) (pa_cons (pv 2) (pa_cons (pe_not (pv 2)) (pa_cons pe_bl pa_nil))))) pa_nil))))) (pss_one (ps_ret pe_bl)) pss_nil)
   (pss_cons (ps_if (pt_cmpR op_ne (pe_fn c_is_calmer (hr.mono (by decide)) (pa_cons (pv 0) (pa_cons (pv 1) pa_nil))) (pe_and (pv 2) (pe_one (pe_not (pe_fn c_is_calm (hr.mono (by decide)) (pa_cons (pv 1) (pa_cons (pv 0) pa_nil)))))) (nomark _)) (pss_one (ps_ret pe_bl)) pss_nil)
   (pss_cons (ps_if (pt_not (pt_val (pv 2))) (pss_one (ps_ret (pe_or (pe_cmpR op_gt (pe_callM m_call SShare.fi (hr.mono (by decide)) (pv 0) (pa_cons (pe_ix ix_tup (pv 4) pe_int (fun _ _ => rfl)) pa_nil)) (pe_callM m_call SShare.fi (hr.mono (by decide)) (pv 1) (pa_cons (pe_ix ix_tup (pv 4) pe_int (fun _ _ => rfl)) pa_nil)) (nomark _)) (pe_one (pe_and (pe_cmpR op_eq (pe_ix ix_tup (pv 4) pe_int (fun _ _ => rfl)) (pe_callB (call_lenM m_len (hr.mono (by decide))) (by rfl) B.n_len (by decide +kernel) (pa_cons (pv 0) pa_nil)) (nomark _)) (pe_one (pe_cmpR op_ne (pe_pr p_total SShare.cl (hr.mono (by decide)) (pv 0)) (pe_pr p_total SShare.cl (hr.mono (by decide)) (pv 1)) (nomark _)))))))) pss_nil)
   (pss_cons (ps_setLc (i := 6) (own := [("_law_step", 7)]) (g := gName 7) rfl sc_l_is_told.nd rfl rfl (sw_true rfl rfl rfl (by decide +kernel)) (pi_tup (pe_ix ix_tup (pv 4) pe_int (fun _ _ => rfl))) (blkOk_by (N := ["_law_one", "_law_other_here", "_law_due", "_law_bound", "_law_found", "_law_told", "_law_steps", "_law_step", "_law_later"]) (sc := defScope st_l_is_told) (by decide +kernel)) (fun _ _ _ _ _ => (pg_name (i := 7) sc_l_is_told.nd rfl (.inl rfl))) (fun _ _ _ _ _ => pts_nil) (fun _ _ _ _ _ => (pe_mk m_initShare SShare.mks SShare.kc SShare.mgC (hr.mono (by decide)) (pa_cons (pv 7) pa_nil))))
   (pss_one (ps_ret (pe_callB (cr_all rfl) (by rfl) B.n_all (by decide +kernel) (pa_cons (pe_lc (own := [("_law_step", 7), ("_law_later", 8)]) (g := gTup K 2 (gCons (gName 7) (gCons (gName 8) gNil))) rfl sc_l_is_told.nd (pi_zip (by rfl) B.n_zip (pa_cons (pv 6) (pa_cons (pe_slice sl_list (pv 6) (po_some pe_int) po_none) pa_nil))) (blkOk_by (N := ["_law_one", "_law_other_here", "_law_due", "_law_bound", "_law_found", "_law_told", "_law_steps", "_law_step", "_law_later"]) (sc := defScope st_l_is_told) (by decide +kernel)) (fun _ _ _ _ _ => (pg_tup rfl (pgs_cons (pg_name (i := 7) sc_l_is_told.nd rfl (.inl rfl)) (pgs_cons (pg_name (i := 8) sc_l_is_told.nd rfl (.inl rfl)) pgs_nil)))) (fun _ _ _ _ _ => pts_nil) (fun _ _ _ _ _ => (pe_fn c_is_calmer (hr.mono (by decide)) (pa_cons (pv 7) (pa_cons (pv 8) pa_nil))))) pa_nil)))))))))))), ?_⟩
  refine ⟨_, rfl, s1, d1, _, rfl, a1, s1, t1, ns, rfl, sh1, _, rfl, s2, d2, _, rfl, a2, s2, t2, ms, rfl, sh2, rfl, ?_⟩
  refine ⟨1, 31, rfl, by decide, ?_⟩
  refine for_range (lo := 1) (n := 30) (fun i σ H' => ∃ vb : Option V, σ = [some (.ref s1), some (.ref s2), some (.bl (lacks ns ms i)), vb, none, none, none, none, none] ∧ Same H H') ⟨none, ?_, Same.refl H⟩ ?_ ?_
  · have e : lacks ns ms 0 = decide (ns.sum = ms.sum) := by simp [lacks]
    have e2 : decide (V.int ns.sum = V.int ms.sum) = decide (ns.sum = ms.sum) := by simp
    rw [e, e2]
    rfl
  · rintro i σ H1 hi ⟨vb, rfl, k1⟩
    refine ⟨_, rfl, _, rfl, ?_⟩
    cases e : lacks ns ms i with
    | false =>
      refine iteF ⟨some (.int (1 + i)), ?_, k1⟩
      rw [lacks_succ, e]
      rfl
    | true =>
      refine iteT ?_
      refine ⟨_, rfl, _, rfl, s2, t2, ms, _, rfl, sh2.same k1, fun H2 k2 => ?_⟩
      refine ⟨_, rfl, _, rfl, s1, t1, ns, _, rfl, (sh1.same k1).same k2, fun H3 k3 => ?_⟩
      refine ⟨_, _, rfl, rfl, some (.int (1 + i)), ?_, (k1.trans k2).trans k3⟩
      rw [lacks_succ, e, Bool.true_and, Int.add_comm 1 (i : Int)]
      rfl
  · rintro σ H1 ⟨vb, rfl, k1⟩
    rw [calm_lacks ln am1 am2]
    refine ⟨_, rfl, _, rfl, s1, t1, s2, t2, ns, ms, rfl, sh1.same k1, sh2.same k1, ln, fun v d H2 k2 pth pd dp => ?_⟩
    have k2 := k1.trans k2
    obtain ⟨q, y, wd, rfl, hq, w1, w2⟩ := pth.word
    refine ⟨_, rfl, _, rfl, s1, t1, s2, t2, ns, ms, rfl, sh1.same k2, sh2.same k2, ln, fun H3 k3 => ?_⟩
    refine ⟨_, rfl, q, _, _, _, rfl, rfl, SqT.of (k3 _ _ hq), atI_nat (j := 0) rfl, rfl, ?_⟩
    refine ⟨_, rfl, q, _, _, _, rfl, rfl, SqT.of (k3 _ _ hq), atI_nat (j := 0) rfl, rfl, ?_⟩
    have k3' := k2.trans k3
    refine ⟨_, rfl, _, rfl, _, rfl, s1, t1, s2, t2, ns, ms, _, rfl, sh1.same k3', sh2.same k3', ln, pth.same k3, fun H4 k4 => ?_⟩
    have k4' := k3'.trans k4
    refine ⟨(by show 4 ≤ sizeLine; decide), fun L hL => ?_⟩
    rw [w1, w2]
    generalize hH5 : upd H4 L _ = H5
    have k5 : Same H4 H5 := by rw [← hH5]; exact same_new (Same.refl H4) hL
    have hL5 : H5 L = some (.lst [.bl (calm ns ms), .bl (calm ns ms), .bl (!calm ns ms), .bl true]) := by rw [← hH5, upd_same]
    refine ⟨_, rfl, _, rfl, _, rfl, _, rfl, _, rfl, (by show 4 ≤ sizeLine; decide), fun M hM => ?_⟩
    generalize hH6 : upd H5 M _ = H6
    have k6 : Same H5 H6 := by rw [← hH6]; exact same_new (Same.refl H5) hM
    have hM6 : H6 M = some (.lst [.bl (calm ns ms), .bl (calm ns ms), .bl (!calm ns ms), .bl true]) := by rw [← hH6, upd_same]
    have fit : Shw (.list [.bool (calm ns ms), .bool (calm ns ms), .bool (!calm ns ms), .bool true]) :=
      (Fit.list (k := 0) (FitAll.cons (Fit.bool _) (FitAll.cons (Fit.bool _) (FitAll.cons (Fit.bool _) (FitAll.cons (Fit.bool _) FitAll.nil))))).shw (by decide) (by decide)
    refine ⟨L, M, _, _, rfl, .lst (SqL.of (k6 _ _ hL5)) (.cons (.bl _) (.cons (.bl _) (.cons (.bl _) (.cons (.bl _) .nil)))), .lst (SqL.of hM6) (.cons (.bl _) (.cons (.bl _) (.cons (.bl _) (.cons (.bl _) .nil)))), fit, fit, ?_⟩
    rw [decide_eq_true rfl]
    refine ⟨_, rfl, iteF ?_⟩
    have k6' : Same H H6 := (k4'.trans k5).trans k6
    have kp : Same H2 H6 := ((k3.trans k4).trans k5).trans k6
    have pth := pth.same kp
    have hq := kp _ _ hq
    refine ⟨_, rfl, _, rfl, s1, t1, s2, t2, ns, ms, rfl, sh1.same k6', sh2.same k6', ln, fun H7 k7 => ⟨_, rfl, _, rfl, ?_⟩⟩
    have k7' := k6'.trans k7
    have pth := pth.same k7
    have hq := k7 _ _ hq
    rcases pth with ⟨c, n, q', p, ws, fn, n27, e, hq', hp, wl, tu⟩ | ⟨c, g, q', fg, e, hq'⟩
    · obtain rfl := V.ref.inj e
      rw [hq] at hq'
      injection hq' with z
      injection z with z
      injection z with z1 z
      injection z with z2 z
      subst z2
      rw [c]
      refine iteT ⟨_, rfl, _, rfl, s2, t2, s1, t1, ms, ns, rfl, sh2.same k7', sh1.same k7', ln.symm, fun H8 k8 => ⟨_, rfl, rfl, _, rfl, ?_⟩⟩
      rw [Bool.true_and, decide_eq_true rfl]
      refine iteF ?_
      refine ⟨_, rfl, _, rfl, iteF ?_⟩
      have k8' := k7'.trans k8
      have g := calm_gd ln am1 am2 c
      have gi : ∀ i, i < n + 1 → Gd (it (srt ns) (srt ms) i) (srt ms) := fun i hi => (gd_it g i fun j hj => fn.2 j (by omega)).1
      have lg : ∀ i, i < n + 1 → (it (srt ns) (srt ms) i).length = ns.length := fun i hi => by rw [(gi i hi).ln, srt_length, ln]
      have hp8 := k8 _ _ hp
      refine ⟨_, rfl, q, _, _, _, rfl, rfl, SqT.of (k8 _ _ hq), atI_nat (j := 1) rfl, p, rfl, ⟨_, SqT.of hp8⟩, fun D hD => lc_tup (K := K) (a := p) (xs := ws) (ShInv CShare D H8 (it (srt ns) (srt ms)))
        (ShInv.start hD) (fun i H' _ q => SqT.of (q.1 _ _ hp8)) (fun i x H' hx q => ⟨rfl, tyes ?_⟩) (fun H9 q9 => ?_)⟩
      · have il := (List.getElem?_eq_some_iff.mp hx).1
        obtain ⟨t, e, ht⟩ := tu i (by omega)
        rw [e] at hx
        obtain rfl := Option.some.inj hx
        have := lg i (by omega)
        exact ⟨_, rfl, fun o d x y _ => mk_at x y (q.1 _ _ (k8 _ _ ht)) (by omega) (by omega) (gi i (by omega)).ama fun H' k' sh => q.step k' hD (by omega) sh⟩
      · rw [wl] at q9
        obtain ⟨k9, os, ol, hD9, sh9⟩ := q9
        refine ⟨_, rfl, _, rfl, 1, rfl, D, _, rfl, SqL.of hD9, fun r hr => ?_⟩
        have ec : cutV os (some 1) none = os.drop 1 := cut_drop (n := 1) (by omega)
        rw [ec]
        generalize hH10 : upd H9 r _ = H10
        have k10 : Same H9 H10 := by rw [← hH10]; exact same_new (Same.refl H9) hr
        have hr10 : H10 r = some (.lst (os.drop 1)) := by rw [← hH10, upd_same]
        have wz := walk_zip (K := K) (a := D) (b := r) (xs := os) (ys := os.drop 1) (n := n) (by rw [List.length_drop, ol]; omega)
        refine ⟨D, r, _, _, rfl, SqL.of (k10 _ _ hD9), SqL.of hr10, fun D2 hD2 => lc_it wz (fun i H' => Same H10 H' ∧ H' D2 = some (.lst (List.replicate i (.bl true))))
          ⟨same_new (Same.refl H10) hD2, upd_same⟩ (fun i H' _ q => ⟨SqL.of (q.1 _ _ (k10 _ _ hD9)), SqL.of (q.1 _ _ hr10)⟩) ?_ ?_⟩
        · rintro i x H11 H12 hi q11 ⟨T, x', y', rfl, nT, rfl, ex, ey⟩
          obtain ⟨o1, u1, e1, sa⟩ := sh9 i (by omega)
          obtain ⟨o2, u2, e2, sb⟩ := sh9 (i + 1) (by omega)
          have ex : os[i]? = some x' := ex
          have ey : (os.drop 1)[i]? = some y' := ey
          rw [List.getElem?_drop, Nat.add_comm 1 i] at ey
          rw [e1] at ex
          rw [e2] at ey
          obtain rfl := Option.some.inj ex
          obtain rfl := Option.some.inj ey
          have k12 : Same H11 (upd H11 T (.tup [.ref o1, .ref o2])) := same_new (Same.refl H11) nT
          have kz := (k10.trans q11.1).trans k12
          have gg := gi i (by omega)
          have mv : Mv (it (srt ns) (srt ms) i) (it (srt ns) (srt ms) (i + 1)) := by
            obtain ⟨p, q, x, y, pq⟩ := gg.pq (fn.2 i hi)
            exact ⟨p, q, x, y, pq.hx, pq.hy, (pq.step gg).2.2, nxt_eq gg.ln pq⟩
          obtain ⟨_, c1, c2⟩ := mv_calmer mv gg.ama (gi (i + 1) (by omega)).ama
          refine ⟨T, _, rfl, SqT.of upd_same, rfl, _, _, rfl, _, _, rfl, rfl, rfl, tyes ?_⟩
          refine ⟨_, rfl, _, rfl, o1, u1, o2, u2, _, _, rfl, sa.same kz, sb.same kz, by rw [lg i (by omega), lg (i + 1) (by omega)], fun H13 k13 => ?_⟩
          rw [c1, c2]
          refine ⟨_, k13 _ _ (k12 _ _ q11.2), size_lt' (by rw [List.length_replicate]; omega), same_put ((q11.1.trans k12).trans k13) hD2, ?_⟩
          rw [upd_same, List.replicate_succ']
          rfl
        · intro H11 q11
          have e1 : (List.replicate n true).map V.bl = List.replicate n (.bl true) := List.map_replicate
          have e2 : (List.replicate n true).all id = true := by
            rw [List.all_eq_true]
            intro x hx
            exact (List.mem_replicate.mp hx).2
          refine ⟨D2, List.replicate n true, rfl, SqL.of (by rw [e1]; exact q11.2), ?_⟩
          rw [e2]
          exact k _ (((k8'.trans k9).trans k10).trans q11.1)
    · obtain rfl := V.ref.inj e
      rw [hq] at hq'
      injection hq' with z
      injection z with z
      injection z with z1 z
      injection z with z2 z
      subst z2
      rw [c]
      refine iteF ⟨rfl, _, rfl, ?_⟩
      rw [Bool.false_and, decide_eq_true rfl]
      refine iteF ?_
      refine ⟨_, rfl, _, rfl, iteT ?_⟩
      have kg := fg.2.1
      have gp := fg.1
      refine ⟨_, rfl, s1, rfl, _, rfl, q, _, _, _, rfl, rfl, SqT.of hq, atI_nat (j := 1) rfl, .inr ⟨_, _, k7' _ _ a1⟩, s1, t1, ns, g, rfl, sh1.same k7', kg, fun H8 k8 => ?_⟩
      have k8' := k7'.trans k8
      refine ⟨_, rfl, s2, rfl, _, rfl, q, _, _, _, rfl, rfl, SqT.of (k8 _ _ hq), atI_nat (j := 1) rfl, .inr ⟨_, _, k8' _ _ a2⟩, s2, t2, ms, g, rfl, sh2.same k8', by omega, fun H9 k9 => ⟨_, _, rfl, rfl, _, rfl, ?_⟩⟩
      have kk := k8'.trans k9
      have z := k H9 kk
      refine ite2 (fun c => ?_) (fun c => ?_)
      · exact z
      · have c2 : decide (low ms g < low ns g) = false := by simpa using c
        unfold gapB at gp
        rw [c2, Bool.false_or, Bool.and_eq_true] at gp
        have c4 : g = ns.length := of_decide_eq_true gp.1
        refine ⟨_, rfl, q, _, _, _, rfl, rfl, SqT.of (k9 _ _ (k8 _ _ hq)), atI_nat (j := 1) rfl, _, rfl, s1, d1, _, rfl, kk _ _ a1, s1, t1, ns, rfl, sh1.same kk, ns.length, rfl, by omega, rfl, _, rfl, ?_⟩
        rw [c4, decide_eq_true rfl]
        refine iteT ?_
        refine ⟨_, rfl, s1, d1, _, rfl, kk _ _ a1, s1, t1, ns, rfl, sh1.same kk, _, rfl, s2, d2, _, rfl, kk _ _ a2, s2, t2, ms, rfl, sh2.same kk, rfl, ?_⟩
        have e : (!decide (V.int ns.sum = V.int ms.sum)) = true := by
          have := gp.2
          simp at this ⊢
          exact this
        rw [e]
        exact z
end
end Pl
namespace Pl
open PySem PySem.Spec PyProof.Rows L2
theorem walkZT {K : PySem.W.Frag} {a b : Addr} {xs ys : List V} (hn : xs.length = ys.length) : Walk (RZ.ItzT K a b) xs.length (fun H => SqT K H a xs ∧ SqT K H b ys) (YPair (fun i => xs[i]?) (fun i => ys[i]?)) := by
  refine ⟨?_, ?_, ?_⟩
  · intro i H hi q
    exact ⟨xs, ys, xs[i], ys[i]'(by omega), q.1, q.2, by simp, by simp⟩
  · intro H q
    exact ⟨xs, ys, q.1, q.2, .inl (Nat.le_refl _)⟩
  · rintro i H v H' hi q ⟨T, x, y, e, n, e2, h1, h2⟩
    exact ⟨T, x, y, e, n, e2, h1 xs q.1, h2 ys q.2⟩
/-- the sums grow at D -/
def ZInv (D : Addr) (H0 : Hp) (ns ms : List Int) (i : Nat) (H : Hp) : Prop := Same H0 H ∧ H D = some (.lst (((addl ns ms).take i).map V.int))
theorem ZInv.turn {D T : Addr} {H0 H : Hp} {ns ms : List Int} {i : Nat} {x y : V} (ln : ns.length = ms.length) (p : ZInv D H0 ns ms i H) (hi : i < ns.length) (nD : H0 D = none) (nT : H T = none) (ex : (ns.map V.int)[i]? = some x) (ey : (ms.map V.int)[i]? = some y) :
    ∃ u v : Int, x = .int u ∧ y = .int v ∧ ∃ acc, (L2.upd H T (.tup [x, y])) D = some (.lst acc) ∧ (acc.length ≤ i) ∧ ZInv D H0 ns ms (i + 1) (L2.upd (L2.upd H T (.tup [x, y])) D (.lst (acc ++ [.int (u + v)]))) := by
  have e1 : ns[i]? = some ns[i] := List.getElem?_eq_getElem hi
  have e2 : ms[i]? = some (ms[i]'(by omega)) := List.getElem?_eq_getElem (by omega)
  rw [List.getElem?_map, e1] at ex
  rw [List.getElem?_map, e2] at ey
  obtain rfl := (Option.some.inj ex).symm
  obtain rfl := (Option.some.inj ey).symm
  refine ⟨_, _, rfl, rfl, _, by rw [upd_ne (ne_of_none p.2 nT)]; exact p.2, by simp; omega, same_put (same_new p.1 nT) nD, ?_⟩
  rw [upd_same, List.take_add_one, addl_at e1 e2, List.map_append]
  rfl
section
variable {P : Program} {w : World} {K : PySem.W.Frag} {mg : Str → Option Value} {base : Heap} {CShare CNoShare CNoAmounts : Addr}
abbrev st_Sh_add : Stmt := inClass (top 14) 7
theorem sc_Sh_add : FnScope ["self", "other", "here", "there"] ["self", "other"] (defScope st_Sh_add) := ⟨rfl, rfl, rfl, by decide +kernel, rfl, by decide +kernel, by decide +kernel⟩
theorem ok_addX (B : Bn mg) (SShare : ShK K mg CShare) (c_check_pair : CalX P w K mg base 4 "check_pair" ["one", "other"] (spPairX K CShare CNoShare)) (m_initShareX : MCalX P w K mg base 4 CShare "__init__" ["self", "amounts"] (spInitX K CShare CNoAmounts)) (D : Mh K CShare "__add__" "Share.__add__" st_Sh_add ["self", "other"]) : MCalX P w K mg base 6 CShare "__add__" ["self", "other"] (spAddX K CShare CNoShare CNoAmounts) := by
  refine D.calX sc_Sh_add (fun vs H Q E h => ?_) (fun f cdv A out s H vs Q E hr h => ?_)
  · obtain ⟨s1, t1, ns, y, rfl, _⟩ := h
    rfl
  obtain ⟨s1, t1, ns, y, rfl, sh1, h⟩ := h
  refine ⟨_, (pss_cons (ps_expr (pe_fnX c_check_pair (passW (takes_of rfl rfl rfl rfl)) (hr.mono (by decide)) (pa_cons (pv 0) (pa_cons (pv 1) pa_nil))))
   (pss_one (ps_ret (pe_mkX m_initShareX (passW (takes_of rfl rfl rfl rfl)) SShare.mks SShare.kc SShare.mgC (hr.mono (by decide)) (pa_cons (pe_callTy call_tuple_of (by rfl) B.n_tuple (by decide +kernel) (pa_cons (pe_lc (own := [("here", 2), ("there", 3)]) (g := gTup K 2 (gCons (gName 2) (gCons (gName 3) gNil))) rfl sc_Sh_add.nd (RZ.pi_zipA (by rfl) B.n_zip (pa_cons (pe_fld (pv 0) rfl) (pa_cons (pe_fld (pv 1) rfl) pa_nil))) (blkOk_by (N := ["self", "other", "here", "there"]) (sc := defScope st_Sh_add) (by decide +kernel)) (fun _ _ _ _ _ => (pg_tup rfl (pgs_cons (pg_name (i := 2) sc_Sh_add.nd rfl (.inl rfl)) (pgs_cons (pg_name (i := 3) sc_Sh_add.nd rfl (.inl rfl)) pgs_nil)))) (fun _ _ _ _ _ => pts_nil) (fun _ _ _ _ _ => (pe_op op_add (pv 2) (pv 3)))) pa_nil)) pa_nil))))), ?_⟩
  rcases h with ⟨s2, t2, ms, rfl, sh2, k1, k2⟩ | ⟨T, tyy, kt, k⟩
  · refine ⟨_, rfl, _, rfl, s1, t1, ns, _, rfl, sh1, .inl ⟨s2, t2, ms, rfl, sh2, fun ln => ?_, fun z σ => k2 z⟩⟩
    obtain ⟨ka, kb⟩ := k1 ln
    obtain ⟨⟨d1, a1⟩, b1, m2, m6, am1⟩ := id sh1
    obtain ⟨⟨d2, a2⟩, b2, _, _, am2⟩ := id sh2
    have wz := walkZT (K := K) (a := t1) (b := t2) (xs := ns.map V.int) (ys := ms.map V.int) (by simp [ln])
    refine ⟨_, rfl, s1, CShare, d1, _, _, rfl, a1, SShare.cl, SShare.nB, shF_get t1, _, rfl, s2, CShare, d2, _, _, rfl, a2, SShare.cl, SShare.nB, shF_get t2, t1, t2, _, _, rfl, .inr ⟨SqT.of b1, SqT.of b2, fun D hD => lc_it wz (ZInv D H ns ms) ⟨same_new (Same.refl H) hD, upd_same⟩ (fun i H' _ q => ⟨SqT.of (q.1 _ _ b1), SqT.of (q.1 _ _ b2)⟩) ?_ ?_⟩⟩
    · rintro i x H1 H2 hi p ⟨T, x', y', rfl, nT, rfl, ex, ey⟩
      rw [List.length_map] at hi
      obtain ⟨u, v, rfl, rfl, acc, e1, e2, e3⟩ := p.turn ln hi hD nT ex ey
      refine ⟨T, _, rfl, SqT.of upd_same, rfl, _, _, rfl, _, _, rfl, rfl, rfl, tyes ?_⟩
      exact ⟨_, rfl, _, rfl, _, _, rfl, rfl, acc, e1, size_lt (by omega), e3⟩
    · intro H1 p
      rw [List.length_map] at p
      have e : (addl ns ms).take ns.length = addl ns ms := by rw [← addl_length ln, List.take_length]
      have p2 := p.2
      rw [e] at p2
      refine ⟨D, _, rfl, .inl ⟨SqL.of p2, fun q hq => ?_⟩⟩
      generalize hH2 : upd H1 q _ = H2
      have s2' : Same H H2 := by rw [← hH2]; exact same_new p.1 hq
      have hq2 : H2 q = some (.tup ((addl ns ms).map V.int)) := by rw [← hH2, upd_same]
      intro x dx nx nd _
      have s3 : Same H2 (upd (upd H2 dx (.own x)) x (.ins CShare dx [])) := same_put (same_put (Same.refl H2) nd) nx
      refine ⟨x, q, dx, _, rfl, upd_same, s3 _ _ hq2, by simp [addl]; omega, fun y hy => ?_, fun zs ez h2 h6 am H' kp sh => ⟨rfl, ?_⟩, fun ia => ?_, fun ia H' sm σ => ?_⟩
      · obtain ⟨z, _, rfl⟩ := List.mem_map.mp hy
        exact Kd.int z
      · have ez2 : addl ns ms = zs := (List.map_inj_right (f := V.int) (fun _ _ h => V.int.inj h)).mp ez
        subst ez2
        cases f : fine (addl ns ms) with
        | true => exact ka f x q H' (s2'.trans fun b o e => kp b o (ne_of_none e nx) (s3 b o e)) sh
        | false =>
          have := isAm_ints h2 h6 am
          rw [notfine_isAm f] at this
          cases this
      · refine ⟨_, rfl, by rw [addl_length ln]; exact m2, by rw [addl_length ln]; exact m6, ?_⟩
        refine fine_am (addl_nn am1 am2) ?_
        cases f : fine (addl ns ms) with
        | true => rfl
        | false =>
          rw [notfine_isAm f] at ia
          cases ia
      · refine kb ?_ H' (s2'.trans (s3.trans sm))
        cases f : fine (addl ns ms) with
        | false => rfl
        | true =>
          have := isAm_ints (by rw [addl_length ln]; exact m2) (by rw [addl_length ln]; exact m6) (fine_am (addl_nn am1 am2) f)
          rw [this] at ia
          cases ia
  · exact ⟨_, rfl, _, rfl, s1, t1, ns, y, rfl, sh1, .inr ⟨T, tyy, kt, fun σ => k⟩⟩
end
end Pl
namespace Pl
open PySem PySem.Spec PyProof.Rows L2
def spSum3 (C : Addr) : Sp := fun vs H Q _ => ∃ (s1 t1 s2 t2 s3 t3 : Addr) (ns ms zs : List Int), vs = [.ref s1, .ref s2, .ref s3] ∧ ShAt C H s1 t1 ns ∧ ShAt C H s2 t2 ms ∧ ShAt C H s3 t3 zs ∧ ns.length = ms.length ∧ ns.length = zs.length ∧ ∀ H', Same H H' → Q (.bl true) H'
def rise (ns ms zs : List Int) : Nat → List Int
  | 0 => srt ns
  | 1 => srt ms
  | _ => srt zs
section
variable {P : Program} {w : World} {K : PySem.W.Frag} {mg : Str → Option Value} {base : Heap} {CShare CNoShare CNoAmounts : Addr}
abbrev st_l_are_added : Stmt := top 43
theorem sc_l_are_added : FnScope ["_law_one", "_law_other_here", "_law_more", "_law_rising", "_law_share", "_law_first", "_law_second"] ["_law_one", "_law_other_here", "_law_more"] (defScope st_l_are_added) := ⟨rfl, rfl, rfl, by decide +kernel, rfl, by decide +kernel, by decide +kernel⟩
theorem ok_added3 (B : Bn mg) (SShare : ShK K mg CShare) (aC : AddC K CShare) (m_initShare : MCal P w K mg base 4 CShare "__init__" ["self", "amounts"] (spInit CShare)) (p_amounts : PCal P w K mg base 2 CShare "amounts" ["self"] (getSp CShare "by_state")) (c_is_calm : Cal P w K mg base 5 "is_calm" ["one", "other"] (spCalm CShare))
    (m_add : MCalX P w K mg base 6 CShare "__add__" ["self", "other"] (spAddX K CShare CNoShare CNoAmounts)) (D : Df K mg "_law_are_added" st_l_are_added ["_law_one", "_law_other_here", "_law_more"]) : Cal P w K mg base 8 "_law_are_added" ["_law_one", "_law_other_here", "_law_more"] (spSum3 CShare) := by
  refine D.cal sc_l_are_added (fun vs H Q E h => ?_) (fun f cdv A out s H vs Q E hr h => ?_)
  · obtain ⟨s1, t1, s2, t2, s3, t3, ns, ms, zs, rfl, _⟩ := h
    rfl
  obtain ⟨s1, t1, s2, t2, s3, t3, ns, ms, zs, rfl, sh1, sh2, sh3, ln, lz, k⟩ := h
  obtain ⟨_, _, l2, l6, am1⟩ := id sh1
  obtain ⟨_, _, _, _, am2⟩ := id sh2
  obtain ⟨_, _, _, _, am3⟩ := id sh3
  refine ⟨_, (pss_cons (ps_setLc (i := 3) (own := [("_law_share", 4)]) (g := gName 4) rfl sc_l_are_added.nd rfl rfl (sw_true rfl rfl rfl (by decide +kernel)) (pi_list (pe_lst (pa_cons (pv 0) (pa_cons (pv 1) (pa_cons (pv 2) pa_nil))))) (blkOk_by (N := ["_law_one", "_law_other_here", "_law_more", "_law_rising", "_law_share", "_law_first", "_law_second"]) (sc := defScope st_l_are_added) (by decide +kernel)) (fun _ _ _ _ _ => (pg_name (i := 4) sc_l_are_added.nd rfl (.inl rfl))) (fun _ _ _ _ _ => pts_nil) (fun _ _ _ _ _ => (pe_mk m_initShare SShare.mks SShare.kc SShare.mgC (hr.mono (by decide)) (pa_cons (pe_callTy (show CallR _ (.type "tuple") (rTupleOf K) from call_tuple_of) (by rfl) B.n_tuple (by decide +kernel) (pa_cons (pe_callB (show CallR _ (.builtin "sorted") (rSortedT K) from call_sortedT) (by rfl) B.n_sorted (by decide +kernel) (pa_cons (pe_pr p_amounts SShare.cl (hr.mono (by decide)) (pv 4)) pa_nil)) pa_nil)) pa_nil))))
   (pss_cons (ps_if (pt_cmpR op_gt (pe_callB (cr_max rfl) (by rfl) B.n_max (by decide +kernel) (pa_cons (pe_lc (own := [("_law_first", 5), ("_law_second", 6)]) (g := gTup K 2 (gCons (gName 5) (gCons (gName 6) gNil))) rfl sc_l_are_added.nd (RZ.pi_zipA (by rfl) B.n_zip (pa_cons (pe_pr p_amounts SShare.cl (hr.mono (by decide)) (pe_ix ix_list (pv 3) pe_int (fun _ _ => rfl))) (pa_cons (pe_pr p_amounts SShare.cl (hr.mono (by decide)) (pe_ix ix_list (pv 3) pe_int (fun _ _ => rfl))) pa_nil))) (blkOk_by (N := ["_law_one", "_law_other_here", "_law_more", "_law_rising", "_law_share", "_law_first", "_law_second"]) (sc := defScope st_l_are_added) (by decide +kernel)) (fun _ _ _ _ _ => (pg_tup rfl (pgs_cons (pg_name (i := 5) sc_l_are_added.nd rfl (.inl rfl)) (pgs_cons (pg_name (i := 6) sc_l_are_added.nd rfl (.inl rfl)) pgs_nil)))) (fun _ _ _ _ _ => pts_nil) (fun _ _ _ _ _ => (pe_op op_add (pv 5) (pv 6)))) pa_nil)) pe_int (nomark _)) (pss_one (ps_ret pe_bl)) pss_nil)
   (pss_cons (ps_if (pt_cmpR op_gt (pe_callB (cr_max rfl) (by rfl) B.n_max (by decide +kernel) (pa_cons (pe_lc (own := [("_law_first", 5), ("_law_second", 6)]) (g := gTup K 2 (gCons (gName 5) (gCons (gName 6) gNil))) rfl sc_l_are_added.nd (RZ.pi_zipA (by rfl) B.n_zip (pa_cons (pe_pr p_amounts SShare.cl (hr.mono (by decide)) (pe_ix ix_list (pv 3) pe_int (fun _ _ => rfl))) (pa_cons (pe_pr p_amounts SShare.cl (hr.mono (by decide)) (pe_ix ix_list (pv 3) pe_int (fun _ _ => rfl))) pa_nil))) (blkOk_by (N := ["_law_one", "_law_other_here", "_law_more", "_law_rising", "_law_share", "_law_first", "_law_second"]) (sc := defScope st_l_are_added) (by decide +kernel)) (fun _ _ _ _ _ => (pg_tup rfl (pgs_cons (pg_name (i := 5) sc_l_are_added.nd rfl (.inl rfl)) (pgs_cons (pg_name (i := 6) sc_l_are_added.nd rfl (.inl rfl)) pgs_nil)))) (fun _ _ _ _ _ => pts_nil) (fun _ _ _ _ _ => (pe_op op_add (pv 5) (pv 6)))) pa_nil)) pe_int (nomark _)) (pss_one (ps_ret pe_bl)) pss_nil)
   (pss_one (ps_ret (pe_cmpR op_eq (pe_fn c_is_calm (hr.mono (by decide)) (pa_cons (pe_op (op_addO m_add aC passF (hr.mono (by decide))) (pe_ix ix_list (pv 3) pe_int (fun _ _ => rfl)) (pe_ix ix_list (pv 3) pe_int (fun _ _ => rfl))) (pa_cons (pe_op (op_addO m_add aC passF (hr.mono (by decide))) (pe_ix ix_list (pv 3) pe_int (fun _ _ => rfl)) (pe_ix ix_list (pv 3) pe_int (fun _ _ => rfl))) pa_nil))) (pe_fn c_is_calm (hr.mono (by decide)) (pa_cons (pv 0) (pa_cons (pv 1) pa_nil))) (nomark _))))))), ?_⟩
  refine ⟨_, rfl, _, rfl, _, rfl, (by show 3 ≤ sizeLine; decide), fun L hL => ?_⟩
  generalize hH1 : upd H L _ = H1
  have k1 : Same H H1 := by rw [← hH1]; exact same_new (Same.refl H) hL
  have hL1 : H1 L = some (.lst [.ref s1, .ref s2, .ref s3]) := by rw [← hH1, upd_same]
  refine ⟨L, rfl, ⟨_, SqL.of hL1⟩, fun D hD => lc_list (K := K) (a := L) (xs := [.ref s1, .ref s2, .ref s3]) (ShInv CShare D H1 (rise ns ms zs)) (ShInv.start hD) (fun i H' _ q => SqL.of (q.1 _ _ hL1)) (fun i x H' hx q => ⟨rfl, tyes ?_⟩) (fun H2 q2 => ?_)⟩
  · have ex : ∃ (s t : Addr) (l : List Int), x = .ref s ∧ ShAt CShare H s t l ∧ rise ns ms zs i = srt l ∧ i ≤ 2 := by
      match i, hx with
      | 0, hx => exact ⟨s1, t1, ns, (Option.some.inj hx).symm, sh1, rfl, by omega⟩
      | 1, hx => exact ⟨s2, t2, ms, (Option.some.inj hx).symm, sh2, rfl, by omega⟩
      | 2, hx => exact ⟨s3, t3, zs, (Option.some.inj hx).symm, sh3, rfl, by omega⟩
      | n + 3, hx => cases hx
    obtain ⟨s, t, l, rfl, sh, ei, i2⟩ := ex
    obtain ⟨⟨dx, h1⟩, h2, b2, b6, am⟩ := (sh.same k1).same q.1
    refine ⟨_, rfl, s, dx, _, rfl, h1, s, dx, _, _, rfl, h1, shF_get t, t, l, rfl, SqT.of h2, by omega, fun ys r pm sd hr => ?_⟩
    obtain rfl := srt_of pm sd
    refine ⟨r, _, rfl, .inl ⟨SqL.of upd_same, fun u hu => ?_⟩⟩
    intro o d x y _
    refine mk_at (ns := srt l) x y upd_same (by rw [srt_length]; exact b2) (by rw [srt_length]; exact b6) (fun z hz => am z ((srt_perm l).mem_iff.mp hz)) fun H' k' sh => ?_
    exact q.step ((same_new (same_new (Same.refl _) hr) hu).trans k') hD (by omega) (by rw [ei]; exact sh)
  · obtain ⟨k2, os, ol, hDo, ss⟩ := q2
    obtain ⟨o0, u0, e0, sh0⟩ := ss 0 (by simp)
    obtain ⟨o1, u1, e1, sh1'⟩ := ss 1 (by simp)
    obtain ⟨o2, u2, e2, sh2'⟩ := ss 2 (by simp)
    have sh0 : ShAt CShare H2 o0 u0 (srt ns) := sh0
    have sh1' : ShAt CShare H2 o1 u1 (srt ms) := sh1'
    have sh2' : ShAt CShare H2 o2 u2 (srt zs) := sh2'
    have kk := k1.trans k2
    obtain ⟨⟨dA, aA⟩, bA, _⟩ := id sh0
    obtain ⟨⟨dB, aB⟩, bB, _⟩ := id sh2'
    have wz := walkZT (K := K) (a := u0) (b := u2) (xs := (srt ns).map V.int) (ys := (srt zs).map V.int) (by simp [srt_length]; omega)
    have lAB : (srt ns).length = (srt zs).length := by rw [srt_length, srt_length]; omega
    refine ⟨_, rfl, D, _, _, _, rfl, rfl, SqL.of hDo, atI_nat (j := 0) e0, o0, dA, _, rfl, aA, o0, dA, _, _, rfl, aA, shF_get u0, _, rfl, D, _, _, _, rfl, rfl, SqL.of hDo, atI_nat (j := 2) e2, o2, dB, _, rfl, aB, o2, dB, _, _, rfl, aB, shF_get u2,
      u0, u2, _, _, rfl, .inr ⟨SqT.of bA, SqT.of bB, fun D2 hD2 => lc_it wz (ZInv D2 H2 (srt ns) (srt zs)) ⟨same_new (Same.refl H2) hD2, upd_same⟩ (fun i H' _ q => ⟨SqT.of (q.1 _ _ bA), SqT.of (q.1 _ _ bB)⟩) ?_ ?_⟩⟩
    · rintro i x H5 H6 hi p ⟨T, x', y', rfl, nT, rfl, ex, ey⟩
      rw [List.length_map] at hi
      obtain ⟨u, v, rfl, rfl, acc, e1, e2, e3⟩ := p.turn lAB hi hD2 nT ex ey
      refine ⟨T, _, rfl, SqT.of upd_same, rfl, _, _, rfl, _, _, rfl, rfl, rfl, tyes ?_⟩
      refine ⟨_, rfl, _, rfl, _, _, rfl, rfl, acc, e1, size_lt ?_, e3⟩
      have : (srt ns).length ≤ 6 := by rw [srt_length]; omega
      omega
    intro H5 p
    rw [List.length_map] at p
    have e : (addl (srt ns) (srt zs)).take (srt ns).length = addl (srt ns) (srt zs) := by rw [← addl_length lAB, List.take_length]
    have p2 := p.2
    rw [e] at p2
    refine ⟨D2, _, rfl, SqL.of p2, by rw [addl_length lAB, srt_length]; omega, fun m mm mx => ⟨_, _, rfl, rfl, _, rfl, ?_⟩⟩
    refine ite2 (fun c => ?_) (fun c => ?_)
    · exact k _ (kk.trans p.1)
    have f0 : fine (addl (srt ns) (srt zs)) = true := List.all_eq_true.mpr fun z hz => by
      have a := mx z hz
      have b : ¬ (30 : Int) < m := fun z => c (decide_eq_true z)
      exact decide_eq_true (by omega)
    have kk5 := kk.trans p.1
    have hDo5 := p.1 _ _ hDo
    have sh1' := sh1'.same p.1
    have sh2' := sh2'.same p.1
    have sh0 := sh0.same p.1
    obtain ⟨⟨dC, aC1⟩, bC, _⟩ := id sh1'
    obtain ⟨⟨dE, aE⟩, bE, _⟩ := id sh2'
    have wz := walkZT (K := K) (a := u1) (b := u2) (xs := (srt ms).map V.int) (ys := (srt zs).map V.int) (by simp [srt_length]; omega)
    have lCB : (srt ms).length = (srt zs).length := by rw [srt_length, srt_length]; omega
    refine ⟨_, rfl, D, _, _, _, rfl, rfl, SqL.of hDo5, atI_nat (j := 1) e1, o1, dC, _, rfl, aC1, o1, dC, _, _, rfl, aC1, shF_get u1, _, rfl, D, _, _, _, rfl, rfl, SqL.of hDo5, atI_nat (j := 2) e2, o2, dE, _, rfl, aE, o2, dE, _, _, rfl, aE, shF_get u2,
      u1, u2, _, _, rfl, .inr ⟨SqT.of bC, SqT.of bE, fun D3 hD3 => lc_it wz (ZInv D3 H5 (srt ms) (srt zs)) ⟨same_new (Same.refl H5) hD3, upd_same⟩ (fun i H' _ q => ⟨SqT.of (q.1 _ _ bC), SqT.of (q.1 _ _ bE)⟩) ?_ ?_⟩⟩
    · rintro i x H7 H8 hi p' ⟨T, x', y', rfl, nT, rfl, ex, ey⟩
      rw [List.length_map] at hi
      obtain ⟨u, v, rfl, rfl, acc, e1x, e2y, e3⟩ := p'.turn lCB hi hD3 nT ex ey
      refine ⟨T, _, rfl, SqT.of upd_same, rfl, _, _, rfl, _, _, rfl, rfl, rfl, tyes ?_⟩
      refine ⟨_, rfl, _, rfl, _, _, rfl, rfl, acc, e1x, size_lt ?_, e3⟩
      have : (srt ms).length ≤ 6 := by rw [srt_length]; omega
      omega
    intro H7 p'
    rw [List.length_map] at p'
    have e9 : (addl (srt ms) (srt zs)).take (srt ms).length = addl (srt ms) (srt zs) := by rw [← addl_length lCB, List.take_length]
    have p2' := p'.2
    rw [e9] at p2'
    refine ⟨D3, _, rfl, SqL.of p2', by rw [addl_length lCB, srt_length]; omega, fun m mm mx => ⟨_, _, rfl, rfl, _, rfl, ?_⟩⟩
    refine ite2 (fun c => ?_) (fun c => ?_)
    · exact k _ (kk5.trans p'.1)
    have f1 : fine (addl (srt ms) (srt zs)) = true := List.all_eq_true.mpr fun z hz => by
      have a := mx z hz
      have b : ¬ (30 : Int) < m := fun z => c (decide_eq_true z)
      exact decide_eq_true (by omega)
    have k7 := p'.1
    have kk7 := kk5.trans k7
    have sh1' := sh1'.same k7
    have sh2' := sh2'.same k7
    have sh0 := sh0.same k7
    have hDo7 := k7 _ _ hDo5
    obtain ⟨⟨d0, a0⟩, _⟩ := id sh0
    obtain ⟨⟨d1, a1⟩, _⟩ := id sh1'
    obtain ⟨⟨d2, a2⟩, _⟩ := id sh2'
    refine ⟨_, rfl, D, _, _, _, rfl, rfl, SqL.of hDo7, atI_nat (j := 0) e0, _, rfl, D, _, _, _, rfl, rfl, SqL.of hDo7, atI_nat (j := 2) e2, o0, d0, _, rfl, a0, .inl ⟨o2, d2, _, rfl, a2⟩, o0, u0, _, _, rfl, sh0,
      .inl ⟨o2, u2, _, rfl, sh2', fun _ => ⟨fun _ pa ta H9 k9 sha => ⟨pa, rfl, ?_⟩, fun nf => by rw [f0] at nf; cases nf⟩, fun nl => (nl lAB).elim⟩⟩
    have hDo9 := k9 _ _ hDo7
    have sh1' := sh1'.same k9
    have sh2' := sh2'.same k9
    refine ⟨_, rfl, D, _, _, _, rfl, rfl, SqL.of hDo9, atI_nat (j := 1) e1, _, rfl, D, _, _, _, rfl, rfl, SqL.of hDo9, atI_nat (j := 2) e2, o1, d1, _, rfl, k9 _ _ a1, .inl ⟨o2, d2, _, rfl, k9 _ _ a2⟩, o1, u1, _, _, rfl, sh1',
      .inl ⟨o2, u2, _, rfl, sh2', fun _ => ⟨fun _ pb tb H10 k10 shb => ⟨pb, rfl, ?_⟩, fun nf => by rw [f1] at nf; cases nf⟩, fun nl => (nl lCB).elim⟩⟩
    refine ⟨pa, ta, pb, tb, _, _, rfl, sha.same k10, shb, by rw [addl_length lAB, addl_length lCB, srt_length, srt_length]; exact ln, fun H11 k11 => ?_⟩
    have k11' := ((kk7.trans k9).trans k10).trans k11
    refine ⟨_, rfl, _, rfl, s1, t1, s2, t2, ns, ms, rfl, sh1.same k11', sh2.same k11', ln, fun H12 k12 => ⟨rfl, ?_⟩⟩
    rw [calm_add ln lz, decide_eq_true rfl]
    exact k _ (k11'.trans k12)
end
end Pl
namespace Pl
open PySem PySem.Spec PyProof.Rows L2
theorem ite_and {b c : Bool} {H : Hp} {G : VK} {R : VK → Prop} (hR : (∀ H', Same H H' → G (.bl c) H') → R G) (hG : ∀ H', Same H H' → G (.bl (b && c)) H') : if b = true then R G else G (.bl false) H := by
  cases b with
  | true => exact iteT (hR fun H' k => hG H' k)
  | false => exact iteF (hG H (Same.refl H))
section
variable {P : Program} {w : World} {K : PySem.W.Frag} {mg : Str → Option Value} {base : Heap} {CShare CNoShare CNoAmounts : Addr}
def spLaw (K : PySem.W.Frag) : Sp := fun vs H Q _ => ∃ (a : Addr) (ns : List Int), vs = [.ref a] ∧ SqL K H a (ns.map V.int) ∧ ns.length ≤ 63 ∧ ∀ H', Q (.bl true) H'
theorem sk {p : Addr} {H1 H3 H4 : Hp} (k3 : Same H1 H3) (k4 : Kp p H3 H4) (np : H1 p = none) : Same H1 H4 := fun b o q => k4 _ _ (ne_of_none q np) (k3 _ _ q)
abbrev st_law : Stmt := top 44
theorem sc_law : FnScope ["_law_script", "_law_k", "_law_source_here", "_law_lap", "_law_row", "_law_more", "_law_one", "_law_other_here", "_law_third", "_law_pairs", "_law_first", "_law_second", "_law_chained", "_law_alike"] ["_law_script"] (defScope st_law) := ⟨rfl, rfl, rfl, by decide +kernel, rfl, by decide +kernel, by decide +kernel⟩
theorem ok_law (B : Bn mg) (SShare : ShK K mg CShare) (m_initShare : MCal P w K mg base 4 CShare "__init__" ["self", "amounts"] (spInit CShare)) (c_l_cell : Cal P w K mg base 2 "_law_cell" ["_law_script", "_law_index"] (spCell K)) (c_l_source : Cal P w K mg base 2 "_law_source" ["_law_cell_here"] spSource) (c_l_draw : Cal P w K mg base 2 "_law_draw" ["_law_source_here", "_law_many"] spDraw) (c_l_amounts : Cal P w K mg base 4 "_law_amounts" ["_law_source_here", "_law_many"] spAmounts) (c_l_other : Cal P w K mg base 5 "_law_other" ["_law_source_here", "_law_row"] spOther) (c_l_mixed : Cal P w K mg base 3 "_law_mixed" ["_law_source_here", "_law_values"] (spMixed K))
    (c_is_calm : Cal P w K mg base 5 "is_calm" ["one", "other"] (spCalm CShare)) (c_is_calmer : Cal P w K mg base 6 "is_calmer" ["one", "other"] (spCalmer CShare)) (c_l_is_told : CalG P w K mg base 7 "_law_is_told" ["_law_one", "_law_other_here"] (spTold CShare)) (c_l_are_added : Cal P w K mg base 8 "_law_are_added" ["_law_one", "_law_other_here", "_law_more"] (spSum3 CShare)) (D : Df K mg "law" st_law ["_law_script"]) : CalG P w K mg base 9 "law" ["_law_script"] (spLaw K) := by
  refine D.calG sc_law (fun vs H Q E h => ?_) (fun f cdv A out s H vs Q E gd hr h => ?_)
  · obtain ⟨a, ns, rfl, _⟩ := h
    rfl
  obtain ⟨a, ns, rfl, sq, l63, k⟩ := h
  refine ⟨_, (pss_one (ps_try_thru0 (pss_cons (ps_for PassesOwn.never rfl (pi_range1 (by rfl) B.n_range (pa_cons (pe_callB (call_max2 rfl) (by rfl) B.n_max (by decide +kernel) (pa_cons pe_int (pa_cons (pe_callB (call_min2 rfl) (by rfl) B.n_min (by decide +kernel) (pa_cons (pe_callB call_len_seq (by rfl) B.n_len (by decide +kernel) (pa_cons (pv 0) pa_nil)) (pa_cons pe_int pa_nil))) pa_nil))) pa_nil)) (pg_name (i := 1) sc_law.nd rfl (.inl rfl))
   (pss_cons (ps_set (i := 2) sc_law.nd rfl (.inl rfl) (pe_fn c_l_source (hr.mono (by decide)) (pa_cons (pe_fn c_l_cell (hr.mono (by decide)) (pa_cons (pv 0) (pa_cons (pv 1) pa_nil))) pa_nil)))
   (pss_one (ps_for PassesOwn.never rfl (pi_range1 (by rfl) B.n_range (pa_cons pe_int pa_nil)) (pg_name (i := 3) sc_law.nd rfl (.inl rfl))
   (pss_cons (ps_set (i := 4) sc_law.nd rfl (.inl rfl) (pe_fn c_l_amounts (hr.mono (by decide)) (pa_cons (pv 2) (pa_cons (pe_op op_add pe_int (pe_fn c_l_draw (hr.mono (by decide)) (pa_cons (pv 2) (pa_cons pe_int pa_nil)))) pa_nil))))
   (pss_cons (ps_set (i := 5) sc_law.nd rfl (.inl rfl) (pe_fn c_l_other (hr.mono (by decide)) (pa_cons (pv 2) (pa_cons (pv 4) pa_nil))))
   (pss_cons (ps_par (i := 6) (j := 7) (by rfl) sc_law.nd rfl rfl (by decide) rfl rfl (pa_cons (pe_mk m_initShare SShare.mks SShare.kc SShare.mgC (hr.mono (by decide)) (pa_cons (pv 4) pa_nil)) (pa_cons (pe_mk m_initShare SShare.mks SShare.kc SShare.mgC (hr.mono (by decide)) (pa_cons (pv 5) pa_nil)) pa_nil)) (by rfl))
   (pss_cons (ps_set (i := 8) sc_law.nd rfl (.inl rfl) (pe_mk m_initShare SShare.mks SShare.kc SShare.mgC (hr.mono (by decide)) (pa_cons (pe_fn c_l_other (hr.mono (by decide)) (pa_cons (pv 2) (pa_cons (pv 5) pa_nil))) pa_nil)))
   (pss_cons (ps_set (i := 9) sc_law.nd rfl (.inl rfl) (pe_lst (pa_cons (pe_tup (pa_cons (pv 6) (pa_cons (pv 7) pa_nil))) (pa_cons (pe_tup (pa_cons (pv 7) (pa_cons (pv 6) pa_nil))) (pa_cons (pe_tup (pa_cons (pv 7) (pa_cons (pv 8) pa_nil))) pa_nil)))))
   (pss_cons (ps_for PassesOwn.never rfl (pi_list (pe_op op_cat (pv 9) (pe_lst (pa_cons (pe_tup (pa_cons (pv 6) (pa_cons (pv 8) pa_nil))) (pa_cons (pe_tup (pa_cons (pv 8) (pa_cons (pv 6) pa_nil))) pa_nil))))) (pg_tup rfl (pgs_cons (pg_name (i := 10) sc_law.nd rfl (.inl rfl)) (pgs_cons (pg_name (i := 11) sc_law.nd rfl (.inl rfl)) pgs_nil)))
   (pss_cons (ps_if (pt_not (pt_val (pe_fnG c_l_is_told gd (hr.mono (by decide)) (pa_cons (pv 10) (pa_cons (pv 11) pa_nil))))) (pss_one (ps_ret pe_bl)) pss_nil)
   (pss_one (ps_if (pt_not (pt_val (pe_fn c_l_are_added (hr.mono (by decide)) (pa_cons (pv 10) (pa_cons (pv 11) (pa_cons (pv 8) pa_nil)))))) (pss_one (ps_ret pe_bl)) pss_nil))))
   (pss_cons (ps_set (i := 12) sc_law.nd rfl (.inl rfl) (pe_and (pe_fn c_is_calm (hr.mono (by decide)) (pa_cons (pv 6) (pa_cons (pv 7) pa_nil))) (pe_one (pe_fn c_is_calm (hr.mono (by decide)) (pa_cons (pv 7) (pa_cons (pv 8) pa_nil))))))
   (pss_cons (ps_if (PW.pt (pw_and (pt_val (pv 12)) (pw_and1 (pt_not (pt_val (pe_fn c_is_calm (hr.mono (by decide)) (pa_cons (pv 6) (pa_cons (pv 8) pa_nil)))))))) (pss_one (ps_ret pe_bl)) pss_nil)
   (pss_cons (ps_set (i := 13) sc_law.nd rfl (.inl rfl) (pe_mk m_initShare SShare.mks SShare.kc SShare.mgC (hr.mono (by decide)) (pa_cons (pe_fn c_l_mixed (hr.mono (by decide)) (pa_cons (pv 2) (pa_cons (pv 4) pa_nil))) pa_nil)))
   (pss_one (ps_if (PW.pt (pw_or (pt_not (pt_val (pe_fn c_is_calm (hr.mono (by decide)) (pa_cons (pv 6) (pa_cons (pv 13) pa_nil))))) (pw_or1 (pt_val (pe_fn c_is_calmer (hr.mono (by decide)) (pa_cons (pv 6) (pa_cons (pv 13) pa_nil))))))) (pss_one (ps_ret pe_bl)) pss_nil)))))))))))))))
   (pss_one (ps_ret pe_bl))))), ?_⟩
  refine ⟨_, rfl, a, _, rfl, .inl sq, _, _, rfl, _, _, rfl, _, rfl, ?_, ?_, ?_⟩
  · split <;> split <;> omega
  · split <;> split <;> omega
  generalize (Int.toNat _) = n
  refine for_range (lo := 0) (n := n) (fun i σ H' => ∃ v1 v2 v3 v4 v5 v6 v7 v8 v9 va vb vc vd : Option V, σ = [some (.ref a), v1, v2, v3, v4, v5, v6, v7, v8, v9, va, vb, vc, vd] ∧ Same H H') ⟨none, none, none, none, none, none, none, none, none, none, none, none, none, rfl, Same.refl H⟩ ?_ (fun σ H' _ => k H')
  rintro i σ H1 _ ⟨v1, v2, v3, v4, v5, v6, v7, v8, v9, va, vb, vc, vd, rfl, k1⟩
  refine ⟨_, rfl, _, rfl, a, ns, _, rfl, k1.seq sq, by omega, fun c => ⟨c, rfl, fun p H2 np src k2 => ?_⟩⟩
  refine ⟨5, rfl, by decide, by decide, ?_⟩
  refine for_range (lo := 0) (n := 5) (fun j σ H' => ∃ v3 v4 v5 v6 v7 v8 v9 va vb vc vd : Option V, σ = [some (.ref a), some (.int (0 + i)), some (.ref p), v3, v4, v5, v6, v7, v8, v9, va, vb, vc, vd] ∧ Src H' p ∧ Same H1 H') ⟨v3, v4, v5, v6, v7, v8, v9, va, vb, vc, vd, rfl, src, k2⟩ ?_ (fun σ H' ⟨v3, v4, v5, v6, v7, v8, v9, va, vb, vc, vd, e, _, k3⟩ => ⟨_, _, _, _, _, _, _, _, _, _, _, _, _, e, k1.trans k3⟩)
  rintro j σ H3 _ ⟨v3, v4, v5, v6, v7, v8, v9, va, vb, vc, vd, rfl, s3, k3⟩
  refine ⟨_, rfl, _, rfl, p, 5, rfl, s3, by decide, by decide, fun r H4 r0 r1 s4 k4 => ⟨_, _, rfl, rfl, ?_⟩⟩
  have e : (((2 + r).toNat : Nat) : Int) = 2 + r := by omega
  refine ⟨p, (2 + r).toNat, by rw [e]; rfl, s4, by omega, by omega, fun t1 n1 H5 nl1 am1 s5 k5 ht1 => ?_⟩
  have a5 : Same H1 H5 := sk (sk k3 k4 np) k5 np
  refine ⟨_, rfl, _, rfl, p, t1, n1, rfl, s5, ht1, am1, by omega, by omega, fun t2 n2 H6 nl2 am2 s6 k6 ht2 => ?_⟩
  have ht1 := k6 _ _ (s5.neT ht1) ht1
  have a6 : Same H1 H6 := sk a5 k6 np
  have l6 : n1.length ≤ 6 := by omega
  refine ⟨_, rfl, fun o1 d1 x1 y1 _ => mk_at x1 y1 ht1 (by omega) l6 am1 fun H7 k7 sh1 => ⟨_, rfl, fun o2 d2 x2 y2 _ => mk_at x2 y2 (k7 _ _ ht2) (by omega) (by omega) am2 fun H8 k8 sh2 => ⟨_, _, rfl, ?_⟩⟩⟩
  have sh1 := sh1.same k8
  have k8 := k7.trans k8
  have s8 := s6.same k8
  have ht1 := k8 _ _ ht1
  have a8 := a6.trans k8
  refine ⟨_, rfl, _, rfl, p, t2, n2, rfl, s8, k8 _ _ ht2, am2, by omega, by omega, fun t3 n3 H9 nl3 am3 s9 k9 ht3 => fun o3 d3 x3 y3 _ => mk_at x3 y3 ht3 (by omega) (by omega) am3 fun H10 k10 sh3 => ?_⟩
  have sh1 := (sh1.kp s8 k9).same k10
  have sh2 := (sh2.kp s8 k9).same k10
  have ht1 := k10 _ _ (k9 _ _ (s8.neT ht1) ht1)
  have s10 := s9.same k10
  have a10 : Same H1 H10 := (sk a8 k9 np).trans k10
  refine ⟨_, rfl, _, rfl, (by show 2 ≤ sizeLine; decide), fun T1 hT1 => ?_⟩
  generalize hHA : upd H10 T1 _ = HA
  have kA : Same H10 HA := by rw [← hHA]; exact same_new (Same.refl H10) hT1
  have hA : HA T1 = some (.tup [.ref o1, .ref o2]) := by rw [← hHA, upd_same]
  refine ⟨_, rfl, _, rfl, (by show 2 ≤ sizeLine; decide), fun T2 hT2 => ?_⟩
  generalize hHB : upd HA T2 _ = HB
  have kB : Same HA HB := by rw [← hHB]; exact same_new (Same.refl HA) hT2
  have hB : HB T2 = some (.tup [.ref o2, .ref o1]) := by rw [← hHB, upd_same]
  refine ⟨_, rfl, _, rfl, (by show 2 ≤ sizeLine; decide), fun T3 hT3 => ?_⟩
  generalize hHC : upd HB T3 _ = HC
  have kC : Same HB HC := by rw [← hHC]; exact same_new (Same.refl HB) hT3
  have hC : HC T3 = some (.tup [.ref o2, .ref o3]) := by rw [← hHC, upd_same]
  refine ⟨(by show 3 ≤ sizeLine; decide), fun L hL => ?_⟩
  generalize hHD : upd HC L _ = HD
  have kD : Same HC HD := by rw [← hHD]; exact same_new (Same.refl HC) hL
  have hD : HD L = some (.lst [.ref T1, .ref T2, .ref T3]) := by rw [← hHD, upd_same]
  refine ⟨_, rfl, _, rfl, _, rfl, (by show 2 ≤ sizeLine; decide), fun T4 hT4 => ?_⟩
  generalize hHE : upd HD T4 _ = HE
  have kE : Same HD HE := by rw [← hHE]; exact same_new (Same.refl HD) hT4
  have hE : HE T4 = some (.tup [.ref o1, .ref o3]) := by rw [← hHE, upd_same]
  refine ⟨_, rfl, _, rfl, (by show 2 ≤ sizeLine; decide), fun T5 hT5 => ?_⟩
  generalize hHF : upd HE T5 _ = HF
  have kF : Same HE HF := by rw [← hHF]; exact same_new (Same.refl HE) hT5
  have hF : HF T5 = some (.tup [.ref o3, .ref o1]) := by rw [← hHF, upd_same]
  refine ⟨(by show 2 ≤ sizeLine; decide), fun M hM => ?_⟩
  generalize hHG : upd HF M _ = HG
  have kG : Same HF HG := by rw [← hHG]; exact same_new (Same.refl HF) hM
  have hG : HG M = some (.lst [.ref T4, .ref T5]) := by rw [← hHG, upd_same]
  have kFG : Same HD HG := (kE.trans kF).trans kG
  refine ⟨L, M, _, _, rfl, rfl, kFG _ _ hD, hG, (by show 5 ≤ sizeLine; decide), fun PP hP => ?_⟩
  generalize hHI : upd HG PP _ = HI
  have kI : Same HG HI := by rw [← hHI]; exact same_new (Same.refl HG) hP
  have hI : HI PP = some (.lst [.ref T1, .ref T2, .ref T3, .ref T4, .ref T5]) := by rw [← hHI, upd_same]; rfl
  have kDI := kFG.trans kI
  have kAI : Same H10 HI := (((kA.trans kB).trans kC).trans kD).trans kDI
  have sh1 := sh1.same kAI
  have sh2 := sh2.same kAI
  have sh3 := sh3.same kAI
  have pairs : ∀ (i : Nat) (x : V), ([.ref T1, .ref T2, .ref T3, .ref T4, .ref T5] : List V)[i]? = some x → ∃ (T b1 c1 b2 c2 : Addr) (m1 m2 : List Int), x = .ref T ∧ HI T = some (.tup [.ref b1, .ref b2]) ∧ ShAt CShare HI b1 c1 m1 ∧ ShAt CShare HI b2 c2 m2 ∧ m1.length = n1.length ∧ m2.length = n1.length := fun i x hx =>
    match i, hx with
    | 0, hx => ⟨T1, o1, t1, o2, t2, n1, n2, (Option.some.inj hx).symm, (((kB.trans kC).trans kD).trans kDI) _ _ hA, sh1, sh2, rfl, nl2⟩
    | 1, hx => ⟨T2, o2, t2, o1, t1, n2, n1, (Option.some.inj hx).symm, ((kC.trans kD).trans kDI) _ _ hB, sh2, sh1, nl2, rfl⟩
    | 2, hx => ⟨T3, o2, t2, o3, t3, n2, n3, (Option.some.inj hx).symm, (kD.trans kDI) _ _ hC, sh2, sh3, nl2, by omega⟩
    | 3, hx => ⟨T4, o1, t1, o3, t3, n1, n3, (Option.some.inj hx).symm, ((kF.trans kG).trans kI) _ _ hE, sh1, sh3, rfl, by omega⟩
    | 4, hx => ⟨T5, o3, t3, o1, t1, n3, n1, (Option.some.inj hx).symm, (kG.trans kI) _ _ hF, sh3, sh1, by omega, rfl⟩
    | n + 5, hx => nomatch hx
  refine ⟨PP, rfl, ⟨_, SqL.of hI⟩, for_list (K := K) (a := PP) (xs := [.ref T1, .ref T2, .ref T3, .ref T4, .ref T5]) (fun _ σ H' => ∃ va vb : Option V, σ = [some (.ref a), some (.int (0 + i)), some (.ref p), some (.int (0 + j)), some (.ref t1), some (.ref t2), some (.ref o1), some (.ref o2), some (.ref o3), some (.ref L), va, vb, vc, vd] ∧ Same HI H') ⟨va, vb, rfl, Same.refl HI⟩ (fun i σ H' _ ⟨_, _, _, z⟩ => SqL.of (z _ _ hI)) ?_ ?_⟩
  · rintro i' x σ HJ hx ⟨va, vb, rfl, kJ⟩
    obtain ⟨T, b1, c1, b2, c2, m1, m2, rfl, hT, sa, sb, la, lb⟩ := pairs i' x hx
    refine ⟨T, _, rfl, SqT.of (kJ _ _ hT), rfl, _, _, rfl, _, _, rfl, rfl, ?_⟩
    refine ⟨_, rfl, _, rfl, b1, c1, b2, c2, m1, m2, rfl, sa.same kJ, sb.same kJ, by omega, fun HK kK => ⟨_, rfl, iteF ?_⟩⟩
    have kK := kJ.trans kK
    exact ⟨_, rfl, _, rfl, _, rfl, b1, c1, b2, c2, o3, t3, m1, m2, n3, rfl, sa.same kK, sb.same kK, sh3.same kK, by omega, by omega, fun HM kM => ⟨_, rfl, iteF ⟨_, _, rfl, kK.trans kM⟩⟩⟩
  · rintro σ HJ ⟨va, vb, rfl, kJ⟩
    refine ⟨_, rfl, _, rfl, o1, t1, o2, t2, n1, n2, rfl, sh1.same kJ, sh2.same kJ, nl2.symm, fun HK kK => ⟨_, rfl, ?_⟩⟩
    have kK := kJ.trans kK
    refine ite_and (c := calm n2 n3) (R := fun G => tCall (spCalm CShare) [] E0 (tCons (tVar 7) (tCons (tVar 8) tNil)) [some (.ref a), some (.int (0 + i)), some (.ref p), some (.int (0 + j)), some (.ref t1), some (.ref t2), some (.ref o1), some (.ref o2), some (.ref o3), some (.ref L), va, vb, vc, vd] HK G)
      (fun g => ⟨_, rfl, _, rfl, o2, t2, o3, t3, n2, n3, rfl, sh2.same kK, sh3.same kK, nl3.symm, g⟩) fun HM kM => ?_
    have kM := kK.trans kM
    refine ⟨_, rfl, _, rfl, ite2 (fun c => ?_) (fun c => ?_)⟩
    · have c2 := Bool.and_eq_true_iff.mp c
      have c3 := calm_trans nl2.symm c2.1 c2.2
      refine ⟨_, rfl, _, rfl, o1, t1, o3, t3, n1, n3, rfl, sh1.same kM, sh3.same kM, by omega, fun HN kN => ?_⟩
      rw [c3]
      refine ⟨_, rfl, iteF ?_⟩
      have kN := kM.trans kN
      refine ⟨_, rfl, _, rfl, p, t1, n1, rfl, s10.same (kAI.trans kN), .inr (SqT.of (kN _ _ (kAI _ _ ht1))), fun H' k' => .inr (SqT.of (k' _ _ ((s10.same (kAI.trans kN)).neT (kN _ _ (kAI _ _ ht1))) (kN _ _ (kAI _ _ ht1)))), by omega, fun t4 n4 HO pm sO kO ht4 => fun o4 d4 x4 y4 _ => mk_at x4 y4 ht4 (by rw [pm.length_eq]; omega) (by rw [pm.length_eq]; omega) (fun z hz => am1 z (pm.mem_iff.mp hz)) fun HQ kQ sh4 => ?_⟩
      have sh1 := ((sh1.same kN).kp (s10.same (kAI.trans kN)) kO).same kQ
      refine ⟨_, rfl, _, rfl, o1, t1, o4, t4, n1, n4, rfl, sh1, sh4, pm.length_eq.symm, fun HR kR => ?_⟩
      rw [calm_perm pm.symm]
      refine ⟨_, rfl, iteF ?_⟩
      refine ⟨_, rfl, _, rfl, o1, t1, o4, t4, n1, n4, rfl, sh1.same kR, sh4.same kR, pm.length_eq.symm, fun HS kS => ?_⟩
      rw [calm_perm pm.symm, calm_perm pm]
      refine ⟨_, rfl, iteF ?_⟩
      exact ⟨_, _, _, _, _, _, _, _, _, _, _, rfl, ((sO.same kQ).same kR).same kS, (((sk (a10.trans (kAI.trans kN)) kO np).trans kQ).trans kR).trans kS⟩
    · refine ⟨_, rfl, _, rfl, p, t1, n1, rfl, s10.same (kAI.trans kM), .inr (SqT.of (kM _ _ (kAI _ _ ht1))), fun H' k' => .inr (SqT.of (k' _ _ ((s10.same (kAI.trans kM)).neT (kM _ _ (kAI _ _ ht1))) (kM _ _ (kAI _ _ ht1)))), by omega, fun t4 n4 HO pm sO kO ht4 => fun o4 d4 x4 y4 _ => mk_at x4 y4 ht4 (by rw [pm.length_eq]; omega) (by rw [pm.length_eq]; omega) (fun z hz => am1 z (pm.mem_iff.mp hz)) fun HQ kQ sh4 => ?_⟩
      have sh1 := ((sh1.same kM).kp (s10.same (kAI.trans kM)) kO).same kQ
      refine ⟨_, rfl, _, rfl, o1, t1, o4, t4, n1, n4, rfl, sh1, sh4, pm.length_eq.symm, fun HR kR => ?_⟩
      rw [calm_perm pm.symm]
      refine ⟨_, rfl, iteF ?_⟩
      refine ⟨_, rfl, _, rfl, o1, t1, o4, t4, n1, n4, rfl, sh1.same kR, sh4.same kR, pm.length_eq.symm, fun HS kS => ?_⟩
      rw [calm_perm pm.symm, calm_perm pm]
      refine ⟨_, rfl, iteF ?_⟩
      exact ⟨_, _, _, _, _, _, _, _, _, _, _, rfl, ((sO.same kQ).same kR).same kS, (((sk (a10.trans (kAI.trans kM)) kO np).trans kQ).trans kR).trans kS⟩
end
end Pl
namespace Pl
open PySem PySem.Spec PyProof.Rows L2
theorem all_ok {P : Program} {w : World} {K : PySem.W.Frag} {mg : Str → Option Value} {h base : Heap} {CShare CNoShare CNoAmounts : Addr} (X : K.In h) (G : h.Ns mainGlobals mg) (aShare : PySem.W.nsIn K mainGlobals "Share" = some (some (.ref CShare))) (sShare : ShF K CShare) (fShare : CallF K CShare) (mShare_init : MhK K CShare "__init__" "Share.__init__" st_ShInit) (mShare_len : MhK K CShare "__len__" "Share.__len__" st_Sh_len) (mShare_call : MhK K CShare "__call__" "Share.__call__" st_Sh_call) (mShare_add : MhK K CShare "__add__" "Share.__add__" st_Sh_add) (pShare_amounts : PhK K CShare "amounts" "Share.amounts" st_Sh_amounts) (pShare_total : PhK K CShare "total" "Share.total" st_Sh_total) (d_is_integer : DfK K "is_integer" st_is_integer) (d_is_pair : DfK K "is_pair" st_is_pair) (d_is_integer_to : DfK K "is_integer_to" st_is_integer_to) (d_is_amounts : DfK K "is_amounts" st_is_amounts) (d_check_pair : DfK K "check_pair" st_check_pair) (d_is_calm : DfK K "is_calm" st_is_calm) (d_is_calmer : DfK K "is_calmer" st_is_calmer) (d_path : DfK K "path" st_path) (d_shows_path : DfK K "shows_path" st_shows_path) (d_ascending : DfK K "ascending" st_ascending) (d_moved : DfK K "moved" st_moved) (d_steps_between : DfK K "steps_between" st_steps_between) (d_step_towards : DfK K "step_towards" st_step_towards) (d_is_gap : DfK K "is_gap" st_is_gap) (d_smallest_gap : DfK K "smallest_gap" st_smallest_gap) (d_is_steps : DfK K "is_steps" st_is_steps) (d_is_move : DfK K "is_move" st_is_move) (d_l_cell : DfK K "_law_cell" st_l_cell) (d_l_source : DfK K "_law_source" st_l_source) (d_l_draw : DfK K "_law_draw" st_l_draw) (d_l_choose : DfK K "_law_choose" st_l_choose) (d_l_is_equal : DfK K "_law_is_equal" st_l_is_equal) (d_l_amounts : DfK K "_law_amounts" st_l_amounts) (d_l_calmed : DfK K "_law_calmed" st_l_calmed) (d_l_mixed : DfK K "_law_mixed" st_l_mixed) (d_l_other : DfK K "_law_other" st_l_other) (d_l_lack : DfK K "_law_lack" st_l_lack) (d_l_is_told : DfK K "_law_is_told" st_l_is_told) (d_l_are_added : DfK K "_law_are_added" st_l_are_added) (d_law : DfK K "law" st_law) (n_len : PySem.W.nsIn K mainGlobals "len" = some none) (n_range : PySem.W.nsIn K mainGlobals "range" = some none) (n_max : PySem.W.nsIn K mainGlobals "max" = some none) (n_min : PySem.W.nsIn K mainGlobals "min" = some none) (n_sum : PySem.W.nsIn K mainGlobals "sum" = some none) (n_sorted : PySem.W.nsIn K mainGlobals "sorted" = some none) (n_all : PySem.W.nsIn K mainGlobals "all" = some none) (n_isinstance : PySem.W.nsIn K mainGlobals "isinstance" = some none) (n_repr : PySem.W.nsIn K mainGlobals "repr" = some none) (n_tuple : PySem.W.nsIn K mainGlobals "tuple" = some none) (n_list : PySem.W.nsIn K mainGlobals "list" = some none) (n_int : PySem.W.nsIn K mainGlobals "int" = some none) (n_bool : PySem.W.nsIn K mainGlobals "bool" = some none) (n_zip : PySem.W.nsIn K mainGlobals "zip" = some none) (n_str : PySem.W.nsIn K mainGlobals "str" = some none) (c_FEWEST_STATES : ConI K "FEWEST_STATES" 2) (c_MOST_STATES : ConI K "MOST_STATES" 6) (c_MOST_IN_A_STATE : ConI K "MOST_IN_A_STATE" 30) (x_NoShare : ExF K "NoShare" CNoShare) (x_NoAmounts : ExF K "NoAmounts" CNoAmounts) (aCs : AddC K CShare) :
    CalG P w K mg base 9 "law" ["_law_script"] (spLaw K) := by
  have B : Bn mg := ⟨PySem.W.mg_none_of X G n_len, PySem.W.mg_none_of X G n_range, PySem.W.mg_none_of X G n_max, PySem.W.mg_none_of X G n_min, PySem.W.mg_none_of X G n_sum, PySem.W.mg_none_of X G n_sorted, PySem.W.mg_none_of X G n_all, PySem.W.mg_none_of X G n_isinstance, PySem.W.mg_none_of X G n_repr, PySem.W.mg_none_of X G n_tuple, PySem.W.mg_none_of X G n_list, PySem.W.mg_none_of X G n_int, PySem.W.mg_none_of X G n_bool, PySem.W.mg_none_of X G n_zip, PySem.W.mg_none_of X G n_str⟩
  have Cc : Cn mg := ⟨c_FEWEST_STATES.mg X G, c_MOST_STATES.mg X G, c_MOST_IN_A_STATE.mg X G⟩
  have S : ShK K mg CShare := sShare.k fShare (PySem.W.mg_of X G aShare)
  have e_NoShare := x_NoShare.k X G
  have e_NoAmounts := x_NoAmounts.k X G
  have c_isi := ok_isi (P := P) (w := w) (base := base) B (d_is_integer.df X G (fun _ _ _ _ _ _ us hl => match us, hl with | [_], _ => rfl))
  have c_isint := ok_isint c_isi (d_is_integer_to.df X G (fun _ _ _ _ _ _ us hl => match us, hl with | [_, _], _ => rfl))
  have c_isam := ok_isam B Cc c_isint (d_is_amounts.df X G (fun _ _ _ _ _ _ us hl => match us, hl with | [_], _ => rfl))
  have m_init := ok_init S c_isam (mShare_init.mh (fun _ _ _ _ _ _ us hl => match us, hl with | [_, _], _ => rfl))
  have p_amounts := ok_pamounts (P := P) (w := w) (base := base) S (pShare_amounts.ph (fun _ _ _ _ _ _ us hl => match us, hl with | [_], _ => rfl))
  have p_total := ok_total (P := P) (w := w) (base := base) B S (pShare_total.ph (fun _ _ _ _ _ _ us hl => match us, hl with | [_], _ => rfl))
  have m_len := ok_len (P := P) (w := w) (base := base) B S (mShare_len.mh (fun _ _ _ _ _ _ us hl => match us, hl with | [_], _ => rfl))
  have m_call := ok_call B S c_isint (mShare_call.mh (fun _ _ _ _ _ _ us hl => match us, hl with | [_, _], _ => rfl))
  have c_pair := ok_pair B S m_len (d_check_pair.df X G (fun _ _ _ _ _ _ us hl => match us, hl with | [_, _], _ => rfl))
  have c_calm := ok_calm B S c_pair m_len p_total m_call (d_is_calm.df X G (fun _ _ _ _ _ _ us hl => match us, hl with | [_, _], _ => rfl))
  have c_asc := ok_asc B S p_amounts (d_ascending.df X G (fun _ _ _ _ _ _ us hl => match us, hl with | [_], _ => rfl))
  have c_moved := ok_moved (P := P) (w := w) (base := base) B (d_moved.df X G (fun _ _ _ _ _ _ us hl => match us, hl with | [_, _, _], _ => rfl))
  have c_toward := ok_toward B c_moved (d_step_towards.df X G (fun _ _ _ _ _ _ us hl => match us, hl with | [_, _], _ => rfl))
  have c_between := ok_between B c_toward (d_steps_between.df X G (fun _ _ _ _ _ _ us hl => match us, hl with | [_, _], _ => rfl))
  have c_isgap := ok_isgap B S m_len p_total m_call (d_is_gap.df X G (fun _ _ _ _ _ _ us hl => match us, hl with | [_, _, _], _ => rfl))
  have c_gap := ok_gap B S m_len c_isgap (d_smallest_gap.df X G (fun _ _ _ _ _ _ us hl => match us, hl with | [_, _], _ => rfl))
  have c_path := ok_path S c_calm c_asc c_between c_gap (d_path.df X G (fun _ _ _ _ _ _ us hl => match us, hl with | [_, _], _ => rfl))
  have c_cell := ok_cell (P := P) (w := w) (base := base) B (d_l_cell.df X G (fun _ _ _ _ _ _ us hl => match us, hl with | [_, _], _ => rfl))
  have c_source := ok_source (P := P) (w := w) (base := base) B (d_l_source.df X G (fun _ _ _ _ _ _ us hl => match us, hl with | [_], _ => rfl))
  have c_draw := ok_draw (P := P) (w := w) (base := base) (d_l_draw.df X G (fun _ _ _ _ _ _ us hl => match us, hl with | [_, _], _ => rfl))
  have c_choose := ok_choose B c_draw (d_l_choose.df X G (fun _ _ _ _ _ _ us hl => match us, hl with | [_, _], _ => rfl))
  have c_amounts := ok_amounts B c_draw c_choose (d_l_amounts.df X G (fun _ _ _ _ _ _ us hl => match us, hl with | [_, _], _ => rfl))
  have c_mixed := ok_mixed B c_draw (d_l_mixed.df X G (fun _ _ _ _ _ _ us hl => match us, hl with | [_, _], _ => rfl))
  have c_calmed := ok_calmed B c_draw c_mixed (d_l_calmed.df X G (fun _ _ _ _ _ _ us hl => match us, hl with | [_, _, _], _ => rfl))
  have c_other := ok_other B c_draw c_mixed c_calmed c_amounts (d_l_other.df X G (fun _ _ _ _ _ _ us hl => match us, hl with | [_, _], _ => rfl))
  have c_equal := ok_equal (P := P) (w := w) (base := base) B (d_l_is_equal.df X G (fun _ _ _ _ _ _ us hl => match us, hl with | [_, _], _ => rfl))
  have c_calmer := ok_calmer c_calm (d_is_calmer.df X G (fun _ _ _ _ _ _ us hl => match us, hl with | [_, _], _ => rfl))
  have c_move := ok_move B c_moved (d_is_move.df X G (fun _ _ _ _ _ _ us hl => match us, hl with | [_, _], _ => rfl))
  have c_steps := ok_steps B c_isam c_asc c_move (d_is_steps.df X G (fun _ _ _ _ _ _ us hl => match us, hl with | [_, _, _], _ => rfl))
  have c_ispr := ok_ispr (P := P) (w := w) (base := base) B (d_is_pair.df X G (fun _ _ _ _ _ _ us hl => match us, hl with | [_], _ => rfl))
  have c_shows := ok_shows B S c_ispr c_pair m_len c_isint c_isgap c_steps (d_shows_path.df X G (fun _ _ _ _ _ _ us hl => match us, hl with | [_, _, _], _ => rfl))
  have m_initX := ok_initX S e_NoAmounts c_isam (mShare_init.mh (fun _ _ _ _ _ _ us hl => match us, hl with | [_, _], _ => rfl))
  have c_pairX := ok_pairX B S e_NoShare m_len (d_check_pair.df X G (fun _ _ _ _ _ _ us hl => match us, hl with | [_, _], _ => rfl))
  have m_add := ok_addX B S c_pairX m_initX (mShare_add.mh (fun _ _ _ _ _ _ us hl => match us, hl with | [_, _], _ => rfl))
  have c_lack := ok_lack B S p_amounts (d_l_lack.df X G (fun _ _ _ _ _ _ us hl => match us, hl with | [_, _], _ => rfl))
  have c_told := ok_told B S m_init p_total m_call m_len c_lack c_path c_calm c_calmer c_shows c_equal (d_l_is_told.df X G (fun _ _ _ _ _ _ us hl => match us, hl with | [_, _], _ => rfl))
  have c_added := ok_added3 B S aCs m_init p_amounts c_calm m_add (d_l_are_added.df X G (fun _ _ _ _ _ _ us hl => match us, hl with | [_, _, _], _ => rfl))
  have c_law := ok_law B S m_init c_cell c_source c_draw c_amounts c_other c_mixed c_calm c_calmer c_told c_added (d_law.df X G (fun _ _ _ _ _ _ us hl => match us, hl with | [_], _ => rfl))
  exact c_law
end Pl
open PySem PySem.W PyProof.Rows in
set_option maxRecDepth 100000 in
set_option maxHeartbeats 0 in
theorem PySem.Challenge.cw_poolshares_k12_whole_calm_shares_by_what_holds : PySem.Challenge.rw_poolshares_k12_whole_calm_shares_by_what.Holds := by
  w_on; o_law; k_head; (case hw => w_witness2)
  k_fill
  refine Pl.walkG (l := PySem.Challenge.rw_poolshares_k12_whole_calm_shares_by_what) (n := 63) (k := 9) (x := "_law_script") (sp := Pl.spLaw) rfl (by decide) rfl ⟨rfl, by decide, by decide⟩ (fun w h Y => PySem.W.kIn_of Y) ?F (fun K H a ns hl _ hS => ⟨a, ns, rfl, hS, hl, fun _ => rfl⟩)
  case F =>
    intro w mg fa h KX G hmg base kb nb
    refine' Pl.CalG.at (x := "law") (Pl.all_ok KX G ?aShare ?sShare ?fShare ?mShare_init ?mShare_len ?mShare_call ?mShare_add ?pShare_amounts ?pShare_total ?d_is_integer ?d_is_pair ?d_is_integer_to ?d_is_amounts ?d_check_pair ?d_is_calm ?d_is_calmer ?d_path ?d_shows_path ?d_ascending ?d_moved ?d_steps_between ?d_step_towards ?d_is_gap ?d_smallest_gap ?d_is_steps ?d_is_move ?d_l_cell ?d_l_source ?d_l_draw ?d_l_choose ?d_l_is_equal ?d_l_amounts ?d_l_calmed ?d_l_mixed ?d_l_other ?d_l_lack ?d_l_is_told ?d_l_are_added ?d_law ?n_len ?n_range ?n_max ?n_min ?n_sum ?n_sorted ?n_all ?n_isinstance ?n_repr ?n_tuple ?n_list ?n_int ?n_bool ?n_zip ?n_str ?c_FEWEST_STATES ?c_MOST_STATES ?c_MOST_IN_A_STATE ?x_NoShare ?x_NoAmounts ?aCs) hmg
    (case aShare => k_is)
    (case sShare => refine' ⟨?pg, ?hd, ?po, ?sa, ?nB, ?mks, ?kc, ?ca, ?cg, ?ct, ?mro, ?kit⟩; (case pg => k_is); (case hd => k_is); (case po => k_is); (case sa => k_is); (case nB => k_is); (case mks => k_is); (case kc => k_is); (case ca => k_is); (case cg => k_is); (case ct => k_is); (case mro => k_is); (case kit => first | rfl | k_is))
    (case fShare => refine' Pl.CallF.of ?a ?i; (case a => k_is); (case i => k_is))
    (case mShare_init => refine' Pl.MhK.of ?a ?i ?l ?c ?k; (case a => k_is); (case i => k_is); (case l => k_is); (case c => k_is); (case k => k_is))
    (case mShare_len => refine' Pl.MhK.of ?a ?i ?l ?c ?k; (case a => k_is); (case i => k_is); (case l => k_is); (case c => k_is); (case k => k_is))
    (case mShare_call => refine' Pl.MhK.of ?a ?i ?l ?c ?k; (case a => k_is); (case i => k_is); (case l => k_is); (case c => k_is); (case k => k_is))
    (case mShare_add => refine' Pl.MhK.of ?a ?i ?l ?c ?k; (case a => k_is); (case i => k_is); (case l => k_is); (case c => k_is); (case k => k_is))
    (case pShare_amounts => refine' Pl.PhK.of ?a ?g ?t ?r ?l ?c ?k; (case a => k_is); (case g => k_is); (case t => k_is); (case r => k_is); (case l => k_is); (case c => k_is); (case k => k_is))
    (case pShare_total => refine' Pl.PhK.of ?a ?g ?t ?r ?l ?c ?k; (case a => k_is); (case g => k_is); (case t => k_is); (case r => k_is); (case l => k_is); (case c => k_is); (case k => k_is))
    (case d_is_integer => refine' Pl.DfK.of ?a ?l ?c ?k; (case a => k_is); (case l => k_is); (case c => k_is); (case k => k_is))
    (case d_is_pair => refine' Pl.DfK.of ?a ?l ?c ?k; (case a => k_is); (case l => k_is); (case c => k_is); (case k => k_is))
    (case d_is_integer_to => refine' Pl.DfK.of ?a ?l ?c ?k; (case a => k_is); (case l => k_is); (case c => k_is); (case k => k_is))
    (case d_is_amounts => refine' Pl.DfK.of ?a ?l ?c ?k; (case a => k_is); (case l => k_is); (case c => k_is); (case k => k_is))
    (case d_check_pair => refine' Pl.DfK.of ?a ?l ?c ?k; (case a => k_is); (case l => k_is); (case c => k_is); (case k => k_is))
    (case d_is_calm => refine' Pl.DfK.of ?a ?l ?c ?k; (case a => k_is); (case l => k_is); (case c => k_is); (case k => k_is))
    (case d_is_calmer => refine' Pl.DfK.of ?a ?l ?c ?k; (case a => k_is); (case l => k_is); (case c => k_is); (case k => k_is))
    (case d_path => refine' Pl.DfK.of ?a ?l ?c ?k; (case a => k_is); (case l => k_is); (case c => k_is); (case k => k_is))
    (case d_shows_path => refine' Pl.DfK.of ?a ?l ?c ?k; (case a => k_is); (case l => k_is); (case c => k_is); (case k => k_is))
    (case d_ascending => refine' Pl.DfK.of ?a ?l ?c ?k; (case a => k_is); (case l => k_is); (case c => k_is); (case k => k_is))
    (case d_moved => refine' Pl.DfK.of ?a ?l ?c ?k; (case a => k_is); (case l => k_is); (case c => k_is); (case k => k_is))
    (case d_steps_between => refine' Pl.DfK.of ?a ?l ?c ?k; (case a => k_is); (case l => k_is); (case c => k_is); (case k => k_is))
    (case d_step_towards => refine' Pl.DfK.of ?a ?l ?c ?k; (case a => k_is); (case l => k_is); (case c => k_is); (case k => k_is))
    (case d_is_gap => refine' Pl.DfK.of ?a ?l ?c ?k; (case a => k_is); (case l => k_is); (case c => k_is); (case k => k_is))
    (case d_smallest_gap => refine' Pl.DfK.of ?a ?l ?c ?k; (case a => k_is); (case l => k_is); (case c => k_is); (case k => k_is))
    (case d_is_steps => refine' Pl.DfK.of ?a ?l ?c ?k; (case a => k_is); (case l => k_is); (case c => k_is); (case k => k_is))
    (case d_is_move => refine' Pl.DfK.of ?a ?l ?c ?k; (case a => k_is); (case l => k_is); (case c => k_is); (case k => k_is))
    (case d_l_cell => refine' Pl.DfK.of ?a ?l ?c ?k; (case a => k_is); (case l => k_is); (case c => k_is); (case k => k_is))
    (case d_l_source => refine' Pl.DfK.of ?a ?l ?c ?k; (case a => k_is); (case l => k_is); (case c => k_is); (case k => k_is))
    (case d_l_draw => refine' Pl.DfK.of ?a ?l ?c ?k; (case a => k_is); (case l => k_is); (case c => k_is); (case k => k_is))
    (case d_l_choose => refine' Pl.DfK.of ?a ?l ?c ?k; (case a => k_is); (case l => k_is); (case c => k_is); (case k => k_is))
    (case d_l_is_equal => refine' Pl.DfK.of ?a ?l ?c ?k; (case a => k_is); (case l => k_is); (case c => k_is); (case k => k_is))
    (case d_l_amounts => refine' Pl.DfK.of ?a ?l ?c ?k; (case a => k_is); (case l => k_is); (case c => k_is); (case k => k_is))
    (case d_l_calmed => refine' Pl.DfK.of ?a ?l ?c ?k; (case a => k_is); (case l => k_is); (case c => k_is); (case k => k_is))
    (case d_l_mixed => refine' Pl.DfK.of ?a ?l ?c ?k; (case a => k_is); (case l => k_is); (case c => k_is); (case k => k_is))
    (case d_l_other => refine' Pl.DfK.of ?a ?l ?c ?k; (case a => k_is); (case l => k_is); (case c => k_is); (case k => k_is))
    (case d_l_lack => refine' Pl.DfK.of ?a ?l ?c ?k; (case a => k_is); (case l => k_is); (case c => k_is); (case k => k_is))
    (case d_l_is_told => refine' Pl.DfK.of ?a ?l ?c ?k; (case a => k_is); (case l => k_is); (case c => k_is); (case k => k_is))
    (case d_l_are_added => refine' Pl.DfK.of ?a ?l ?c ?k; (case a => k_is); (case l => k_is); (case c => k_is); (case k => k_is))
    (case d_law => refine' Pl.DfK.of ?a ?l ?c ?k; (case a => k_is); (case l => k_is); (case c => k_is); (case k => k_is))
    (case n_len => k_is)
    (case n_range => k_is)
    (case n_max => k_is)
    (case n_min => k_is)
    (case n_sum => k_is)
    (case n_sorted => k_is)
    (case n_all => k_is)
    (case n_isinstance => k_is)
    (case n_repr => k_is)
    (case n_tuple => k_is)
    (case n_list => k_is)
    (case n_int => k_is)
    (case n_bool => k_is)
    (case n_zip => k_is)
    (case n_str => k_is)
    (case c_FEWEST_STATES => refine' Pl.ConI.of ?a; (case a => k_is))
    (case c_MOST_STATES => refine' Pl.ConI.of ?a; (case a => k_is))
    (case c_MOST_IN_A_STATE => refine' Pl.ConI.of ?a; (case a => k_is))
    (case x_NoShare => refine' ⟨?a, ?xn, ?kp, ?ba, ?ty, ?cl, ?su⟩; (case a => k_is); (case xn => k_exc); (case kp => k_is); (case ba => k_is); (case ty => k_is); (case cl => k_is); (case su => first | rfl | k_is))
    (case x_NoAmounts => refine' ⟨?a, ?xn, ?kp, ?ba, ?ty, ?cl, ?su⟩; (case a => k_is); (case xn => k_exc); (case kp => k_is); (case ba => k_is); (case ty => k_is); (case cl => k_is); (case su => first | rfl | k_is))
    (case aCs => refine' Pl.AddC.of ?a ?b; (case a => k_is); (case b => k_is))
#print axioms PySem.Challenge.cw_poolshares_k12_whole_calm_shares_by_what_holds
