import PyProof.Rows.All
import Wide.All
import OpenK.AllK
import Wide.FinOn
import HandS.ForMost
import HandS.ForExc
import HandS.IsInst
import HandS.Star
import HandS.Property
import HandS.Walk
import HandS.Style
import HandS.Zip
import PyProof.ReprRoads
import KE.KTupSum
import PySem.Challenge.RW_poolshares_k04_calm_and_calmer_shares
set_option Elab.async false
set_option linter.all false
set_option maxRecDepth 100000
set_option maxHeartbeats 2000000
/-! Own words over the hand layer: calls where nothing is being shown (guards empty), so that repr may be asked. -/
namespace Pl
open PySem PySem.Spec PyProof.Rows L2

/-- a def that keeps its promise wherever no repr is under way -/
structure FnG (P : Program) (w : World) (K : PySem.W.Frag) (mg : Str → Option Value) (base : Heap) (k : Nat) (f : Addr)
    (fd : FuncData) (ps : List Str) (sp : Sp) : Prop where
  lng : ∀ vs H Q E, sp vs H Q E → vs.length = ps.length
  go : ∀ (A : Around) (out : List Env) (s : Shared) (H : Hp) (ar : Args) (us : List Value) (vs : List V) (Q : VK) (E : XK),
    A.guards = some [] → Room k A → Env0 P w K mg base A out s H → BindsTo s fd ar (ps.zip us) → Vals vs us → sp vs H Q E →
    codeAny (model P w) A (.call (.ref f) ar) (CR CX0 out P w H s Q E) s

section
variable {P : Program} {w : World} {K : PySem.W.Frag} {mg : Str → Option Value} {base : Heap}
theorem okG {x qual : Str} {st : Stmt} {f : Addr} {fd : FuncData} {N ps : List Str} {k : Nat} {sp : Sp}
    (D : Fun K x qual st f fd) (S : FnScope N ps (defScope st)) (lng : ∀ vs H Q E, sp vs H Q E → vs.length = ps.length)
    (bod : ∀ (cdv : Value) (A : Around) (out : List Env) (s : Shared) (H : Hp) (vs : List V) (Q : VK) (E : XK),
      A.guards = some [] → Room k (A.deeper (envOfC qual (defScope st) s.heap.objs.size f cdv)) → sp vs H Q E →
      ∃ t, PSs (cxOf CX0 P w K mg base N qual (defScope st) f cdv A out s H E).nox (defBody st) t ∧
        t { nx := fun _ H' => Q .non H', rt := Q } (start N vs) H) :
    FnG P w K mg base (k + 1) f fd ps sp := by
  obtain ⟨oc, od, kV, doc, pm, an, cdv, ct, osl, rfl, lk, hcd⟩ := D.ex
  refine ⟨lng, fun A out s H ar us vs Q E gd rm e0 bt rv hs => ?_⟩
  have inK : K.In s.heap := e0.mod.kin.keeps fun b o q => (e0.bs b o q).1
  have nl : s.heap.NoLimit := e0.mod.nolimit.keeps fun b o q => (e0.bs b o q).1
  have kinds : ∀ y ∈ ps.zip us, (defScope st).names.lookup y.1 = some .local ∨
      ((defScope st).names.lookup y.1 = some .cell ∧
        ((cellsFrom (s.heap.objs.size + 1) (defScope st).names []).lookup y.1).isSome = true) := by
    rintro ⟨n, v⟩ hy
    rcases S.par n (List.of_mem_zip hy).1 with c | c
    · exact .inl c
    · exact .inr ⟨c, PySem.W.cellsFrom_some _ _ _ (.inl c)⟩
  refine codeAny_call_function rm.depth (inK _ _ lk) rfl S.co S.gen rfl (PySem.W.codeRec_of inK hcd) (bt _ _ _ _ ?_)
  refine wpAny_newFunctionEnv_cells S.kind kinds fun env he s1 ic => ?_
  subst he
  refine ⟨nl.keeps ic.toInCall.keep, codeAny_func ?_⟩
  obtain ⟨t, ht0, hq⟩ := bod cdv A out s H vs Q E gd (rm.deeper _) hs
  have ht := ht0.nox
  have I : Inv (cxOf CX0 P w K mg base N qual (defScope st) f cdv A out s H E) [] (start N vs) H s1 :=
    inv_start S rm.hd e0 (lng _ _ _ _ hs) rv ic
  refine wpAny_mono (ht.run [] s1 (start N vs) H _ I hq) (fun fl s' z => ?_) fun e s' z => z
  cases fl with
  | ret u =>
    obtain ⟨v, σ', H', J, r, q⟩ := z
    exact ⟨v, H', J.os, J.bare, J.base, J.hok, r, q⟩
  | next =>
    obtain ⟨σ', H', J, q⟩ := z
    exact ⟨V.non, H', J.os, J.bare, J.base, J.hok, rfl, q⟩
  | brk =>
    obtain ⟨σ', H', J, q⟩ := z
    exact False.elim q
  | cont =>
    obtain ⟨σ', H', J, q⟩ := z
    exact False.elim q
end

/-- a def of the module by its name, as the top has left it -/
structure Df (K : PySem.W.Frag) (mg : Str → Option Value) (x : Str) (st : Stmt) (ps : List Str) : Prop where
  ex : ∃ f fd, Fun K x x st f fd ∧ mg x = some (.ref f) ∧ Binds K fd ps []
/-- a def by its name and its promise -/
structure Cal (P : Program) (w : World) (K : PySem.W.Frag) (mg : Str → Option Value) (base : Heap) (k : Nat) (x : Str) (ps : List Str) (sp : Sp) : Prop where
  ex : ∃ f fd, FnOk P w K mg base CX0 k f fd ps sp ∧ mg x = some (.ref f) ∧ PySem.W.keepIn K (.ref f) = true ∧ Binds K fd ps []
structure CalG (P : Program) (w : World) (K : PySem.W.Frag) (mg : Str → Option Value) (base : Heap) (k : Nat) (x : Str) (ps : List Str) (sp : Sp) : Prop where
  ex : ∃ f fd, FnG P w K mg base k f fd ps sp ∧ mg x = some (.ref f) ∧ PySem.W.keepIn K (.ref f) = true ∧ Binds K fd ps []
section
variable {P : Program} {w : World} {K : PySem.W.Frag} {mg : Str → Option Value} {base : Heap} {x : Str} {st : Stmt} {N ps : List Str} {k : Nat} {sp : Sp}
theorem Df.cal (D : Df K mg x st ps) (S : FnScope N ps (defScope st)) (lng : ∀ vs H Q E, sp vs H Q E → vs.length = ps.length)
    (bod : ∀ (f : Addr) (cdv : Value) (A : Around) (out : List Env) (s : Shared) (H : Hp) (vs : List V) (Q : VK) (E : XK),
      Room k (A.deeper (envOfC x (defScope st) s.heap.objs.size f cdv)) → sp vs H Q E →
      ∃ t, PSs (cxOf CX0 P w K mg base N x (defScope st) f cdv A out s H E).nox (defBody st) t ∧
        t { nx := fun _ H' => Q .non H', rt := Q } (start N vs) H) : Cal P w K mg base (k + 1) x ps sp := by
  obtain ⟨f, fd, F, hm, hb⟩ := D.ex
  exact ⟨f, fd, F.ok S lng (bod f), hm, F.kp, hb⟩
theorem Df.calG (D : Df K mg x st ps) (S : FnScope N ps (defScope st)) (lng : ∀ vs H Q E, sp vs H Q E → vs.length = ps.length)
    (bod : ∀ (f : Addr) (cdv : Value) (A : Around) (out : List Env) (s : Shared) (H : Hp) (vs : List V) (Q : VK) (E : XK),
      A.guards = some [] → Room k (A.deeper (envOfC x (defScope st) s.heap.objs.size f cdv)) → sp vs H Q E →
      ∃ t, PSs (cxOf CX0 P w K mg base N x (defScope st) f cdv A out s H E).nox (defBody st) t ∧
        t { nx := fun _ H' => Q .non H', rt := Q } (start N vs) H) : CalG P w K mg base (k + 1) x ps sp := by
  obtain ⟨f, fd, F, hm, hb⟩ := D.ex
  exact ⟨f, fd, okG F S lng (bod f), hm, F.kp, hb⟩
end
section
variable {X : Cx} {k : Nat} {x : Str} {ps : List Str} {sp : Sp} {p pos : Pos} {e : Expr} {es : List Expr} {t : TA}
/-- x(e, ..) -/
theorem pe_fn (c : Cal X.prog X.w X.K X.mg X.base k x ps sp) (hr : Room k X.A) (ha : PA X (e :: es) t) (hg : Gl X x := by rfl) (hdb : (x == ("__debug__" : Str)) = false := by decide)
    (he : starEach (e :: es) X.env = (false, eval e X.env) :: starEach es X.env := by rfl) (hpl : (backTo pos (starEach es X.env)).any (·.1) = false := by rfl) :
    PE X (.Call (.Name x p) (e :: es) [] pos) (tCall sp [] E0 t) := by
  obtain ⟨f, fd, F, hm, kp, hb⟩ := c.ex
  exact pe_call F hr hg hm kp hb .nil pass0 ha hdb he hpl
/-- the same where a repr may be asked within -/
theorem pe_fnG (c : CalG X.prog X.w X.K X.mg X.base k x ps sp) (gd : X.A.guards = some []) (hr : Room k X.A) (ha : PA X (e :: es) t) (hg : Gl X x := by rfl) (hdb : (x == ("__debug__" : Str)) = false := by decide)
    (he : starEach (e :: es) X.env = (false, eval e X.env) :: starEach es X.env := by rfl) (hpl : (backTo pos (starEach es X.env)).any (·.1) = false := by rfl) :
    PE X (.Call (.Name x p) (e :: es) [] pos) (tCall sp [] E0 t) := by
  obtain ⟨f, fd, F, hm, kp, hb⟩ := c.ex
  refine ⟨fun pins s σ H Q I h => wpAny_Call_Name_kw (ld_glob I hg hm ?_ hdb)⟩
  refine PySem.W.callWith_K (h₀ := X.base) I.ok.mod.kin kp (thn (ha.run pos pins s σ H _ I h) ?_) he hpl
  rintro us s1 ⟨vs, H1, J, r, q⟩
  refine ⟨J.kIn, ?_⟩
  have q2 : sp vs H1 Q E0 := by simpa using q
  have hl : us.length = ps.length := by rw [← r.length]; exact F.lng _ _ _ _ q2
  have bt : BindsTo s1 fd ⟨us, []⟩ (ps.zip us) := by simpa using hb s1 us J.kIn (by simpa using hl)
  refine wpAny_call (codeAny_mono (F.go X.A X.stack s1 H1 ⟨us, []⟩ us vs Q E0 gd hr J.env0 bt r q2) ?_)
  intro res s' z
  match res, z with
  | .ok (.ret u), z => exact J.after z
  | .ok .next, z => exact False.elim z
  | .ok .brk, z => exact False.elim z
  | .ok .cont, z => exact False.elim z
  | .error e, z => exact False.elim z
end

theorem un66 {k : Nat} {A : Around} (hr : Room k A) : A.units + 66 < cLine := by
  have := hr.un
  omega
/-! repr of data -/
section
variable {X : Cx}
theorem call_reprD (gd : X.A.guards = some []) (hu : X.A.units + 66 < cLine) :
    CallR X (.builtin "repr") (fun xs H Q => ∃ (a : Addr) (d : PyData), xs = [.ref a] ∧ Dp X.K H (.ref a) d ∧ d.showable = true ∧ d.hasDict = false ∧ d.depth ≤ 60 ∧ d.shown.length ≤ sizeLine ∧ Q (.str d.shown) H) := by
  intro pins s σ H xs us Q I r h
  obtain ⟨a, d, rfl, dp, sh, nd, dep, sz, q⟩ := h
  obtain ⟨u, rfl, ru⟩ := vals1 r
  obtain rfl : u = Value.ref a := ru
  obtain ⟨as, rd⟩ := Dp.reads I d _ _ dp rfl
  refine repr_of_reads' rd sh (PyData.noDict_hsm nd) gd (by omega) (fun _ _ e => e) (fun h' v tk hk => ?_) sz
  exact ⟨.str d.shown, H, I.kept hk, ⟨_, rfl⟩, q⟩

/-- len(o), o an instance whose class has its own __len__ -/
theorem call_lenO {k : Nat} {C f : Addr} {fd : FuncData} {ps : List Str} {sp : Sp} (hs : PySem.W.findIn X.K (.ref C) "__len__" = some (some (.ref f))) (hf : PySem.W.isFn X.K (.ref f) = true)
    (F : FnOk X.prog X.w X.K X.mg X.base CX0 k f fd ps sp) (hr : Room (k + 1) X.A) (hb : Binds X.K fd ps []) :
    CallR X (.builtin "len") (fun xs H Q => ∃ (a dx : Addr) (fs : List (Str × V)), xs = [.ref a] ∧ H a = some (.ins C dx fs) ∧
      sp [.ref a] H (fun v H' => ∃ n : Nat, v = .int n ∧ n ≤ 1000 ∧ Q (.int n) H') E0) := by
  intro pins s σ H xs us Q I r h
  obtain ⟨a, dx, fs, rfl, ea, h⟩ := h
  obtain ⟨u, rfl, ru⟩ := vals1 r
  obtain rfl : u = Value.ref a := ru
  obtain ⟨mA, O, _⟩ := ins_get I.hok ea
  obtain ⟨od, J, _⟩ := O.look
  obtain ⟨m, fr⟩ := I.fr
  refine PySem.W.len_K fr I.ok.mod.kin J hs hf ?_
  have hl : [V.ref a].length = ps.length := F.len _ _ _ _ h
  have bt : BindsTo s fd ⟨[.ref a], []⟩ (ps.zip [Value.ref a]) := by simpa using hb s [.ref a] I.kIn (by simpa using hl)
  refine wpAny_call (codeAny_mono (F.run X.A.in1 X.stack s H ⟨[.ref a], []⟩ [.ref a] [.ref a] _ E0 hr.in1 I.env0.in1 bt (.cons rfl .nil) h) ?_)
  intro res s' z
  match res, z with
  | .ok (.ret u), z =>
    obtain ⟨v, H', J2, rv, n, rfl, hn, q⟩ := I.after z
    obtain ⟨t, rfl⟩ := (show ∃ t, u = Value.int n t from rv)
    refine ⟨⟨by omega, by omega⟩, ⟨.int n, H', J2.tok _, ⟨_, rfl⟩, q⟩⟩
  | .ok .next, z => exact False.elim z
  | .ok .brk, z => exact False.elim z
  | .ok .cont, z => exact False.elim z
  | .error e, z => exact False.elim z
end

/-! sum and sorted of a tuple of ints -/
section
variable {prog : Program} {w : World} {A : Around} {E : Value → Shared → Prop} {s : Shared}
theorem collT {t : Addr} {us : List Value} {Q : List Value → Shared → Prop} (ht : s.heap.IsTuple t us.toArray) (hz : us.length ≤ sizeLine)
    (fin : ∀ h' : Heap, (∀ b o, s.heap.get? b = some o → h'.get? b = some o) → Q us { s with heap := h' }) :
    wpAny (model prog w) A (collect (.ref t)) Q E s := by
  obtain ⟨o, ho, hc, n, hd⟩ := ht
  have new : (s.heap.push (seqObj "list" #[] 0)).get? s.heap.objs.size = some (seqObj "list" #[] 0) := Heap.get?_push_size _ rfl
  unfold collect
  refine wpAny_bind (wpAny_runValue (codeAny_builtin entry_proto_collect' ?_))
  show wpAny _ _ (newList [] >>= fun l => again (.builtin "list.__iadd__" ⟨[l, .ref t], []⟩)) _ _ s
  refine wpAny_bind (wpAny_newList (wpAny_pure ⟨Code.quiet_builtin _ (by decide +kernel), codeAny_builtin entry_list_iadd' ?_⟩))
  have old : (s.heap.push (seqObj "list" #[] 0)).get? t = some o := Heap.get?_push_of_some _ ho
  show wpAny _ _ (Builtin.List.listExtendWith (.ref s.heap.objs.size) (.ref t) _) _ _ _
  unfold Builtin.List.listExtendWith; refine wpAny_bind (wpAny_typeOf (T := "tuple") ⟨o, old, hc⟩ ?_); rw [if_pos (by simp)]
  refine wpAny_bind (listItems_at old hd (wpAny_bind (listItems_at (xs := #[]) (n := 0) new rfl ?_)))
  rw [if_neg (by simp)]; refine wpAny_bind (listUpdate_at (xs := #[]) (n := 0) new rfl ?_ (Nat.zero_le _) (by simp; omega))
  refine wpAny_pure ?_; show wpAny (model prog w) A (load s.heap.objs.size >>= _) Q E _
  refine wpAny_bind (wpAny_load (get?_update_seq new _) ?_)
  have e : ((#[] : Array Value) ++ us.toArray).toList = us := by simp
  show wpAny _ _ (pure ((#[] : Array Value) ++ us.toArray).toList) Q E _
  rw [e]
  refine wpAny_pure (fin _ fun b o q => ?_)
  rw [Heap.get?_update_other _ _ (Nat.ne_of_gt (Heap.lt_size q))]
  exact Heap.get?_push_of_some _ q
end
section
variable {X : Cx}
theorem call_sumT (calm : X.calm = true) : CallR X (.builtin "sum") (fun vs H Q => ∃ (a : Addr) (ns : List Int), vs = [V.ref a] ∧ SqT X.K H a (ns.map V.int) ∧ Q (.int ns.sum) H) := by
  intro pins s σ H vs us Q I r h
  obtain ⟨a, ns, rfl, sq, q⟩ := h
  obtain ⟨its, rv, tp, _⟩ := I.tuple sq
  rw [Vals.ref1 r]
  have hi := rv.ints
  obtain ⟨xs, ex⟩ := hi.allInts.items
  have nn : numsOf (intItems xs).toList = ns := by rw [← ex]; exact hi.numsOf
  rw [nums_intItems] at nn
  have tp2 : s.heap.IsTuple a its.toArray := tp
  rw [ex] at tp2
  refine PySem.W.ktm_sumG (I.ok.hd calm) tp2 fun h' tk t' hk => ?_
  rw [preSum_eq, List.take_of_length_le (by simp), nn]
  exact ⟨.int _, H, I.kept hk, ⟨_, rfl⟩, q⟩
theorem call_sortedT : CallR X (.builtin "sorted") (fun vs H Q => ∃ (a : Addr) (ns : List Int), vs = [V.ref a] ∧ SqT X.K H a (ns.map V.int) ∧ ns.length < 64 ∧
    ∀ (ns' : List Int) (p : Addr), ns'.Perm ns → ns'.Pairwise (· ≤ ·) → H p = none → Q (.ref p) (upd H p (.lst (ns'.map V.int)))) := by
  intro pins s σ H vs us Q I r h
  obtain ⟨a, ns, rfl, sq, few, q⟩ := h
  obtain ⟨its, rv, tp, hz⟩ := I.tuple sq
  rw [Vals.ref1 r]
  have hi := rv.ints
  have len : its.length = ns.length := hi.length
  have small : its.length ≤ sizeLine := by rw [len]; exact Nat.le_of_lt (Nat.lt_of_lt_of_le few (by decide))
  refine Calls.call_function_entry kind_sorted plain_sorted entry_sorted (args_sorted1 _) ?_
  unfold Builtin.«sorted»
  refine wpAny_bind (m := checkCount "sorted" 1 1 _) (wpAny_pure ?_)
  refine wpAny_bind (collT (A := X.A.in1) tp small fun h1 kp => ?_)
  have I1 : Inv X pins σ H { s with heap := h1, toks := s.toks } := I.kept kp
  refine wpAny_bind (wpAny_newList ?_ small)
  have at1 : (h1.push (seqObj "list" its.toArray 0)).get? h1.objs.size = some (seqObj "list" its.toArray 0) := Heap.get?_push_size _ rfl
  refine wpAny_bind (wpAny_holding (wpAny_call_entry slot_list_sort ⟨_, at1, rfl⟩ entry_list_sort
    (list_sort_tree (s := { s with heap := h1.push (seqObj "list" its.toArray 0) }) at1 hi (by rw [len]; exact few) ?_) (args_list_sort _)))
  intro out ys g1 g2 g3
  refine ⟨_, rfl, ?_⟩
  obtain ⟨ep, at2⟩ := sortedHeap_at (vs := its) (out := out) at1
  have lens : (ys.map V.int).length ≤ sizeLine := by
    rw [List.length_map, g2.length_eq, ← len]
    exact small
  refine wpAny_pure ⟨_, rfl, .ref h1.objs.size, L2.upd H h1.objs.size (.lst (ys.map V.int)), I1.laid (t' := s.toks) (fun b u e => ?_) (Nat.le_refl _) ?_, rfl, q ys _ g2 g3 (I1.hok.fresh (Nat.le_refl _))⟩
  · have lt : b < h1.objs.size := Heap.lt_size e
    rw [sortedHeap_old (Nat.ne_of_lt lt) (by rw [size_push']; exact Nat.lt_succ_of_lt lt)]
    exact Heap.get?_push_of_some _ e
  · exact (show ObjOk X.prog X.w _ _ _ (.lst (ys.map V.int)) from ⟨lens, out.toList, ep, vals_of_ints g1, by rw [Array.toArray_toList]; exact at2⟩)
end

/-! the end of a law whose call shows data -/
theorem lawG {P : Program} {w : World} {K : PySem.W.Frag} {mg mb : Str → Option Value} {k : Nat} {fa a : Addr} {x : Str} {sp : Sp} {s1 : Shared} {vs : List Value} {ns : List Int}
    (KX : K.In s1.heap) (gns : s1.heap.Ns mainGlobals mg) (bns : s1.heap.Ns builtinsNs mb) (boot : ∀ x : Str, x ≠ "__name__" → mb x = bootBuiltins x) (nl : s1.heap.NoLimit) (gn : s1.gens = #[])
    (ha : s1.heap.get? a = some { cls := .type "list", data := .seq vs.toArray }) (hi : IntsAre vs ns) (hl : ns.length ≤ sizeLine) (hr : Room k callerA)
    (F : ∀ base : Heap, K.In base → base.Ns mainGlobals mg → ∃ fd : FuncData, FnG P w K mg base k fa fd [x] sp ∧ Binds K fd [x] [])
    (prom : ∀ H : Hp, Only H → SqL K H a (ns.map V.int) → sp [.ref a] H (fun v _ => v = .bl true) fun _ _ _ => False) :
    codeAny (model P w) callerA (.call (.ref fa) ⟨[.ref a], []⟩) (fun r s' => r = .ok (.ret (.bool true)) ∧ OldK s1.heap s'.heap ∧ s'.os = s1.os ∧ AllBare s'.gens) s1 := by
  suffices main : ∀ H : Hp, Only H → SqL K H a (ns.map V.int) → HOk P w H s1.heap → (∀ b u, H b = some u → b = a ∧ K.lookup a = none) →
      codeAny (model P w) callerA (.call (.ref fa) ⟨[.ref a], []⟩) (fun r s' => r = .ok (.ret (.bool true)) ∧ OldK s1.heap s'.heap ∧ s'.os = s1.os ∧ AllBare s'.gens) s1 by
    cases lk : K.lookup a with
    | some o =>
      have same := (KX a o lk).symm.trans ha
      cases same
      refine main (fun _ => none) (fun _ => .inl rfl) (.inr ⟨_, vs.toArray, _, lk, rfl, rfl, rfl, ?_, ?_⟩) (fun b u z => nomatch z) (fun b u z => nomatch z)
      · rw [List.size_toArray, hi.length]
        exact hl
      · simpa using vals_ints hi
    | none =>
      refine main (fun b => if b = a then some (.frz { cls := .type "list", data := .seq vs.toArray } (.lst (ns.map V.int))) else none) ?_ (.inl (.inr ⟨_, if_pos rfl⟩)) ?_ ?_
      · intro b
        by_cases q : b = a
        · exact .inr ⟨_, _, if_pos q⟩
        · exact .inl (if_neg q)
      · intro b u z
        by_cases q : b = a
        · subst q
          have z2 := (if_pos rfl).symm.trans z
          cases z2
          exact ⟨ha, by rw [List.length_map]; exact hl, vs, _, vals_ints hi, ha⟩
        · have z2 := (if_neg q).symm.trans z
          cases z2
      · intro b u z
        by_cases q : b = a
        · exact ⟨q, lk⟩
        · have z2 := (if_neg q).symm.trans z
          cases z2
  intro H hO hS hok only
  have seen : ∀ {b : Addr} {o : Obj} {es : Array DictEntry} {ep : Nat}, s1.heap.get? b = some o → o.data = .dict es ep → H b = none := by
    intro b o es ep e d
    cases q : H b with
    | none => rfl
    | some u =>
      obtain ⟨rfl, _⟩ := only b u q
      rw [ha] at e
      cases e
      cases (show Data.seq vs.toArray _ = Data.dict es ep from d)
  have ns_of : ∀ {b : Addr} {m : Str → Option Value}, s1.heap.Ns b m → (hidT s1.heap H).Ns b m := by
    rintro b m ⟨o, es, ep, e, d, r⟩
    exact ⟨o, es, ep, hidT_get e (seen e d), d, r⟩
  have kb : K.In (hidT s1.heap H) := by
    intro b o e
    refine hidT_get (KX b o e) ?_
    cases q : H b with
    | none => rfl
    | some u =>
      obtain ⟨rfl, z⟩ := only b u q
      rw [z] at e
      cases e
  have md : Mod K mg (hidT s1.heap H) := ⟨kb, ns_of gns, ⟨mb, ns_of bns, boot⟩, let ⟨mc, p, q⟩ := nl; ⟨mc, ns_of p, q⟩⟩
  have e0 : Env0 P w K mg (hidT s1.heap H) callerA [] s1 H := by
    refine ⟨rfl, md, fun b o e => of_hidT e, Nat.le_of_eq (hidT_size _ _), trivial, fun b z => ?_, hok, .of_eq gn⟩
    exact absurd (show b ∈ ([] : List Addr) from z) (by simp)
  obtain ⟨fd, Fg, bnd⟩ := F _ kb (ns_of gns)
  refine codeAny_mono (Fg.go callerA [] s1 H _ [.ref a] [.ref a] _ _ rfl hr e0 (bnd s1 [.ref a] KX rfl) (.cons rfl .nil) (prom H hO hS)) ?_
  intro r s' z
  match r, z with
  | .ok (.ret u), z =>
    obtain ⟨v, H', os, bare, un, hok', rv, q⟩ := z
    obtain rfl : v = .bl true := q
    obtain rfl : u = Value.bool true := rv
    refine ⟨rfl, OldK.of_keep fun b o e => ?_, os, bare⟩
    cases q : H b with
    | none => exact un.keep b o e q (fun z => absurd (show b ∈ ([] : List Addr) from z) (by simp)) (by simp)
    | some u =>
      rcases hO b with z | ⟨ob, xs, z⟩
      · rw [q] at z
        cases z
      · obtain ⟨p1, _⟩ := hok b _ z
        obtain ⟨p2, _⟩ := hok' b _ (un.frzs b ob _ z)
        rw [e] at p1
        cases p1
        exact p2
  | .ok .next, z => exact False.elim z
  | .ok .brk, z => exact False.elim z
  | .ok .cont, z => exact False.elim z
  | .error e, z => exact False.elim z

theorem walkG {l : PySem.W.OpenLaw} {n k : Nat} {q : Program} {loose : List Str} {XP : (Str → Option Value) → Heap → Prop} {YP : World → Heap → Prop} {d : DefRec} {K : Params → PySem.W.Frag} {sp : PySem.W.Frag → Sp} {x : Str}
    (hn : l.most = some n) (small : n ≤ sizeLine) (hdf : d.params.defaults = []) (hr : Room k callerA) (hY : ∀ (w : World) (h : Heap), YP w h → (K w.params).In h)
    (F : ∀ (w : World) (mg : Str → Option Value) (fa : Addr) (h : Heap), (K w.params).In h → h.Ns mainGlobals mg → mg d.name = some (.ref fa) →
      ∀ base : Heap, (K w.params).In base → base.Ns mainGlobals mg → ∃ fd : FuncData, FnG l.prog w (K w.params) mg base k fa fd [x] (sp (K w.params)) ∧ Binds (K w.params) fd [x] [])
    (prom : ∀ (K : PySem.W.Frag) (H : Hp) (a : Addr) (ns : List Int), ns.length ≤ n → Only H → SqL K H a (ns.map V.int) → sp K [.ref a] H (fun v _ => v = .bl true) fun _ _ _ => False) :
    PySem.W.WalkO q loose XP YP l.row.toRowW d [] (fun f vs => PySem.call f vs) := by
  refine Att.attach_call hn hdf ?_
  intro w s0 s1 mg mb fa o pm cd doc a vs ns G Y ho hd hcd hmg hobj hints hlen hg
  exact lawG (hY w _ Y) G.T.g G.T.b G.T.builtins G.T.nolimit hg hobj hints (Nat.le_trans hlen small) hr (F w mg fa _ (hY w _ Y) G.T.g hmg) fun H hO hS => prom _ H a ns hlen hO hS
theorem CalG.at {P : Program} {w : World} {K : PySem.W.Frag} {mg : Str → Option Value} {base : Heap} {k : Nat} {x : Str} {ps : List Str} {sp : Sp} {fa : Addr} (c : CalG P w K mg base k x ps sp) (h : mg x = some (.ref fa)) :
    ∃ fd : FuncData, FnG P w K mg base k fa fd ps sp ∧ Binds K fd ps [] := by
  obtain ⟨f, fd, F, hm, _, hb⟩ := c.ex
  rw [hm] at h
  cases h
  exact ⟨fd, F, hb⟩
end Pl
namespace Pl
open PySem PySem.Spec PyProof.Rows L2
/-- a method of the class at C, as the top has left it -/
structure Mh (K : PySem.W.Frag) (C : Addr) (m qual : Str) (st : Stmt) (ps : List Str) : Prop where
  ex : ∃ f fd, Fun K m qual st f fd ∧ PySem.W.findIn K (.ref C) m = some (some (.ref f)) ∧ PySem.W.isFn K (.ref f) = true ∧ Binds K fd ps []
structure MCal (P : Program) (w : World) (K : PySem.W.Frag) (mg : Str → Option Value) (base : Heap) (k : Nat) (C : Addr) (m : Str) (ps : List Str) (sp : Sp) : Prop where
  ex : ∃ f fd, FnOk P w K mg base CX0 k f fd ps sp ∧ PySem.W.findIn K (.ref C) m = some (some (.ref f)) ∧ PySem.W.isFn K (.ref f) = true ∧ PySem.W.keepIn K (.ref f) = true ∧ Binds K fd ps []
/-- a property's getter -/
structure Ph (K : PySem.W.Frag) (C : Addr) (m qual : Str) (st : Stmt) (ps : List Str) : Prop where
  ex : ∃ p f fd, Fun K m qual st f fd ∧ PropOf K C m p f ∧ Binds K fd ps []
structure PCal (P : Program) (w : World) (K : PySem.W.Frag) (mg : Str → Option Value) (base : Heap) (k : Nat) (C : Addr) (m : Str) (ps : List Str) (sp : Sp) : Prop where
  ex : ∃ p f fd, FnOk P w K mg base CX0 k f fd ps sp ∧ PropOf K C m p f ∧ Binds K fd ps []
section
variable {P : Program} {w : World} {K : PySem.W.Frag} {mg : Str → Option Value} {base : Heap} {C : Addr} {x qual : Str} {st : Stmt} {N ps : List Str} {k : Nat} {sp : Sp}
theorem Mh.cal (D : Mh K C x qual st ps) (S : FnScope N ps (defScope st)) (lng : ∀ vs H Q E, sp vs H Q E → vs.length = ps.length)
    (bod : ∀ (f : Addr) (cdv : Value) (A : Around) (out : List Env) (s : Shared) (H : Hp) (vs : List V) (Q : VK) (E : XK),
      Room k (A.deeper (envOfC qual (defScope st) s.heap.objs.size f cdv)) → sp vs H Q E →
      ∃ t, PSs (cxOf CX0 P w K mg base N qual (defScope st) f cdv A out s H E).nox (defBody st) t ∧
        t { nx := fun _ H' => Q .non H', rt := Q } (start N vs) H) : MCal P w K mg base (k + 1) C x ps sp := by
  obtain ⟨f, fd, F, h1, h2, hb⟩ := D.ex
  exact ⟨f, fd, F.ok S lng (bod f), h1, h2, F.kp, hb⟩
theorem Ph.cal (D : Ph K C x qual st ps) (S : FnScope N ps (defScope st)) (lng : ∀ vs H Q E, sp vs H Q E → vs.length = ps.length)
    (bod : ∀ (f : Addr) (cdv : Value) (A : Around) (out : List Env) (s : Shared) (H : Hp) (vs : List V) (Q : VK) (E : XK),
      Room k (A.deeper (envOfC qual (defScope st) s.heap.objs.size f cdv)) → sp vs H Q E →
      ∃ t, PSs (cxOf CX0 P w K mg base N qual (defScope st) f cdv A out s H E).nox (defBody st) t ∧
        t { nx := fun _ H' => Q .non H', rt := Q } (start N vs) H) : PCal P w K mg base (k + 1) C x ps sp := by
  obtain ⟨p, f, fd, F, h1, hb⟩ := D.ex
  exact ⟨p, f, fd, F.ok S lng (bod f), h1, hb⟩
end
section
variable {X : Cx} {k : Nat} {C : Addr} {ps : List Str} {sp : Sp} {p pos : Pos} {x : Str} {e : Expr} {es : List Expr} {t : TA} {te ta : TE}
/-- C(e, ..) -/
theorem pe_mk (c : MCal X.prog X.w X.K X.mg X.base k C "__init__" ps sp) (mk : PySem.W.makesIn X.K C = true) (kc : PySem.W.keepIn X.K (.ref C) = true) (hm : X.mg x = some (.ref C)) (hr : Room (k + 1) X.A) (ha : PA X (e :: es) t)
    (hg : Gl X x := by rfl) (hdb : (x == ("__debug__" : Str)) = false := by decide)
    (he : starEach (e :: es) X.env = (false, eval e X.env) :: starEach es X.env := by rfl) (hpl : (backTo pos (starEach es X.env)).any (·.1) = false := by rfl) :
    PE X (.Call (.Name x p) (e :: es) [] pos) (tMake C sp [] E0 t) := by
  obtain ⟨f, fd, F, h1, h2, kp, hb⟩ := c.ex
  exact pe_make ⟨mk, h1, h2, kc⟩ F hr hg hm hb .nil pass0 ha hdb he hpl
/-- o.f, a property -/
theorem pe_pr {f : Str} (c : PCal X.prog X.w X.K X.mg X.base k C f ps sp) (cl : Cls X.K C) (hr : Room (k + 1) X.A) (he : PE X e te)
    (hab : attributeBase e f X.env (eval e X.env) = eval e X.env := by rfl) : PE X (.Attribute e f pos) (tProp C sp [] E0 te) := by
  obtain ⟨q, f', fd, F, h1, hb⟩ := c.ex
  exact pe_prop he cl h1 F hr hb .nil pass0 hab
/-- len(o) -/
theorem call_lenM (c : MCal X.prog X.w X.K X.mg X.base k C "__len__" ps sp) (hr : Room (k + 1) X.A) :
    CallR X (.builtin "len") (fun xs H Q => ∃ (a dx : Addr) (fs : List (Str × V)), xs = [.ref a] ∧ H a = some (.ins C dx fs) ∧
      sp [.ref a] H (fun v H' => ∃ n : Nat, v = .int n ∧ n ≤ 1000 ∧ Q (.int n) H') E0) := by
  obtain ⟨f, fd, F, h1, h2, kp, hb⟩ := c.ex
  exact call_lenO h1 h2 F hr hb
/-- o(e, ..), an instance of C called -/
def tCallP (C : Addr) (sp : Sp) (tf : TE) (t : TA) : TE := fun σ H Q => tf σ H fun y H1 => ∃ a, y = V.ref a ∧ t σ H1 fun vs H2 =>
  ((∃ dx vs, SlX.Slt H2 a C dx vs) ∨ ∃ dx fs, H2 a = some (.ins C dx fs)) ∧ sp (V.ref a :: vs) H2 Q E0
/-- o(e, ..) -/
theorem pe_callM {fe : Expr} {tf : TE} (c : MCal X.prog X.w X.K X.mg X.base k C "__call__" ps sp) (fi : ∀ f, PySem.W.findIn X.K (.ref C) "__call__" = some (some (.ref f)) → PySem.W.fnIn X.K f = true) (hr : Room k X.A) (hf : PE X fe tf) (ha : PA X (e :: es) t)
    (ht : eval (.Call fe (e :: es) [] pos) X.env = (do callWith pos (← eval fe X.env) [] (backTo pos (starEach (e :: es) X.env)) (backToKw pos (keywordEach [] X.env))) := by rfl)
    (he : starEach (e :: es) X.env = (false, eval e X.env) :: starEach es X.env := by rfl) (hpl : (backTo pos (starEach es X.env)).any (·.1) = false := by rfl) :
    PE X (.Call fe (e :: es) [] pos) (tCallP C sp tf t) := by
  obtain ⟨f, fd, F, h1, h2, kp, hb⟩ := c.ex
  have R : FnR X.prog X.w X.K X.mg X.base CX0 k f sp := (F.raw hb .nil).imp fun vs H Q E h => by simpa using h
  show PE X (.Call fe (e :: es) [] pos) (StX.tCallO X C sp E0 tf t)
  exact StX.pe_callO hf ⟨h1, h2, fi f h1⟩ R hr pass0 ha ht he hpl
end
/-! what the head shows of each def -/
def FnAt (K : PySem.W.Frag) (f : Addr) (x qual : Str) (st : Stmt) : Prop := ∃ (od an : Option Addr) (sl : Array (Option Value)) (oc kV dc pm cd ct : Value),
  K.lookup f = some ⟨oc, od, .func (PySem.W.fnOf x qual (defArgs st) (defBody st) (defScope st) .none kV dc pm an cd ct), sl⟩ ∧ PySem.W.codeIn K cd qual = true ∧ PySem.W.keepIn K (.ref f) = true
/-- the parameters, all given -/
def BindOk (x qual : Str) (st : Stmt) (ps : List Str) : Prop := ∀ (kV doc pm : Value) (an : Option Addr) (cdv ct : Value) (us : List Value), us.length = ps.length →
  bindArgs (PySem.W.fnOf x qual (defArgs st) (defBody st) (defScope st) .none kV doc pm an cdv ct) ⟨us, []⟩ = pure (ps.zip us)
structure DfK (K : PySem.W.Frag) (x : Str) (st : Stmt) : Prop where
  ex : ∃ f, PySem.W.nsIn K mainGlobals x = some (some (.ref f)) ∧ FnAt K f x x st
theorem DfK.df {K : PySem.W.Frag} {h : Heap} {mg : Str → Option Value} {x : Str} {st : Stmt} {ps : List Str} (d : DfK K x st) (X : K.In h) (G : h.Ns mainGlobals mg) (b : BindOk x x st ps) : Df K mg x st ps := by
  obtain ⟨f, a, od, an, sl, oc, kV, dc, pm, cd, ct, l, c, k⟩ := d.ex
  have F := fun_mk (st := st) l c k
  exact ⟨f, _, F, PySem.W.mg_of X G a, F.binds b⟩
structure MhK (K : PySem.W.Frag) (C : Addr) (x qual : Str) (st : Stmt) : Prop where
  ex : ∃ f, PySem.W.findIn K (.ref C) x = some (some (.ref f)) ∧ PySem.W.isFn K (.ref f) = true ∧ FnAt K f x qual st
theorem MhK.mh {K : PySem.W.Frag} {C : Addr} {x qual : Str} {st : Stmt} {ps : List Str} (d : MhK K C x qual st) (b : BindOk x qual st ps) : Mh K C x qual st ps := by
  obtain ⟨f, a, i, od, an, sl, oc, kV, dc, pm, cd, ct, l, c, k⟩ := d.ex
  have F := fun_mk (st := st) l c k
  exact ⟨f, _, F, a, i, F.binds b⟩
structure PhK (K : PySem.W.Frag) (C : Addr) (x qual : Str) (st : Stmt) : Prop where
  ex : ∃ p f, PySem.W.findIn K (.ref C) x = some (some (.ref p)) ∧ PySem.W.specialIn K (.ref p) "__get__" = some (some (.builtin "property.__get__")) ∧ PySem.W.takesIn K (.ref p) = some true ∧
    (∃ rest, PySem.W.recIn K p "property" = some (.ref f :: rest)) ∧ FnAt K f x qual st
theorem PhK.ph {K : PySem.W.Frag} {C : Addr} {x qual : Str} {st : Stmt} {ps : List Str} (d : PhK K C x qual st) (b : BindOk x qual st ps) : Ph K C x qual st ps := by
  obtain ⟨p, f, a, g, t, r, od, an, sl, oc, kV, dc, pm, cd, ct, l, c, k⟩ := d.ex
  have F := fun_mk (st := st) l c k
  exact ⟨p, f, _, F, ⟨a, g, t, r⟩, F.binds b⟩
theorem DfK.of {K : PySem.W.Frag} {x : Str} {st : Stmt} {f : Addr} {od an : Option Addr} {sl : Array (Option Value)} {oc kV dc pm cd ct : Value}
    (a : PySem.W.nsIn K mainGlobals x = some (some (.ref f))) (l : K.lookup f = some ⟨oc, od, .func (PySem.W.fnOf x x (defArgs st) (defBody st) (defScope st) .none kV dc pm an cd ct), sl⟩) (c : PySem.W.codeIn K cd x = true) (k : PySem.W.keepIn K (.ref f) = true) : DfK K x st := ⟨⟨f, a, od, an, sl, oc, kV, dc, pm, cd, ct, l, c, k⟩⟩
theorem MhK.of {K : PySem.W.Frag} {C : Addr} {x qual : Str} {st : Stmt} {f : Addr} {od an : Option Addr} {sl : Array (Option Value)} {oc kV dc pm cd ct : Value}
    (a : PySem.W.findIn K (.ref C) x = some (some (.ref f))) (i : PySem.W.isFn K (.ref f) = true) (l : K.lookup f = some ⟨oc, od, .func (PySem.W.fnOf x qual (defArgs st) (defBody st) (defScope st) .none kV dc pm an cd ct), sl⟩) (c : PySem.W.codeIn K cd qual = true) (k : PySem.W.keepIn K (.ref f) = true) : MhK K C x qual st := ⟨⟨f, a, i, od, an, sl, oc, kV, dc, pm, cd, ct, l, c, k⟩⟩
theorem PhK.of {K : PySem.W.Frag} {C p : Addr} {x qual : Str} {st : Stmt} {f : Addr} {rest : List Value} {od an : Option Addr} {sl : Array (Option Value)} {oc kV dc pm cd ct : Value}
    (a : PySem.W.findIn K (.ref C) x = some (some (.ref p))) (g : PySem.W.specialIn K (.ref p) "__get__" = some (some (.builtin "property.__get__"))) (t : PySem.W.takesIn K (.ref p) = some true)
    (r : PySem.W.recIn K p "property" = some (.ref f :: rest)) (l : K.lookup f = some ⟨oc, od, .func (PySem.W.fnOf x qual (defArgs st) (defBody st) (defScope st) .none kV dc pm an cd ct), sl⟩) (c : PySem.W.codeIn K cd qual = true) (k : PySem.W.keepIn K (.ref f) = true) : PhK K C x qual st := ⟨⟨p, f, a, g, t, ⟨rest, r⟩, od, an, sl, oc, kV, dc, pm, cd, ct, l, c, k⟩⟩
structure CallF (K : PySem.W.Frag) (C : Addr) : Prop where
  ex : ∃ f, PySem.W.findIn K (.ref C) "__call__" = some (some (.ref f)) ∧ PySem.W.fnIn K f = true
theorem CallF.of {K : PySem.W.Frag} {C f : Addr} (a : PySem.W.findIn K (.ref C) "__call__" = some (some (.ref f))) (i : PySem.W.fnIn K f = true) : CallF K C := ⟨⟨f, a, i⟩⟩
structure ConI (K : PySem.W.Frag) (x : Str) (n : Int) : Prop where
  ex : ∃ t, PySem.W.nsIn K mainGlobals x = some (some (.int n t))
theorem ConI.of {K : PySem.W.Frag} {x : Str} {n : Int} {t : Tok} (a : PySem.W.nsIn K mainGlobals x = some (some (.int n t))) : ConI K x n := ⟨⟨t, a⟩⟩
theorem ConI.mg {K : PySem.W.Frag} {h : Heap} {mg : Str → Option Value} {x : Str} {n : Int} (c : ConI K x n) (X : K.In h) (G : h.Ns mainGlobals mg) : ∃ t, mg x = some (.int n t) := by
  obtain ⟨t, e⟩ := c.ex
  exact ⟨t, PySem.W.mg_of X G e⟩
end Pl
namespace Pl
open PySem PySem.Spec PyProof.Rows L2
def top (i : Nat) : Stmt := PySem.Challenge.pw_poolshares_k04_calm_and_calmer_shares.main.body.getD i (.Pass ⟨0, 0, 0, 0⟩)
/-- a source of numbers stands at a -/
def Src (H : Hp) (a : Addr) : Prop := ∃ x y z : Int, H a = some (.lst [.int x, .int y, .int z]) ∧ 0 ≤ x ∧ 0 ≤ y ∧ y < 2147483648 ∧ 0 ≤ z
theorem Src.upd {H : Hp} {a p : Addr} {o : HO} (s : Src H a) (n : H p = none) : Src (L2.upd H p o) a := by
  obtain ⟨x, y, z, h, r⟩ := s
  exact ⟨x, y, z, by rw [upd_ne (ne_of_none h n)]; exact h, r⟩
theorem Src.put {H : Hp} {a p : Addr} {o : HO} (s : Src H a) (n : p ≠ a) : Src (L2.upd H p o) a := by
  obtain ⟨x, y, z, h, r⟩ := s
  exact ⟨x, y, z, by rw [upd_ne n.symm]; exact h, r⟩
theorem Src.ne {H : Hp} {a p : Addr} (s : Src H a) (n : H p = none) : p ≠ a := by
  obtain ⟨x, y, z, h, r⟩ := s
  intro e
  rw [e, h] at n
  cases n
theorem Src.neT {H : Hp} {a p : Addr} {xs : List V} (s : Src H a) (n : H p = some (.tup xs)) : p ≠ a := by
  obtain ⟨x, y, z, h, r⟩ := s
  intro e
  rw [e, h] at n
  cases n
theorem Src.neI {H : Hp} {a p C d : Addr} {xs : List (Str × V)} (s : Src H a) (n : H p = some (.ins C d xs)) : p ≠ a := by
  obtain ⟨x, y, z, h, r⟩ := s
  intro e
  rw [e, h] at n
  cases n
theorem Src.same {H H' : Hp} {a : Addr} (s : Src H a) (k : Same H H') : Src H' a := by
  obtain ⟨x, y, z, h, r⟩ := s
  exact ⟨x, y, z, k _ _ h, r⟩
/-- all that was tracked stands as before, but for what is at a -/
def Kp (a : Addr) (H H' : Hp) : Prop := ∀ b o, b ≠ a → H b = some o → H' b = some o
theorem Kp.refl (a : Addr) (H : Hp) : Kp a H H := fun _ _ _ h => h
theorem Kp.trans {a : Addr} {H H1 H2 : Hp} (p : Kp a H H1) (q : Kp a H1 H2) : Kp a H H2 := fun b o n h => q b o n (p b o n h)
theorem Kp.of {a : Addr} {H H' : Hp} (p : Same H H') : Kp a H H' := fun b o _ h => p b o h
theorem Kp.upd {a : Addr} {H : Hp} {o : HO} : Kp a H (upd H a o) := fun b u n h => by rw [upd_ne n]; exact h
theorem Kp.new {a p : Addr} {H H' : Hp} {o : HO} (q : Kp a H H') (h : H' p = none) : Kp a H (L2.upd H' p o) := fun b u n e => by
  rw [upd_ne (ne_of_none (q b u n e) h)]; exact q b u n e
/-- what was not there before may be written -/
theorem Kp.put {a p : Addr} {H H' : Hp} {o : HO} (q : Kp a H H') (h : H p = none) : Kp a H (L2.upd H' p o) := fun b u n e => by
  rw [upd_ne (ne_of_none e h)]; exact q b u n e
theorem same_new {p : Addr} {H H' : Hp} {o : HO} (q : Same H H') (h : H' p = none) : Same H (L2.upd H' p o) := fun b u e => by
  rw [upd_ne (ne_of_none (q b u e) h)]; exact q b u e
theorem same_put {p : Addr} {H H' : Hp} {o : HO} (q : Same H H') (h : H p = none) : Same H (L2.upd H' p o) := fun b u e => by
  rw [upd_ne (ne_of_none e h)]; exact q b u e
theorem Kp.free {a p : Addr} {H H' : Hp} (q : Kp a H H') (n : p ≠ a) (h : H' p = none) : H p = none := by
  cases e : H p with
  | none => rfl
  | some o =>
    rw [q p o n e] at h
    cases h
theorem tyes {σ : L2.St} {H : Hp} {A B : Hp → Prop} (h : A H) : tYes σ H (fun b H3 => if b = true then A H3 else B H3) := by
  show if true = true then A H else B H
  rw [if_pos rfl]; exact h
theorem size_of {n : Nat} (h : n ≤ 1000) : n ≤ sizeLine := Nat.le_trans h (by decide)
theorem size_lt {n : Nat} (h : n ≤ 1000) : n < sizeLine := Nat.lt_of_le_of_lt h (by decide)
theorem at_of_lt {α : Type} {xs : List α} {r : Int} (h0 : 0 ≤ r) (h1 : r < xs.length) : ∃ v, v ∈ xs ∧ xs[r.toNat]? = some v ∧ atI xs r = some v := by
  have lt : r.toNat < xs.length := by omega
  have e : xs[r.toNat]? = some xs[r.toNat] := List.getElem?_eq_getElem lt
  refine ⟨xs[r.toNat], List.getElem_mem lt, e, ?_⟩
  have q := atI_nat e
  rw [Int.toNat_of_nonneg h0] at q
  exact q
/-- the built-in names are the built-in ones -/
structure Bn (mg : Str → Option Value) : Prop where
  n_len : mg "len" = none
  n_range : mg "range" = none
  n_max : mg "max" = none
  n_min : mg "min" = none
  n_sum : mg "sum" = none
  n_sorted : mg "sorted" = none
  n_all : mg "all" = none
  n_isinstance : mg "isinstance" = none
  n_repr : mg "repr" = none
  n_tuple : mg "tuple" = none
  n_list : mg "list" = none
  n_int : mg "int" = none
  n_bool : mg "bool" = none
  n_zip : mg "zip" = none
  n_str : mg "str" = none
def spDraw : Sp := fun vs H Q _ => ∃ (a : Addr) (m : Int), vs = [.ref a, .int m] ∧ Src H a ∧ 0 < m ∧ m ≤ 1000 ∧
  ∀ (r : Int) (H' : Hp), 0 ≤ r → r < m → Src H' a → Kp a H H' → Q (.int r) H'
def spCell (K : PySem.W.Frag) : Sp := fun vs H Q _ => ∃ (a : Addr) (ns : List Int) (i : Int), vs = [.ref a, .int i] ∧ SqL K H a (ns.map V.int) ∧ 0 ≤ i ∧ ∀ n : Int, Q (.int n) H
def spSource : Sp := fun vs H Q _ => ∃ c : Int, vs = [.int c] ∧ ∀ (p : Addr) (H' : Hp), H p = none → Src H' p → Same H H' → Q (.ref p) H'
def spChoose : Sp := fun vs H Q _ => ∃ (a l : Addr) (xs : List V), vs = [.ref a, .ref l] ∧ Src H a ∧ H l = some (.lst xs) ∧ l ≠ a ∧ 0 < xs.length ∧ xs.length ≤ 1000 ∧
  ∀ (v : V) (H' : Hp), v ∈ xs → Src H' a → Kp a H H' → Q v H'
/-- the ints are amounts -/
def Am (ns : List Int) : Prop := ∀ r ∈ ns, 0 ≤ r ∧ r ≤ 30
def spAmounts : Sp := fun vs H Q _ => ∃ (a : Addr) (n : Nat), vs = [.ref a, .int n] ∧ Src H a ∧ 2 ≤ n ∧ n ≤ 6 ∧
  ∀ (p : Addr) (ns : List Int) (H' : Hp), ns.length = n → Am ns → Src H' a → Kp a H H' → H' p = some (.tup (ns.map V.int)) → Q (.ref p) H'
/-- a list of amounts grows at D -/
def AInv (a D : Addr) (H1 : Hp) (i : Nat) (H : Hp) : Prop := ∃ ns : List Int, ns.length = i ∧ Am ns ∧ Src H a ∧ Kp a H1 H ∧ H D = some (.lst (ns.map V.int))
theorem AInv.start {a D : Addr} {H1 : Hp} (s : Src H1 a) (n : H1 D = none) : AInv a D H1 0 (L2.upd H1 D (.lst [])) :=
  ⟨[], rfl, fun _ h => (nomatch h), s.upd n, (Kp.refl a H1).new n, upd_same⟩
theorem AInv.src {a D : Addr} {H1 H : Hp} {i : Nat} (p : AInv a D H1 i H) : Src H a := p.elim fun _ q => q.2.2.1
theorem AInv.next {a D : Addr} {H1 H H' : Hp} {i : Nat} {r : Int} (p : AInv a D H1 i H) (hi : i ≤ 100) (n : H1 D = none) (da : D ≠ a) (s : Src H' a) (k : Kp a H H') (r0 : 0 ≤ r) (r1 : r ≤ 30) :
    ∃ acc, H' D = some (.lst acc) ∧ acc.length < sizeLine ∧ AInv a D H1 (i + 1) (L2.upd H' D (.lst (acc ++ [.int r]))) := by
  obtain ⟨ns, e, am, _, kp, hd⟩ := p
  refine ⟨ns.map V.int, k _ _ da hd, size_lt (by rw [List.length_map]; omega), ns ++ [r], ?_, ?_, s.put da, (kp.trans k).put n, ?_⟩
  · rw [List.length_append, e]; rfl
  · intro x hx
    rcases List.mem_append.mp hx with h | h
    · exact am x h
    · rw [List.mem_singleton.mp h]; exact ⟨r0, r1⟩
  · rw [upd_same, List.map_append]; rfl
section
variable {P : Program} {w : World} {K : PySem.W.Frag} {mg : Str → Option Value} {base : Heap}
abbrev st_l_cell : Stmt := top 19
theorem sc_l_cell : FnScope ["_law_script", "_law_index"] ["_law_script", "_law_index"] (defScope st_l_cell) := ⟨rfl, rfl, rfl, by decide +kernel, rfl, by decide +kernel, by decide +kernel⟩
theorem ok_cell (B : Bn mg) (D : Df K mg "_law_cell" st_l_cell ["_law_script", "_law_index"]) : Cal P w K mg base 1 "_law_cell" ["_law_script", "_law_index"] (spCell K) := by
  refine D.cal sc_l_cell (fun vs H Q E h => ?_) (fun f cdv A out s H vs Q E hr h => ?_)
  · obtain ⟨a, ns, i, rfl, _⟩ := h
    rfl
  obtain ⟨a, ns, i, rfl, sq, i0, k⟩ := h
  refine ⟨_, (pss_cons (ps_if (pt_cmpR op_lt (pv 1) (pe_callB call_len_seq (by rfl) B.n_len (by decide +kernel) (pa_cons (pv 0) pa_nil)) (nomark _)) (pss_one (ps_ret (pe_ix ix_list (pv 0) (pv 1) (fun _ _ => rfl)))) pss_nil)
   (pss_one (ps_ret pe_int))), ?_⟩
  refine ⟨_, rfl, _, rfl, a, _, rfl, .inl sq, _, _, rfl, rfl, _, rfl, ?_⟩
  refine ite2 (fun c => ?_) (fun c => k 0)
  have c2 : i < ((ns.map V.int).length : Int) := of_decide_eq_true c
  obtain ⟨v, hv, _, e⟩ := at_of_lt i0 c2
  obtain ⟨m, _, rfl⟩ := List.mem_map.mp hv
  exact ⟨_, rfl, _, rfl, a, _, _, _, rfl, rfl, sq, e, k m⟩
abbrev st_l_source : Stmt := top 20
theorem sc_l_source : FnScope ["_law_cell_here"] ["_law_cell_here"] (defScope st_l_source) := ⟨rfl, rfl, rfl, by decide +kernel, rfl, by decide +kernel, by decide +kernel⟩
theorem ok_source (B : Bn mg) (D : Df K mg "_law_source" st_l_source ["_law_cell_here"]) : Cal P w K mg base 1 "_law_source" ["_law_cell_here"] spSource := by
  refine D.cal sc_l_source (fun vs H Q E h => ?_) (fun f cdv A out s H vs Q E hr h => ?_)
  · obtain ⟨c, rfl, _⟩ := h
    rfl
  obtain ⟨c, rfl, k⟩ := h
  refine ⟨_, (pss_one (ps_ret (pe_lst (pa_cons (pe_callB (call_max2 rfl) (by rfl) B.n_max (by decide +kernel) (pa_cons pe_int (pa_cons (pe_op op_sub (pv 0) (pe_op op_pow pe_int pe_int)) pa_nil))) (pa_cons (pe_op op_add (pe_op op_mod (pv 0) pe_int) pe_int) (pa_cons pe_int pa_nil)))))), ?_⟩
  refine ⟨_, rfl, _, _, rfl, rfl, ⟨by decide, by decide, by decide⟩, _, _, rfl, rfl, _, _, rfl, _, rfl, _, _, rfl, rfl, (by show (0 : Int) < 2147483629; decide), _, _, rfl, rfl, (by show 3 ≤ sizeLine; decide), fun p hp => ?_⟩
  refine k p _ hp ⟨_, _, _, upd_same, ?_, ?_, ?_, by decide⟩ (same_new (Same.refl H) hp)
  · split <;> omega
  · have := Int.emod_nonneg c (show (2147483629 : Int) ≠ 0 by decide)
    show 0 ≤ c % 2147483629 + 1
    omega
  · have := Int.emod_lt_of_pos c (show (0 : Int) < 2147483629 by decide)
    show c % 2147483629 + 1 < 2147483648
    omega
abbrev st_l_draw : Stmt := top 21
theorem sc_l_draw : FnScope ["_law_source_here", "_law_many", "_law_found", "_law_mixed_here"] ["_law_source_here", "_law_many"] (defScope st_l_draw) := ⟨rfl, rfl, rfl, by decide +kernel, rfl, by decide +kernel, by decide +kernel⟩
theorem ok_draw (D : Df K mg "_law_draw" st_l_draw ["_law_source_here", "_law_many"]) : Cal P w K mg base 1 "_law_draw" ["_law_source_here", "_law_many"] spDraw := by
  refine D.cal sc_l_draw (fun vs H Q E h => ?_) (fun f cdv A out s H vs Q E hr h => ?_)
  · obtain ⟨a, m, rfl, _⟩ := h
    rfl
  obtain ⟨a, m, rfl, ⟨x, y, z, ha, x0, y0, y1, z0⟩, m0, m1, k⟩ := h
  refine ⟨_, (pss_cons (ps_if (pt_cmpR op_gt (pe_ix ix_list (pv 0) pe_int (fun _ _ => rfl)) pe_int (nomark _)) (pss_cons (ps_set (i := 2) sc_l_draw.nd rfl (.inl rfl) (pe_op op_mod (pe_ix ix_list (pv 0) pe_int (fun _ _ => rfl)) (pv 1)))
   (pss_cons (ps_asg (pe_op op_fdiv (pe_ix ix_list (pv 0) pe_int (fun _ _ => rfl)) (pv 1)) (pg_sub (pv 0) pe_int set_list))
   (pss_one (ps_ret (pv 2))))) pss_nil)
   (pss_cons (ps_asg (pe_op op_add (pe_ix ix_list (pv 0) pe_int (fun _ _ => rfl)) pe_int) (pg_sub (pv 0) pe_int set_list))
   (pss_cons (ps_asg (pe_op op_mod (pe_op op_add (pe_op op_add (pe_op op_mul (pe_ix ix_list (pv 0) pe_int (fun _ _ => rfl)) pe_int) (pe_op op_mul pe_int (pe_ix ix_list (pv 0) pe_int (fun _ _ => rfl)))) pe_int) pe_int) (pg_sub (pv 0) pe_int set_list))
   (pss_cons (ps_set (i := 3) sc_l_draw.nd rfl (.inl rfl) (pe_op op_mod (pe_op op_add (pe_op op_add (pe_op op_mul (pe_ix ix_list (pv 0) pe_int (fun _ _ => rfl)) (pe_ix ix_list (pv 0) pe_int (fun _ _ => rfl))) (pe_op op_mul pe_int (pe_ix ix_list (pv 0) pe_int (fun _ _ => rfl)))) pe_int) pe_int))
   (pss_cons (ps_set (i := 3) sc_l_draw.nd rfl (.inl rfl) (pe_op op_mod (pe_op op_add (pe_op op_mul (pv 3) (pv 3)) (pe_op op_mul pe_int (pv 3))) pe_int))
   (pss_one (ps_ret (pe_op op_mod (pe_op op_fdiv (pv 3) pe_int) (pv 1))))))))), ?_⟩
  refine ⟨_, rfl, a, _, _, _, rfl, rfl, SqL.of ha, rfl, _, _, rfl, rfl, _, rfl, ?_⟩
  refine ite2 (fun c => ?_) (fun c => ?_)
  · refine ⟨_, rfl, a, _, _, _, rfl, rfl, SqL.of ha, rfl, _, rfl, _, _, rfl, rfl, m0, ?_⟩
    refine ⟨_, rfl, a, _, _, _, rfl, rfl, SqL.of ha, rfl, _, rfl, _, _, rfl, rfl, ⟨m0, by omega⟩, ?_⟩
    refine ⟨_, rfl, a, _, _, _, rfl, rfl, ha, rfl, ?_⟩
    refine ⟨_, rfl, k _ _ (Int.emod_nonneg _ (by omega)) (Int.emod_lt_of_pos _ m0) ⟨_, _, _, upd_same, Int.ediv_nonneg x0 (by omega), y0, y1, z0⟩ Kp.upd⟩
  · refine ⟨_, rfl, a, _, _, _, rfl, rfl, SqL.of ha, rfl, _, _, rfl, rfl, ?_⟩
    refine ⟨_, rfl, a, _, _, _, rfl, rfl, ha, rfl, ?_⟩
    generalize hH1 : upd H a _ = H1
    have h1 : H1 a = some (.lst [.int x, .int y, .int (z + 1)]) := by rw [← hH1]; exact upd_same
    have q1 : Kp a H H1 := by rw [← hH1]; exact Kp.upd
    refine ⟨_, rfl, a, _, _, _, rfl, rfl, SqL.of h1, rfl, _, _, rfl, rfl, .inl ⟨by omega, by omega⟩, _, rfl, a, _, _, _, rfl, rfl, SqL.of h1, rfl, _, _, rfl, rfl, .inl ⟨by decide, by decide⟩, _, _, rfl, rfl, _, _, rfl, rfl, _, _, rfl, rfl, (by show (0 : Int) < 2147483647; decide), ?_⟩
    refine ⟨_, rfl, a, _, _, _, rfl, rfl, h1, rfl, ?_⟩
    generalize hy : (y * 48271 + 1009 * (z + 1) + 7) % 2147483647 = y'
    have b0 : 0 ≤ y' := by rw [← hy]; exact Int.emod_nonneg _ (by decide)
    have b1 : y' < 2147483647 := by rw [← hy]; exact Int.emod_lt_of_pos _ (by decide)
    generalize hH2 : upd H1 a _ = H2
    have h2 : H2 a = some (.lst [.int x, .int y', .int (z + 1)]) := by rw [← hH2, ← hy]; exact upd_same
    have q2 : Kp a H H2 := by rw [← hH2]; exact q1.trans Kp.upd
    refine ⟨_, rfl, a, _, _, _, rfl, rfl, SqL.of h2, rfl, _, rfl, a, _, _, _, rfl, rfl, SqL.of h2, rfl, _, _, rfl, rfl, .inl ⟨by omega, by omega⟩, _, rfl, a, _, _, _, rfl, rfl, SqL.of h2, rfl, _, _, rfl, rfl, .inl ⟨by decide, by decide⟩, _, _, rfl, rfl, _, _, rfl, rfl, _, _, rfl, rfl, (by show (0 : Int) < 2147483629; decide), ?_⟩
    generalize hu : (y' * y' + 69621 * y' + 11) % 2147483629 = u
    have u0 : 0 ≤ u := by rw [← hu]; exact Int.emod_nonneg _ (by decide)
    have u1 : u < 2147483629 := by rw [← hu]; exact Int.emod_lt_of_pos _ (by decide)
    refine ⟨_, rfl, _, rfl, _, _, rfl, rfl, .inl ⟨by omega, by omega⟩, _, rfl, _, _, rfl, rfl, .inl ⟨by decide, by decide⟩, _, _, rfl, rfl, _, _, rfl, rfl, (by show (0 : Int) < 2147483587; decide), ?_⟩
    refine ⟨_, rfl, _, _, rfl, rfl, ⟨by decide, by decide⟩, _, rfl, _, _, rfl, rfl, m0, ?_⟩
    exact k _ _ (Int.emod_nonneg _ (by omega)) (Int.emod_lt_of_pos _ m0) ⟨_, _, _, h2, x0, b0, by omega, by omega⟩ q2
abbrev st_l_choose : Stmt := top 22
theorem sc_l_choose : FnScope ["_law_source_here", "_law_values"] ["_law_source_here", "_law_values"] (defScope st_l_choose) := ⟨rfl, rfl, rfl, by decide +kernel, rfl, by decide +kernel, by decide +kernel⟩
theorem ok_choose (B : Bn mg) (c_l_draw : Cal P w K mg base 1 "_law_draw" ["_law_source_here", "_law_many"] spDraw) (D : Df K mg "_law_choose" st_l_choose ["_law_source_here", "_law_values"]) : Cal P w K mg base 2 "_law_choose" ["_law_source_here", "_law_values"] spChoose := by
  refine D.cal sc_l_choose (fun vs H Q E h => ?_) (fun f cdv A out s H vs Q E hr h => ?_)
  · obtain ⟨a, l, xs, rfl, _⟩ := h
    rfl
  obtain ⟨a, l, xs, rfl, src, hl, la, n0, n1, k⟩ := h
  refine ⟨_, (pss_one (ps_ret (pe_ix ix_list (pv 1) (pe_fn c_l_draw (hr.mono (by decide)) (pa_cons (pv 0) (pa_cons (pe_callB call_len_seq (by rfl) B.n_len (by decide +kernel) (pa_cons (pv 1) pa_nil)) pa_nil))) (fun _ _ => rfl)))), ?_⟩
  refine ⟨_, rfl, _, rfl, _, rfl, l, _, rfl, .inl (SqL.of hl), ?_⟩
  refine ⟨a, xs.length, rfl, src, by omega, by omega, fun r H' r0 r1 s' kp => ?_⟩
  obtain ⟨v, hv, _, e⟩ := at_of_lt r0 r1
  exact ⟨l, _, _, _, rfl, rfl, SqL.of (kp _ _ la hl), e, k v _ hv s' kp⟩
abbrev st_l_amounts : Stmt := top 24
theorem sc_l_amounts : FnScope ["_law_source_here", "_law_many", "_law_way", "_law_base", "_law_state"] ["_law_source_here", "_law_many"] (defScope st_l_amounts) := ⟨rfl, rfl, rfl, by decide +kernel, rfl, by decide +kernel, by decide +kernel⟩
theorem ok_amounts (B : Bn mg) (c_l_draw : Cal P w K mg base 1 "_law_draw" ["_law_source_here", "_law_many"] spDraw) (c_l_choose : Cal P w K mg base 2 "_law_choose" ["_law_source_here", "_law_values"] spChoose) (D : Df K mg "_law_amounts" st_l_amounts ["_law_source_here", "_law_many"]) : Cal P w K mg base 3 "_law_amounts" ["_law_source_here", "_law_many"] spAmounts := by
  refine D.cal sc_l_amounts (fun vs H Q E h => ?_) (fun f cdv A out s H vs Q E hr h => ?_)
  · obtain ⟨a, n, rfl, _⟩ := h
    rfl
  obtain ⟨a, n, rfl, src, n0, n1, k⟩ := h
  refine ⟨_, (pss_cons (ps_asg (pe_tup (pa_cons (pe_fn c_l_draw (hr.mono (by decide)) (pa_cons (pv 0) (pa_cons pe_int pa_nil))) (pa_cons (pe_fn c_l_draw (hr.mono (by decide)) (pa_cons (pv 0) (pa_cons pe_int pa_nil))) pa_nil))) (pg_tup rfl (pgs_cons (pg_name (i := 2) sc_l_amounts.nd rfl (.inl rfl)) (pgs_cons (pg_name (i := 3) sc_l_amounts.nd rfl (.inr rfl)) pgs_nil))))
   (pss_cons (ps_if (pt_cmpR op_eq (pv 2) pe_int (nomark _)) (pss_one (ps_ret (pe_callTy call_tuple_of (by rfl) B.n_tuple (by decide +kernel) (pa_cons (pe_lc (own := [("_law_state", 4)]) (g := gName 4) rfl sc_l_amounts.nd (pi_range1 (by rfl) B.n_range (pa_cons (pv 1) pa_nil)) (blkOk_by (N := ["_law_source_here", "_law_many", "_law_way", "_law_base", "_law_state"]) (sc := defScope st_l_amounts) (by decide +kernel)) (fun _ _ _ _ _ => (pg_name (i := 4) sc_l_amounts.nd rfl (.inl rfl))) (fun _ _ _ _ _ => pts_nil) (fun _ _ _ _ _ => (pe_fn c_l_draw (hr.mono (by decide)) (pa_cons (pv 0) (pa_cons pe_int pa_nil))))) pa_nil)))) pss_nil)
   (pss_cons (ps_if (pt_cmpR op_eq (pv 2) pe_int (nomark _)) (pss_one (ps_ret (pe_callTy call_tuple_of (by rfl) B.n_tuple (by decide +kernel) (pa_cons (pe_lc (own := [("_law_state", 4)]) (g := gName 4) rfl sc_l_amounts.nd (pi_range1 (by rfl) B.n_range (pa_cons (pv 1) pa_nil)) (blkOk_by (N := ["_law_source_here", "_law_many", "_law_way", "_law_base", "_law_state"]) (sc := defScope st_l_amounts) (by decide +kernel)) (fun _ _ _ _ _ => (pg_name (i := 4) sc_l_amounts.nd rfl (.inl rfl))) (fun _ _ _ _ _ => pts_nil) (fun _ _ _ _ _ => (pe_fn c_l_draw (hr.mono (by decide)) (pa_cons (pv 0) (pa_cons pe_int pa_nil))))) pa_nil)))) pss_nil)
   (pss_cons (ps_if (pt_cmpR op_eq (pv 2) pe_int (nomark _)) (pss_one (ps_ret (pe_callTy call_tuple_of (by rfl) B.n_tuple (by decide +kernel) (pa_cons (pe_lc (own := [("_law_state", 4)]) (g := gName 4) rfl sc_l_amounts.nd (pi_range1 (by rfl) B.n_range (pa_cons (pv 1) pa_nil)) (blkOk_by (N := ["_law_source_here", "_law_many", "_law_way", "_law_base", "_law_state"]) (sc := defScope st_l_amounts) (by decide +kernel)) (fun _ _ _ _ _ => (pg_name (i := 4) sc_l_amounts.nd rfl (.inl rfl))) (fun _ _ _ _ _ => pts_nil) (fun _ _ _ _ _ => (pe_op op_add (pv 3) (pe_fn c_l_draw (hr.mono (by decide)) (pa_cons (pv 0) (pa_cons pe_int pa_nil)))))) pa_nil)))) pss_nil)
   (pss_cons (ps_if (pt_cmpR op_eq (pv 2) pe_int (nomark _)) (pss_one (ps_ret (pe_callTy call_tuple_of (by rfl) B.n_tuple (by decide +kernel) (pa_cons (pe_lc (own := [("_law_state", 4)]) (g := gName 4) rfl sc_l_amounts.nd (pi_range1 (by rfl) B.n_range (pa_cons (pv 1) pa_nil)) (blkOk_by (N := ["_law_source_here", "_law_many", "_law_way", "_law_base", "_law_state"]) (sc := defScope st_l_amounts) (by decide +kernel)) (fun _ _ _ _ _ => (pg_name (i := 4) sc_l_amounts.nd rfl (.inl rfl))) (fun _ _ _ _ _ => pts_nil) (fun _ _ _ _ _ => (pe_fn c_l_choose (hr.mono (by decide)) (pa_cons (pv 0) (pa_cons (pe_lst (pa_cons pe_int (pa_cons pe_int pa_nil))) pa_nil))))) pa_nil)))) pss_nil)
   (pss_cons (ps_if (pt_cmpR op_eq (pv 2) pe_int (nomark _)) (pss_one (ps_ret (pe_callTy call_tuple_of (by rfl) B.n_tuple (by decide +kernel) (pa_cons (pe_lc (own := [("_law_state", 4)]) (g := gName 4) rfl sc_l_amounts.nd (pi_range1 (by rfl) B.n_range (pa_cons (pv 1) pa_nil)) (blkOk_by (N := ["_law_source_here", "_law_many", "_law_way", "_law_base", "_law_state"]) (sc := defScope st_l_amounts) (by decide +kernel)) (fun _ _ _ _ _ => (pg_name (i := 4) sc_l_amounts.nd rfl (.inl rfl))) (fun _ _ _ _ _ => pts_nil) (fun _ _ _ _ _ => (pe_fn c_l_choose (hr.mono (by decide)) (pa_cons (pv 0) (pa_cons (pe_lst (pa_cons (pv 3) (pa_cons (pe_op op_add (pv 3) pe_int) (pa_cons (pe_op op_sub pe_int (pv 3)) pa_nil)))) pa_nil))))) pa_nil)))) pss_nil)
   (pss_one (ps_ret (pe_callTy call_tuple_of (by rfl) B.n_tuple (by decide +kernel) (pa_cons (pe_callB cr_sorted (by rfl) B.n_sorted (by decide +kernel) (pa_cons (pe_lc (own := [("_law_state", 4)]) (g := gName 4) rfl sc_l_amounts.nd (pi_range1 (by rfl) B.n_range (pa_cons (pv 1) pa_nil)) (blkOk_by (N := ["_law_source_here", "_law_many", "_law_way", "_law_base", "_law_state"]) (sc := defScope st_l_amounts) (by decide +kernel)) (fun _ _ _ _ _ => (pg_name (i := 4) sc_l_amounts.nd rfl (.inl rfl))) (fun _ _ _ _ _ => pts_nil) (fun _ _ _ _ _ => (pe_fn c_l_draw (hr.mono (by decide)) (pa_cons (pv 0) (pa_cons pe_int pa_nil))))) pa_nil)) pa_nil)))))))))), ?_⟩
  refine ⟨_, rfl, a, 6, rfl, src, by decide, by decide, fun way H0 w0 w1 s0 k0 => ?_⟩
  refine ⟨_, rfl, a, 29, rfl, s0, by decide, by decide, fun bs H1 b0 b1 s1 k1 => ?_⟩
  have kk := k0.trans k1
  refine ⟨(by show 2 ≤ sizeLine; decide), fun q hq => ⟨q, _, rfl, SqT.of upd_same, rfl, _, _, rfl, _, _, rfl, rfl, ?_⟩⟩
  generalize hH2 : upd H1 q _ = H2
  have s2 : Src H2 a := by rw [← hH2]; exact s1.upd hq
  have k2 : Kp a H H2 := by rw [← hH2]; exact kk.new hq
  have fin : ∀ {D : Addr} {H' : Hp}, AInv a D H2 n H' → ∃ p ys, [V.ref D] = [V.ref p] ∧ ((SqL K H' p ys ∧ ∀ l, H' l = none → Q (.ref l) (upd H' l (.tup ys))) ∨ (SqT K H' p ys ∧ Q (.ref p) H')) := by
    rintro D H' ⟨ns, e, am, s', kp, hd⟩
    exact ⟨D, _, rfl, .inl ⟨SqL.of hd, fun l hl => k l ns _ e am (s'.upd hl) ((k2.trans kp).new hl) upd_same⟩⟩
  refine ⟨_, rfl, rfl, _, rfl, ite2 (fun c => ?_) (fun c => ?_)⟩
  · refine ⟨_, rfl, n, rfl, by omega, by omega, fun D hD => lc_range (lo := 0) (n := n) (AInv a D H2) (AInv.start s2 hD) (fun i H3 hi p => ⟨rfl, tyes ?_⟩) (fun H3 p => fin p)⟩
    have s3 : Src H3 a := p.src
    refine ⟨_, rfl, a, 31, rfl, s3, by decide, by decide, fun r H4 r0 r1 s4 k4 => ?_⟩
    exact p.next (by omega) hD (s2.ne hD) s4 k4 r0 (by omega)
  refine ⟨_, rfl, rfl, _, rfl, ite2 (fun c => ?_) (fun c => ?_)⟩
  · refine ⟨_, rfl, n, rfl, by omega, by omega, fun D hD => lc_range (lo := 0) (n := n) (AInv a D H2) (AInv.start s2 hD) (fun i H3 hi p => ⟨rfl, tyes ?_⟩) (fun H3 p => fin p)⟩
    have s3 : Src H3 a := p.src
    refine ⟨_, rfl, a, 4, rfl, s3, by decide, by decide, fun r H4 r0 r1 s4 k4 => ?_⟩
    exact p.next (by omega) hD (s2.ne hD) s4 k4 r0 (by omega)
  refine ⟨_, rfl, rfl, _, rfl, ite2 (fun c => ?_) (fun c => ?_)⟩
  · refine ⟨_, rfl, n, rfl, by omega, by omega, fun D hD => lc_range (lo := 0) (n := n) (AInv a D H2) (AInv.start s2 hD) (fun i H3 hi p => ⟨rfl, tyes ?_⟩) (fun H3 p => fin p)⟩
    have s3 : Src H3 a := p.src
    refine ⟨_, rfl, _, rfl, a, 3, rfl, s3, by decide, by decide, fun r H4 r0 r1 s4 k4 => ⟨_, _, rfl, rfl, ?_⟩⟩
    exact p.next (by omega) hD (s2.ne hD) s4 k4 (by omega) (by omega)
  refine ⟨_, rfl, rfl, _, rfl, ite2 (fun c => ?_) (fun c => ?_)⟩
  · refine ⟨_, rfl, n, rfl, by omega, by omega, fun D hD => lc_range (lo := 0) (n := n) (AInv a D H2) (AInv.start s2 hD) (fun i H3 hi p => ⟨rfl, tyes ?_⟩) (fun H3 p => fin p)⟩
    have s3 : Src H3 a := p.src
    refine ⟨_, rfl, (by show 2 ≤ sizeLine; decide), fun l hl => ?_⟩
    refine ⟨a, l, _, rfl, s3.upd hl, upd_same, s3.ne hl, (by show 0 < 2; decide), (by show 2 ≤ 1000; decide), fun v H4 hv s4 k4 => ?_⟩
    have k5 : Kp a H3 H4 := ((Kp.refl a H3).new hl).trans k4
    rcases List.mem_cons.mp hv with rfl | hv
    · exact p.next (by omega) hD (s2.ne hD) s4 k5 (by decide) (by decide)
    rw [List.mem_singleton.mp hv]
    exact p.next (by omega) hD (s2.ne hD) s4 k5 (by decide) (by decide)
  refine ⟨_, rfl, rfl, _, rfl, ite2 (fun c => ?_) (fun c => ?_)⟩
  · refine ⟨_, rfl, n, rfl, by omega, by omega, fun D hD => lc_range (lo := 0) (n := n) (AInv a D H2) (AInv.start s2 hD) (fun i H3 hi p => ⟨rfl, tyes ?_⟩) (fun H3 p => fin p)⟩
    have s3 : Src H3 a := p.src
    refine ⟨_, rfl, _, rfl, _, rfl, _, _, rfl, rfl, _, rfl, _, _, rfl, rfl, (by show 3 ≤ sizeLine; decide), fun l hl => ?_⟩
    refine ⟨a, l, _, rfl, s3.upd hl, upd_same, s3.ne hl, (by show 0 < 3; decide), (by show 3 ≤ 1000; decide), fun v H4 hv s4 k4 => ?_⟩
    have k5 : Kp a H3 H4 := ((Kp.refl a H3).new hl).trans k4
    rcases List.mem_cons.mp hv with rfl | hv
    · exact p.next (by omega) hD (s2.ne hD) s4 k5 (by omega) (by omega)
    rcases List.mem_cons.mp hv with rfl | hv
    · exact p.next (r := bs + 1) (by omega) hD (s2.ne hD) s4 k5 (by omega) (by omega)
    rw [List.mem_singleton.mp hv]
    exact p.next (r := 30 - bs) (by omega) hD (s2.ne hD) s4 k5 (by omega) (by omega)
  refine ⟨_, rfl, n, rfl, by omega, by omega, fun D hD => lc_range (lo := 0) (n := n) (AInv a D H2) (AInv.start s2 hD) (fun i H3 hi p => ⟨rfl, tyes ?_⟩) (fun H3 p => ?_)⟩
  · have s3 : Src H3 a := p.src
    refine ⟨_, rfl, a, 31, rfl, s3, by decide, by decide, fun r H4 r0 r1 s4 k4 => ?_⟩
    exact p.next (by omega) hD (s2.ne hD) s4 k4 r0 (by omega)
  · obtain ⟨ns, e, am, s', kp, hd⟩ := p
    refine ⟨D, ns, rfl, SqL.of hd, by omega, fun ns' p' pm sd hp => ?_⟩
    refine ⟨p', _, rfl, .inl ⟨SqL.of upd_same, fun l hl => k l ns' _ ?_ (fun r hr => am r (pm.mem_iff.mp hr)) ((s'.upd hp).upd hl) (((k2.trans kp).new hp).new hl) upd_same⟩⟩
    rw [pm.length_eq, e]
end
end Pl
namespace Pl
open PySem PySem.Spec PyProof.Rows L2
/-! the mathematics -/
/-- the ints in ascending order -/
def srt (ns : List Int) : List Int := ns.mergeSort
theorem srt_perm (ns : List Int) : (srt ns).Perm ns := List.mergeSort_perm _ _
theorem srt_sorted (ns : List Int) : (srt ns).Pairwise (· ≤ ·) := by
  have h := List.pairwise_mergeSort (le := fun (a b : Int) => decide (a ≤ b)) (fun a b c h1 h2 => by simp at *; omega) (fun a b => by simp; omega) ns
  exact h.imp fun h => by simpa using h
theorem srt_of {l ns : List Int} (p : l.Perm ns) (s : l.Pairwise (· ≤ ·)) : l = srt ns := PySem.W.ksm_same (p.trans (srt_perm ns).symm) s (srt_sorted ns)
theorem srt_length (ns : List Int) : (srt ns).length = ns.length := (srt_perm ns).length_eq
/-- the sum of the k smallest -/
def low (ns : List Int) (k : Nat) : Int := ((srt ns).take k).sum
theorem cut_take {xs : List V} {n : Nat} (h : n ≤ xs.length) : cutV xs none (some (n : Int)) = xs.take n := by
  unfold cutV
  rw [HT.sIx_none, HT.sIx_nat, List.drop_zero, Nat.sub_zero, Nat.min_eq_left h]
/-- the second is at least as calm as the first -/
def calm (ns ms : List Int) : Bool := decide (ns.sum = ms.sum) && (List.range (ns.length + 1)).all fun k => decide (low ns k ≤ low ms k)
/-- an integer from 0 to m -/
def isTo (m : Int) : V → Bool
  | .int i => decide (0 ≤ i) && decide (i ≤ m)
  | _ => false
def isInt : V → Bool
  | .int _ => true
  | _ => false
/-- what isinstance says of the value: whether it is an int that is no bool -/
def Kd (K : PySem.W.Frag) (H : Hp) (x : V) : Prop := ∃ (t : Value) (bi bb : Bool), TyX K H x t ∧ PySem.W.kitOne K t (.type "int") = some bi ∧ PySem.W.kitOne K t (.type "bool") = some bb ∧ (bi && !bb) = isInt x
theorem Kd.int {K : PySem.W.Frag} {H : Hp} (i : Int) : Kd K H (.int i) := ⟨_, true, false, .base (.int i), kit_ty (by decide +kernel), kit_ty (by decide +kernel), rfl⟩
theorem TyX.same {K : PySem.W.Frag} {H H' : Hp} {x : V} {t : Value} (s : Same H H') (h : TyX K H x t) : TyX K H' x t := by
  cases h with
  | base b =>
    refine .base ?_
    cases b with
    | non => exact .non
    | bl y => exact .bl y
    | int i => exact .int i
    | str y => exact .str y
    | flt y => exact .flt y
    | lst e => exact .lst (s _ _ e)
    | frz e => exact .frz (s _ _ e)
    | tup e => exact .tup (s _ _ e)
    | dK e => exact .dK (s _ _ e)
    | dT e => exact .dT (s _ _ e)
    | ins e cl a b c d => exact .ins (s _ _ e) cl a b c d
  | byt b => exact .byt b
  | set e => exact .set (s _ _ e)
  | kList e c => exact .kList e c
  | kTuple e c => exact .kTuple e c
  | kDict e c => exact .kDict e c
  | fTuple e => exact .fTuple (s _ _ e)
  | fDict e => exact .fDict (s _ _ e)
theorem Kd.same {K : PySem.W.Frag} {H H' : Hp} {x : V} (s : Same H H') (h : Kd K H x) : Kd K H' x := by
  obtain ⟨t, bi, bb, ty, r⟩ := h
  exact ⟨t, bi, bb, TyX.same s ty, r⟩
/-! what the top has written of Share -/
structure Cn (mg : Str → Option Value) : Prop where
  c_FEWEST_STATES : ∃ t, mg "FEWEST_STATES" = some (.int 2 t)
  c_MOST_STATES : ∃ t, mg "MOST_STATES" = some (.int 6 t)
  c_MOST_IN_A_STATE : ∃ t, mg "MOST_IN_A_STATE" = some (.int 30 t)
structure ShK (K : PySem.W.Frag) (mg : Str → Option Value) (C : Addr) : Prop where
  cl : Cls K C
  nB : NoAttr K C "by_state"
  mgC : mg "Share" = some (.ref C)
  mks : PySem.W.makesIn K C = true
  kc : PySem.W.keepIn K (.ref C) = true
  ca : PySem.W.findIn K (.ref C) "__class__" = some (some (.builtin "object.__class__"))
  cg : PySem.W.specialIn K (.builtin "object.__class__") "__get__" = some (some (.builtin "getset_descriptor.__get__"))
  ct : PySem.W.takesIn K (.builtin "object.__class__") = some true
  mro : PySem.W.mroIn K C (.type "object") = some true
  kit : PySem.W.kitOne K (.ref C) (.ref C) = some true
  fi : ∀ f, PySem.W.findIn K (.ref C) "__call__" = some (some (.ref f)) → PySem.W.fnIn K f = true
/-- the same, of the written part alone -/
structure ShF (K : PySem.W.Frag) (C : Addr) : Prop where
  pg : PySem.W.plainGet K C Str.empty = true
  hd : PySem.W.hasDictIn K C = true
  po : PySem.W.plainOver K C = true
  sa : PySem.W.findIn K (.ref C) "__setattr__" = some (some (.builtin "object.__setattr__"))
  nB : PySem.W.findIn K (.ref C) "by_state" = some none
  mks : PySem.W.makesIn K C = true
  kc : PySem.W.keepIn K (.ref C) = true
  ca : PySem.W.findIn K (.ref C) "__class__" = some (some (.builtin "object.__class__"))
  cg : PySem.W.specialIn K (.builtin "object.__class__") "__get__" = some (some (.builtin "getset_descriptor.__get__"))
  ct : PySem.W.takesIn K (.builtin "object.__class__") = some true
  mro : PySem.W.mroIn K C (.type "object") = some true
  kit : PySem.W.kitOne K (.ref C) (.ref C) = some true
theorem ShF.k {K : PySem.W.Frag} {mg : Str → Option Value} {C : Addr} (s : ShF K C) (c : CallF K C) (g : mg "Share" = some (.ref C)) : ShK K mg C :=
  ⟨⟨s.pg, s.hd, s.po, s.sa⟩, s.nB, g, s.mks, s.kc, s.ca, s.cg, s.ct, s.mro, s.kit, fun f h => by
    obtain ⟨f', a, b⟩ := c.ex
    rw [a] at h
    cases h
    exact b⟩
def shF (t : Addr) : List (Str × V) := [("by_state", .ref t)]
theorem shF_get (t : Addr) : (shF t).lookup ("by_state" : Str) = some (.ref t) := by simp [shF, List.lookup]
/-- a share with the amounts ns stands at s, its tuple at t -/
def ShAt (C : Addr) (H : Hp) (s t : Addr) (ns : List Int) : Prop := (∃ dx, H s = some (.ins C dx (shF t))) ∧ H t = some (.tup (ns.map V.int)) ∧ 2 ≤ ns.length ∧ ns.length ≤ 6 ∧ Am ns
theorem ShAt.same {C : Addr} {H H' : Hp} {s t : Addr} {ns : List Int} (h : ShAt C H s t ns) (k : Same H H') : ShAt C H' s t ns := by
  obtain ⟨⟨dx, h1⟩, h2, r⟩ := h
  exact ⟨⟨dx, k _ _ h1⟩, k _ _ h2, r⟩
theorem ShAt.kp {C : Addr} {H H' : Hp} {s t a : Addr} {ns : List Int} (h : ShAt C H s t ns) (sr : Src H a) (k : Kp a H H') : ShAt C H' s t ns := by
  obtain ⟨⟨dx, h1⟩, h2, r⟩ := h
  exact ⟨⟨dx, k _ _ (sr.neI h1) h1⟩, k _ _ (sr.neT h2) h2, r⟩
def spIsInt (K : PySem.W.Frag) : Sp := fun vs H Q _ => ∃ (x : V) (m : Int), vs = [x, .int m] ∧ Kd K H x ∧ Q (.bl (isTo m x)) H
/-- a tuple of 2 to 6 integers from 0 to 30 -/
def isAm (xs : List V) : Bool := decide (2 ≤ xs.length) && decide (xs.length ≤ 6) && xs.all (isTo 30)
def spIsAm (K : PySem.W.Frag) : Sp := fun vs H Q _ => ∃ x : V, vs = [x] ∧
  ((∃ (p : Addr) (xs : List V), x = .ref p ∧ H p = some (.tup xs) ∧ xs.length ≤ 1000 ∧ (∀ y ∈ xs, Kd K H y) ∧ ∀ H', Same H H' → Q (.bl (isAm xs)) H') ∨
   (∃ t, TyX K H x t ∧ PySem.W.kitOne K t (.type "tuple") = some false ∧ Q (.bl false) H))
theorem isAm_ints {ns : List Int} (h2 : 2 ≤ ns.length) (h6 : ns.length ≤ 6) (am : Am ns) : isAm (ns.map V.int) = true := by
  simp only [isAm, List.length_map, Bool.and_eq_true, decide_eq_true_eq, List.all_eq_true]
  refine ⟨⟨h2, h6⟩, fun x hx => ?_⟩
  obtain ⟨i, hi, rfl⟩ := List.mem_map.mp hx
  obtain ⟨a, b⟩ := am i hi
  simp [isTo, a, b]
def spInit (C : Addr) : Sp := fun vs H Q _ => ∃ (p t dx : Addr) (ns : List Int), vs = [.ref p, .ref t] ∧ H p = some (.ins C dx []) ∧ H t = some (.tup (ns.map V.int)) ∧ 2 ≤ ns.length ∧ ns.length ≤ 6 ∧ Am ns ∧
  ∀ H', Kp p H H' → ShAt C H' p t ns → Q .non H'
theorem mk_at {C t x dx : Addr} {ns : List Int} {H : Hp} {R : Hp → Prop} {E : XK} (nx : H x = none) (nd : H dx = none) (ht : H t = some (.tup (ns.map V.int))) (h2 : 2 ≤ ns.length) (h6 : ns.length ≤ 6) (am : Am ns)
    (k : ∀ H' : Hp, Same H H' → ShAt C H' x t ns → R H') : spInit C (.ref x :: ([.ref t] ++ [])) (upd (upd H dx (.own x)) x (.ins C dx [])) (fun v H2 => v = .non ∧ R H2) E := by
  have s1 : Same H (upd (upd H dx (.own x)) x (.ins C dx [])) := same_put (same_put (Same.refl H) nd) nx
  refine ⟨x, t, dx, ns, rfl, upd_same, s1 _ _ ht, h2, h6, am, fun H' kp sh => ⟨rfl, k H' (fun b o e => kp b o (ne_of_none e nx) (s1 b o e)) sh⟩⟩
def spTotal (C : Addr) : Sp := fun vs H Q _ => ∃ (s t : Addr) (ns : List Int), vs = [.ref s] ∧ ShAt C H s t ns ∧ Q (.int ns.sum) H
def spLen (C : Addr) : Sp := fun vs H Q _ => ∃ (s t : Addr) (ns : List Int), vs = [.ref s] ∧ ShAt C H s t ns ∧ Q (.int ns.length) H
def spCall (C : Addr) : Sp := fun vs H Q _ => ∃ (s t : Addr) (ns : List Int) (k : Nat), vs = [.ref s, .int k] ∧ ShAt C H s t ns ∧ k ≤ ns.length ∧ ∀ H', Same H H' → Q (.int (low ns k)) H'
def spPair (C : Addr) : Sp := fun vs H Q _ => ∃ (s1 t1 s2 t2 : Addr) (ns ms : List Int), vs = [.ref s1, .ref s2] ∧ ShAt C H s1 t1 ns ∧ ShAt C H s2 t2 ms ∧ ns.length = ms.length ∧ Q .non H
def spCalm (C : Addr) : Sp := fun vs H Q _ => ∃ (s1 t1 s2 t2 : Addr) (ns ms : List Int), vs = [.ref s1, .ref s2] ∧ ShAt C H s1 t1 ns ∧ ShAt C H s2 t2 ms ∧ ns.length = ms.length ∧
  ∀ H', Same H H' → Q (.bl (calm ns ms)) H'
def spCalmer (C : Addr) : Sp := fun vs H Q _ => ∃ (s1 t1 s2 t2 : Addr) (ns ms : List Int), vs = [.ref s1, .ref s2] ∧ ShAt C H s1 t1 ns ∧ ShAt C H s2 t2 ms ∧ ns.length = ms.length ∧
  ∀ H', Same H H' → Q (.bl (calm ns ms && !calm ms ns)) H'
section
variable {P : Program} {w : World} {K : PySem.W.Frag} {mg : Str → Option Value} {base : Heap} {CShare : Addr}
abbrev st_is_integer_to : Stmt := top 1
theorem sc_is_integer_to : FnScope ["thing", "most"] ["thing", "most"] (defScope st_is_integer_to) := ⟨rfl, rfl, rfl, by decide +kernel, rfl, by decide +kernel, by decide +kernel⟩
theorem ok_isint (B : Bn mg) (D : Df K mg "is_integer_to" st_is_integer_to ["thing", "most"]) : Cal P w K mg base 1 "is_integer_to" ["thing", "most"] (spIsInt K) := by
  refine D.cal sc_is_integer_to (fun vs H Q E h => ?_) (fun f cdv A out s H vs Q E hr h => ?_)
  · obtain ⟨x, m, rfl, _⟩ := h
    rfl
  obtain ⟨x, m, rfl, ⟨t, bi, bb, ty, k1, k2, kd⟩, k⟩ := h
  refine ⟨_, (pss_one (ps_ret (pe_and (pe_callB call_isi (by rfl) B.n_isinstance (by decide +kernel) (pa_cons (pv 0) (pa_cons (pe_bltn (v := .ty "int") (by rfl) B.n_int (by decide +kernel) rfl) pa_nil))) (pe_and (pe_not (pe_callB call_isi (by rfl) B.n_isinstance (by decide +kernel) (pa_cons (pv 0) (pa_cons (pe_bltn (v := .ty "bool") (by rfl) B.n_bool (by decide +kernel) rfl) pa_nil)))) (pe_one (pe_chain op_le op_le pe_int (pv 0) (pv 1))))))), ?_⟩
  refine ⟨_, rfl, x, _, t, _, bi, rfl, .ty _, ty, k1, bi, rfl, ?_⟩
  cases bi with
  | false =>
    have e : isTo m x = false := by
      cases x <;> first | rfl | simp [isInt] at kd
    rw [e] at k
    exact iteF k
  | true =>
    refine iteT ⟨_, rfl, x, _, t, _, bb, rfl, .ty _, ty, k2, bb, rfl, _, rfl, ?_⟩
    cases bb with
    | true =>
      have e : isTo m x = false := by
        cases x <;> first | rfl | simp [isInt] at kd
      rw [e] at k
      exact iteF k
    | false =>
      refine iteT ?_
      cases x <;> first | (simp [isInt] at kd; done) | skip
      rename_i i
      refine ⟨_, rfl, _, _, rfl, rfl, _, rfl, ?_⟩
      have e : isTo m (.int i) = (decide (0 ≤ i) && decide (i ≤ m)) := rfl
      rw [e] at k
      refine ite2 (fun c => ?_) (fun c => ?_)
      · have c2 : decide (0 ≤ i) = true := c
        rw [c2] at k
        exact ⟨_, rfl, _, _, rfl, rfl, k⟩
      · have c2 : decide (0 ≤ i) = false := by simpa using c
        rw [c2] at k
        exact k
abbrev st_is_amounts : Stmt := top 13
theorem sc_is_amounts : FnScope ["thing", "amount"] ["thing"] (defScope st_is_amounts) := ⟨rfl, rfl, rfl, by decide +kernel, rfl, by decide +kernel, by decide +kernel⟩
theorem ok_isam (B : Bn mg) (Cc : Cn mg) (c_is_integer_to : Cal P w K mg base 1 "is_integer_to" ["thing", "most"] (spIsInt K)) (D : Df K mg "is_amounts" st_is_amounts ["thing"]) : Cal P w K mg base 2 "is_amounts" ["thing"] (spIsAm K) := by
  refine D.cal sc_is_amounts (fun vs H Q E h => ?_) (fun f cdv A out s H vs Q E hr h => ?_)
  · obtain ⟨x, rfl, _⟩ := h
    rfl
  obtain ⟨x, rfl, h⟩ := h
  refine ⟨_, (pss_cons (ps_if (PW.pt (pw_or (pt_not (pt_val (pe_callB call_isi (by rfl) B.n_isinstance (by decide +kernel) (pa_cons (pv 0) (pa_cons (pe_bltn (v := .ty "tuple") (by rfl) B.n_tuple (by decide +kernel) rfl) pa_nil))))) (pw_or1 (pt_not (pt_chain op_le op_le (pe_glob (v := .int 2) rfl Cc.c_FEWEST_STATES.choose_spec ⟨_, rfl⟩) (pe_callB call_len_seq (by rfl) B.n_len (by decide +kernel) (pa_cons (pv 0) pa_nil)) (pe_glob (v := .int 6) rfl Cc.c_MOST_STATES.choose_spec ⟨_, rfl⟩)))))) (pss_one (ps_ret pe_bl)) pss_nil)
   (pss_one (ps_ret (pe_callB (cr_all rfl) (by rfl) B.n_all (by decide +kernel) (pa_cons (pe_lc (own := [("amount", 1)]) (g := gName 1) rfl sc_is_amounts.nd (pi_tup (pv 0)) (blkOk_by (N := ["thing", "amount"]) (sc := defScope st_is_amounts) (by decide +kernel)) (fun _ _ _ _ _ => (pg_name (i := 1) sc_is_amounts.nd rfl (.inl rfl))) (fun _ _ _ _ _ => pts_nil) (fun _ _ _ _ _ => (pe_fn c_is_integer_to (hr.mono (by decide)) (pa_cons (pv 1) (pa_cons (pe_glob (v := .int 30) rfl Cc.c_MOST_IN_A_STATE.choose_spec ⟨_, rfl⟩) pa_nil))))) pa_nil))))), ?_⟩
  rcases h with ⟨p, xs, rfl, hp, xl, kd, k⟩ | ⟨t, ty, kt, k⟩
  · refine ⟨_, rfl, _, _, _, _, true, rfl, .ty _, .base (.tup hp), kit_ty (by decide +kernel), _, rfl, iteF ?_⟩
    refine ⟨_, rfl, p, _, rfl, .inr (SqT.of hp), _, _, rfl, rfl, _, rfl, ?_⟩
    have no : isAm xs = false → Q (.bl false) H := fun e => by
      have z := k H (Same.refl H)
      rw [e] at z
      exact z
    refine ite2 (fun c => ?_) (fun c => ?_)
    · refine ⟨_, _, rfl, rfl, _, rfl, ?_⟩
      have c2 : (2 : Int) ≤ xs.length := of_decide_eq_true c
      refine ite2 (fun c3 => ?_) (fun c3 => ?_)
      · refine no ?_
        have c4 : ¬ ((xs.length : Int) ≤ 6) := by simpa using c3
        have c5 : decide (xs.length ≤ 6) = false := by simp; omega
        simp [isAm, c5]
      · have c4 : (xs.length : Int) ≤ 6 := by simpa using c3
        have e0 : isAm xs = xs.all (isTo 30) := by
          have a1 : decide (2 ≤ xs.length) = true := by simp; omega
          have a2 : decide (xs.length ≤ 6) = true := by simp; omega
          simp [isAm, a1, a2]
        refine ⟨_, rfl, p, rfl, ⟨_, SqT.of hp⟩, fun D hD => lc_tup (K := K) (a := p) (xs := xs) (fun i H' => Same H H' ∧ H' D = some (.lst ((xs.take i).map fun x => .bl (isTo 30 x))))
          ⟨same_new (Same.refl H) hD, upd_same⟩ (fun i H' _ q => SqT.of (q.1 _ _ hp)) (fun i x H' hx q => ⟨rfl, tyes ?_⟩) (fun H' q => ?_)⟩
        · refine ⟨_, rfl, x, 30, rfl, (kd x (List.mem_of_getElem? hx)).same q.1, ?_⟩
          refine ⟨_, q.2, size_lt (by simp; omega), same_put q.1 hD, ?_⟩
          rw [upd_same, List.take_add_one, hx, List.map_append]
          rfl
        · refine ⟨D, xs.map (isTo 30), rfl, ?_, ?_⟩
          · have e := q.2
            rw [List.take_length] at e
            rw [List.map_map]
            exact SqL.of e
          · have z := k H' q.1
            rw [e0] at z
            have e1 : (xs.map (isTo 30)).all id = xs.all (isTo 30) := by rw [List.all_map]; rfl
            rw [e1]
            exact z
    · refine ⟨_, rfl, iteT (no ?_)⟩
      have c4 : ¬ ((2 : Int) ≤ xs.length) := by simpa using c
      have c5 : decide (2 ≤ xs.length) = false := by simp; omega
      simp [isAm, c5]
  · exact ⟨_, rfl, x, _, t, _, false, rfl, .ty _, ty, kt, _, rfl, iteT (iteT k)⟩
abbrev st_ShInit : Stmt := inClass (top 12) 0
theorem sc_ShInit : FnScope ["self", "amounts"] ["self", "amounts"] (defScope st_ShInit) := ⟨rfl, rfl, rfl, by decide +kernel, rfl, by decide +kernel, by decide +kernel⟩
theorem ok_init (SShare : ShK K mg CShare) (c_is_amounts : Cal P w K mg base 2 "is_amounts" ["thing"] (spIsAm K)) (D : Mh K CShare "__init__" "Share.__init__" st_ShInit ["self", "amounts"]) : MCal P w K mg base 3 CShare "__init__" ["self", "amounts"] (spInit CShare) := by
  refine D.cal sc_ShInit (fun vs H Q E h => ?_) (fun f cdv A out s H vs Q E hr h => ?_)
  · obtain ⟨p, t, dx, ns, rfl, _⟩ := h
    rfl
  obtain ⟨p, t, dx, ns, rfl, hp, ht, h2, h6, am, k⟩ := h
  refine ⟨_, (pss_cons (ps_if (pt_not (pt_val (pe_fn c_is_amounts (hr.mono (by decide)) (pa_cons (pv 1) pa_nil)))) (pss_one ps_never) pss_nil)
   (pss_one (ps_fld (pv 0) (pv 1) rfl))), ?_⟩
  refine ⟨_, rfl, .ref t, rfl, .inl ⟨t, _, rfl, ht, by rw [List.length_map]; omega, fun y hy => ?_, fun H1 s1 => ?_⟩⟩
  · obtain ⟨i, _, rfl⟩ := List.mem_map.mp hy
    exact Kd.int i
  rw [isAm_ints h2 h6 am]
  refine ⟨_, rfl, iteF ?_⟩
  refine ⟨_, rfl, _, rfl, p, CShare, dx, _, rfl, s1 _ _ hp, SShare.cl, SShare.nB, (by show 0 < 1000; decide), ?_⟩
  have tp : t ≠ p := ne_of ht hp (by intro z; cases z)
  exact k _ (fun b o n e => by rw [upd_ne n]; exact s1 _ _ e) ⟨⟨dx, upd_same⟩, by rw [upd_ne tp]; exact s1 _ _ ht, h2, h6, am⟩
abbrev st_Sh_total : Stmt := inClass (top 12) 2
theorem sc_Sh_total : FnScope ["self"] ["self"] (defScope st_Sh_total) := ⟨rfl, rfl, rfl, by decide +kernel, rfl, by decide +kernel, by decide +kernel⟩
theorem ok_total (B : Bn mg) (SShare : ShK K mg CShare) (D : Ph K CShare "total" "Share.total" st_Sh_total ["self"]) : PCal P w K mg base 1 CShare "total" ["self"] (spTotal CShare) := by
  refine D.cal sc_Sh_total (fun vs H Q E h => ?_) (fun f cdv A out s H vs Q E hr h => ?_)
  · obtain ⟨s, t, ns, rfl, _⟩ := h
    rfl
  obtain ⟨s, t, ns, rfl, ⟨⟨dx, h1⟩, h2, _⟩, k⟩ := h
  refine ⟨_, (pss_one (ps_ret (pe_callB (call_sumT rfl) (by rfl) B.n_sum (by decide +kernel) (pa_cons (pe_fld (pv 0) rfl) pa_nil)))), ?_⟩
  exact ⟨_, rfl, s, CShare, dx, _, _, rfl, h1, SShare.cl, SShare.nB, shF_get t, t, ns, rfl, SqT.of h2, k⟩
abbrev st_Sh_len : Stmt := inClass (top 12) 4
theorem sc_Sh_len : FnScope ["self"] ["self"] (defScope st_Sh_len) := ⟨rfl, rfl, rfl, by decide +kernel, rfl, by decide +kernel, by decide +kernel⟩
theorem ok_len (B : Bn mg) (SShare : ShK K mg CShare) (D : Mh K CShare "__len__" "Share.__len__" st_Sh_len ["self"]) : MCal P w K mg base 1 CShare "__len__" ["self"] (spLen CShare) := by
  refine D.cal sc_Sh_len (fun vs H Q E h => ?_) (fun f cdv A out s H vs Q E hr h => ?_)
  · obtain ⟨s, t, ns, rfl, _⟩ := h
    rfl
  obtain ⟨s, t, ns, rfl, ⟨⟨dx, h1⟩, h2, _⟩, k⟩ := h
  refine ⟨_, (pss_one (ps_ret (pe_callB call_len_seq (by rfl) B.n_len (by decide +kernel) (pa_cons (pe_fld (pv 0) rfl) pa_nil)))), ?_⟩
  refine ⟨_, rfl, s, CShare, dx, _, _, rfl, h1, SShare.cl, SShare.nB, shF_get t, t, _, rfl, .inr (SqT.of h2), ?_⟩
  rw [List.length_map]
  exact k
abbrev st_Sh_call : Stmt := inClass (top 12) 3
theorem sc_Sh_call : FnScope ["self", "k"] ["self", "k"] (defScope st_Sh_call) := ⟨rfl, rfl, rfl, by decide +kernel, rfl, by decide +kernel, by decide +kernel⟩
theorem ok_call (B : Bn mg) (SShare : ShK K mg CShare) (c_is_integer_to : Cal P w K mg base 1 "is_integer_to" ["thing", "most"] (spIsInt K)) (D : Mh K CShare "__call__" "Share.__call__" st_Sh_call ["self", "k"]) : MCal P w K mg base 2 CShare "__call__" ["self", "k"] (spCall CShare) := by
  refine D.cal sc_Sh_call (fun vs H Q E h => ?_) (fun f cdv A out s H vs Q E hr h => ?_)
  · obtain ⟨s, t, ns, n, rfl, _⟩ := h
    rfl
  obtain ⟨s, t, ns, n, rfl, ⟨⟨dx, h1⟩, h2, _, l6, _⟩, ln, k⟩ := h
  refine ⟨_, (pss_cons (ps_if (pt_not (pt_val (pe_fn c_is_integer_to (hr.mono (by decide)) (pa_cons (pv 1) (pa_cons (pe_callB call_len_seq (by rfl) B.n_len (by decide +kernel) (pa_cons (pe_fld (pv 0) rfl) pa_nil)) pa_nil))))) (pss_one ps_never) pss_nil)
   (pss_one (ps_ret (pe_callB (cr_sum rfl) (by rfl) B.n_sum (by decide +kernel) (pa_cons (pe_slice sl_list (pe_callB call_sortedT (by rfl) B.n_sorted (by decide +kernel) (pa_cons (pe_fld (pv 0) rfl) pa_nil)) po_none (po_some (pv 1))) pa_nil))))), ?_⟩
  refine ⟨_, rfl, _, rfl, s, CShare, dx, _, _, rfl, h1, SShare.cl, SShare.nB, shF_get t, t, _, rfl, .inr (SqT.of h2), .int n, _, rfl, Kd.int n, ?_⟩
  have e : isTo ((ns.map V.int).length : Int) (.int n) = true := by
    rw [List.length_map]
    show (decide (0 ≤ (n : Int)) && decide ((n : Int) ≤ ns.length)) = true
    simp; omega
  rw [e]
  refine ⟨_, rfl, iteF ?_⟩
  refine ⟨_, rfl, s, CShare, dx, _, _, rfl, h1, SShare.cl, SShare.nB, shF_get t, t, ns, rfl, SqT.of h2, by omega, fun ys p pm sd hp => ?_⟩
  obtain rfl := srt_of pm sd
  refine ⟨_, rfl, n, rfl, p, _, rfl, SqL.of upd_same, fun q hq => ?_⟩
  rw [cut_take (by rw [List.length_map, srt_length]; exact ln), ← List.map_take]
  exact ⟨q, _, rfl, SqL.of upd_same, k _ (same_new (same_new (Same.refl H) hp) hq)⟩
abbrev st_check_pair : Stmt := top 15
theorem sc_check_pair : FnScope ["one", "other"] ["one", "other"] (defScope st_check_pair) := ⟨rfl, rfl, rfl, by decide +kernel, rfl, by decide +kernel, by decide +kernel⟩
theorem ok_pair (B : Bn mg) (SShare : ShK K mg CShare) (m_len : MCal P w K mg base 1 CShare "__len__" ["self"] (spLen CShare)) (D : Df K mg "check_pair" st_check_pair ["one", "other"]) : Cal P w K mg base 3 "check_pair" ["one", "other"] (spPair CShare) := by
  refine D.cal sc_check_pair (fun vs H Q E h => ?_) (fun f cdv A out s H vs Q E hr h => ?_)
  · obtain ⟨s1, t1, s2, t2, ns, ms, rfl, _⟩ := h
    rfl
  obtain ⟨s1, t1, s2, t2, ns, ms, rfl, sh1, sh2, ln, k⟩ := h
  refine ⟨_, (pss_cons (ps_if (PW.pt (pw_or (pt_not (pt_val (pe_callB call_isi (by rfl) B.n_isinstance (by decide +kernel) (pa_cons (pv 0) (pa_cons (pe_glob (v := .ref CShare) rfl SShare.mgC rfl) pa_nil))))) (pw_or1 (pt_not (pt_val (pe_callB call_isi (by rfl) B.n_isinstance (by decide +kernel) (pa_cons (pv 1) (pa_cons (pe_glob (v := .ref CShare) rfl SShare.mgC rfl) pa_nil)))))))) (pss_one ps_never) pss_nil)
   (pss_one (ps_if (pt_cmpR op_ne (pe_callB (call_lenM m_len (hr.mono (by decide))) (by rfl) B.n_len (by decide +kernel) (pa_cons (pv 0) pa_nil)) (pe_callB (call_lenM m_len (hr.mono (by decide))) (by rfl) B.n_len (by decide +kernel) (pa_cons (pv 1) pa_nil)) (nomark _)) (pss_one ps_never) pss_nil))), ?_⟩
  obtain ⟨⟨d1, a1⟩, _, _, l1, _⟩ := id sh1
  obtain ⟨⟨d2, a2⟩, _, _, l2, _⟩ := id sh2
  have ty : ∀ {s d t : Addr}, H s = some (.ins CShare d (shF t)) → TyX K H (.ref s) (.ref CShare) := fun e => .base (.ins e SShare.cl SShare.ca SShare.cg SShare.ct SShare.mro)
  refine ⟨_, rfl, _, _, _, _, true, rfl, .own _, ty a1, SShare.kit, _, rfl, iteF ?_⟩
  refine ⟨_, rfl, _, _, _, _, true, rfl, .own _, ty a2, SShare.kit, _, rfl, iteF ?_⟩
  refine ⟨_, rfl, s1, d1, _, rfl, a1, s1, t1, ns, rfl, sh1, ns.length, rfl, by omega, ?_⟩
  refine ⟨_, rfl, s2, d2, _, rfl, a2, s2, t2, ms, rfl, sh2, ms.length, rfl, by omega, rfl, _, rfl, ?_⟩
  rw [ln]
  exact iteNS rfl k
abbrev st_is_calm : Stmt := top 16
theorem sc_is_calm : FnScope ["one", "other", "k"] ["one", "other"] (defScope st_is_calm) := ⟨rfl, rfl, rfl, by decide +kernel, rfl, by decide +kernel, by decide +kernel⟩
theorem ok_calm (B : Bn mg) (SShare : ShK K mg CShare) (c_check_pair : Cal P w K mg base 3 "check_pair" ["one", "other"] (spPair CShare)) (m_len : MCal P w K mg base 1 CShare "__len__" ["self"] (spLen CShare))
    (p_total : PCal P w K mg base 1 CShare "total" ["self"] (spTotal CShare)) (m_call : MCal P w K mg base 2 CShare "__call__" ["self", "k"] (spCall CShare)) (D : Df K mg "is_calm" st_is_calm ["one", "other"]) : Cal P w K mg base 4 "is_calm" ["one", "other"] (spCalm CShare) := by
  refine D.cal sc_is_calm (fun vs H Q E h => ?_) (fun f cdv A out s H vs Q E hr h => ?_)
  · obtain ⟨s1, t1, s2, t2, ns, ms, rfl, _⟩ := h
    rfl
  obtain ⟨s1, t1, s2, t2, ns, ms, rfl, sh1, sh2, ln, k⟩ := h
  refine ⟨_, (pss_cons (ps_expr (pe_fn c_check_pair (hr.mono (by decide)) (pa_cons (pv 0) (pa_cons (pv 1) pa_nil))))
   (pss_cons (ps_if (pt_cmpR op_ne (pe_pr p_total SShare.cl (hr.mono (by decide)) (pv 0)) (pe_pr p_total SShare.cl (hr.mono (by decide)) (pv 1)) (nomark _)) (pss_one (ps_ret pe_bl)) pss_nil)
   (pss_one (ps_ret (pe_callB (cr_all rfl) (by rfl) B.n_all (by decide +kernel) (pa_cons (pe_lc (own := [("k", 2)]) (g := gName 2) rfl sc_is_calm.nd (pi_range1 (by rfl) B.n_range (pa_cons (pe_op op_add (pe_callB (call_lenM m_len (hr.mono (by decide))) (by rfl) B.n_len (by decide +kernel) (pa_cons (pv 0) pa_nil)) pe_int) pa_nil)) (blkOk_by (N := ["one", "other", "k"]) (sc := defScope st_is_calm) (by decide +kernel)) (fun _ _ _ _ _ => (pg_name (i := 2) sc_is_calm.nd rfl (.inl rfl))) (fun _ _ _ _ _ => pts_nil) (fun _ _ _ _ _ => (pe_cmpR op_le (pe_callM m_call SShare.fi (hr.mono (by decide)) (pv 0) (pa_cons (pv 2) pa_nil)) (pe_callM m_call SShare.fi (hr.mono (by decide)) (pv 1) (pa_cons (pv 2) pa_nil)) (nomark _)))) pa_nil)))))), ?_⟩
  obtain ⟨⟨d1, a1⟩, _, _, l1, _⟩ := id sh1
  obtain ⟨⟨d2, a2⟩, _, _, l2, _⟩ := id sh2
  refine ⟨_, rfl, _, rfl, s1, t1, s2, t2, ns, ms, rfl, sh1, sh2, ln, ?_⟩
  refine ⟨_, rfl, s1, d1, _, rfl, a1, s1, t1, ns, rfl, sh1, _, rfl, s2, d2, _, rfl, a2, s2, t2, ms, rfl, sh2, rfl, _, rfl, ?_⟩
  refine ite2 (fun c => ?_) (fun c => ?_)
  · have z := k H (Same.refl H)
    have e : calm ns ms = false := by
      have c2 : ¬ (ns.sum = ms.sum) := by simpa using c
      simp [calm, c2]
    rw [e] at z
    exact z
  · have c2 : ns.sum = ms.sum := by simpa using c
    refine ⟨_, rfl, s1, d1, _, rfl, a1, s1, t1, ns, rfl, sh1, ns.length, rfl, by omega, _, _, rfl, rfl, _, rfl, by omega, by omega, fun D hD => ?_⟩
    have tn : ((ns.length : Int) + 1).toNat = ns.length + 1 := by omega
    rw [tn]
    refine lc_range (lo := 0) (n := ns.length + 1) (fun i H' => Same H H' ∧ H' D = some (.lst ((List.range i).map fun k => .bl (decide (low ns k ≤ low ms k)))))
      ⟨same_new (Same.refl H) hD, upd_same⟩ (fun i H' hi q => ⟨rfl, tyes ?_⟩) (fun H' q => ?_)
    · refine ⟨_, rfl, s1, rfl, _, rfl, .inr ⟨_, _, q.1 _ _ a1⟩, s1, t1, ns, i, by simp, sh1.same q.1, by omega, fun H2 k2 => ?_⟩
      refine ⟨_, rfl, s2, rfl, _, rfl, .inr ⟨_, _, k2 _ _ (q.1 _ _ a2)⟩, s2, t2, ms, i, by simp, (sh2.same q.1).same k2, by omega, fun H3 k3 => ?_⟩
      refine ⟨_, _, rfl, rfl, _, k3 _ _ (k2 _ _ q.2), size_lt (by simp; omega), same_put ((q.1.trans k2).trans k3) hD, ?_⟩
      rw [upd_same, List.range_succ, List.map_append]
      rfl
    · refine ⟨D, (List.range (ns.length + 1)).map fun k => decide (low ns k ≤ low ms k), rfl, ?_, ?_⟩
      · rw [List.map_map]
        exact SqL.of q.2
      · have z := k H' q.1
        have e : calm ns ms = ((List.range (ns.length + 1)).map fun k => decide (low ns k ≤ low ms k)).all id := by
          simp [calm, c2, List.all_map]
        rw [e] at z
        exact z
abbrev st_is_calmer : Stmt := top 17
theorem sc_is_calmer : FnScope ["one", "other"] ["one", "other"] (defScope st_is_calmer) := ⟨rfl, rfl, rfl, by decide +kernel, rfl, by decide +kernel, by decide +kernel⟩
theorem ok_calmer (c_is_calm : Cal P w K mg base 4 "is_calm" ["one", "other"] (spCalm CShare)) (D : Df K mg "is_calmer" st_is_calmer ["one", "other"]) : Cal P w K mg base 5 "is_calmer" ["one", "other"] (spCalmer CShare) := by
  refine D.cal sc_is_calmer (fun vs H Q E h => ?_) (fun f cdv A out s H vs Q E hr h => ?_)
  · obtain ⟨s1, t1, s2, t2, ns, ms, rfl, _⟩ := h
    rfl
  obtain ⟨s1, t1, s2, t2, ns, ms, rfl, sh1, sh2, ln, k⟩ := h
  refine ⟨_, (pss_one (ps_ret (pe_and (pe_fn c_is_calm (hr.mono (by decide)) (pa_cons (pv 0) (pa_cons (pv 1) pa_nil))) (pe_one (pe_not (pe_fn c_is_calm (hr.mono (by decide)) (pa_cons (pv 1) (pa_cons (pv 0) pa_nil)))))))), ?_⟩
  refine ⟨_, rfl, _, rfl, s1, t1, s2, t2, ns, ms, rfl, sh1, sh2, ln, fun H1 k1 => ⟨_, rfl, ?_⟩⟩
  cases e : calm ns ms with
  | false =>
    rw [e] at k
    exact iteF (k H1 k1)
  | true =>
    rw [e] at k
    exact iteT ⟨_, rfl, _, rfl, s2, t2, s1, t1, ms, ns, rfl, sh2.same k1, sh1.same k1, ln.symm, fun H2 k2 => ⟨_, rfl, k H2 (k1.trans k2)⟩⟩
end
end Pl
namespace Pl
open PySem PySem.Spec PyProof.Rows L2
theorem low_succ {ns : List Int} {i : Nat} {x : Int} (h : (srt ns)[i]? = some x) : low ns (i + 1) = low ns i + x := by
  unfold low
  rw [List.take_add_one, h, List.sum_append]
  simp
theorem perm_sum {l m : List Int} (h : l.Perm m) : l.sum = m.sum := by
  induction h with
  | nil => rfl
  | cons x _ ih => simp [ih]
  | swap x y l => simp; omega
  | trans _ _ a b => exact a.trans b
theorem low_zero (ns : List Int) : low ns 0 = 0 := rfl
theorem low_all (ns : List Int) : low ns ns.length = ns.sum := by
  unfold low
  rw [← srt_length ns, List.take_length]
  exact perm_sum (srt_perm ns)
theorem dpInts (K : PySem.W.Frag) (H : Hp) : ∀ ns : List Int, DpAll K H (ns.map V.int) (ns.map PyData.int)
  | [] => .nil
  | n :: ns => .cons (.int n) (dpInts K H ns)
theorem depthInts : ∀ ns : List Int, PyData.depthAll (ns.map PyData.int) = 0
  | [] => rfl
  | n :: ns => by
    show max 0 (PyData.depthAll (ns.map PyData.int)) = 0
    rw [depthInts ns]; rfl
theorem layInts : ∀ ns : List Int, PyData.canLayAll0 (ns.map PyData.int) = true
  | [] => by simp [PyData.canLayAll0]
  | n :: ns => by
    simp only [List.map_cons, PyData.canLayAll0, PyData.canLay0, layInts ns, Bool.and_self]
theorem shapedInts (ns : List Int) : SeqAt.shaped (.list (ns.map PyData.int)) = true := by
  show (PyData.canLay0 (.list (ns.map PyData.int)) && decide (PyData.depth (.list (ns.map PyData.int)) ≤ 64)) = true
  simp only [PyData.canLay0, PyData.depth, layInts, depthInts]
  decide
/-- the sums of the smallest, from none to i -/
def sums (ns : List Int) (i : Nat) : List Int := (List.range (i + 1)).map (low ns)
theorem sums_succ (ns : List Int) (i : Nat) : sums ns (i + 1) = sums ns i ++ [low ns (i + 1)] := by
  unfold sums
  rw [List.range_succ, List.map_append]
  rfl
theorem sums_last (ns : List Int) (i : Nat) : ∃ l, sums ns i = l ++ [low ns i] := ⟨(List.range i).map (low ns), by
  unfold sums
  rw [List.range_succ, List.map_append]
  rfl⟩
theorem sums_at {ns : List Int} {i k : Nat} (h : k ≤ i) : (sums ns i)[k]? = some (low ns k) := by
  unfold sums
  rw [List.getElem?_map, List.getElem?_range (by omega)]
  rfl
theorem sums_length (ns : List Int) (i : Nat) : (sums ns i).length = i + 1 := by simp [sums]
def spSums : Sp := fun vs H Q _ => ∃ (t : Addr) (ns : List Int), vs = [.ref t] ∧ H t = some (.tup (ns.map V.int)) ∧ ns.length ≤ 6 ∧
  ∀ (p : Addr) (H' : Hp), Same H H' → H p = none → H' p = some (.lst ((sums ns ns.length).map V.int)) → Q (.ref p) H'
def spCalms : Sp := fun vs H Q _ => ∃ (t1 t2 : Addr) (ns ms : List Int), vs = [.ref t1, .ref t2] ∧ H t1 = some (.tup (ns.map V.int)) ∧ H t2 = some (.tup (ms.map V.int)) ∧ ns.length ≤ 6 ∧ ns.length = ms.length ∧
  ∀ H', Same H H' → Q (.bl (calm ns ms)) H'
section
variable {P : Program} {w : World} {K : PySem.W.Frag} {mg : Str → Option Value} {base : Heap} {CShare : Addr}
abbrev st_l_sums : Stmt := top 25
theorem sc_l_sums : FnScope ["_law_row", "_law_left", "_law_found", "_law_amount"] ["_law_row"] (defScope st_l_sums) := ⟨rfl, rfl, rfl, by decide +kernel, rfl, by decide +kernel, by decide +kernel⟩
theorem ok_sums (B : Bn mg) (D : Df K mg "_law_sums" st_l_sums ["_law_row"]) : Cal P w K mg base 1 "_law_sums" ["_law_row"] spSums := by
  refine D.cal sc_l_sums (fun vs H Q E h => ?_) (fun f cdv A out s H vs Q E hr h => ?_)
  · obtain ⟨t, ns, rfl, _⟩ := h
    rfl
  obtain ⟨t, ns, rfl, ht, l6, k⟩ := h
  refine ⟨_, (pss_cons (ps_par (i := 1) (j := 2) (by rfl) sc_l_sums.nd rfl rfl (by decide) rfl rfl (pa_cons (pe_callB call_sortedT (by rfl) B.n_sorted (by decide +kernel) (pa_cons (pv 0) pa_nil)) (pa_cons (pe_lst (pa_cons pe_int pa_nil)) pa_nil)) (by rfl))
   (pss_cons (ps_for PassesOwn.never rfl (pi_list (pv 1)) (pg_name (i := 3) sc_l_sums.nd rfl (.inl rfl))
   (pss_one (ps_expr (pe_bm PySem.F.plainAttrs_list PySem.F.slot_list_append PySem.F.type_list_append mt_append (pv 2) (pa_cons (pe_op op_add (pe_ix ix_list (pv 2) (pe_un un_neg pe_int) (fun _ _ => rfl)) (pv 3)) pa_nil)))))
   (pss_one (ps_ret (pv 2))))), ?_⟩
  refine ⟨_, rfl, t, ns, rfl, SqT.of ht, by omega, fun ys l pm sd hl => ?_⟩
  obtain rfl := srt_of pm sd
  refine ⟨(by show 1 ≤ sizeLine; decide), fun q hq => ⟨_, _, rfl, ?_⟩⟩
  have lq : l ≠ q := fun e => by
    rw [← e, upd_same] at hq
    cases hq
  have hq0 : H q = none := by
    rw [upd_ne lq.symm] at hq
    exact hq
  generalize hH1 : upd (upd H l _) q _ = H1
  have s1 : Same H H1 := by rw [← hH1]; exact same_new (same_new (Same.refl H) hl) hq
  have hL : H1 l = some (.lst ((srt ns).map V.int)) := by rw [← hH1, upd_ne lq, upd_same]
  have hQ : H1 q = some (.lst ((sums ns 0).map V.int)) := by rw [← hH1, upd_same]; rfl
  refine ⟨_, rfl, l, rfl, ⟨_, SqL.of hL⟩, for_list (K := K) (a := l) (xs := (srt ns).map V.int) (fun i σ H' => ∃ v : Option V, σ = [some (.ref t), some (.ref l), some (.ref q), v] ∧ Same H H' ∧ H' l = some (.lst ((srt ns).map V.int)) ∧ H' q = some (.lst ((sums ns i).map V.int)))
    ⟨none, rfl, s1, hL, hQ⟩ (fun i σ H' _ ⟨_, _, _, h, _⟩ => SqL.of h) ?_ ?_⟩
  · rintro i y σ H' hi ⟨v, rfl, s2, h2, h3⟩
    rw [List.getElem?_map] at hi
    cases e : (srt ns)[i]? with
    | none => rw [e] at hi; cases hi
    | some x =>
      rw [e] at hi
      obtain rfl : V.int x = y := Option.some.inj hi
      obtain ⟨pre, ep⟩ := sums_last ns i
      have il : i < ns.length := by
        have := (List.getElem?_eq_some_iff.mp e).1
        rw [srt_length] at this
        exact this
      refine ⟨_, rfl, .inl ⟨rfl, _, SqL.of h3⟩, _, rfl, 1, rfl, q, _, _, .int (low ns i), rfl, rfl, SqL.of h3, ?_, _, rfl, _, _, rfl, rfl, ?_⟩
      · rw [ep, List.map_append]
        exact atI_last _ _
      refine ⟨q, _, _, rfl, rfl, h3, size_lt (by rw [List.length_map, sums_length]; omega), ⟨_, rfl, same_put s2 hq0, ?_, ?_⟩⟩
      · rw [upd_ne lq]; exact h2
      · rw [upd_same, sums_succ, List.map_append, low_succ e]; rfl
  · rintro σ H' ⟨v, rfl, s2, h2, h3⟩
    rw [List.length_map, srt_length] at h3
    exact ⟨_, rfl, k q H' s2 hq0 h3⟩
abbrev st_l_calms : Stmt := top 26
theorem sc_l_calms : FnScope ["_law_one", "_law_other_here", "_law_first", "_law_second", "_law_less", "_law_low", "_law_high"] ["_law_one", "_law_other_here"] (defScope st_l_calms) := ⟨rfl, rfl, rfl, by decide +kernel, rfl, by decide +kernel, by decide +kernel⟩
theorem ok_calms (B : Bn mg) (c_l_sums : Cal P w K mg base 1 "_law_sums" ["_law_row"] spSums) (D : Df K mg "_law_calms" st_l_calms ["_law_one", "_law_other_here"]) : Cal P w K mg base 2 "_law_calms" ["_law_one", "_law_other_here"] spCalms := by
  refine D.cal sc_l_calms (fun vs H Q E h => ?_) (fun f cdv A out s H vs Q E hr h => ?_)
  · obtain ⟨t1, t2, ns, ms, rfl, _⟩ := h
    rfl
  obtain ⟨t1, t2, ns, ms, rfl, h1, h2, l6, ln, k⟩ := h
  refine ⟨_, (pss_cons (ps_par (i := 2) (j := 3) (by rfl) sc_l_calms.nd rfl rfl (by decide) rfl rfl (pa_cons (pe_fn c_l_sums (hr.mono (by decide)) (pa_cons (pv 0) pa_nil)) (pa_cons (pe_fn c_l_sums (hr.mono (by decide)) (pa_cons (pv 1) pa_nil)) pa_nil)) (by rfl))
   (pss_cons (ps_setLc (i := 4) (own := [("_law_low", 5), ("_law_high", 6)]) (g := gTup K 2 (gCons (gName 5) (gCons (gName 6) gNil))) rfl sc_l_calms.nd rfl rfl (sw_true rfl rfl rfl (by decide +kernel)) (pi_zip (by rfl) B.n_zip (pa_cons (pv 2) (pa_cons (pv 3) pa_nil))) (blkOk_by (N := ["_law_one", "_law_other_here", "_law_first", "_law_second", "_law_less", "_law_low", "_law_high"]) (sc := defScope st_l_calms) (by decide +kernel)) (fun _ _ _ _ _ => (pg_tup rfl (pgs_cons (pg_name (i := 5) sc_l_calms.nd rfl (.inl rfl)) (pgs_cons (pg_name (i := 6) sc_l_calms.nd rfl (.inl rfl)) pgs_nil)))) (fun _ _ _ _ _ => (pts_one (pt_cmpR op_gt (pv 5) (pv 6) (nomark _)))) (fun _ _ _ _ _ => pe_int))
   (pss_one (ps_ret (pe_and (pe_cmpR op_eq (pe_ix ix_list (pv 2) (pe_un un_neg pe_int) (fun _ _ => rfl)) (pe_ix ix_list (pv 3) (pe_un un_neg pe_int) (fun _ _ => rfl)) (nomark _)) (pe_one (pe_cmpR (op_eqD hr.units) (pv 4) (pe_lst pa_nil) (nomark _)))))))), ?_⟩
  refine ⟨_, rfl, t1, ns, rfl, h1, l6, fun p H1 s1 np hp => ?_⟩
  refine ⟨_, rfl, t2, ms, rfl, s1 _ _ h2, by omega, fun q H2 s2 nq hq => ⟨_, _, rfl, ?_⟩⟩
  have hp2 := s2 _ _ hp
  have wz := walk_zip (K := K) (a := p) (b := q) (xs := (sums ns ns.length).map V.int) (ys := (sums ms ms.length).map V.int) (n := ns.length + 1) (by simp [sums_length, ln])
  refine ⟨_, rfl, _, rfl, p, q, _, _, rfl, SqL.of hp2, SqL.of hq, fun D hD => lc_it wz (fun i H' => Same H2 H' ∧ ∃ js : List Int, js.length ≤ i ∧ H' D = some (.lst (js.map V.int)) ∧ (js = [] ↔ ∀ k, k < i → low ns k ≤ low ms k))
    ⟨same_new (Same.refl H2) hD, [], Nat.le_refl _, upd_same, by simp⟩ (fun i H' _ q1 => ⟨SqL.of (q1.1 _ _ hp2), SqL.of (q1.1 _ _ hq)⟩) ?_ ?_⟩
  · rintro i x H3 H4 hi ⟨s3, js, jl, hj, iff⟩ ⟨T, x', y', rfl, nT, rfl, ex, ey⟩
    have e1 : x' = .int (low ns i) := by
      have := ex.symm
      simp only [List.getElem?_map, sums_at (show i ≤ ns.length by omega)] at this
      exact Option.some.inj this
    have e2 : y' = .int (low ms i) := by
      have := ey.symm
      simp only [List.getElem?_map, sums_at (show i ≤ ms.length by omega)] at this
      exact Option.some.inj this
    subst e1 e2
    have DT : D ≠ T := ne_of_none hj nT
    refine ⟨T, _, rfl, SqT.of upd_same, rfl, _, _, rfl, _, _, rfl, rfl, rfl, _, rfl, _, rfl, _, _, rfl, rfl, _, rfl, ?_⟩
    refine ite2 (fun c => ?_) (fun c => ?_)
    · have c2 : low ms i < low ns i := of_decide_eq_true c
      refine ⟨js.map V.int, by rw [upd_ne DT]; exact hj, size_lt (by rw [List.length_map]; omega), same_put (same_new s3 nT) hD, js ++ [1], by simp; omega, by rw [upd_same, List.map_append]; rfl, ?_⟩
      constructor
      · intro z
        simp at z
      · intro z
        have := z i (by omega)
        omega
    · have c2 : ¬ low ms i < low ns i := fun z => c (decide_eq_true z)
      refine ⟨same_new s3 nT, js, by omega, by rw [upd_ne DT]; exact hj, ?_⟩
      rw [iff]
      constructor
      · intro z k hk
        rcases Nat.lt_succ_iff_lt_or_eq.mp hk with h | rfl
        · exact z k h
        · omega
      · intro z k hk
        exact z k (by omega)
  · rintro H3 ⟨s3, js, jl, hj, iff⟩
    obtain ⟨l1, z1⟩ := sums_last ns ns.length
    obtain ⟨l2, z2⟩ := sums_last ms ms.length
    have a1 : atI ((sums ns ns.length).map V.int) (-1) = some (.int ns.sum) := by rw [z1, List.map_append, low_all]; exact atI_last _ _
    have a2 : atI ((sums ms ms.length).map V.int) (-1) = some (.int ms.sum) := by rw [z2, List.map_append, low_all]; exact atI_last _ _
    refine ⟨_, rfl, 1, rfl, p, _, _, _, rfl, rfl, SqL.of (s3 _ _ hp2), a1, _, rfl, 1, rfl, q, _, _, _, rfl, rfl, SqL.of (s3 _ _ hq), a2, rfl, _, rfl, ?_⟩
    have kk : ∀ H', Same H3 H' → Q (.bl (calm ns ms)) H' := fun H' z => k H' (((s1.trans s2).trans s3).trans z)
    refine ite2 (fun c => ?_) (fun c => ?_)
    · have c2 : ns.sum = ms.sum := by simpa using c
      refine ⟨_, rfl, Nat.zero_le _, fun l hl => ?_⟩
      have hj2 := (same_new (o := .lst []) (Same.refl H3) hl) _ _ hj
      refine ⟨_, _, .lst (SqL.of hj2) (dpInts _ _ js), .lst (SqL.of upd_same) .nil, shapedInts js, rfl, ?_⟩
      have e : PyData.eqv (.list (js.map PyData.int)) (.list []) = calm ns ms := by
        have e3 : calm ns ms = decide (js = []) := by
          have := Bool.eq_iff_iff (a := calm ns ms) (b := decide (js = []))
          rw [this, decide_eq_true_iff, iff]
          simp [calm, c2]
        rw [e3]
        cases js <;> rfl
      rw [e]
      exact kk _ (same_new (Same.refl H3) hl)
    · have c2 : ¬ ns.sum = ms.sum := by simpa using c
      have e : calm ns ms = false := by simp [calm, c2]
      have z := kk H3 (Same.refl H3)
      rw [e] at z
      exact z
/-- the same values in some order -/
def spMixed (K : PySem.W.Frag) : Sp := fun vs H Q _ => ∃ (a l : Addr) (ns : List Int), vs = [.ref a, .ref l] ∧ Src H a ∧ (SqL K H l (ns.map V.int) ∨ SqT K H l (ns.map V.int)) ∧ (∀ H', Kp a H H' → SqL K H' l (ns.map V.int) ∨ SqT K H' l (ns.map V.int)) ∧ ns.length ≤ 100 ∧
  ∀ (p : Addr) (ms : List Int) (H' : Hp), ms.Perm ns → Src H' a → Kp a H H' → H' p = some (.tup (ms.map V.int)) → Q (.ref p) H'
theorem cons_erase {x : Int} : ∀ {ns : List Int} {j : Nat}, ns[j]? = some x → ([x] ++ ns.eraseIdx j).Perm ns
  | [], _, h => by simp at h
  | n :: ns, 0, h => by
    obtain rfl : n = x := by simpa using h
    exact List.Perm.refl _
  | n :: ns, j + 1, h => by
    have q := cons_erase (ns := ns) (j := j) (by simpa using h)
    show (x :: n :: ns.eraseIdx j).Perm (n :: ns)
    exact (List.Perm.swap n x _).trans (List.Perm.cons n q)
theorem map_erase {α β : Type} (f : α → β) : ∀ (l : List α) (j : Nat), (l.map f).eraseIdx j = (l.eraseIdx j).map f
  | [], j => rfl
  | x :: l, 0 => rfl
  | x :: l, j + 1 => by
    show f x :: (l.map f).eraseIdx j = f x :: (l.eraseIdx j).map f
    rw [map_erase f l j]
theorem perm_erase {ns ms zs : List Int} {j : Nat} {x : Int} (p : (ms ++ ns).Perm zs) (h : ns[j]? = some x) : ((ms ++ [x]) ++ ns.eraseIdx j).Perm zs := by
  refine List.Perm.trans ?_ p
  rw [List.append_assoc]
  refine List.Perm.append_left _ ?_
  exact cons_erase h
abbrev st_l_mixed : Stmt := top 28
theorem sc_l_mixed : FnScope ["_law_source_here", "_law_values", "_law_left", "_law_found", "_law_lap"] ["_law_source_here", "_law_values"] (defScope st_l_mixed) := ⟨rfl, rfl, rfl, by decide +kernel, rfl, by decide +kernel, by decide +kernel⟩
theorem ok_mixed (B : Bn mg) (c_l_draw : Cal P w K mg base 1 "_law_draw" ["_law_source_here", "_law_many"] spDraw) (D : Df K mg "_law_mixed" st_l_mixed ["_law_source_here", "_law_values"]) : Cal P w K mg base 2 "_law_mixed" ["_law_source_here", "_law_values"] (spMixed K) := by
  refine D.cal sc_l_mixed (fun vs H Q E h => ?_) (fun f cdv A out s H vs Q E hr h => ?_)
  · obtain ⟨a, l, ns, rfl, _⟩ := h
    rfl
  obtain ⟨a, l, ns, rfl, src, sq, sqk, ln, k⟩ := h
  refine ⟨_, (pss_cons (ps_par (i := 2) (j := 3) (by rfl) sc_l_mixed.nd rfl rfl (by decide) rfl rfl (pa_cons (pe_callTy call_list_of (by rfl) B.n_list (by decide +kernel) (pa_cons (pv 1) pa_nil)) (pa_cons (pe_lst pa_nil) pa_nil)) (by rfl))
   (pss_cons (ps_for PassesOwn.never rfl (pi_range1 (by rfl) B.n_range (pa_cons (pe_callB call_len_seq (by rfl) B.n_len (by decide +kernel) (pa_cons (pv 1) pa_nil)) pa_nil)) (pg_name (i := 4) sc_l_mixed.nd rfl (.inl rfl))
   (pss_one (ps_expr (pe_bm PySem.F.plainAttrs_list PySem.F.slot_list_append PySem.F.type_list_append mt_append (pv 3) (pa_cons (pe_bm PySem.F.plainAttrs_list PySem.F.slot_list_pop PySem.F.type_list_pop mt_popAt (pv 2) (pa_cons (pe_fn c_l_draw (hr.mono (by decide)) (pa_cons (pv 0) (pa_cons (pe_callB call_len_seq (by rfl) B.n_len (by decide +kernel) (pa_cons (pv 2) pa_nil)) pa_nil))) pa_nil)) pa_nil)))))
   (pss_one (ps_ret (pe_callTy call_tuple_of (by rfl) B.n_tuple (by decide +kernel) (pa_cons (pv 3) pa_nil)))))), ?_⟩
  refine ⟨_, rfl, l, _, rfl, sq, fun p hp => ⟨Nat.zero_le _, fun q hq => ⟨_, _, rfl, ?_⟩⟩⟩
  have pq : p ≠ q := fun e => by
    rw [← e, upd_same] at hq
    cases hq
  have hq0 : H q = none := by
    rw [upd_ne pq.symm] at hq
    exact hq
  have pa : p ≠ a := src.ne hp
  have qa : q ≠ a := src.ne hq0
  generalize hH1 : upd (upd H p _) q _ = H1
  have s1 : Src H1 a := by rw [← hH1]; exact (src.upd hp).upd hq
  have k1 : Kp a H H1 := by rw [← hH1]; exact ((Kp.refl a H).new hp).new hq
  have hP : H1 p = some (.lst (ns.map V.int)) := by rw [← hH1, upd_ne pq, upd_same]
  have hQ : H1 q = some (.lst (([] : List Int).map V.int)) := by rw [← hH1, upd_same]; rfl
  refine ⟨_, rfl, l, _, rfl, sqk H1 k1, _, rfl, ?_, ?_, ?_⟩
  · omega
  · rw [List.length_map]; omega
  have tn : (((ns.map V.int).length : Nat) : Int).toNat = ns.length := by rw [List.length_map]; omega
  rw [tn]
  refine for_range (lo := 0) (n := ns.length) (fun i σ H' => ∃ (v : Option V) (ms rest : List Int), σ = [some (.ref a), some (.ref l), some (.ref p), some (.ref q), v] ∧ Src H' a ∧ Kp a H H' ∧ ms.length = i ∧ (ms ++ rest).Perm ns ∧ H' p = some (.lst (rest.map V.int)) ∧ H' q = some (.lst (ms.map V.int)))
    ⟨none, [], ns, rfl, s1, k1, rfl, List.Perm.refl _, hP, hQ⟩ ?_ ?_
  · rintro i σ H2 hi ⟨v, ms, rest, rfl, s2, k2, ml, pm, h2, h3⟩
    have lr : rest.length = ns.length - i := by
      have := pm.length_eq
      rw [List.length_append] at this
      omega
    refine ⟨_, rfl, .inl ⟨rfl, _, SqL.of h3⟩, _, rfl, .inl ⟨rfl, _, SqL.of h2⟩, _, rfl, _, rfl, p, _, rfl, .inl (SqL.of h2), ?_⟩
    refine ⟨a, rest.length, by rw [List.length_map]; rfl, s2, by omega, by omega, fun r H3 r0 r1 s3 k3 => ?_⟩
    have h2' := k3 _ _ pa h2
    have h3' := k3 _ _ qa h3
    have lt : r.toNat < rest.length := by omega
    have e1 : rest[r.toNat]? = some rest[r.toNat] := List.getElem?_eq_getElem lt
    refine ⟨p, _, r, r.toNat, .int rest[r.toNat], rfl, rfl, h2', by omega, by omega, ?_, ?_, ?_⟩
    · rw [List.length_map]
      have z := (ixN_seq (n := rest.length) (i := r) (j := r.toNat) (by unfold ixN; rw [if_pos r0, if_pos (by omega)])).1
      exact z
    · rw [List.getElem?_map, e1]; rfl
    · have q3 : (upd H3 p (.lst ((rest.map V.int).eraseIdx r.toNat))) q = some (.lst (ms.map V.int)) := by rw [upd_ne pq.symm]; exact h3'
      refine ⟨q, _, _, rfl, rfl, q3, size_lt (by rw [List.length_map]; omega), ?_⟩
      refine ⟨_, ms ++ [rest[r.toNat]], rest.eraseIdx r.toNat, rfl, (s3.put pa).put qa, ((k2.trans k3).put hp).put hq0, by simp [ml], perm_erase pm e1, ?_, ?_⟩
      · rw [upd_ne pq, upd_same, map_erase]
      · rw [upd_same, List.map_append]; rfl
  · rintro σ H2 ⟨v, ms, rest, rfl, s2, k2, ml, pm, h2, h3⟩
    have r0 : rest = [] := by
      have := pm.length_eq
      rw [List.length_append] at this
      exact List.length_eq_zero_iff.mp (by omega)
    subst r0
    rw [List.append_nil] at pm
    refine ⟨_, rfl, q, _, rfl, .inl ⟨SqL.of h3, fun z hz => ?_⟩⟩
    exact k z ms _ pm (s2.upd hz) (k2.new hz) upd_same
theorem at_int {ms : List Int} {r : Int} (h0 : 0 ≤ r) (h1 : r < ms.length) : ∃ x, ms[r.toNat]? = some x ∧ x ∈ ms ∧ atI (ms.map V.int) r = some (.int x) := by
  obtain ⟨x, hx, e, _⟩ := at_of_lt h0 h1
  refine ⟨x, e, hx, ?_⟩
  have z := atI_nat (xs := ms.map V.int) (j := r.toNat) (v := .int x) (by rw [List.getElem?_map, e]; rfl)
  rw [Int.toNat_of_nonneg h0] at z
  exact z
theorem ix_of {n : Nat} {r : Int} (h0 : 0 ≤ r) (h1 : r < n) : ixN n r = some r.toNat := by
  unfold ixN
  rw [if_pos h0, if_pos h1]
theorem am_set {ms : List Int} {j : Nat} {x : Int} (am : Am ms) (h0 : 0 ≤ x) (h1 : x ≤ 30) : Am (ms.set j x) := fun r hr => by
  rcases List.mem_or_eq_of_mem_set hr with h | h
  · exact am r h
  · rw [h]; exact ⟨h0, h1⟩
/-- amounts for as many states come out -/
def OutAm (a : Addr) (n : Nat) (H : Hp) (Q : VK) : Prop := ∀ (p : Addr) (ms : List Int) (H' : Hp), ms.length = n → Am ms → Src H' a → Kp a H H' → H' p = some (.tup (ms.map V.int)) → Q (.ref p) H'
def spCalmed : Sp := fun vs H Q _ => ∃ (a t : Addr) (ns : List Int) (n : Nat), vs = [.ref a, .ref t, .int n] ∧ Src H a ∧ H t = some (.tup (ns.map V.int)) ∧ Am ns ∧ 1 ≤ ns.length ∧ ns.length ≤ 6 ∧ n ≤ 100 ∧ OutAm a ns.length H Q
abbrev st_l_calmed : Stmt := top 27
theorem sc_l_calmed : FnScope ["_law_source_here", "_law_row", "_law_turns", "_law_left", "_law_turn", "_law_low", "_law_high", "_law_step"] ["_law_source_here", "_law_row", "_law_turns"] (defScope st_l_calmed) := ⟨rfl, rfl, rfl, by decide +kernel, rfl, by decide +kernel, by decide +kernel⟩
theorem ok_calmed (B : Bn mg) (c_l_draw : Cal P w K mg base 1 "_law_draw" ["_law_source_here", "_law_many"] spDraw) (c_l_mixed : Cal P w K mg base 2 "_law_mixed" ["_law_source_here", "_law_values"] (spMixed K)) (D : Df K mg "_law_calmed" st_l_calmed ["_law_source_here", "_law_row", "_law_turns"]) : Cal P w K mg base 3 "_law_calmed" ["_law_source_here", "_law_row", "_law_turns"] spCalmed := by
  refine D.cal sc_l_calmed (fun vs H Q E h => ?_) (fun f cdv A out s H vs Q E hr h => ?_)
  · obtain ⟨a, t, ns, n, rfl, _⟩ := h
    rfl
  obtain ⟨a, t, ns, n, rfl, src, ht, am, l1, l6, n100, k⟩ := h
  refine ⟨_, (pss_cons (ps_set (i := 3) sc_l_calmed.nd rfl (.inl rfl) (pe_callTy call_list_of (by rfl) B.n_list (by decide +kernel) (pa_cons (pv 1) pa_nil)))
   (pss_cons (ps_for PassesOwn.never rfl (pi_range1 (by rfl) B.n_range (pa_cons (pv 2) pa_nil)) (pg_name (i := 4) sc_l_calmed.nd rfl (.inl rfl))
   (pss_cons (ps_par (i := 5) (j := 6) (by rfl) sc_l_calmed.nd rfl rfl (by decide) rfl rfl (pa_cons (pe_fn c_l_draw (hr.mono (by decide)) (pa_cons (pv 0) (pa_cons (pe_callB call_len_seq (by rfl) B.n_len (by decide +kernel) (pa_cons (pv 3) pa_nil)) pa_nil))) (pa_cons (pe_fn c_l_draw (hr.mono (by decide)) (pa_cons (pv 0) (pa_cons (pe_callB call_len_seq (by rfl) B.n_len (by decide +kernel) (pa_cons (pv 3) pa_nil)) pa_nil))) pa_nil)) (by rfl))
   (pss_one (ps_if (pt_cmpR op_le (pe_op op_add (pe_ix ix_list (pv 3) (pv 5) (fun _ _ => rfl)) pe_int) (pe_ix ix_list (pv 3) (pv 6) (fun _ _ => rfl)) (nomark _)) (pss_cons (ps_set (i := 7) sc_l_calmed.nd rfl (.inl rfl) (pe_op op_add pe_int (pe_fn c_l_draw (hr.mono (by decide)) (pa_cons (pv 0) (pa_cons (pe_op op_fdiv (pe_op op_sub (pe_ix ix_list (pv 3) (pv 6) (fun _ _ => rfl)) (pe_ix ix_list (pv 3) (pv 5) (fun _ _ => rfl))) pe_int) pa_nil)))))
   (pss_cons (ps_asg (pe_op op_add (pe_ix ix_list (pv 3) (pv 5) (fun _ _ => rfl)) (pv 7)) (pg_sub (pv 3) (pv 5) set_list))
   (pss_one (ps_asg (pe_op op_sub (pe_ix ix_list (pv 3) (pv 6) (fun _ _ => rfl)) (pv 7)) (pg_sub (pv 3) (pv 6) set_list))))) pss_nil))))
   (pss_one (ps_ret (pe_fn c_l_mixed (hr.mono (by decide)) (pa_cons (pv 0) (pa_cons (pv 3) pa_nil))))))), ?_⟩
  refine ⟨_, rfl, t, _, rfl, .inr (SqT.of ht), fun l hl => ?_⟩
  have la : l ≠ a := src.ne hl
  refine ⟨_, rfl, n, rfl, by omega, by omega, ?_⟩
  have tn : ((n : Nat) : Int).toNat = n := by omega
  rw [tn]
  refine for_range (lo := 0) (n := n) (fun i σ H' => ∃ (v4 v5 v6 v7 : Option V) (ms : List Int), σ = [some (.ref a), some (.ref t), some (.int n), some (.ref l), v4, v5, v6, v7] ∧ Src H' a ∧ Kp a H H' ∧ ms.length = ns.length ∧ Am ms ∧ H' l = some (.lst (ms.map V.int)))
    ⟨none, none, none, none, ns, rfl, src.upd hl, (Kp.refl a H).new hl, rfl, am, upd_same⟩ ?_ ?_
  · rintro i σ H1 hi ⟨v4, v5, v6, v7, ms, rfl, s1, k1, ml, am1, h1⟩
    refine ⟨_, rfl, _, rfl, l, _, rfl, .inl (SqL.of h1), a, ms.length, by rw [List.length_map]; rfl, s1, by omega, by omega, fun r1 H2 r10 r11 s2 k2 => ?_⟩
    have h2 := k2 _ _ la h1
    refine ⟨_, rfl, _, rfl, l, _, rfl, .inl (SqL.of h2), a, ms.length, by rw [List.length_map]; rfl, s2, by omega, by omega, fun r2 H3 r20 r21 s3 k3 => ⟨_, _, rfl, ?_⟩⟩
    have h3 := k3 _ _ la h2
    obtain ⟨x1, e1, m1, a1⟩ := at_int r10 r11
    obtain ⟨x2, e2, m2, a2⟩ := at_int r20 r21
    obtain ⟨b10, b11⟩ := am1 _ m1
    obtain ⟨b20, b21⟩ := am1 _ m2
    refine ⟨_, rfl, _, rfl, l, _, _, _, rfl, rfl, SqL.of h3, a1, _, _, rfl, rfl, _, rfl, _, rfl, l, _, _, _, rfl, rfl, SqL.of h3, a2, _, _, rfl, rfl, _, rfl, ?_⟩
    refine ite2 (fun c => ?_) (fun c => ?_)
    · have c2 : x1 + 2 ≤ x2 := of_decide_eq_true c
      refine ⟨_, rfl, _, rfl, _, rfl, l, _, _, _, rfl, rfl, SqL.of h3, a2, _, rfl, _, rfl, l, _, _, _, rfl, rfl, SqL.of h3, a1, _, _, rfl, rfl, _, _, rfl, rfl, ⟨by decide, by decide⟩, ?_⟩
      refine ⟨a, (x2 - x1) / 2, rfl, s3, by omega, by omega, fun r3 H4 r30 r31 s4 k4 => ⟨_, _, rfl, rfl, ?_⟩⟩
      have h4 := k4 _ _ la h3
      refine ⟨_, rfl, _, rfl, l, _, _, _, rfl, rfl, SqL.of h4, a1, _, rfl, _, _, rfl, rfl, _, rfl, _, rfl, l, _, _, r1.toNat, rfl, rfl, h4, ix_of r10 (by rw [List.length_map]; exact r11), ?_⟩
      have em : (ms.map V.int).set r1.toNat (.int (x1 + (1 + r3))) = (ms.set r1.toNat (x1 + (1 + r3))).map V.int := List.map_set.symm
      generalize hH5 : upd H4 l _ = H5
      have h5 : H5 l = some (.lst ((ms.set r1.toNat (x1 + (1 + r3))).map V.int)) := by rw [← hH5, upd_same, ← em]
      have s5 : Src H5 a := by rw [← hH5]; exact s4.put la
      have k5 : Kp a H H5 := by rw [← hH5]; exact (((k1.trans k2).trans k3).trans k4).put hl
      have rr : r1.toNat ≠ r2.toNat := fun z => by
        rw [z, e2] at e1
        have := Option.some.inj e1
        omega
      have ln5 : (ms.set r1.toNat (x1 + (1 + r3))).length = ms.length := List.length_set
      have e5 : (ms.set r1.toNat (x1 + (1 + r3)))[r2.toNat]? = some x2 := by rw [List.getElem?_set_ne rr]; exact e2
      have a5 : atI ((ms.set r1.toNat (x1 + (1 + r3))).map V.int) r2 = some (.int x2) := by
        have z := atI_nat (xs := (ms.set r1.toNat (x1 + (1 + r3))).map V.int) (j := r2.toNat) (v := .int x2) (by rw [List.getElem?_map, e5]; rfl)
        rw [Int.toNat_of_nonneg r20] at z
        exact z
      refine ⟨_, rfl, _, rfl, l, _, _, _, rfl, rfl, SqL.of h5, a5, _, rfl, _, _, rfl, rfl, _, rfl, _, rfl, l, _, _, r2.toNat, rfl, rfl, h5, ix_of r20 (by rw [List.length_map, ln5]; exact r21), ?_⟩
      refine ⟨_, _, _, _, (ms.set r1.toNat (x1 + (1 + r3))).set r2.toNat (x2 - (1 + r3)), rfl, s5.put la, k5.put hl, by rw [List.length_set, ln5, ml], am_set (am_set am1 (by omega) (by omega)) (by omega) (by omega), ?_⟩
      simp only [upd_same, List.map_set]
    · exact ⟨_, _, _, _, ms, rfl, s3, (k1.trans k2).trans k3, ml, am1, h3⟩
  · rintro σ H1 ⟨v4, v5, v6, v7, ms, rfl, s1, k1, ml, am1, h1⟩
    refine ⟨_, rfl, _, rfl, a, l, ms, rfl, s1, .inl (SqL.of h1), fun H' z => .inl (SqL.of (z _ _ la h1)), by omega, fun p ys H2 pm s2 k2 hp => ?_⟩
    exact k p ys H2 (by rw [pm.length_eq, ml]) (fun r hr => am1 r (pm.mem_iff.mp hr)) s2 (k1.trans k2) hp
def spOther : Sp := fun vs H Q _ => ∃ (a t : Addr) (ns : List Int), vs = [.ref a, .ref t] ∧ Src H a ∧ H t = some (.tup (ns.map V.int)) ∧ Am ns ∧ 2 ≤ ns.length ∧ ns.length ≤ 6 ∧ OutAm a ns.length H Q
abbrev st_l_other : Stmt := top 29
theorem sc_l_other : FnScope ["_law_source_here", "_law_row", "_law_way", "_law_left", "_law_one", "_law_two", "_law_at"] ["_law_source_here", "_law_row"] (defScope st_l_other) := ⟨rfl, rfl, rfl, by decide +kernel, rfl, by decide +kernel, by decide +kernel⟩
theorem ok_other (B : Bn mg) (c_l_draw : Cal P w K mg base 1 "_law_draw" ["_law_source_here", "_law_many"] spDraw) (c_l_mixed : Cal P w K mg base 2 "_law_mixed" ["_law_source_here", "_law_values"] (spMixed K)) (c_l_calmed : Cal P w K mg base 3 "_law_calmed" ["_law_source_here", "_law_row", "_law_turns"] spCalmed) (c_l_amounts : Cal P w K mg base 3 "_law_amounts" ["_law_source_here", "_law_many"] spAmounts) (D : Df K mg "_law_other" st_l_other ["_law_source_here", "_law_row"]) : Cal P w K mg base 4 "_law_other" ["_law_source_here", "_law_row"] spOther := by
  refine D.cal sc_l_other (fun vs H Q E h => ?_) (fun f cdv A out s H vs Q E hr h => ?_)
  · obtain ⟨a, t, ns, rfl, _⟩ := h
    rfl
  obtain ⟨a, t, ns, rfl, src, ht, am, l2, l6, k⟩ := h
  have ta : t ≠ a := src.neT ht
  refine ⟨_, (pss_cons (ps_set (i := 2) sc_l_other.nd rfl (.inl rfl) (pe_fn c_l_draw (hr.mono (by decide)) (pa_cons (pv 0) (pa_cons pe_int pa_nil))))
   (pss_cons (ps_if (pt_cmpR op_lt (pv 2) pe_int (nomark _)) (pss_one (ps_ret (pe_fn c_l_calmed (hr.mono (by decide)) (pa_cons (pv 0) (pa_cons (pv 1) (pa_cons (pe_op op_add pe_int (pe_fn c_l_draw (hr.mono (by decide)) (pa_cons (pv 0) (pa_cons pe_int pa_nil)))) pa_nil)))))) pss_nil)
   (pss_cons (ps_if (pt_cmpR op_eq (pv 2) pe_int (nomark _)) (pss_one (ps_ret (pe_fn c_l_mixed (hr.mono (by decide)) (pa_cons (pv 0) (pa_cons (pv 1) pa_nil))))) pss_nil)
   (pss_cons (ps_if (pt_cmpR op_eq (pv 2) pe_int (nomark _)) (pss_cons (ps_par3 (i := 3) (j := 4) (l := 5) (by rfl) sc_l_other.nd rfl rfl rfl (by decide) (by decide) (by decide) rfl rfl rfl (pa_cons (pe_callTy call_list_of (by rfl) B.n_list (by decide +kernel) (pa_cons (pv 1) pa_nil)) (pa_cons (pe_fn c_l_draw (hr.mono (by decide)) (pa_cons (pv 0) (pa_cons (pe_callB call_len_seq (by rfl) B.n_len (by decide +kernel) (pa_cons (pv 1) pa_nil)) pa_nil))) (pa_cons (pe_fn c_l_draw (hr.mono (by decide)) (pa_cons (pv 0) (pa_cons (pe_callB call_len_seq (by rfl) B.n_len (by decide +kernel) (pa_cons (pv 1) pa_nil)) pa_nil))) pa_nil))) (by rfl))
   (pss_cons (ps_if (PW.pt (pw_and (pt_cmpR op_gt (pe_ix ix_list (pv 3) (pv 4) (fun _ _ => rfl)) pe_int (nomark _)) (pw_and1 (pt_cmpR op_lt (pe_ix ix_list (pv 3) (pv 5) (fun _ _ => rfl)) pe_int (nomark _))))) (pss_cons (ps_asg (pe_op op_sub (pe_ix ix_list (pv 3) (pv 4) (fun _ _ => rfl)) pe_int) (pg_sub (pv 3) (pv 4) set_list))
   (pss_one (ps_asg (pe_op op_add (pe_ix ix_list (pv 3) (pv 5) (fun _ _ => rfl)) pe_int) (pg_sub (pv 3) (pv 5) set_list)))) pss_nil)
   (pss_one (ps_ret (pe_callTy call_tuple_of (by rfl) B.n_tuple (by decide +kernel) (pa_cons (pv 3) pa_nil)))))) pss_nil)
   (pss_cons (ps_if (pt_cmpR op_eq (pv 2) pe_int (nomark _)) (pss_cons (ps_par (i := 3) (j := 6) (by rfl) sc_l_other.nd rfl rfl (by decide) rfl rfl (pa_cons (pe_callTy call_list_of (by rfl) B.n_list (by decide +kernel) (pa_cons (pv 1) pa_nil)) (pa_cons (pe_fn c_l_draw (hr.mono (by decide)) (pa_cons (pv 0) (pa_cons (pe_callB call_len_seq (by rfl) B.n_len (by decide +kernel) (pa_cons (pv 1) pa_nil)) pa_nil))) pa_nil)) (by rfl))
   (pss_cons (ps_asg (pe_callB (call_min2 rfl) (by rfl) B.n_min (by decide +kernel) (pa_cons pe_int (pa_cons (pe_op op_add (pe_ix ix_list (pv 3) (pv 6) (fun _ _ => rfl)) pe_int) pa_nil))) (pg_sub (pv 3) (pv 6) set_list))
   (pss_one (ps_ret (pe_fn c_l_mixed (hr.mono (by decide)) (pa_cons (pv 0) (pa_cons (pv 3) pa_nil))))))) pss_nil)
   (pss_one (ps_ret (pe_fn c_l_amounts (hr.mono (by decide)) (pa_cons (pv 0) (pa_cons (pe_callB call_len_seq (by rfl) B.n_len (by decide +kernel) (pa_cons (pv 1) pa_nil)) pa_nil)))))))))), ?_⟩
  refine ⟨_, rfl, a, 6, rfl, src, by decide, by decide, fun way H1 w0 w1 s1 k1 => ?_⟩
  have h1 := k1 _ _ ta ht
  refine ⟨_, rfl, _, _, rfl, rfl, _, rfl, ite2 (fun c => ?_) (fun c => ?_)⟩
  · refine ⟨_, rfl, _, rfl, _, rfl, a, 6, rfl, s1, by decide, by decide, fun r H2 r0 r1 s2 k2 => ⟨_, _, rfl, rfl, ?_⟩⟩
    refine ⟨a, t, ns, (1 + r).toNat, ?_, s2, k2 _ _ ta h1, am, by omega, l6, by omega, fun p ms H3 e am3 s3 k3 hp => k p ms H3 e am3 s3 ((k1.trans k2).trans k3) hp⟩
    have e : (((1 + r).toNat : Nat) : Int) = 1 + r := by omega
    rw [e]
    rfl
  refine ⟨_, rfl, rfl, _, rfl, ite2 (fun c => ?_) (fun c => ?_)⟩
  · refine ⟨_, rfl, _, rfl, a, t, ns, rfl, s1, .inr (SqT.of h1), fun H' z => .inr (SqT.of (z _ _ ta h1)), by omega, fun p ms H2 pm s2 k2 hp => ?_⟩
    exact k p ms H2 pm.length_eq (fun r hr => am r (pm.mem_iff.mp hr)) s2 (k1.trans k2) hp
  refine ⟨_, rfl, rfl, _, rfl, ite2 (fun c => ?_) (fun c => ?_)⟩
  · refine ⟨_, rfl, t, _, rfl, .inr (SqT.of h1), fun l hl => ?_⟩
    have la : l ≠ a := s1.ne hl
    generalize hH2 : upd H1 l _ = H2
    have s2 : Src H2 a := by rw [← hH2]; exact s1.upd hl
    have k2 : Kp a H1 H2 := by rw [← hH2]; exact (Kp.refl a H1).new hl
    have hL : H2 l = some (.lst (ns.map V.int)) := by rw [← hH2, upd_same]
    have ht2 := k2 _ _ ta h1
    have hl0 : H l = none := k1.free la hl
    refine ⟨_, rfl, _, rfl, t, _, rfl, .inr (SqT.of ht2), a, ns.length, by rw [List.length_map]; rfl, s2, by omega, by omega, fun r1 H3 r10 r11 s3 k3 => ?_⟩
    have ht3 := k3 _ _ ta ht2
    refine ⟨_, rfl, _, rfl, t, _, rfl, .inr (SqT.of ht3), a, ns.length, by rw [List.length_map]; rfl, s3, by omega, by omega, fun r2 H4 r20 r21 s4 k4 => ?_⟩
    have hL5 := k4 _ _ la (k3 _ _ la hL)
    have kk : Kp a H H4 := ((k1.trans k2).trans k3).trans k4
    refine ⟨_, _, _, rfl, ?_⟩
    obtain ⟨x1, e1, m1, a1⟩ := at_int r10 r11
    obtain ⟨x2, e2, m2, a2⟩ := at_int r20 r21
    obtain ⟨b10, b11⟩ := am _ m1
    obtain ⟨b20, b21⟩ := am _ m2
    have fin : ∀ (ms : List Int) (H6 : Hp), ms.length = ns.length → Am ms → Src H6 a → Kp a H H6 → H6 l = some (.lst (ms.map V.int)) → ∃ p ys, [V.ref l] = [V.ref p] ∧ ((SqL K H6 p ys ∧ ∀ z, H6 z = none → Q (.ref z) (upd H6 z (.tup ys))) ∨ (SqT K H6 p ys ∧ Q (.ref p) H6)) :=
      fun ms H6 e am6 s6 k6 h6 => ⟨l, _, rfl, .inl ⟨SqL.of h6, fun z hz => k z ms _ e am6 (s6.upd hz) (k6.new hz) upd_same⟩⟩
    refine ⟨_, rfl, _, rfl, l, _, _, _, rfl, rfl, SqL.of hL5, a1, _, _, rfl, rfl, _, rfl, ite2 (fun c1 => ?_) (fun c1 => ?_)⟩
    · have c1' : 0 < x1 := of_decide_eq_true c1
      refine ⟨_, rfl, _, rfl, l, _, _, _, rfl, rfl, SqL.of hL5, a2, _, _, rfl, rfl, _, rfl, ite2 (fun c2 => ?_) (fun c2 => ?_)⟩
      · have c2' : x2 < 30 := of_decide_eq_true c2
        refine ⟨_, rfl, _, rfl, l, _, _, _, rfl, rfl, SqL.of hL5, a1, _, _, rfl, rfl, _, rfl, _, rfl, l, _, _, r1.toNat, rfl, rfl, hL5, ix_of r10 (by rw [List.length_map]; exact r11), ?_⟩
        generalize hH6 : upd H4 l _ = H6
        have h6 : H6 l = some (.lst ((ns.set r1.toNat (x1 - 1)).map V.int)) := by rw [← hH6, upd_same, List.map_set]
        have s6 : Src H6 a := by rw [← hH6]; exact s4.put la
        have k6 : Kp a H H6 := by rw [← hH6]; exact kk.put hl0
        have ln6 : (ns.set r1.toNat (x1 - 1)).length = ns.length := List.length_set
        have am6 : Am (ns.set r1.toNat (x1 - 1)) := am_set am (by omega) (by omega)
        obtain ⟨y2, f2, n2, g2⟩ := at_int (ms := ns.set r1.toNat (x1 - 1)) r20 (by rw [ln6]; exact r21)
        have y30 : 0 ≤ y2 ∧ y2 < 30 := by
          refine ⟨(am6 _ n2).1, ?_⟩
          by_cases rr : r1.toNat = r2.toNat
          · rw [rr, List.getElem?_set_self (by omega)] at f2
            have := Option.some.inj f2
            omega
          · rw [List.getElem?_set_ne rr, e2] at f2
            have := Option.some.inj f2
            omega
        refine ⟨_, rfl, _, rfl, l, _, _, _, rfl, rfl, SqL.of h6, g2, _, _, rfl, rfl, _, rfl, _, rfl, l, _, _, r2.toNat, rfl, rfl, h6, ix_of r20 (by rw [List.length_map, ln6]; exact r21), ?_⟩
        refine ⟨_, rfl, fin ((ns.set r1.toNat (x1 - 1)).set r2.toNat (y2 + 1)) _ (by rw [List.length_set, ln6]) (am_set am6 (by omega) (by omega)) (s6.put la) (k6.put hl0) ?_⟩
        simp only [upd_same, List.map_set]
      · exact ⟨_, rfl, fin ns H4 rfl am s4 kk hL5⟩
    · exact ⟨_, rfl, fin ns H4 rfl am s4 kk hL5⟩
  refine ⟨_, rfl, rfl, _, rfl, ite2 (fun c => ?_) (fun c => ?_)⟩
  · refine ⟨_, rfl, t, _, rfl, .inr (SqT.of h1), fun l hl => ?_⟩
    have la : l ≠ a := s1.ne hl
    generalize hH2 : upd H1 l _ = H2
    have s2 : Src H2 a := by rw [← hH2]; exact s1.upd hl
    have k2 : Kp a H1 H2 := by rw [← hH2]; exact (Kp.refl a H1).new hl
    have hL : H2 l = some (.lst (ns.map V.int)) := by rw [← hH2, upd_same]
    have ht2 := k2 _ _ ta h1
    have hl0 : H l = none := k1.free la hl
    refine ⟨_, rfl, _, rfl, t, _, rfl, .inr (SqT.of ht2), a, ns.length, by rw [List.length_map]; rfl, s2, by omega, by omega, fun r1 H3 r10 r11 s3 k3 => ⟨_, _, rfl, ?_⟩⟩
    have hL3 := k3 _ _ la hL
    obtain ⟨x1, e1, m1, a1⟩ := at_int r10 r11
    obtain ⟨b10, b11⟩ := am _ m1
    refine ⟨_, rfl, _, rfl, l, _, _, _, rfl, rfl, SqL.of hL3, a1, _, _, rfl, rfl, _, _, rfl, _, rfl, _, rfl, l, _, _, r1.toNat, rfl, rfl, hL3, ix_of r10 (by rw [List.length_map]; exact r11), ?_⟩
    generalize hz : (if x1 + 1 < 30 then x1 + 1 else 30) = z
    have z1 : 0 ≤ z ∧ z ≤ 30 := by
      rw [← hz]
      split <;> omega
    have h4 : upd H3 l (.lst ((ns.map V.int).set r1.toNat (.int z))) l = some (.lst ((ns.set r1.toNat z).map V.int)) := by rw [upd_same, List.map_set]
    refine ⟨_, rfl, _, rfl, a, l, ns.set r1.toNat z, rfl, s3.put la, .inl (SqL.of h4), fun H' q => .inl (SqL.of (q _ _ la h4)), by rw [List.length_set]; omega, fun p ms H5 pm s5 k5 hp => ?_⟩
    have am4 : Am (ns.set r1.toNat z) := am_set am z1.1 z1.2
    exact k p ms H5 (by rw [pm.length_eq, List.length_set]) (fun r hr => am4 r (pm.mem_iff.mp hr)) s5 ((((k1.trans k2).trans k3).put hl0).trans k5) hp
  · refine ⟨_, rfl, _, rfl, t, _, rfl, .inr (SqT.of h1), a, ns.length, by rw [List.length_map]; rfl, s1, l2, l6, fun p ms H2 e am2 s2 k2 hp => ?_⟩
    exact k p ms H2 e am2 s2 (k1.trans k2) hp
end
end Pl
namespace Pl
open PySem PySem.Spec PyProof.Rows L2
/-- what repr can show -/
def Shw (d : PyData) : Prop := d.showable = true ∧ d.hasDict = false ∧ d.depth ≤ 60 ∧ d.shown.length ≤ sizeLine
def spEqual (K : PySem.W.Frag) : Sp := fun vs H Q _ => ∃ (p q : Addr) (d e : PyData), vs = [.ref p, .ref q] ∧ Dp K H (.ref p) d ∧ Dp K H (.ref q) e ∧ Shw d ∧ Shw e ∧ Q (.bl (decide (V.str d.shown = V.str e.shown))) H
section
variable {P : Program} {w : World} {K : PySem.W.Frag} {mg : Str → Option Value} {base : Heap} {CShare : Addr}
abbrev st_l_is_equal : Stmt := top 23
theorem sc_l_is_equal : FnScope ["_law_actual", "_law_expected"] ["_law_actual", "_law_expected"] (defScope st_l_is_equal) := ⟨rfl, rfl, rfl, by decide +kernel, rfl, by decide +kernel, by decide +kernel⟩
theorem ok_equal (B : Bn mg) (D : Df K mg "_law_is_equal" st_l_is_equal ["_law_actual", "_law_expected"]) : CalG P w K mg base 1 "_law_is_equal" ["_law_actual", "_law_expected"] (spEqual K) := by
  refine D.calG sc_l_is_equal (fun vs H Q E h => ?_) (fun f cdv A out s H vs Q E gd hr h => ?_)
  · obtain ⟨p, q, d, e, rfl, _⟩ := h
    rfl
  obtain ⟨p, q, d, e, rfl, dp, dq, ⟨a1, a2, a3, a4⟩, ⟨b1, b2, b3, b4⟩, k⟩ := h
  refine ⟨_, (pss_one (ps_ret (pe_cmpR op_eq (pe_callB (call_reprD gd (un66 hr)) (by rfl) B.n_repr (by decide +kernel) (pa_cons (pv 0) pa_nil)) (pe_callB (call_reprD gd (un66 hr)) (by rfl) B.n_repr (by decide +kernel) (pa_cons (pv 1) pa_nil)) (nomark _)))), ?_⟩
  exact ⟨_, rfl, p, d, rfl, dp, a1, a2, a3, a4, _, rfl, q, e, rfl, dq, b1, b2, b3, b4, rfl, k⟩
end
end Pl
namespace Pl
open PySem PySem.Spec PyProof.Rows L2
theorem calm_self (ns : List Int) : calm ns ns = true := by simp [calm]
def bd (bs : List Bool) : PyData := .list (bs.map PyData.bool)
theorem dpBools (K : PySem.W.Frag) (H : Hp) : ∀ bs : List Bool, DpAll K H (bs.map V.bl) (bs.map PyData.bool)
  | [] => .nil
  | b :: bs => .cons (.bl b) (dpBools K H bs)
theorem shw6 (a b c d e f : Bool) : Shw (bd [a, b, c, d, e, f]) := by
  cases a <;> cases b <;> cases c <;> cases d <;> cases e <;> cases f <;> exact ⟨by decide +kernel, by decide +kernel, by decide +kernel, by decide +kernel⟩
def spRight : Sp := fun vs H Q _ => ∃ (t1 t2 : Addr) (ns ms : List Int), vs = [.ref t1, .ref t2] ∧ H t1 = some (.tup (ns.map V.int)) ∧ H t2 = some (.tup (ms.map V.int)) ∧ Am ns ∧ Am ms ∧ 2 ≤ ns.length ∧ ns.length ≤ 6 ∧ ns.length = ms.length ∧ ∀ H', Same H H' → Q (.bl true) H'
section
variable {P : Program} {w : World} {K : PySem.W.Frag} {mg : Str → Option Value} {base : Heap} {CShare : Addr}
abbrev st_l_is_right : Stmt := top 30
theorem sc_l_is_right : FnScope ["_law_row", "_law_more", "_law_one", "_law_other_here", "_law_there", "_law_back", "_law_told"] ["_law_row", "_law_more"] (defScope st_l_is_right) := ⟨rfl, rfl, rfl, by decide +kernel, rfl, by decide +kernel, by decide +kernel⟩
theorem ok_right (SShare : ShK K mg CShare) (m_initShare : MCal P w K mg base 3 CShare "__init__" ["self", "amounts"] (spInit CShare)) (c_l_calms : Cal P w K mg base 2 "_law_calms" ["_law_one", "_law_other_here"] spCalms) (c_is_calm : Cal P w K mg base 4 "is_calm" ["one", "other"] (spCalm CShare)) (c_is_calmer : Cal P w K mg base 5 "is_calmer" ["one", "other"] (spCalmer CShare))
    (c_l_is_equal : CalG P w K mg base 1 "_law_is_equal" ["_law_actual", "_law_expected"] (spEqual K)) (D : Df K mg "_law_is_right" st_l_is_right ["_law_row", "_law_more"]) : CalG P w K mg base 6 "_law_is_right" ["_law_row", "_law_more"] spRight := by
  refine D.calG sc_l_is_right (fun vs H Q E h => ?_) (fun f cdv A out s H vs Q E gd hr h => ?_)
  · obtain ⟨t1, t2, ns, ms, rfl, _⟩ := h
    rfl
  obtain ⟨t1, t2, ns, ms, rfl, h1, h2, am1, am2, l2, l6, ln, k⟩ := h
  refine ⟨_, (pss_cons (ps_par (i := 2) (j := 3) (by rfl) sc_l_is_right.nd rfl rfl (by decide) rfl rfl (pa_cons (pe_mk m_initShare SShare.mks SShare.kc SShare.mgC (hr.mono (by decide)) (pa_cons (pv 0) pa_nil)) (pa_cons (pe_mk m_initShare SShare.mks SShare.kc SShare.mgC (hr.mono (by decide)) (pa_cons (pv 1) pa_nil)) pa_nil)) (by rfl))
   (pss_cons (ps_par (i := 4) (j := 5) (by rfl) sc_l_is_right.nd rfl rfl (by decide) rfl rfl (pa_cons (pe_fn c_l_calms (hr.mono (by decide)) (pa_cons (pv 0) (pa_cons (pv 1) pa_nil))) (pa_cons (pe_fn c_l_calms (hr.mono (by decide)) (pa_cons (pv 1) (pa_cons (pv 0) pa_nil))) pa_nil)) (by rfl))
   (pss_cons (ps_set (i := 6) sc_l_is_right.nd rfl (.inl rfl) (pe_lst (pa_cons (pe_fn c_is_calm (hr.mono (by decide)) (pa_cons (pv 2) (pa_cons (pv 3) pa_nil))) (pa_cons (pe_fn c_is_calm (hr.mono (by decide)) (pa_cons (pv 3) (pa_cons (pv 2) pa_nil))) (pa_cons (pe_fn c_is_calmer (hr.mono (by decide)) (pa_cons (pv 2) (pa_cons (pv 3) pa_nil))) (pa_cons (pe_fn c_is_calmer (hr.mono (by decide)) (pa_cons (pv 3) (pa_cons (pv 2) pa_nil))) pa_nil))))))
   (pss_cons (ps_set (i := 6) sc_l_is_right.nd rfl (.inl rfl) (pe_op op_cat (pv 6) (pe_lst (pa_cons (pe_fn c_is_calm (hr.mono (by decide)) (pa_cons (pv 2) (pa_cons (pv 2) pa_nil))) (pa_cons (pe_fn c_is_calmer (hr.mono (by decide)) (pa_cons (pv 2) (pa_cons (pv 2) pa_nil))) pa_nil)))))
   (pss_one (ps_ret (pe_fnG c_l_is_equal gd (hr.mono (by decide)) (pa_cons (pv 6) (pa_cons (pe_lst (pa_cons (pv 4) (pa_cons (pv 5) (pa_cons (pe_and (pv 4) (pe_one (pe_not (pv 5)))) (pa_cons (pe_and (pv 5) (pe_one (pe_not (pv 4)))) (pa_cons pe_bl (pa_cons pe_bl pa_nil))))))) pa_nil))))))))), ?_⟩
  refine ⟨_, rfl, fun o1 d1 n1 m1 _ => mk_at n1 m1 h1 l2 l6 am1 fun H1 k1 sh1 => ?_⟩
  refine ⟨_, rfl, fun o2 d2 n2 m2 _ => mk_at n2 m2 (k1 _ _ h2) (by omega) (by omega) am2 fun H2 k2 sh2 => ⟨_, _, rfl, ?_⟩⟩
  have kk := k1.trans k2
  refine ⟨_, rfl, _, rfl, t1, t2, ns, ms, rfl, kk _ _ h1, kk _ _ h2, l6, ln, fun H3 k3 => ?_⟩
  have kk3 := kk.trans k3
  refine ⟨_, rfl, _, rfl, t2, t1, ms, ns, rfl, kk3 _ _ h2, kk3 _ _ h1, by omega, ln.symm, fun H4 k4 => ⟨_, _, rfl, ?_⟩⟩
  have a4 := ((sh1.same k2).same k3).same k4
  have b4 := (sh2.same k3).same k4
  have kk4 := kk3.trans k4
  refine ⟨_, rfl, _, rfl, o1, t1, o2, t2, ns, ms, rfl, a4, b4, ln, fun H5 k5 => ?_⟩
  refine ⟨_, rfl, _, rfl, o2, t2, o1, t1, ms, ns, rfl, b4.same k5, a4.same k5, ln.symm, fun H6 k6 => ?_⟩
  have a6 := (a4.same k5).same k6
  have b6 := (b4.same k5).same k6
  refine ⟨_, rfl, _, rfl, o1, t1, o2, t2, ns, ms, rfl, a6, b6, ln, fun H7 k7 => ?_⟩
  refine ⟨_, rfl, _, rfl, o2, t2, o1, t1, ms, ns, rfl, b6.same k7, a6.same k7, ln.symm, fun H8 k8 => ⟨(by show 4 ≤ sizeLine; decide), fun p hp => ?_⟩⟩
  have a8 := (a6.same k7).same k8
  have kk8 := (((kk4.trans k5).trans k6).trans k7).trans k8
  have k9 : Same H8 (upd H8 p (.lst [.bl (calm ns ms), .bl (calm ms ns), .bl (calm ns ms && !calm ms ns), .bl (calm ms ns && !calm ns ms)])) := same_new (Same.refl H8) hp
  refine ⟨_, rfl, _, rfl, _, rfl, o1, t1, o1, t1, ns, ns, rfl, a8.same k9, a8.same k9, rfl, fun H10 k10 => ?_⟩
  refine ⟨_, rfl, _, rfl, o1, t1, o1, t1, ns, ns, rfl, (a8.same k9).same k10, (a8.same k9).same k10, rfl, fun H11 k11 => ⟨(by show 2 ≤ sizeLine; decide), fun q hq => ?_⟩⟩
  have hp11 := k11 _ _ (k10 _ _ (show upd H8 p _ p = _ from upd_same))
  have k12 : Same H11 (upd H11 q (.lst [.bl (calm ns ns), .bl (calm ns ns && !calm ns ns)])) := same_new (Same.refl H11) hq
  refine ⟨p, q, _, _, rfl, rfl, k12 _ _ hp11, upd_same, (by show 6 ≤ sizeLine; decide), fun z hz => ?_⟩
  have fin : ∀ H', Same H11 H' → Q (.bl true) H' := fun H' y => k H' ((((kk8.trans k9).trans k10).trans k11).trans y)
  rw [calm_self ns] at *
  generalize hH13 : upd (upd H11 q _) z _ = H13
  have k13 : Same H11 H13 := by rw [← hH13]; exact same_new (same_new (Same.refl H11) hq) hz
  have hz13 : H13 z = some (.lst ([calm ns ms, calm ms ns, calm ns ms && !calm ms ns, calm ms ns && !calm ns ms, true, false].map V.bl)) := by rw [← hH13, upd_same]; rfl
  clear hH13 k12 hp11 k9
  generalize calm ns ms = x at *
  generalize calm ms ns = y at *
  have last : ∀ (u : Addr), H13 u = none → spEqual K ([.ref z, .ref u] ++ []) (upd H13 u (.lst ([x, y, x && !y, y && !x, true, false].map V.bl))) Q E0 := fun u hu => by
    have k14 : Same H13 (upd H13 u (.lst ([x, y, x && !y, y && !x, true, false].map V.bl))) := same_new (Same.refl H13) hu
    refine ⟨z, u, bd [x, y, x && !y, y && !x, true, false], bd [x, y, x && !y, y && !x, true, false], rfl, .lst (SqL.of (k14 _ _ hz13)) (dpBools _ _ _), .lst (SqL.of upd_same) (dpBools _ _ _), shw6 _ _ _ _ _ _, shw6 _ _ _ _ _ _, ?_⟩
    rw [decide_eq_true rfl]
    exact fin _ (k13.trans k14)
  refine ⟨_, rfl, _, rfl, _, rfl, _, rfl, x, rfl, ?_⟩
  cases x <;> cases y
  · exact iteF ⟨_, rfl, _, rfl, iteF ⟨(by show 6 ≤ sizeLine; decide), last⟩⟩
  · exact iteF ⟨_, rfl, _, rfl, iteT ⟨_, rfl, _, rfl, ⟨(by show 6 ≤ sizeLine; decide), last⟩⟩⟩
  · exact iteT ⟨_, rfl, _, rfl, _, rfl, _, rfl, iteF ⟨(by show 6 ≤ sizeLine; decide), last⟩⟩
  · exact iteT ⟨_, rfl, _, rfl, _, rfl, _, rfl, iteT ⟨_, rfl, _, rfl, ⟨(by show 6 ≤ sizeLine; decide), last⟩⟩⟩
end
end Pl
namespace Pl
open PySem PySem.Spec PyProof.Rows L2
def spLaw (K : PySem.W.Frag) : Sp := fun vs H Q _ => ∃ (a : Addr) (ns : List Int), vs = [.ref a] ∧ SqL K H a (ns.map V.int) ∧ ns.length ≤ 63 ∧ ∀ H', Q (.bl true) H'
theorem Kp.same {p : Addr} {H H' : Hp} (k : Kp p H H') (n : H p = none) : Same H H' := fun b o e => k b o (ne_of_none e n) e
section
variable {P : Program} {w : World} {K : PySem.W.Frag} {mg : Str → Option Value} {base : Heap} {CShare : Addr}
abbrev st_law : Stmt := top 31
theorem sc_law : FnScope ["_law_script", "_law_k", "_law_source_here", "_law_lap", "_law_row"] ["_law_script"] (defScope st_law) := ⟨rfl, rfl, rfl, by decide +kernel, rfl, by decide +kernel, by decide +kernel⟩
theorem ok_law (B : Bn mg) (c_l_cell : Cal P w K mg base 1 "_law_cell" ["_law_script", "_law_index"] (spCell K)) (c_l_source : Cal P w K mg base 1 "_law_source" ["_law_cell_here"] spSource) (c_l_draw : Cal P w K mg base 1 "_law_draw" ["_law_source_here", "_law_many"] spDraw) (c_l_amounts : Cal P w K mg base 3 "_law_amounts" ["_law_source_here", "_law_many"] spAmounts) (c_l_other : Cal P w K mg base 4 "_law_other" ["_law_source_here", "_law_row"] spOther)
    (c_l_is_right : CalG P w K mg base 6 "_law_is_right" ["_law_row", "_law_more"] spRight) (D : Df K mg "law" st_law ["_law_script"]) : CalG P w K mg base 7 "law" ["_law_script"] (spLaw K) := by
  refine D.calG sc_law (fun vs H Q E h => ?_) (fun f cdv A out s H vs Q E gd hr h => ?_)
  · obtain ⟨a, ns, rfl, _⟩ := h
    rfl
  obtain ⟨a, ns, rfl, sq, l63, k⟩ := h
  refine ⟨_, (pss_one (ps_try_thru0 (pss_cons (ps_for PassesOwn.never rfl (pi_range1 (by rfl) B.n_range (pa_cons (pe_callB (call_max2 rfl) (by rfl) B.n_max (by decide +kernel) (pa_cons pe_int (pa_cons (pe_callB (call_min2 rfl) (by rfl) B.n_min (by decide +kernel) (pa_cons (pe_callB call_len_seq (by rfl) B.n_len (by decide +kernel) (pa_cons (pv 0) pa_nil)) (pa_cons pe_int pa_nil))) pa_nil))) pa_nil)) (pg_name (i := 1) sc_law.nd rfl (.inl rfl))
   (pss_cons (ps_set (i := 2) sc_law.nd rfl (.inl rfl) (pe_fn c_l_source (hr.mono (by decide)) (pa_cons (pe_fn c_l_cell (hr.mono (by decide)) (pa_cons (pv 0) (pa_cons (pv 1) pa_nil))) pa_nil)))
   (pss_one (ps_for PassesOwn.never rfl (pi_range1 (by rfl) B.n_range (pa_cons pe_int pa_nil)) (pg_name (i := 3) sc_law.nd rfl (.inl rfl))
   (pss_cons (ps_set (i := 4) sc_law.nd rfl (.inl rfl) (pe_fn c_l_amounts (hr.mono (by decide)) (pa_cons (pv 2) (pa_cons (pe_op op_add pe_int (pe_fn c_l_draw (hr.mono (by decide)) (pa_cons (pv 2) (pa_cons pe_int pa_nil)))) pa_nil))))
   (pss_one (ps_if (pt_not (pt_val (pe_fnG c_l_is_right gd (hr.mono (by decide)) (pa_cons (pv 4) (pa_cons (pe_fn c_l_other (hr.mono (by decide)) (pa_cons (pv 2) (pa_cons (pv 4) pa_nil))) pa_nil))))) (pss_one (ps_ret pe_bl)) pss_nil)))))))
   (pss_one (ps_ret pe_bl))))), ?_⟩
  refine ⟨_, rfl, a, _, rfl, .inl sq, _, _, rfl, _, _, rfl, _, rfl, ?_, ?_, ?_⟩
  · split <;> split <;> omega
  · split <;> split <;> omega
  generalize (Int.toNat _) = n
  refine for_range (lo := 0) (n := n) (fun i σ H' => ∃ v1 v2 v3 v4 : Option V, σ = [some (.ref a), v1, v2, v3, v4] ∧ Same H H') ⟨none, none, none, none, rfl, Same.refl H⟩ ?_ (fun σ H' _ => k H')
  rintro i σ H1 _ ⟨v1, v2, v3, v4, rfl, k1⟩
  refine ⟨_, rfl, _, rfl, a, ns, _, rfl, k1.seq sq, by omega, fun c => ⟨c, rfl, fun p H2 np src k2 => ?_⟩⟩
  refine ⟨16, rfl, by decide, by decide, ?_⟩
  refine for_range (lo := 0) (n := 16) (fun j σ H' => ∃ v3 v4 : Option V, σ = [some (.ref a), some (.int (0 + i)), some (.ref p), v3, v4] ∧ Src H' p ∧ Same H1 H') ⟨v3, v4, rfl, src, k2⟩ ?_ (fun σ H' ⟨v3, v4, e, _, k3⟩ => ⟨_, _, _, _, e, k1.trans k3⟩)
  rintro j σ H3 _ ⟨v3, v4, rfl, s3, k3⟩
  refine ⟨_, rfl, _, rfl, p, 5, rfl, s3, by decide, by decide, fun r H4 r0 r1 s4 k4 => ⟨_, _, rfl, rfl, ?_⟩⟩
  have e : (((2 + r).toNat : Nat) : Int) = 2 + r := by omega
  refine ⟨p, (2 + r).toNat, by rw [e]; rfl, s4, by omega, by omega, fun t ms H5 ml am s5 k5 ht => ?_⟩
  refine ⟨_, rfl, _, rfl, _, rfl, p, t, ms, rfl, s5, ht, am, by omega, by omega, fun u ys H6 yl am2 s6 k6 hu => ?_⟩
  refine ⟨t, u, ms, ys, rfl, k6 _ _ (s5.neT ht) ht, hu, am, am2, by omega, by omega, yl.symm, fun H7 k7 => ⟨_, rfl, iteF ?_⟩⟩
  refine ⟨_, _, rfl, s6.same k7, fun b o q => k7 _ _ ?_⟩
  have bp : b ≠ p := ne_of_none q np
  exact k6 _ _ bp (k5 _ _ bp (k4 _ _ bp (k3 _ _ q)))
end
end Pl
namespace Pl
open PySem PySem.Spec PyProof.Rows L2
theorem all_ok {P : Program} {w : World} {K : PySem.W.Frag} {mg : Str → Option Value} {h base : Heap} {CShare : Addr} (X : K.In h) (G : h.Ns mainGlobals mg) (aShare : PySem.W.nsIn K mainGlobals "Share" = some (some (.ref CShare))) (sShare : ShF K CShare) (fShare : CallF K CShare) (mShare_init : MhK K CShare "__init__" "Share.__init__" st_ShInit) (mShare_call : MhK K CShare "__call__" "Share.__call__" st_Sh_call) (mShare_len : MhK K CShare "__len__" "Share.__len__" st_Sh_len) (pShare_total : PhK K CShare "total" "Share.total" st_Sh_total) (d_is_integer_to : DfK K "is_integer_to" st_is_integer_to) (d_is_amounts : DfK K "is_amounts" st_is_amounts) (d_check_pair : DfK K "check_pair" st_check_pair) (d_is_calm : DfK K "is_calm" st_is_calm) (d_is_calmer : DfK K "is_calmer" st_is_calmer) (d_l_cell : DfK K "_law_cell" st_l_cell) (d_l_source : DfK K "_law_source" st_l_source) (d_l_draw : DfK K "_law_draw" st_l_draw) (d_l_choose : DfK K "_law_choose" st_l_choose) (d_l_is_equal : DfK K "_law_is_equal" st_l_is_equal) (d_l_amounts : DfK K "_law_amounts" st_l_amounts) (d_l_sums : DfK K "_law_sums" st_l_sums) (d_l_calms : DfK K "_law_calms" st_l_calms) (d_l_calmed : DfK K "_law_calmed" st_l_calmed) (d_l_mixed : DfK K "_law_mixed" st_l_mixed) (d_l_other : DfK K "_law_other" st_l_other) (d_l_is_right : DfK K "_law_is_right" st_l_is_right) (d_law : DfK K "law" st_law) (n_len : PySem.W.nsIn K mainGlobals "len" = some none) (n_range : PySem.W.nsIn K mainGlobals "range" = some none) (n_max : PySem.W.nsIn K mainGlobals "max" = some none) (n_min : PySem.W.nsIn K mainGlobals "min" = some none) (n_sum : PySem.W.nsIn K mainGlobals "sum" = some none) (n_sorted : PySem.W.nsIn K mainGlobals "sorted" = some none) (n_all : PySem.W.nsIn K mainGlobals "all" = some none) (n_isinstance : PySem.W.nsIn K mainGlobals "isinstance" = some none) (n_repr : PySem.W.nsIn K mainGlobals "repr" = some none) (n_tuple : PySem.W.nsIn K mainGlobals "tuple" = some none) (n_list : PySem.W.nsIn K mainGlobals "list" = some none) (n_int : PySem.W.nsIn K mainGlobals "int" = some none) (n_bool : PySem.W.nsIn K mainGlobals "bool" = some none) (n_zip : PySem.W.nsIn K mainGlobals "zip" = some none) (n_str : PySem.W.nsIn K mainGlobals "str" = some none) (c_FEWEST_STATES : ConI K "FEWEST_STATES" 2) (c_MOST_STATES : ConI K "MOST_STATES" 6) (c_MOST_IN_A_STATE : ConI K "MOST_IN_A_STATE" 30) :
    CalG P w K mg base 7 "law" ["_law_script"] (spLaw K) := by
  have B : Bn mg := ⟨PySem.W.mg_none_of X G n_len, PySem.W.mg_none_of X G n_range, PySem.W.mg_none_of X G n_max, PySem.W.mg_none_of X G n_min, PySem.W.mg_none_of X G n_sum, PySem.W.mg_none_of X G n_sorted, PySem.W.mg_none_of X G n_all, PySem.W.mg_none_of X G n_isinstance, PySem.W.mg_none_of X G n_repr, PySem.W.mg_none_of X G n_tuple, PySem.W.mg_none_of X G n_list, PySem.W.mg_none_of X G n_int, PySem.W.mg_none_of X G n_bool, PySem.W.mg_none_of X G n_zip, PySem.W.mg_none_of X G n_str⟩
  have Cc : Cn mg := ⟨c_FEWEST_STATES.mg X G, c_MOST_STATES.mg X G, c_MOST_IN_A_STATE.mg X G⟩
  have S : ShK K mg CShare := sShare.k fShare (PySem.W.mg_of X G aShare)
  have c_isint := ok_isint (P := P) (w := w) (base := base) B (d_is_integer_to.df X G (fun _ _ _ _ _ _ us hl => match us, hl with | [_, _], _ => rfl))
  have c_isam := ok_isam B Cc c_isint (d_is_amounts.df X G (fun _ _ _ _ _ _ us hl => match us, hl with | [_], _ => rfl))
  have m_init := ok_init S c_isam (mShare_init.mh (fun _ _ _ _ _ _ us hl => match us, hl with | [_, _], _ => rfl))
  have p_total := ok_total (P := P) (w := w) (base := base) B S (pShare_total.ph (fun _ _ _ _ _ _ us hl => match us, hl with | [_], _ => rfl))
  have m_len := ok_len (P := P) (w := w) (base := base) B S (mShare_len.mh (fun _ _ _ _ _ _ us hl => match us, hl with | [_], _ => rfl))
  have m_call := ok_call B S c_isint (mShare_call.mh (fun _ _ _ _ _ _ us hl => match us, hl with | [_, _], _ => rfl))
  have c_pair := ok_pair B S m_len (d_check_pair.df X G (fun _ _ _ _ _ _ us hl => match us, hl with | [_, _], _ => rfl))
  have c_calm := ok_calm B S c_pair m_len p_total m_call (d_is_calm.df X G (fun _ _ _ _ _ _ us hl => match us, hl with | [_, _], _ => rfl))
  have c_calmer := ok_calmer c_calm (d_is_calmer.df X G (fun _ _ _ _ _ _ us hl => match us, hl with | [_, _], _ => rfl))
  have c_cell := ok_cell (P := P) (w := w) (base := base) B (d_l_cell.df X G (fun _ _ _ _ _ _ us hl => match us, hl with | [_, _], _ => rfl))
  have c_source := ok_source (P := P) (w := w) (base := base) B (d_l_source.df X G (fun _ _ _ _ _ _ us hl => match us, hl with | [_], _ => rfl))
  have c_draw := ok_draw (P := P) (w := w) (base := base) (d_l_draw.df X G (fun _ _ _ _ _ _ us hl => match us, hl with | [_, _], _ => rfl))
  have c_choose := ok_choose B c_draw (d_l_choose.df X G (fun _ _ _ _ _ _ us hl => match us, hl with | [_, _], _ => rfl))
  have c_amounts := ok_amounts B c_draw c_choose (d_l_amounts.df X G (fun _ _ _ _ _ _ us hl => match us, hl with | [_, _], _ => rfl))
  have c_sums := ok_sums (P := P) (w := w) (base := base) B (d_l_sums.df X G (fun _ _ _ _ _ _ us hl => match us, hl with | [_], _ => rfl))
  have c_calms := ok_calms B c_sums (d_l_calms.df X G (fun _ _ _ _ _ _ us hl => match us, hl with | [_, _], _ => rfl))
  have c_mixed := ok_mixed B c_draw (d_l_mixed.df X G (fun _ _ _ _ _ _ us hl => match us, hl with | [_, _], _ => rfl))
  have c_calmed := ok_calmed B c_draw c_mixed (d_l_calmed.df X G (fun _ _ _ _ _ _ us hl => match us, hl with | [_, _, _], _ => rfl))
  have c_other := ok_other B c_draw c_mixed c_calmed c_amounts (d_l_other.df X G (fun _ _ _ _ _ _ us hl => match us, hl with | [_, _], _ => rfl))
  have c_equal := ok_equal (P := P) (w := w) (base := base) B (d_l_is_equal.df X G (fun _ _ _ _ _ _ us hl => match us, hl with | [_, _], _ => rfl))
  have c_right := ok_right S m_init c_calms c_calm c_calmer c_equal (d_l_is_right.df X G (fun _ _ _ _ _ _ us hl => match us, hl with | [_, _], _ => rfl))
  exact ok_law B c_cell c_source c_draw c_amounts c_other c_right (d_law.df X G (fun _ _ _ _ _ _ us hl => match us, hl with | [_], _ => rfl))
end Pl
open PySem PySem.W PyProof.Rows in
set_option maxRecDepth 100000 in
set_option maxHeartbeats 0 in
theorem PySem.Challenge.cw_poolshares_k04_calm_and_calmer_shares_holds : PySem.Challenge.rw_poolshares_k04_calm_and_calmer_shares.Holds := by
  w_on; o_law; k_head; (case hw => w_witness2)
  k_fill
  refine Pl.walkG (l := PySem.Challenge.rw_poolshares_k04_calm_and_calmer_shares) (n := 63) (k := 7) (x := "_law_script") (sp := Pl.spLaw) rfl (by decide) rfl ⟨rfl, by decide, by decide⟩ (fun w h Y => PySem.W.kIn_of Y) ?F (fun K H a ns hl _ hS => ⟨a, ns, rfl, hS, hl, fun _ => rfl⟩)
  case F =>
    intro w mg fa h KX G hmg base kb nb
    refine' Pl.CalG.at (x := "law") (Pl.all_ok KX G ?aShare ?sShare ?fShare ?mShare_init ?mShare_call ?mShare_len ?pShare_total ?d_is_integer_to ?d_is_amounts ?d_check_pair ?d_is_calm ?d_is_calmer ?d_l_cell ?d_l_source ?d_l_draw ?d_l_choose ?d_l_is_equal ?d_l_amounts ?d_l_sums ?d_l_calms ?d_l_calmed ?d_l_mixed ?d_l_other ?d_l_is_right ?d_law ?n_len ?n_range ?n_max ?n_min ?n_sum ?n_sorted ?n_all ?n_isinstance ?n_repr ?n_tuple ?n_list ?n_int ?n_bool ?n_zip ?n_str ?c_FEWEST_STATES ?c_MOST_STATES ?c_MOST_IN_A_STATE) hmg
    (case aShare => k_is)
    (case sShare => refine' ⟨?pg, ?hd, ?po, ?sa, ?nB, ?mks, ?kc, ?ca, ?cg, ?ct, ?mro, ?kit⟩; (case pg => k_is); (case hd => k_is); (case po => k_is); (case sa => k_is); (case nB => k_is); (case mks => k_is); (case kc => k_is); (case ca => k_is); (case cg => k_is); (case ct => k_is); (case mro => k_is); (case kit => first | rfl | k_is))
    (case fShare => refine' Pl.CallF.of ?a ?i; (case a => k_is); (case i => k_is))
    (case mShare_init => refine' Pl.MhK.of ?a ?i ?l ?c ?k; (case a => k_is); (case i => k_is); (case l => k_is); (case c => k_is); (case k => k_is))
    (case mShare_call => refine' Pl.MhK.of ?a ?i ?l ?c ?k; (case a => k_is); (case i => k_is); (case l => k_is); (case c => k_is); (case k => k_is))
    (case mShare_len => refine' Pl.MhK.of ?a ?i ?l ?c ?k; (case a => k_is); (case i => k_is); (case l => k_is); (case c => k_is); (case k => k_is))
    (case pShare_total => refine' Pl.PhK.of ?a ?g ?t ?r ?l ?c ?k; (case a => k_is); (case g => k_is); (case t => k_is); (case r => k_is); (case l => k_is); (case c => k_is); (case k => k_is))
    (case d_is_integer_to => refine' Pl.DfK.of ?a ?l ?c ?k; (case a => k_is); (case l => k_is); (case c => k_is); (case k => k_is))
    (case d_is_amounts => refine' Pl.DfK.of ?a ?l ?c ?k; (case a => k_is); (case l => k_is); (case c => k_is); (case k => k_is))
    (case d_check_pair => refine' Pl.DfK.of ?a ?l ?c ?k; (case a => k_is); (case l => k_is); (case c => k_is); (case k => k_is))
    (case d_is_calm => refine' Pl.DfK.of ?a ?l ?c ?k; (case a => k_is); (case l => k_is); (case c => k_is); (case k => k_is))
    (case d_is_calmer => refine' Pl.DfK.of ?a ?l ?c ?k; (case a => k_is); (case l => k_is); (case c => k_is); (case k => k_is))
    (case d_l_cell => refine' Pl.DfK.of ?a ?l ?c ?k; (case a => k_is); (case l => k_is); (case c => k_is); (case k => k_is))
    (case d_l_source => refine' Pl.DfK.of ?a ?l ?c ?k; (case a => k_is); (case l => k_is); (case c => k_is); (case k => k_is))
    (case d_l_draw => refine' Pl.DfK.of ?a ?l ?c ?k; (case a => k_is); (case l => k_is); (case c => k_is); (case k => k_is))
    (case d_l_choose => refine' Pl.DfK.of ?a ?l ?c ?k; (case a => k_is); (case l => k_is); (case c => k_is); (case k => k_is))
    (case d_l_is_equal => refine' Pl.DfK.of ?a ?l ?c ?k; (case a => k_is); (case l => k_is); (case c => k_is); (case k => k_is))
    (case d_l_amounts => refine' Pl.DfK.of ?a ?l ?c ?k; (case a => k_is); (case l => k_is); (case c => k_is); (case k => k_is))
    (case d_l_sums => refine' Pl.DfK.of ?a ?l ?c ?k; (case a => k_is); (case l => k_is); (case c => k_is); (case k => k_is))
    (case d_l_calms => refine' Pl.DfK.of ?a ?l ?c ?k; (case a => k_is); (case l => k_is); (case c => k_is); (case k => k_is))
    (case d_l_calmed => refine' Pl.DfK.of ?a ?l ?c ?k; (case a => k_is); (case l => k_is); (case c => k_is); (case k => k_is))
    (case d_l_mixed => refine' Pl.DfK.of ?a ?l ?c ?k; (case a => k_is); (case l => k_is); (case c => k_is); (case k => k_is))
    (case d_l_other => refine' Pl.DfK.of ?a ?l ?c ?k; (case a => k_is); (case l => k_is); (case c => k_is); (case k => k_is))
    (case d_l_is_right => refine' Pl.DfK.of ?a ?l ?c ?k; (case a => k_is); (case l => k_is); (case c => k_is); (case k => k_is))
    (case d_law => refine' Pl.DfK.of ?a ?l ?c ?k; (case a => k_is); (case l => k_is); (case c => k_is); (case k => k_is))
    (case n_len => k_is)
    (case n_range => k_is)
    (case n_max => k_is)
    (case n_min => k_is)
    (case n_sum => k_is)
    (case n_sorted => k_is)
    (case n_all => k_is)
    (case n_isinstance => k_is)
    (case n_repr => k_is)
    (case n_tuple => k_is)
    (case n_list => k_is)
    (case n_int => k_is)
    (case n_bool => k_is)
    (case n_zip => k_is)
    (case n_str => k_is)
    (case c_FEWEST_STATES => refine' Pl.ConI.of ?a; (case a => k_is))
    (case c_MOST_STATES => refine' Pl.ConI.of ?a; (case a => k_is))
    (case c_MOST_IN_A_STATE => refine' Pl.ConI.of ?a; (case a => k_is))
#print axioms PySem.Challenge.cw_poolshares_k04_calm_and_calmer_shares_holds
