import PyProof.Rows.All
import Wide.All
import OpenK.AllK
import Wide.FinOn
import HandS.ForMost
import HandS.ForExc
import HandS.IsInst
import HandS.Star
import HandS.Property
import HandS.Walk
import HandS.Style
import HandS.Zip
import PyProof.ReprRoads
import KE.KTupSum
import KE.KOpsOwn
import KE.DataMinMax
import HandS.TryMany
import HandS.Flow
import PySem.Challenge.RW_poolshares_k03_shares_added
set_option Elab.async false
set_option linter.all false
set_option maxRecDepth 100000
set_option maxHeartbeats 2000000
/-! Own words over the hand layer: calls where nothing is being shown (guards empty), so that repr may be asked. -/
namespace Pl
open PySem PySem.Spec PyProof.Rows L2

/-- a def that keeps its promise wherever no repr is under way -/
structure FnG (P : Program) (w : World) (K : PySem.W.Frag) (mg : Str → Option Value) (base : Heap) (k : Nat) (f : Addr)
    (fd : FuncData) (ps : List Str) (sp : Sp) : Prop where
  lng : ∀ vs H Q E, sp vs H Q E → vs.length = ps.length
  go : ∀ (A : Around) (out : List Env) (s : Shared) (H : Hp) (ar : Args) (us : List Value) (vs : List V) (Q : VK) (E : XK),
    A.guards = some [] → Room k A → Env0 P w K mg base A out s H → BindsTo s fd ar (ps.zip us) → Vals vs us → sp vs H Q E →
    codeAny (model P w) A (.call (.ref f) ar) (CR CX0 out P w H s Q E) s

section
variable {P : Program} {w : World} {K : PySem.W.Frag} {mg : Str → Option Value} {base : Heap}
theorem okG {x qual : Str} {st : Stmt} {f : Addr} {fd : FuncData} {N ps : List Str} {k : Nat} {sp : Sp}
    (D : Fun K x qual st f fd) (S : FnScope N ps (defScope st)) (lng : ∀ vs H Q E, sp vs H Q E → vs.length = ps.length)
    (bod : ∀ (cdv : Value) (A : Around) (out : List Env) (s : Shared) (H : Hp) (vs : List V) (Q : VK) (E : XK),
      A.guards = some [] → Room k (A.deeper (envOfC qual (defScope st) s.heap.objs.size f cdv)) → sp vs H Q E →
      ∃ t, PSs (cxOf CX0 P w K mg base N qual (defScope st) f cdv A out s H E).nox (defBody st) t ∧
        t { nx := fun _ H' => Q .non H', rt := Q } (start N vs) H) :
    FnG P w K mg base (k + 1) f fd ps sp := by
  obtain ⟨oc, od, kV, doc, pm, an, cdv, ct, osl, rfl, lk, hcd⟩ := D.ex
  refine ⟨lng, fun A out s H ar us vs Q E gd rm e0 bt rv hs => ?_⟩
  have inK : K.In s.heap := e0.mod.kin.keeps fun b o q => (e0.bs b o q).1
  have nl : s.heap.NoLimit := e0.mod.nolimit.keeps fun b o q => (e0.bs b o q).1
  have kinds : ∀ y ∈ ps.zip us, (defScope st).names.lookup y.1 = some .local ∨
      ((defScope st).names.lookup y.1 = some .cell ∧
        ((cellsFrom (s.heap.objs.size + 1) (defScope st).names []).lookup y.1).isSome = true) := by
    rintro ⟨n, v⟩ hy
    rcases S.par n (List.of_mem_zip hy).1 with c | c
    · exact .inl c
    · exact .inr ⟨c, PySem.W.cellsFrom_some _ _ _ (.inl c)⟩
  refine codeAny_call_function rm.depth (inK _ _ lk) rfl S.co S.gen rfl (PySem.W.codeRec_of inK hcd) (bt _ _ _ _ ?_)
  refine wpAny_newFunctionEnv_cells S.kind kinds fun env he s1 ic => ?_
  subst he
  refine ⟨nl.keeps ic.toInCall.keep, codeAny_func ?_⟩
  obtain ⟨t, ht0, hq⟩ := bod cdv A out s H vs Q E gd (rm.deeper _) hs
  have ht := ht0.nox
  have I : Inv (cxOf CX0 P w K mg base N qual (defScope st) f cdv A out s H E) [] (start N vs) H s1 :=
    inv_start S rm.hd e0 (lng _ _ _ _ hs) rv ic
  refine wpAny_mono (ht.run [] s1 (start N vs) H _ I hq) (fun fl s' z => ?_) fun e s' z => z
  cases fl with
  | ret u =>
    obtain ⟨v, σ', H', J, r, q⟩ := z
    exact ⟨v, H', J.os, J.bare, J.base, J.hok, r, q⟩
  | next =>
    obtain ⟨σ', H', J, q⟩ := z
    exact ⟨V.non, H', J.os, J.bare, J.base, J.hok, rfl, q⟩
  | brk =>
    obtain ⟨σ', H', J, q⟩ := z
    exact False.elim q
  | cont =>
    obtain ⟨σ', H', J, q⟩ := z
    exact False.elim q
end

/-- a def of the module by its name, as the top has left it -/
structure Df (K : PySem.W.Frag) (mg : Str → Option Value) (x : Str) (st : Stmt) (ps : List Str) : Prop where
  ex : ∃ f fd, Fun K x x st f fd ∧ mg x = some (.ref f) ∧ Binds K fd ps []
/-- a def by its name and its promise -/
structure Cal (P : Program) (w : World) (K : PySem.W.Frag) (mg : Str → Option Value) (base : Heap) (k : Nat) (x : Str) (ps : List Str) (sp : Sp) : Prop where
  ex : ∃ f fd, FnOk P w K mg base CX0 k f fd ps sp ∧ mg x = some (.ref f) ∧ PySem.W.keepIn K (.ref f) = true ∧ Binds K fd ps []
structure CalG (P : Program) (w : World) (K : PySem.W.Frag) (mg : Str → Option Value) (base : Heap) (k : Nat) (x : Str) (ps : List Str) (sp : Sp) : Prop where
  ex : ∃ f fd, FnG P w K mg base k f fd ps sp ∧ mg x = some (.ref f) ∧ PySem.W.keepIn K (.ref f) = true ∧ Binds K fd ps []
section
variable {P : Program} {w : World} {K : PySem.W.Frag} {mg : Str → Option Value} {base : Heap} {x : Str} {st : Stmt} {N ps : List Str} {k : Nat} {sp : Sp}
theorem Df.cal (D : Df K mg x st ps) (S : FnScope N ps (defScope st)) (lng : ∀ vs H Q E, sp vs H Q E → vs.length = ps.length)
    (bod : ∀ (f : Addr) (cdv : Value) (A : Around) (out : List Env) (s : Shared) (H : Hp) (vs : List V) (Q : VK) (E : XK),
      Room k (A.deeper (envOfC x (defScope st) s.heap.objs.size f cdv)) → sp vs H Q E →
      ∃ t, PSs (cxOf CX0 P w K mg base N x (defScope st) f cdv A out s H E).nox (defBody st) t ∧
        t { nx := fun _ H' => Q .non H', rt := Q } (start N vs) H) : Cal P w K mg base (k + 1) x ps sp := by
  obtain ⟨f, fd, F, hm, hb⟩ := D.ex
  exact ⟨f, fd, F.ok S lng (bod f), hm, F.kp, hb⟩
theorem Df.calG (D : Df K mg x st ps) (S : FnScope N ps (defScope st)) (lng : ∀ vs H Q E, sp vs H Q E → vs.length = ps.length)
    (bod : ∀ (f : Addr) (cdv : Value) (A : Around) (out : List Env) (s : Shared) (H : Hp) (vs : List V) (Q : VK) (E : XK),
      A.guards = some [] → Room k (A.deeper (envOfC x (defScope st) s.heap.objs.size f cdv)) → sp vs H Q E →
      ∃ t, PSs (cxOf CX0 P w K mg base N x (defScope st) f cdv A out s H E).nox (defBody st) t ∧
        t { nx := fun _ H' => Q .non H', rt := Q } (start N vs) H) : CalG P w K mg base (k + 1) x ps sp := by
  obtain ⟨f, fd, F, hm, hb⟩ := D.ex
  exact ⟨f, fd, okG F S lng (bod f), hm, F.kp, hb⟩
end
section
variable {X : Cx} {k : Nat} {x : Str} {ps : List Str} {sp : Sp} {p pos : Pos} {e : Expr} {es : List Expr} {t : TA}
/-- x(e, ..) -/
theorem pe_fn (c : Cal X.prog X.w X.K X.mg X.base k x ps sp) (hr : Room k X.A) (ha : PA X (e :: es) t) (hg : Gl X x := by rfl) (hdb : (x == ("__debug__" : Str)) = false := by decide)
    (he : starEach (e :: es) X.env = (false, eval e X.env) :: starEach es X.env := by rfl) (hpl : (backTo pos (starEach es X.env)).any (·.1) = false := by rfl) :
    PE X (.Call (.Name x p) (e :: es) [] pos) (tCall sp [] E0 t) := by
  obtain ⟨f, fd, F, hm, kp, hb⟩ := c.ex
  exact pe_call F hr hg hm kp hb .nil pass0 ha hdb he hpl
/-- the same where a repr may be asked within -/
theorem pe_fnG (c : CalG X.prog X.w X.K X.mg X.base k x ps sp) (gd : X.A.guards = some []) (hr : Room k X.A) (ha : PA X (e :: es) t) (hg : Gl X x := by rfl) (hdb : (x == ("__debug__" : Str)) = false := by decide)
    (he : starEach (e :: es) X.env = (false, eval e X.env) :: starEach es X.env := by rfl) (hpl : (backTo pos (starEach es X.env)).any (·.1) = false := by rfl) :
    PE X (.Call (.Name x p) (e :: es) [] pos) (tCall sp [] E0 t) := by
  obtain ⟨f, fd, F, hm, kp, hb⟩ := c.ex
  refine ⟨fun pins s σ H Q I h => wpAny_Call_Name_kw (ld_glob I hg hm ?_ hdb)⟩
  refine PySem.W.callWith_K (h₀ := X.base) I.ok.mod.kin kp (thn (ha.run pos pins s σ H _ I h) ?_) he hpl
  rintro us s1 ⟨vs, H1, J, r, q⟩
  refine ⟨J.kIn, ?_⟩
  have q2 : sp vs H1 Q E0 := by simpa using q
  have hl : us.length = ps.length := by rw [← r.length]; exact F.lng _ _ _ _ q2
  have bt : BindsTo s1 fd ⟨us, []⟩ (ps.zip us) := by simpa using hb s1 us J.kIn (by simpa using hl)
  refine wpAny_call (codeAny_mono (F.go X.A X.stack s1 H1 ⟨us, []⟩ us vs Q E0 gd hr J.env0 bt r q2) ?_)
  intro res s' z
  match res, z with
  | .ok (.ret u), z => exact J.after z
  | .ok .next, z => exact False.elim z
  | .ok .brk, z => exact False.elim z
  | .ok .cont, z => exact False.elim z
  | .error e, z => exact False.elim z
end

theorem un66 {k : Nat} {A : Around} (hr : Room k A) : A.units + 66 < cLine := by
  have := hr.un
  omega
/-! repr of data -/
section
variable {X : Cx}
theorem call_reprD (gd : X.A.guards = some []) (hu : X.A.units + 66 < cLine) :
    CallR X (.builtin "repr") (fun xs H Q => ∃ (a : Addr) (d : PyData), xs = [.ref a] ∧ Dp X.K H (.ref a) d ∧ d.showable = true ∧ d.hasDict = false ∧ d.depth ≤ 60 ∧ d.shown.length ≤ sizeLine ∧ Q (.str d.shown) H) := by
  intro pins s σ H xs us Q I r h
  obtain ⟨a, d, rfl, dp, sh, nd, dep, sz, q⟩ := h
  obtain ⟨u, rfl, ru⟩ := vals1 r
  obtain rfl : u = Value.ref a := ru
  obtain ⟨as, rd⟩ := Dp.reads I d _ _ dp rfl
  refine repr_of_reads' rd sh (PyData.noDict_hsm nd) gd (by omega) (fun _ _ e => e) (fun h' v tk hk => ?_) sz
  exact ⟨.str d.shown, H, I.kept hk, ⟨_, rfl⟩, q⟩

/-- len(o), o an instance whose class has its own __len__ -/
theorem call_lenO {k : Nat} {C f : Addr} {fd : FuncData} {ps : List Str} {sp : Sp} (hs : PySem.W.findIn X.K (.ref C) "__len__" = some (some (.ref f))) (hf : PySem.W.isFn X.K (.ref f) = true)
    (F : FnOk X.prog X.w X.K X.mg X.base CX0 k f fd ps sp) (hr : Room (k + 1) X.A) (hb : Binds X.K fd ps []) :
    CallR X (.builtin "len") (fun xs H Q => ∃ (a dx : Addr) (fs : List (Str × V)), xs = [.ref a] ∧ H a = some (.ins C dx fs) ∧
      sp [.ref a] H (fun v H' => ∃ n : Nat, v = .int n ∧ n ≤ 1000 ∧ Q (.int n) H') E0) := by
  intro pins s σ H xs us Q I r h
  obtain ⟨a, dx, fs, rfl, ea, h⟩ := h
  obtain ⟨u, rfl, ru⟩ := vals1 r
  obtain rfl : u = Value.ref a := ru
  obtain ⟨mA, O, _⟩ := ins_get I.hok ea
  obtain ⟨od, J, _⟩ := O.look
  obtain ⟨m, fr⟩ := I.fr
  refine PySem.W.len_K fr I.ok.mod.kin J hs hf ?_
  have hl : [V.ref a].length = ps.length := F.len _ _ _ _ h
  have bt : BindsTo s fd ⟨[.ref a], []⟩ (ps.zip [Value.ref a]) := by simpa using hb s [.ref a] I.kIn (by simpa using hl)
  refine wpAny_call (codeAny_mono (F.run X.A.in1 X.stack s H ⟨[.ref a], []⟩ [.ref a] [.ref a] _ E0 hr.in1 I.env0.in1 bt (.cons rfl .nil) h) ?_)
  intro res s' z
  match res, z with
  | .ok (.ret u), z =>
    obtain ⟨v, H', J2, rv, n, rfl, hn, q⟩ := I.after z
    obtain ⟨t, rfl⟩ := (show ∃ t, u = Value.int n t from rv)
    refine ⟨⟨by omega, by omega⟩, ⟨.int n, H', J2.tok _, ⟨_, rfl⟩, q⟩⟩
  | .ok .next, z => exact False.elim z
  | .ok .brk, z => exact False.elim z
  | .ok .cont, z => exact False.elim z
  | .error e, z => exact False.elim z
end

/-! sum and sorted of a tuple of ints -/
section
variable {prog : Program} {w : World} {A : Around} {E : Value → Shared → Prop} {s : Shared}
theorem collT {t : Addr} {us : List Value} {Q : List Value → Shared → Prop} (ht : s.heap.IsTuple t us.toArray) (hz : us.length ≤ sizeLine)
    (fin : ∀ h' : Heap, (∀ b o, s.heap.get? b = some o → h'.get? b = some o) → Q us { s with heap := h' }) :
    wpAny (model prog w) A (collect (.ref t)) Q E s := by
  obtain ⟨o, ho, hc, n, hd⟩ := ht
  have new : (s.heap.push (seqObj "list" #[] 0)).get? s.heap.objs.size = some (seqObj "list" #[] 0) := Heap.get?_push_size _ rfl
  unfold collect
  refine wpAny_bind (wpAny_runValue (codeAny_builtin entry_proto_collect' ?_))
  show wpAny _ _ (newList [] >>= fun l => again (.builtin "list.__iadd__" ⟨[l, .ref t], []⟩)) _ _ s
  refine wpAny_bind (wpAny_newList (wpAny_pure ⟨Code.quiet_builtin _ (by decide +kernel), codeAny_builtin entry_list_iadd' ?_⟩))
  have old : (s.heap.push (seqObj "list" #[] 0)).get? t = some o := Heap.get?_push_of_some _ ho
  show wpAny _ _ (Builtin.List.listExtendWith (.ref s.heap.objs.size) (.ref t) _) _ _ _
  unfold Builtin.List.listExtendWith; refine wpAny_bind (wpAny_typeOf (T := "tuple") ⟨o, old, hc⟩ ?_); rw [if_pos (by simp)]
  refine wpAny_bind (listItems_at old hd (wpAny_bind (listItems_at (xs := #[]) (n := 0) new rfl ?_)))
  rw [if_neg (by simp)]; refine wpAny_bind (listUpdate_at (xs := #[]) (n := 0) new rfl ?_ (Nat.zero_le _) (by simp; omega))
  refine wpAny_pure ?_; show wpAny (model prog w) A (load s.heap.objs.size >>= _) Q E _
  refine wpAny_bind (wpAny_load (get?_update_seq new _) ?_)
  have e : ((#[] : Array Value) ++ us.toArray).toList = us := by simp
  show wpAny _ _ (pure ((#[] : Array Value) ++ us.toArray).toList) Q E _
  rw [e]
  refine wpAny_pure (fin _ fun b o q => ?_)
  rw [Heap.get?_update_other _ _ (Nat.ne_of_gt (Heap.lt_size q))]
  exact Heap.get?_push_of_some _ q
end
section
variable {X : Cx}
theorem call_sumT (calm : X.calm = true) : CallR X (.builtin "sum") (fun vs H Q => ∃ (a : Addr) (ns : List Int), vs = [V.ref a] ∧ SqT X.K H a (ns.map V.int) ∧ Q (.int ns.sum) H) := by
  intro pins s σ H vs us Q I r h
  obtain ⟨a, ns, rfl, sq, q⟩ := h
  obtain ⟨its, rv, tp, _⟩ := I.tuple sq
  rw [Vals.ref1 r]
  have hi := rv.ints
  obtain ⟨xs, ex⟩ := hi.allInts.items
  have nn : numsOf (intItems xs).toList = ns := by rw [← ex]; exact hi.numsOf
  rw [nums_intItems] at nn
  have tp2 : s.heap.IsTuple a its.toArray := tp
  rw [ex] at tp2
  refine PySem.W.ktm_sumG (I.ok.hd calm) tp2 fun h' tk t' hk => ?_
  rw [preSum_eq, List.take_of_length_le (by simp), nn]
  exact ⟨.int _, H, I.kept hk, ⟨_, rfl⟩, q⟩
theorem call_sortedT : CallR X (.builtin "sorted") (fun vs H Q => ∃ (a : Addr) (ns : List Int), vs = [V.ref a] ∧ SqT X.K H a (ns.map V.int) ∧ ns.length < 64 ∧
    ∀ (ns' : List Int) (p : Addr), ns'.Perm ns → ns'.Pairwise (· ≤ ·) → H p = none → Q (.ref p) (upd H p (.lst (ns'.map V.int)))) := by
  intro pins s σ H vs us Q I r h
  obtain ⟨a, ns, rfl, sq, few, q⟩ := h
  obtain ⟨its, rv, tp, hz⟩ := I.tuple sq
  rw [Vals.ref1 r]
  have hi := rv.ints
  have len : its.length = ns.length := hi.length
  have small : its.length ≤ sizeLine := by rw [len]; exact Nat.le_of_lt (Nat.lt_of_lt_of_le few (by decide))
  refine Calls.call_function_entry kind_sorted plain_sorted entry_sorted (args_sorted1 _) ?_
  unfold Builtin.«sorted»
  refine wpAny_bind (m := checkCount "sorted" 1 1 _) (wpAny_pure ?_)
  refine wpAny_bind (collT (A := X.A.in1) tp small fun h1 kp => ?_)
  have I1 : Inv X pins σ H { s with heap := h1, toks := s.toks } := I.kept kp
  refine wpAny_bind (wpAny_newList ?_ small)
  have at1 : (h1.push (seqObj "list" its.toArray 0)).get? h1.objs.size = some (seqObj "list" its.toArray 0) := Heap.get?_push_size _ rfl
  refine wpAny_bind (wpAny_holding (wpAny_call_entry slot_list_sort ⟨_, at1, rfl⟩ entry_list_sort
    (list_sort_tree (s := { s with heap := h1.push (seqObj "list" its.toArray 0) }) at1 hi (by rw [len]; exact few) ?_) (args_list_sort _)))
  intro out ys g1 g2 g3
  refine ⟨_, rfl, ?_⟩
  obtain ⟨ep, at2⟩ := sortedHeap_at (vs := its) (out := out) at1
  have lens : (ys.map V.int).length ≤ sizeLine := by
    rw [List.length_map, g2.length_eq, ← len]
    exact small
  refine wpAny_pure ⟨_, rfl, .ref h1.objs.size, L2.upd H h1.objs.size (.lst (ys.map V.int)), I1.laid (t' := s.toks) (fun b u e => ?_) (Nat.le_refl _) ?_, rfl, q ys _ g2 g3 (I1.hok.fresh (Nat.le_refl _))⟩
  · have lt : b < h1.objs.size := Heap.lt_size e
    rw [sortedHeap_old (Nat.ne_of_lt lt) (by rw [size_push']; exact Nat.lt_succ_of_lt lt)]
    exact Heap.get?_push_of_some _ e
  · exact (show ObjOk X.prog X.w _ _ _ (.lst (ys.map V.int)) from ⟨lens, out.toList, ep, vals_of_ints g1, by rw [Array.toArray_toList]; exact at2⟩)
end

/-! the end of a law whose call shows data -/
theorem lawG {P : Program} {w : World} {K : PySem.W.Frag} {mg mb : Str → Option Value} {k : Nat} {fa a : Addr} {x : Str} {sp : Sp} {s1 : Shared} {vs : List Value} {ns : List Int}
    (KX : K.In s1.heap) (gns : s1.heap.Ns mainGlobals mg) (bns : s1.heap.Ns builtinsNs mb) (boot : ∀ x : Str, x ≠ "__name__" → mb x = bootBuiltins x) (nl : s1.heap.NoLimit) (gn : s1.gens = #[])
    (ha : s1.heap.get? a = some { cls := .type "list", data := .seq vs.toArray }) (hi : IntsAre vs ns) (hl : ns.length ≤ sizeLine) (hr : Room k callerA)
    (F : ∀ base : Heap, K.In base → base.Ns mainGlobals mg → ∃ fd : FuncData, FnG P w K mg base k fa fd [x] sp ∧ Binds K fd [x] [])
    (prom : ∀ H : Hp, Only H → SqL K H a (ns.map V.int) → sp [.ref a] H (fun v _ => v = .bl true) fun _ _ _ => False) :
    codeAny (model P w) callerA (.call (.ref fa) ⟨[.ref a], []⟩) (fun r s' => r = .ok (.ret (.bool true)) ∧ OldK s1.heap s'.heap ∧ s'.os = s1.os ∧ AllBare s'.gens) s1 := by
  suffices main : ∀ H : Hp, Only H → SqL K H a (ns.map V.int) → HOk P w H s1.heap → (∀ b u, H b = some u → b = a ∧ K.lookup a = none) →
      codeAny (model P w) callerA (.call (.ref fa) ⟨[.ref a], []⟩) (fun r s' => r = .ok (.ret (.bool true)) ∧ OldK s1.heap s'.heap ∧ s'.os = s1.os ∧ AllBare s'.gens) s1 by
    cases lk : K.lookup a with
    | some o =>
      have same := (KX a o lk).symm.trans ha
      cases same
      refine main (fun _ => none) (fun _ => .inl rfl) (.inr ⟨_, vs.toArray, _, lk, rfl, rfl, rfl, ?_, ?_⟩) (fun b u z => nomatch z) (fun b u z => nomatch z)
      · rw [List.size_toArray, hi.length]
        exact hl
      · simpa using vals_ints hi
    | none =>
      refine main (fun b => if b = a then some (.frz { cls := .type "list", data := .seq vs.toArray } (.lst (ns.map V.int))) else none) ?_ (.inl (.inr ⟨_, if_pos rfl⟩)) ?_ ?_
      · intro b
        by_cases q : b = a
        · exact .inr ⟨_, _, if_pos q⟩
        · exact .inl (if_neg q)
      · intro b u z
        by_cases q : b = a
        · subst q
          have z2 := (if_pos rfl).symm.trans z
          cases z2
          exact ⟨ha, by rw [List.length_map]; exact hl, vs, _, vals_ints hi, ha⟩
        · have z2 := (if_neg q).symm.trans z
          cases z2
      · intro b u z
        by_cases q : b = a
        · exact ⟨q, lk⟩
        · have z2 := (if_neg q).symm.trans z
          cases z2
  intro H hO hS hok only
  have seen : ∀ {b : Addr} {o : Obj} {es : Array DictEntry} {ep : Nat}, s1.heap.get? b = some o → o.data = .dict es ep → H b = none := by
    intro b o es ep e d
    cases q : H b with
    | none => rfl
    | some u =>
      obtain ⟨rfl, _⟩ := only b u q
      rw [ha] at e
      cases e
      cases (show Data.seq vs.toArray _ = Data.dict es ep from d)
  have ns_of : ∀ {b : Addr} {m : Str → Option Value}, s1.heap.Ns b m → (hidT s1.heap H).Ns b m := by
    rintro b m ⟨o, es, ep, e, d, r⟩
    exact ⟨o, es, ep, hidT_get e (seen e d), d, r⟩
  have kb : K.In (hidT s1.heap H) := by
    intro b o e
    refine hidT_get (KX b o e) ?_
    cases q : H b with
    | none => rfl
    | some u =>
      obtain ⟨rfl, z⟩ := only b u q
      rw [z] at e
      cases e
  have md : Mod K mg (hidT s1.heap H) := ⟨kb, ns_of gns, ⟨mb, ns_of bns, boot⟩, let ⟨mc, p, q⟩ := nl; ⟨mc, ns_of p, q⟩⟩
  have e0 : Env0 P w K mg (hidT s1.heap H) callerA [] s1 H := by
    refine ⟨rfl, md, fun b o e => of_hidT e, Nat.le_of_eq (hidT_size _ _), trivial, fun b z => ?_, hok, .of_eq gn⟩
    exact absurd (show b ∈ ([] : List Addr) from z) (by simp)
  obtain ⟨fd, Fg, bnd⟩ := F _ kb (ns_of gns)
  refine codeAny_mono (Fg.go callerA [] s1 H _ [.ref a] [.ref a] _ _ rfl hr e0 (bnd s1 [.ref a] KX rfl) (.cons rfl .nil) (prom H hO hS)) ?_
  intro r s' z
  match r, z with
  | .ok (.ret u), z =>
    obtain ⟨v, H', os, bare, un, hok', rv, q⟩ := z
    obtain rfl : v = .bl true := q
    obtain rfl : u = Value.bool true := rv
    refine ⟨rfl, OldK.of_keep fun b o e => ?_, os, bare⟩
    cases q : H b with
    | none => exact un.keep b o e q (fun z => absurd (show b ∈ ([] : List Addr) from z) (by simp)) (by simp)
    | some u =>
      rcases hO b with z | ⟨ob, xs, z⟩
      · rw [q] at z
        cases z
      · obtain ⟨p1, _⟩ := hok b _ z
        obtain ⟨p2, _⟩ := hok' b _ (un.frzs b ob _ z)
        rw [e] at p1
        cases p1
        exact p2
  | .ok .next, z => exact False.elim z
  | .ok .brk, z => exact False.elim z
  | .ok .cont, z => exact False.elim z
  | .error e, z => exact False.elim z

theorem walkG {l : PySem.W.OpenLaw} {n k : Nat} {q : Program} {loose : List Str} {XP : (Str → Option Value) → Heap → Prop} {YP : World → Heap → Prop} {d : DefRec} {K : Params → PySem.W.Frag} {sp : PySem.W.Frag → Sp} {x : Str}
    (hn : l.most = some n) (small : n ≤ sizeLine) (hdf : d.params.defaults = []) (hr : Room k callerA) (hY : ∀ (w : World) (h : Heap), YP w h → (K w.params).In h)
    (F : ∀ (w : World) (mg : Str → Option Value) (fa : Addr) (h : Heap), (K w.params).In h → h.Ns mainGlobals mg → mg d.name = some (.ref fa) →
      ∀ base : Heap, (K w.params).In base → base.Ns mainGlobals mg → ∃ fd : FuncData, FnG l.prog w (K w.params) mg base k fa fd [x] (sp (K w.params)) ∧ Binds (K w.params) fd [x] [])
    (prom : ∀ (K : PySem.W.Frag) (H : Hp) (a : Addr) (ns : List Int), ns.length ≤ n → Only H → SqL K H a (ns.map V.int) → sp K [.ref a] H (fun v _ => v = .bl true) fun _ _ _ => False) :
    PySem.W.WalkO q loose XP YP l.row.toRowW d [] (fun f vs => PySem.call f vs) := by
  refine Att.attach_call hn hdf ?_
  intro w s0 s1 mg mb fa o pm cd doc a vs ns G Y ho hd hcd hmg hobj hints hlen hg
  exact lawG (hY w _ Y) G.T.g G.T.b G.T.builtins G.T.nolimit hg hobj hints (Nat.le_trans hlen small) hr (F w mg fa _ (hY w _ Y) G.T.g hmg) fun H hO hS => prom _ H a ns hlen hO hS
theorem CalG.at {P : Program} {w : World} {K : PySem.W.Frag} {mg : Str → Option Value} {base : Heap} {k : Nat} {x : Str} {ps : List Str} {sp : Sp} {fa : Addr} (c : CalG P w K mg base k x ps sp) (h : mg x = some (.ref fa)) :
    ∃ fd : FuncData, FnG P w K mg base k fa fd ps sp ∧ Binds K fd ps [] := by
  obtain ⟨f, fd, F, hm, _, hb⟩ := c.ex
  rw [hm] at h
  cases h
  exact ⟨fd, F, hb⟩
end Pl
namespace Pl
open PySem PySem.Spec PyProof.Rows L2
/-- a method of the class at C, as the top has left it -/
structure Mh (K : PySem.W.Frag) (C : Addr) (m qual : Str) (st : Stmt) (ps : List Str) : Prop where
  ex : ∃ f fd, Fun K m qual st f fd ∧ PySem.W.findIn K (.ref C) m = some (some (.ref f)) ∧ PySem.W.isFn K (.ref f) = true ∧ Binds K fd ps []
structure MCal (P : Program) (w : World) (K : PySem.W.Frag) (mg : Str → Option Value) (base : Heap) (k : Nat) (C : Addr) (m : Str) (ps : List Str) (sp : Sp) : Prop where
  ex : ∃ f fd, FnOk P w K mg base CX0 k f fd ps sp ∧ PySem.W.findIn K (.ref C) m = some (some (.ref f)) ∧ PySem.W.isFn K (.ref f) = true ∧ PySem.W.keepIn K (.ref f) = true ∧ Binds K fd ps []
/-- a property's getter -/
structure Ph (K : PySem.W.Frag) (C : Addr) (m qual : Str) (st : Stmt) (ps : List Str) : Prop where
  ex : ∃ p f fd, Fun K m qual st f fd ∧ PropOf K C m p f ∧ Binds K fd ps []
structure PCal (P : Program) (w : World) (K : PySem.W.Frag) (mg : Str → Option Value) (base : Heap) (k : Nat) (C : Addr) (m : Str) (ps : List Str) (sp : Sp) : Prop where
  ex : ∃ p f fd, FnOk P w K mg base CX0 k f fd ps sp ∧ PropOf K C m p f ∧ Binds K fd ps []
section
variable {P : Program} {w : World} {K : PySem.W.Frag} {mg : Str → Option Value} {base : Heap} {C : Addr} {x qual : Str} {st : Stmt} {N ps : List Str} {k : Nat} {sp : Sp}
theorem Mh.cal (D : Mh K C x qual st ps) (S : FnScope N ps (defScope st)) (lng : ∀ vs H Q E, sp vs H Q E → vs.length = ps.length)
    (bod : ∀ (f : Addr) (cdv : Value) (A : Around) (out : List Env) (s : Shared) (H : Hp) (vs : List V) (Q : VK) (E : XK),
      Room k (A.deeper (envOfC qual (defScope st) s.heap.objs.size f cdv)) → sp vs H Q E →
      ∃ t, PSs (cxOf CX0 P w K mg base N qual (defScope st) f cdv A out s H E).nox (defBody st) t ∧
        t { nx := fun _ H' => Q .non H', rt := Q } (start N vs) H) : MCal P w K mg base (k + 1) C x ps sp := by
  obtain ⟨f, fd, F, h1, h2, hb⟩ := D.ex
  exact ⟨f, fd, F.ok S lng (bod f), h1, h2, F.kp, hb⟩
theorem Ph.cal (D : Ph K C x qual st ps) (S : FnScope N ps (defScope st)) (lng : ∀ vs H Q E, sp vs H Q E → vs.length = ps.length)
    (bod : ∀ (f : Addr) (cdv : Value) (A : Around) (out : List Env) (s : Shared) (H : Hp) (vs : List V) (Q : VK) (E : XK),
      Room k (A.deeper (envOfC qual (defScope st) s.heap.objs.size f cdv)) → sp vs H Q E →
      ∃ t, PSs (cxOf CX0 P w K mg base N qual (defScope st) f cdv A out s H E).nox (defBody st) t ∧
        t { nx := fun _ H' => Q .non H', rt := Q } (start N vs) H) : PCal P w K mg base (k + 1) C x ps sp := by
  obtain ⟨p, f, fd, F, h1, hb⟩ := D.ex
  exact ⟨p, f, fd, F.ok S lng (bod f), h1, hb⟩
end
section
variable {X : Cx} {k : Nat} {C : Addr} {ps : List Str} {sp : Sp} {p pos : Pos} {x : Str} {e : Expr} {es : List Expr} {t : TA} {te ta : TE}
/-- C(e, ..) -/
theorem pe_mk (c : MCal X.prog X.w X.K X.mg X.base k C "__init__" ps sp) (mk : PySem.W.makesIn X.K C = true) (kc : PySem.W.keepIn X.K (.ref C) = true) (hm : X.mg x = some (.ref C)) (hr : Room (k + 1) X.A) (ha : PA X (e :: es) t)
    (hg : Gl X x := by rfl) (hdb : (x == ("__debug__" : Str)) = false := by decide)
    (he : starEach (e :: es) X.env = (false, eval e X.env) :: starEach es X.env := by rfl) (hpl : (backTo pos (starEach es X.env)).any (·.1) = false := by rfl) :
    PE X (.Call (.Name x p) (e :: es) [] pos) (tMake C sp [] E0 t) := by
  obtain ⟨f, fd, F, h1, h2, kp, hb⟩ := c.ex
  exact pe_make ⟨mk, h1, h2, kc⟩ F hr hg hm hb .nil pass0 ha hdb he hpl
/-- o.f, a property -/
theorem pe_pr {f : Str} (c : PCal X.prog X.w X.K X.mg X.base k C f ps sp) (cl : Cls X.K C) (hr : Room (k + 1) X.A) (he : PE X e te)
    (hab : attributeBase e f X.env (eval e X.env) = eval e X.env := by rfl) : PE X (.Attribute e f pos) (tProp C sp [] E0 te) := by
  obtain ⟨q, f', fd, F, h1, hb⟩ := c.ex
  exact pe_prop he cl h1 F hr hb .nil pass0 hab
/-- len(o) -/
theorem call_lenM (c : MCal X.prog X.w X.K X.mg X.base k C "__len__" ps sp) (hr : Room (k + 1) X.A) :
    CallR X (.builtin "len") (fun xs H Q => ∃ (a dx : Addr) (fs : List (Str × V)), xs = [.ref a] ∧ H a = some (.ins C dx fs) ∧
      sp [.ref a] H (fun v H' => ∃ n : Nat, v = .int n ∧ n ≤ 1000 ∧ Q (.int n) H') E0) := by
  obtain ⟨f, fd, F, h1, h2, kp, hb⟩ := c.ex
  exact call_lenO h1 h2 F hr hb
/-- o(e, ..), an instance of C called -/
def tCallP (C : Addr) (sp : Sp) (tf : TE) (t : TA) : TE := fun σ H Q => tf σ H fun y H1 => ∃ a, y = V.ref a ∧ t σ H1 fun vs H2 =>
  ((∃ dx vs, SlX.Slt H2 a C dx vs) ∨ ∃ dx fs, H2 a = some (.ins C dx fs)) ∧ sp (V.ref a :: vs) H2 Q E0
/-- o(e, ..) -/
theorem pe_callM {fe : Expr} {tf : TE} (c : MCal X.prog X.w X.K X.mg X.base k C "__call__" ps sp) (fi : ∀ f, PySem.W.findIn X.K (.ref C) "__call__" = some (some (.ref f)) → PySem.W.fnIn X.K f = true) (hr : Room k X.A) (hf : PE X fe tf) (ha : PA X (e :: es) t)
    (ht : eval (.Call fe (e :: es) [] pos) X.env = (do callWith pos (← eval fe X.env) [] (backTo pos (starEach (e :: es) X.env)) (backToKw pos (keywordEach [] X.env))) := by rfl)
    (he : starEach (e :: es) X.env = (false, eval e X.env) :: starEach es X.env := by rfl) (hpl : (backTo pos (starEach es X.env)).any (·.1) = false := by rfl) :
    PE X (.Call fe (e :: es) [] pos) (tCallP C sp tf t) := by
  obtain ⟨f, fd, F, h1, h2, kp, hb⟩ := c.ex
  have R : FnR X.prog X.w X.K X.mg X.base CX0 k f sp := (F.raw hb .nil).imp fun vs H Q E h => by simpa using h
  show PE X (.Call fe (e :: es) [] pos) (StX.tCallO X C sp E0 tf t)
  exact StX.pe_callO hf ⟨h1, h2, fi f h1⟩ R hr pass0 ha ht he hpl
end
/-! what the head shows of each def -/
def FnAt (K : PySem.W.Frag) (f : Addr) (x qual : Str) (st : Stmt) : Prop := ∃ (od an : Option Addr) (sl : Array (Option Value)) (oc kV dc pm cd ct : Value),
  K.lookup f = some ⟨oc, od, .func (PySem.W.fnOf x qual (defArgs st) (defBody st) (defScope st) .none kV dc pm an cd ct), sl⟩ ∧ PySem.W.codeIn K cd qual = true ∧ PySem.W.keepIn K (.ref f) = true
/-- the parameters, all given -/
def BindOk (x qual : Str) (st : Stmt) (ps : List Str) : Prop := ∀ (kV doc pm : Value) (an : Option Addr) (cdv ct : Value) (us : List Value), us.length = ps.length →
  bindArgs (PySem.W.fnOf x qual (defArgs st) (defBody st) (defScope st) .none kV doc pm an cdv ct) ⟨us, []⟩ = pure (ps.zip us)
structure DfK (K : PySem.W.Frag) (x : Str) (st : Stmt) : Prop where
  ex : ∃ f, PySem.W.nsIn K mainGlobals x = some (some (.ref f)) ∧ FnAt K f x x st
theorem DfK.df {K : PySem.W.Frag} {h : Heap} {mg : Str → Option Value} {x : Str} {st : Stmt} {ps : List Str} (d : DfK K x st) (X : K.In h) (G : h.Ns mainGlobals mg) (b : BindOk x x st ps) : Df K mg x st ps := by
  obtain ⟨f, a, od, an, sl, oc, kV, dc, pm, cd, ct, l, c, k⟩ := d.ex
  have F := fun_mk (st := st) l c k
  exact ⟨f, _, F, PySem.W.mg_of X G a, F.binds b⟩
structure MhK (K : PySem.W.Frag) (C : Addr) (x qual : Str) (st : Stmt) : Prop where
  ex : ∃ f, PySem.W.findIn K (.ref C) x = some (some (.ref f)) ∧ PySem.W.isFn K (.ref f) = true ∧ FnAt K f x qual st
theorem MhK.mh {K : PySem.W.Frag} {C : Addr} {x qual : Str} {st : Stmt} {ps : List Str} (d : MhK K C x qual st) (b : BindOk x qual st ps) : Mh K C x qual st ps := by
  obtain ⟨f, a, i, od, an, sl, oc, kV, dc, pm, cd, ct, l, c, k⟩ := d.ex
  have F := fun_mk (st := st) l c k
  exact ⟨f, _, F, a, i, F.binds b⟩
structure PhK (K : PySem.W.Frag) (C : Addr) (x qual : Str) (st : Stmt) : Prop where
  ex : ∃ p f, PySem.W.findIn K (.ref C) x = some (some (.ref p)) ∧ PySem.W.specialIn K (.ref p) "__get__" = some (some (.builtin "property.__get__")) ∧ PySem.W.takesIn K (.ref p) = some true ∧
    (∃ rest, PySem.W.recIn K p "property" = some (.ref f :: rest)) ∧ FnAt K f x qual st
theorem PhK.ph {K : PySem.W.Frag} {C : Addr} {x qual : Str} {st : Stmt} {ps : List Str} (d : PhK K C x qual st) (b : BindOk x qual st ps) : Ph K C x qual st ps := by
  obtain ⟨p, f, a, g, t, r, od, an, sl, oc, kV, dc, pm, cd, ct, l, c, k⟩ := d.ex
  have F := fun_mk (st := st) l c k
  exact ⟨p, f, _, F, ⟨a, g, t, r⟩, F.binds b⟩
theorem DfK.of {K : PySem.W.Frag} {x : Str} {st : Stmt} {f : Addr} {od an : Option Addr} {sl : Array (Option Value)} {oc kV dc pm cd ct : Value}
    (a : PySem.W.nsIn K mainGlobals x = some (some (.ref f))) (l : K.lookup f = some ⟨oc, od, .func (PySem.W.fnOf x x (defArgs st) (defBody st) (defScope st) .none kV dc pm an cd ct), sl⟩) (c : PySem.W.codeIn K cd x = true) (k : PySem.W.keepIn K (.ref f) = true) : DfK K x st := ⟨⟨f, a, od, an, sl, oc, kV, dc, pm, cd, ct, l, c, k⟩⟩
theorem MhK.of {K : PySem.W.Frag} {C : Addr} {x qual : Str} {st : Stmt} {f : Addr} {od an : Option Addr} {sl : Array (Option Value)} {oc kV dc pm cd ct : Value}
    (a : PySem.W.findIn K (.ref C) x = some (some (.ref f))) (i : PySem.W.isFn K (.ref f) = true) (l : K.lookup f = some ⟨oc, od, .func (PySem.W.fnOf x qual (defArgs st) (defBody st) (defScope st) .none kV dc pm an cd ct), sl⟩) (c : PySem.W.codeIn K cd qual = true) (k : PySem.W.keepIn K (.ref f) = true) : MhK K C x qual st := ⟨⟨f, a, i, od, an, sl, oc, kV, dc, pm, cd, ct, l, c, k⟩⟩
theorem PhK.of {K : PySem.W.Frag} {C p : Addr} {x qual : Str} {st : Stmt} {f : Addr} {rest : List Value} {od an : Option Addr} {sl : Array (Option Value)} {oc kV dc pm cd ct : Value}
    (a : PySem.W.findIn K (.ref C) x = some (some (.ref p))) (g : PySem.W.specialIn K (.ref p) "__get__" = some (some (.builtin "property.__get__"))) (t : PySem.W.takesIn K (.ref p) = some true)
    (r : PySem.W.recIn K p "property" = some (.ref f :: rest)) (l : K.lookup f = some ⟨oc, od, .func (PySem.W.fnOf x qual (defArgs st) (defBody st) (defScope st) .none kV dc pm an cd ct), sl⟩) (c : PySem.W.codeIn K cd qual = true) (k : PySem.W.keepIn K (.ref f) = true) : PhK K C x qual st := ⟨⟨p, f, a, g, t, ⟨rest, r⟩, od, an, sl, oc, kV, dc, pm, cd, ct, l, c, k⟩⟩
structure CallF (K : PySem.W.Frag) (C : Addr) : Prop where
  ex : ∃ f, PySem.W.findIn K (.ref C) "__call__" = some (some (.ref f)) ∧ PySem.W.fnIn K f = true
theorem CallF.of {K : PySem.W.Frag} {C f : Addr} (a : PySem.W.findIn K (.ref C) "__call__" = some (some (.ref f))) (i : PySem.W.fnIn K f = true) : CallF K C := ⟨⟨f, a, i⟩⟩
structure ConI (K : PySem.W.Frag) (x : Str) (n : Int) : Prop where
  ex : ∃ t, PySem.W.nsIn K mainGlobals x = some (some (.int n t))
theorem ConI.of {K : PySem.W.Frag} {x : Str} {n : Int} {t : Tok} (a : PySem.W.nsIn K mainGlobals x = some (some (.int n t))) : ConI K x n := ⟨⟨t, a⟩⟩
theorem ConI.mg {K : PySem.W.Frag} {h : Heap} {mg : Str → Option Value} {x : Str} {n : Int} (c : ConI K x n) (X : K.In h) (G : h.Ns mainGlobals mg) : ∃ t, mg x = some (.int n t) := by
  obtain ⟨t, e⟩ := c.ex
  exact ⟨t, PySem.W.mg_of X G e⟩
end Pl
namespace Pl
open PySem PySem.Spec PyProof.Rows L2
/-! what raises -/
/-- an own error class over ValueError, as the top has left it -/
structure ExK (K : PySem.W.Frag) (mg : Str → Option Value) (x : Str) (C : Addr) : Prop where
  g : mg x = some (.ref C)
  xn : PySem.W.excIn K C [.type "ValueError", .type "Exception", .type "BaseException", .type "object"] "ValueError.__new__" = true
  kp : PySem.W.keepIn K (.ref C) = true
  ba : PySem.W.subIn K (.ref C) (.type "BaseException") = some true
  ty : PySem.W.typeIn K (.ref C) = some (.type "type")
  me : PySem.W.exmOne K (.ref C) (.ref C) = some true
structure ExF (K : PySem.W.Frag) (x : Str) (C : Addr) : Prop where
  a : PySem.W.nsIn K mainGlobals x = some (some (.ref C))
  xn : PySem.W.excIn K C [.type "ValueError", .type "Exception", .type "BaseException", .type "object"] "ValueError.__new__" = true
  kp : PySem.W.keepIn K (.ref C) = true
  ba : PySem.W.subIn K (.ref C) (.type "BaseException") = some true
  ty : PySem.W.typeIn K (.ref C) = some (.type "type")
  cl : PySem.W.isClsIn K C = true
  su : PySem.W.subIn K (.ref C) (.ref C) = some true
theorem exm_at {K : PySem.W.Frag} {S : Addr} {cls : Value} {b : Bool} (ba : PySem.W.subIn K (.ref S) (.type "BaseException") = some true) (cl : PySem.W.isClsIn K S = true)
    (ty : PySem.W.typeIn K (.ref S) = some (.type "type")) (su : PySem.W.subIn K cls (.ref S) = some b) : PySem.W.exmOne K cls (.ref S) = some b := by
  have cl2 : (PySem.W.clsIn K S).isSome = true := cl
  unfold PySem.W.exmOne PySem.W.kitCls
  simp [ba, ty, su, cl, cl2, PySem.W.isClsIn]
theorem ExF.k {K : PySem.W.Frag} {h : Heap} {mg : Str → Option Value} {x : Str} {C : Addr} (e : ExF K x C) (X : K.In h) (G : h.Ns mainGlobals mg) : ExK K mg x C :=
  ⟨PySem.W.mg_of X G e.a, e.xn, e.kp, e.ba, e.ty, exm_at e.ba e.cl e.ty e.su⟩
/-- whatever the slots are, the error is wished for -/
abbrev AnyS (W : WX) : XK := fun cls d H => ∀ σ, W cls d σ H
theorem passW {X : Cx} {W : WX} (tk : Takes X W) : Passes (L2.CX X.prog X.w) X (AnyS W) := fun _ σ _ _ e s' I c => tk e s' (XE.of_call I (fun _ _ _ h => h σ) c)
section
variable {X : Cx} {x m : Str} {j : Nat} {p p2 pos pos2 : Pos} {C : Addr} {W : WX}
/-- raise x('..') -/
theorem ps_err (e : ExK X.K X.mg x C) (tk : Takes X W) (hc : X.calm = true := by rfl) (hg : Gl X x := by rfl) (hdb : (x == ("__debug__" : Str)) = false := by decide) :
    PS X (.Raise (some (.Call (.Name x p) [.Constant (.str m) j p2] [] pos)) none pos2) (fun _ σ H => W (.ref C) none σ H) :=
  ps_raise hc tk (pmk_own PySem.F.excBase_ValueError e.xn e.g e.kp (raises_own e.ba e.ty) hg hdb)
end
structure MCalX (P : Program) (w : World) (K : PySem.W.Frag) (mg : Str → Option Value) (base : Heap) (k : Nat) (C : Addr) (m : Str) (ps : List Str) (sp : Sp) : Prop where
  ex : ∃ f fd, FnOk P w K mg base (L2.CX P w) k f fd ps sp ∧ PySem.W.findIn K (.ref C) m = some (some (.ref f)) ∧ PySem.W.isFn K (.ref f) = true ∧ PySem.W.keepIn K (.ref f) = true ∧ Binds K fd ps []
structure CalX (P : Program) (w : World) (K : PySem.W.Frag) (mg : Str → Option Value) (base : Heap) (k : Nat) (x : Str) (ps : List Str) (sp : Sp) : Prop where
  ex : ∃ f fd, FnOk P w K mg base (L2.CX P w) k f fd ps sp ∧ mg x = some (.ref f) ∧ PySem.W.keepIn K (.ref f) = true ∧ Binds K fd ps []
section
variable {P : Program} {w : World} {K : PySem.W.Frag} {mg : Str → Option Value} {base : Heap} {C : Addr} {x qual : Str} {st : Stmt} {N ps : List Str} {k : Nat} {sp : Sp}
theorem Mh.calX (D : Mh K C x qual st ps) (S : FnScope N ps (defScope st)) (lng : ∀ vs H Q E, sp vs H Q E → vs.length = ps.length)
    (bod : ∀ (f : Addr) (cdv : Value) (A : Around) (out : List Env) (s : Shared) (H : Hp) (vs : List V) (Q : VK) (E : XK),
      Room k (A.deeper (envOfC qual (defScope st) s.heap.objs.size f cdv)) → sp vs H Q E →
      ∃ t, PSs (cxOf (L2.CX P w) P w K mg base N qual (defScope st) f cdv A out s H E) (defBody st) t ∧
        t { nx := fun _ H' => Q .non H', rt := Q } (start N vs) H) : MCalX P w K mg base (k + 1) C x ps sp := by
  obtain ⟨f, fd, F, h1, h2, hb⟩ := D.ex
  exact ⟨f, fd, F.okX S lng (bod f), h1, h2, F.kp, hb⟩
theorem Df.calX (D : Df K mg x st ps) (S : FnScope N ps (defScope st)) (lng : ∀ vs H Q E, sp vs H Q E → vs.length = ps.length)
    (bod : ∀ (f : Addr) (cdv : Value) (A : Around) (out : List Env) (s : Shared) (H : Hp) (vs : List V) (Q : VK) (E : XK),
      Room k (A.deeper (envOfC x (defScope st) s.heap.objs.size f cdv)) → sp vs H Q E →
      ∃ t, PSs (cxOf (L2.CX P w) P w K mg base N x (defScope st) f cdv A out s H E) (defBody st) t ∧
        t { nx := fun _ H' => Q .non H', rt := Q } (start N vs) H) : CalX P w K mg base (k + 1) x ps sp := by
  obtain ⟨f, fd, F, hm, hb⟩ := D.ex
  exact ⟨f, fd, F.okX S lng (bod f), hm, F.kp, hb⟩
end
section
variable {X : Cx} {k : Nat} {C : Addr} {ps : List Str} {sp : Sp} {E : XK} {p pos : Pos} {x : Str} {e fe : Expr} {es : List Expr} {t : TA} {te ti tf : TE}
theorem pe_fnX (c : CalX X.prog X.w X.K X.mg X.base k x ps sp) (hx : Passes (L2.CX X.prog X.w) X E) (hr : Room k X.A) (ha : PA X (e :: es) t) (hg : Gl X x := by rfl) (hdb : (x == ("__debug__" : Str)) = false := by decide)
    (he : starEach (e :: es) X.env = (false, eval e X.env) :: starEach es X.env := by rfl) (hpl : (backTo pos (starEach es X.env)).any (·.1) = false := by rfl) :
    PE X (.Call (.Name x p) (e :: es) [] pos) (tCall sp [] E t) := by
  obtain ⟨f, fd, F, hm, kp, hb⟩ := c.ex
  exact pe_call F hr hg hm kp hb .nil hx ha hdb he hpl
theorem pe_mkX (c : MCalX X.prog X.w X.K X.mg X.base k C "__init__" ps sp) (hx : Passes (L2.CX X.prog X.w) X E) (mk : PySem.W.makesIn X.K C = true) (kc : PySem.W.keepIn X.K (.ref C) = true) (hm : X.mg x = some (.ref C)) (hr : Room (k + 1) X.A) (ha : PA X (e :: es) t)
    (hg : Gl X x := by rfl) (hdb : (x == ("__debug__" : Str)) = false := by decide)
    (he : starEach (e :: es) X.env = (false, eval e X.env) :: starEach es X.env := by rfl) (hpl : (backTo pos (starEach es X.env)).any (·.1) = false := by rfl) :
    PE X (.Call (.Name x p) (e :: es) [] pos) (tMake C sp [] E t) := by
  obtain ⟨f, fd, F, h1, h2, kp, hb⟩ := c.ex
  exact pe_make ⟨mk, h1, h2, kc⟩ F hr hg hm hb .nil hx ha hdb he hpl
/-- an instance of C called, which may raise -/
def tCallX (C : Addr) (sp : Sp) (E : XK) (tf : TE) (t : TA) : TE := fun σ H Q => tf σ H fun y H1 => ∃ a, y = V.ref a ∧ t σ H1 fun vs H2 =>
  ((∃ dx vs, SlX.Slt H2 a C dx vs) ∨ ∃ dx fs, H2 a = some (.ins C dx fs)) ∧ sp (V.ref a :: vs) H2 Q E
theorem pe_callX (c : MCalX X.prog X.w X.K X.mg X.base k C "__call__" ps sp) (hx : Passes (L2.CX X.prog X.w) X E) (fi : ∀ f, PySem.W.findIn X.K (.ref C) "__call__" = some (some (.ref f)) → PySem.W.fnIn X.K f = true) (hr : Room k X.A) (hf : PE X fe tf) (ha : PA X (e :: es) t)
    (ht : eval (.Call fe (e :: es) [] pos) X.env = (do callWith pos (← eval fe X.env) [] (backTo pos (starEach (e :: es) X.env)) (backToKw pos (keywordEach [] X.env))) := by rfl)
    (he : starEach (e :: es) X.env = (false, eval e X.env) :: starEach es X.env := by rfl) (hpl : (backTo pos (starEach es X.env)).any (·.1) = false := by rfl) :
    PE X (.Call fe (e :: es) [] pos) (tCallX C sp E tf t) := by
  obtain ⟨f, fd, F, h1, h2, kp, hb⟩ := c.ex
  have R : FnR X.prog X.w X.K X.mg X.base (L2.CX X.prog X.w) k f sp := (F.raw hb .nil).imp fun vs H Q E h => by simpa using h
  show PE X (.Call fe (e :: es) [] pos) (StX.tCallO X C sp E tf t)
  exact StX.pe_callO hf ⟨h1, h2, fi f h1⟩ R hr hx ha ht he hpl
/-- o[i] by the class's own __getitem__, which may raise -/
def tSub (C : Addr) (sp : Sp) (E : XK) (te ti : TE) : TE := fun σ H Q => te σ H fun x H1 => ti σ H1 fun y H2 => ∃ a dx fs, x = V.ref a ∧ H2 a = some (.ins C dx fs) ∧ sp [.ref a, y] H2 Q E
theorem pe_subX {i : Expr} (c : MCalX X.prog X.w X.K X.mg X.base k C "__getitem__" ps sp) (hx : Passes (L2.CX X.prog X.w) X E) (fi : ∀ f, PySem.W.findIn X.K (.ref C) "__getitem__" = some (some (.ref f)) → PySem.W.fnIn X.K f = true) (hr : Room (k + 1) X.A)
    (he : PE X e te) (hi : PE X i ti) (hs : ∀ o u, subscripted i true o u = runValue (.builtin "lifetime.subscript" ⟨[o, u], []⟩) := by intro o u; with_unfolding_all rfl) : PE X (.Subscript e i pos) (tSub C sp E te ti) := by
  obtain ⟨f, fd, F, h1, h2, kp, hb⟩ := c.ex
  refine ⟨fun pins s σ H Q I h => ?_⟩
  refine Subscript_ (binT he hi I h fun v u s2 x y H2 I2 rx ry q => ?_)
  obtain ⟨a, dx, fs, rfl, ea, q⟩ := q
  obtain rfl : v = Value.ref a := rx
  obtain ⟨mA, O, _⟩ := ins_get I2.hok ea
  obtain ⟨od, J, _⟩ := O.look
  obtain ⟨m, fr⟩ := I2.fr
  have hl : [V.ref a, y].length = ps.length := F.len _ _ _ _ q
  have bt : BindsTo s2 fd ⟨[.ref a, u], []⟩ (ps.zip [Value.ref a, u]) := by simpa using hb s2 [.ref a, u] I2.kIn (by simpa using hl)
  refine PySem.W.sub_K fr I2.ok.mod.kin J h1 (fi f h1) h2 (wpAny_call (codeAny_mono (F.run X.A.in1 X.stack s2 H2 ⟨[.ref a, u], []⟩ [.ref a, u] [.ref a, y] Q E hr.in1 I2.env0.in1 bt (.cons rfl (.cons ry .nil)) q) ?_)) (hs _ _)
  intro res s' z
  match res, z with
  | .ok (.ret u), z => exact I2.after z
  | .ok .next, z => exact False.elim z
  | .ok .brk, z => exact False.elim z
  | .ok .cont, z => exact False.elim z
  | .error er, z => exact hx pins σ H2 s2 er s' I2 z
end
structure ItemF (K : PySem.W.Frag) (C : Addr) : Prop where
  ex : ∃ f, PySem.W.findIn K (.ref C) "__getitem__" = some (some (.ref f)) ∧ PySem.W.fnIn K f = true
theorem ItemF.of {K : PySem.W.Frag} {C f : Addr} (a : PySem.W.findIn K (.ref C) "__getitem__" = some (some (.ref f))) (i : PySem.W.fnIn K f = true) : ItemF K C := ⟨⟨f, a, i⟩⟩
theorem ItemF.fi {K : PySem.W.Frag} {C : Addr} (c : ItemF K C) : ∀ f, PySem.W.findIn K (.ref C) "__getitem__" = some (some (.ref f)) → PySem.W.fnIn K f = true := fun f h => by
  obtain ⟨g, a, b⟩ := c.ex
  rw [a] at h
  cases h
  exact b
end Pl
namespace Pl
open PySem PySem.Spec PyProof.Rows L2
section
open PySem.W
variable {prog : Program} {w : World} {A : Around} {E : Value → Shared → Prop} {s : Shared} {K : Frag} {x C f : Addr} {ox : Obj} {od : Option Obj} {T : String}
/-- x op b, x an instance whose class has the operator, b of a built-in type -/
theorem binL {op : Operator} {b : Value} {fo ro rc : Option Value} {Q : Value → Shared → Prop} (inK : K.In s.heap) (ia : InstAt s.heap x ox C od) (tb : Looks (model prog w) s.heap (typeOf b) (.type T)) (sf : selfFirst K C = true)
    (fa : findIn K (.ref C) (PySem.dunder op.info.2) = some (some (.ref f))) (fn : isFn K (.ref f) = true) (fr : findIn K (.ref C) (dunderR op.info.2) = some rc) (pr : rc = none ∨ ∃ g : Addr, rc = some (.ref g))
    (t1 : findIn K (.type T) (PySem.dunder op.info.2) = some fo) (t2 : findIn K (.type T) (dunderR op.info.2) = some ro) (no : subIn K (.type T) (.ref C) = some false)
    (go : wpAny (model prog w) A (call (.ref f) [.ref x, b]) (PySem.W.CmpBack Q) E s) : wpAny (model prog w) A (binaryOp op (.ref x) b) Q E s := by
  obtain ⟨cd, rest, c1, c2⟩ := ksp_first sf
  rcases oi : op.info with ⟨sg, nm⟩
  rw [oi] at fa fr t1 t2; dsimp only at fa fr t1 t2
  have step := ksp_try inK ia fa fn go
  obtain ⟨hp, gs, dr, tk, os⟩ := s
  have l1 : Looks (model prog w) hp (typeOf (.ref x)) (.ref C) := ia.type
  have l2 : Looks (model prog w) hp (typeOf b) (.type T) := tb
  have l3 : Looks (model prog w) hp (fillsNumberSlot (.ref C) nm) true := fills_K inK c1 c2 fa
  have l4 := ksp_fillsT (M := model prog w) (nm := nm) (T := T) (h := hp) inK t1 t2
  have l5 : Looks (model prog w) hp (isSubtype (.type T) (.ref C)) false := looks_subIn inK no
  have l6 : Looks (model prog w) hp (numberSlotInPython (.ref C) nm) true := ksp_inPy inK fa fr pr
  have l7 : Looks (model prog w) hp (numberSlotInPython (.type T) nm) false := Looks.of_pure rfl
  have l8 : Looks (model prog w) hp (typeLookup (.type T) (dunderR nm)) ro := looks_findIn inK t2
  generalize ((fo.isSome && !isSeqSlot fo) || (ro.isSome && !isSeqSlot ro)) = rt at l4
  have ne : (Value.ref C == Value.type T) = false := Bool.eq_false_iff.mpr fun q => by cases beq_iff_eq.mp q
  simp only [binaryOp, oi]
  refine wpAny_holding (wpAny_bind ?_); unfold binaryOp1
  refine wpAny_bind (l1.at (wpAny_bind (l2.at (wpAny_bind (l3.at ?_))))); simp only [ne, Bool.false_eq_true, if_false]
  cases rt <;> (ksp_lk; refine wpAny_mono step (fun r s' hr => ?_) fun _ _ e => e; obtain ⟨v, rfl, hq⟩ := hr; ksp_lk; exact hq)
end
/-- the built-in type of a value -/
inductive TyS (H : Hp) : V → String → Prop where
  | non : TyS H .non "NoneType"
  | bl (b : Bool) : TyS H (.bl b) "bool"
  | int (i : Int) : TyS H (.int i) "int"
  | str (z : Str) : TyS H (.str z) "str"
  | lst {a : Addr} {xs : List V} (e : H a = some (.lst xs)) : TyS H (.ref a) "list"
  | tup {a : Addr} {xs : List V} (e : H a = some (.tup xs)) : TyS H (.ref a) "tuple"
  | dK {a : Addr} {xs : List (Key × V)} (e : H a = some (.dK xs)) : TyS H (.ref a) "dict"
theorem TyS.tyX {K : PySem.W.Frag} {H : Hp} {x : V} {T : String} (t : TyS H x T) : TyX K H x (.type T) := by
  cases t with
  | non => exact .base .non
  | bl b => exact .base (.bl b)
  | int i => exact .base (.int i)
  | str z => exact .base (.str z)
  | lst e => exact .base (.lst e)
  | tup e => exact .base (.tup e)
  | dK e => exact .base (.dK e)
theorem TyS.same {H H' : Hp} {x : V} {T : String} (k : Same H H') (t : TyS H x T) : TyS H' x T := by
  cases t with
  | non => exact .non
  | bl b => exact .bl b
  | int i => exact .int i
  | str z => exact .str z
  | lst e => exact .lst (k _ _ e)
  | tup e => exact .tup (k _ _ e)
  | dK e => exact .dK (k _ _ e)
theorem TyS.looks {X : Cx} {pins : List (Addr × Obj)} {σ : L2.St} {H : Hp} {s : Shared} {x : V} {u : Value} {T : String} (I : Inv X pins σ H s) (r : RelV x u) (t : TyS H x T) : PySem.W.Looks (model X.prog X.w) s.heap (typeOf u) (.type T) := by
  cases t with
  | non => cases (show u = Value.none from r); exact PySem.W.Looks.of_pure rfl
  | bl b => cases (show u = Value.bool b from r); exact PySem.W.Looks.of_pure rfl
  | int i => obtain ⟨t, q⟩ := (show ∃ t, u = Value.int i t from r); cases q; exact PySem.W.Looks.of_pure rfl
  | str z => obtain ⟨t, q⟩ := (show ∃ t, u = Value.str z t from r); cases q; exact PySem.W.Looks.of_pure rfl
  | @lst a xs e =>
    cases (show u = Value.ref a from r)
    obtain ⟨_, _, n, _, h1⟩ := (show ObjOk X.prog X.w H s.heap a (.lst xs) from I.hok a _ e)
    exact fun A Q E s' k q => wpAny_typeOf_ref (k _ _ h1) q
  | @tup a xs e =>
    cases (show u = Value.ref a from r)
    obtain ⟨_, _, _, o, h1, h2, _⟩ := (show ObjOk X.prog X.w H s.heap a (.tup xs) from I.hok a _ e)
    exact fun A Q E s' k q => wpAny_typeOf_ref (k _ _ h1) (by rw [h2]; exact q)
  | @dK a xs e =>
    cases (show u = Value.ref a from r)
    obtain ⟨_, _, vs, _, o, es, ep, h1, h2, _⟩ := (show ObjOk X.prog X.w H s.heap a (.dK xs) from I.hok a _ e)
    exact fun A Q E s' k q => wpAny_typeOf_ref (k _ _ h1) (by rw [h2.1]; exact q)
/-- what the written part says of C + T -/
def AddT (K : PySem.W.Frag) (C : Addr) (T : String) : Prop := ∃ fo ro, PySem.W.findIn K (.type T) "__add__" = some fo ∧ PySem.W.findIn K (.type T) "__radd__" = some ro ∧ PySem.W.subIn K (.type T) (.ref C) = some false
theorem AddT.of {K : PySem.W.Frag} {C : Addr} {T : String} {fo ro : Option Value} (a : PySem.W.findIn K (.type T) "__add__" = some fo) (b : PySem.W.findIn K (.type T) "__radd__" = some ro) (c : PySem.W.subIn K (.type T) (.ref C) = some false) : AddT K C T := ⟨fo, ro, a, b, c⟩
structure AddC (K : PySem.W.Frag) (C : Addr) : Prop where
  sf : PySem.W.selfFirst K C = true
  rd : ∃ g : Addr, PySem.W.findIn K (.ref C) "__radd__" = some (some (.ref g))
theorem AddC.of {K : PySem.W.Frag} {C g : Addr} (a : PySem.W.selfFirst K C = true) (b : PySem.W.findIn K (.ref C) "__radd__" = some (some (.ref g))) : AddC K C := ⟨a, g, b⟩
theorem dpI (K : PySem.W.Frag) (H : Hp) : ∀ ns : List Int, DpAll K H (ns.map V.int) (ns.map PyData.int)
  | [] => .nil
  | n :: ns => .cons (.int n) (dpI K H ns)
theorem depI : ∀ ns : List Int, PyData.depthAll (ns.map PyData.int) = 0
  | [] => rfl
  | n :: ns => by
    show max 0 (PyData.depthAll (ns.map PyData.int)) = 0
    rw [depI ns]; rfl
section
variable {X : Cx} {k : Nat} {C : Addr} {ps : List Str} {sp : Sp} {E : XK}
/-- a + b by the class's own __add__, which may raise; what it returns is an object -/
def rAddO (K : PySem.W.Frag) (C : Addr) (sp : Sp) (E : XK) : R2 := fun x y H Q => ∃ (a dx : Addr) (fs : List (Str × V)), x = .ref a ∧ H a = some (.ins C dx fs) ∧
  ((∃ (b db : Addr) (fb : List (Str × V)), y = .ref b ∧ H b = some (.ins C db fb)) ∨ (∃ T, TyS H y T ∧ AddT K C T)) ∧ sp [.ref a, y] H (fun v H' => ∃ p, v = .ref p ∧ Q (.ref p) H') E
theorem op_addO (c : MCalX X.prog X.w X.K X.mg X.base k C "__add__" ps sp) (ac : AddC X.K C) (hx : Passes (L2.CX X.prog X.w) X E) (hr : Room k X.A) : OpR X (binaryOp .Add) (rAddO X.K C sp E) := by
  obtain ⟨f, fd, F, h1, h2, kp, hb⟩ := c.ex
  obtain ⟨g, h3⟩ := ac.rd
  intro pins s σ H x y v u Q I rx ry h
  obtain ⟨a, dx, fs, rfl, ea, oy, q⟩ := h
  obtain rfl : v = Value.ref a := rx
  obtain ⟨mA, O, _⟩ := ins_get I.hok ea
  obtain ⟨od, J, _⟩ := O.look
  have go : wpAny (model X.prog X.w) X.A (call (.ref f) [.ref a, u]) (PySem.W.CmpBack (EP X pins σ Q)) X.xe s := by
    have hl : [V.ref a, y].length = ps.length := F.len _ _ _ _ q
    have bt : BindsTo s fd ⟨[.ref a, u], []⟩ (ps.zip [Value.ref a, u]) := by simpa using hb s [.ref a, u] I.kIn (by simpa using hl)
    refine wpAny_call (codeAny_mono (F.run X.A X.stack s H ⟨[.ref a, u], []⟩ [.ref a, u] [.ref a, y] _ E hr I.env0 bt (.cons rfl (.cons ry .nil)) q) ?_)
    intro res s' z
    match res, z with
    | .ok (.ret u'), z =>
      obtain ⟨v', H', J2, rv, p, rfl, q2⟩ := I.after z
      obtain rfl : u' = Value.ref p := rv
      exact ⟨.ref p, H', J2, rfl, q2⟩
    | .ok .next, z => exact False.elim z
    | .ok .brk, z => exact False.elim z
    | .ok .cont, z => exact False.elim z
    | .error er, z => exact hx pins σ H s er s' I z
  rcases oy with ⟨b, db, fb, rfl, eb⟩ | ⟨T, ty, fo, ro, t1, t2, no⟩
  · obtain rfl : u = Value.ref b := ry
    obtain ⟨mB, O2, _⟩ := ins_get I.hok eb
    obtain ⟨od2, J2, _⟩ := O2.look
    obtain ⟨m, fr⟩ := I.fr
    exact PySem.W.binop_K fr I.ok.mod.kin J J2.type ac.sf h1 h2 go
  · exact binL (op := .Add) I.kIn J (ty.looks I ry) ac.sf h1 h2 h3 (.inr ⟨g, rfl⟩) t1 t2 no go
/-- max of a tuple of ints -/
theorem call_maxT (calm : X.calm = true) (hu : X.A.units + 66 < cLine) : CallR X (.builtin "max") (fun vs H Q => ∃ (a : Addr) (n : Int) (ns : List Int), vs = [V.ref a] ∧ SqT X.K H a ((n :: ns).map V.int) ∧ Q (.int (ns.foldl max n)) H) := by
  intro pins s σ H vs us Q I r h
  obtain ⟨a, n, ns, rfl, sq, q⟩ := h
  obtain ⟨its, rv, tp, _⟩ := I.tuple sq
  rw [Vals.ref1 r]
  obtain ⟨as, rd⟩ := Dp.readsAll I _ _ its (dpI X.K H (n :: ns)) rv
  have dp : PyData.depthAll ((n :: ns).map PyData.int) = 0 := depI _
  refine PySem.W.max_tuple_data (x := .int n) (xs := ns.map PyData.int) (I.ok.hd calm) tp (by simpa using rd) ⟨?_, ?_⟩ ?_ fun i v h' tk bs hv rv' hk => ?_
  · intro x hx y hy
    obtain ⟨i, _, rfl⟩ := List.mem_map.mp (show x ∈ (n :: ns).map PyData.int from hx)
    obtain ⟨j, _, rfl⟩ := List.mem_map.mp (show y ∈ (n :: ns).map PyData.int from hy)
    rfl
  · intro x hx
    obtain ⟨i, _, rfl⟩ := List.mem_map.mp (show x ∈ (n :: ns).map PyData.int from hx)
    exact fun z => nomatch z
  · have e : PyData.depthAll (.int n :: ns.map PyData.int) = 0 := dp
    rw [e]; omega
  · rw [PySem.W.maxD_ints] at rv'
    cases rv'
    exact ⟨.int _, H, I.kept hk, ⟨_, rfl⟩, q⟩
end
end Pl
namespace Pl
open PySem PySem.Spec PyProof.Rows L2
def top (i : Nat) : Stmt := PySem.Challenge.pw_poolshares_k03_shares_added.main.body.getD i (.Pass ⟨0, 0, 0, 0⟩)
/-- a source of numbers stands at a -/
def Src (H : Hp) (a : Addr) : Prop := ∃ x y z : Int, H a = some (.lst [.int x, .int y, .int z]) ∧ 0 ≤ x ∧ 0 ≤ y ∧ y < 2147483648 ∧ 0 ≤ z
theorem Src.upd {H : Hp} {a p : Addr} {o : HO} (s : Src H a) (n : H p = none) : Src (L2.upd H p o) a := by
  obtain ⟨x, y, z, h, r⟩ := s
  exact ⟨x, y, z, by rw [upd_ne (ne_of_none h n)]; exact h, r⟩
theorem Src.put {H : Hp} {a p : Addr} {o : HO} (s : Src H a) (n : p ≠ a) : Src (L2.upd H p o) a := by
  obtain ⟨x, y, z, h, r⟩ := s
  exact ⟨x, y, z, by rw [upd_ne n.symm]; exact h, r⟩
theorem Src.ne {H : Hp} {a p : Addr} (s : Src H a) (n : H p = none) : p ≠ a := by
  obtain ⟨x, y, z, h, r⟩ := s
  intro e
  rw [e, h] at n
  cases n
theorem Src.neT {H : Hp} {a p : Addr} {xs : List V} (s : Src H a) (n : H p = some (.tup xs)) : p ≠ a := by
  obtain ⟨x, y, z, h, r⟩ := s
  intro e
  rw [e, h] at n
  cases n
theorem Src.neI {H : Hp} {a p C d : Addr} {xs : List (Str × V)} (s : Src H a) (n : H p = some (.ins C d xs)) : p ≠ a := by
  obtain ⟨x, y, z, h, r⟩ := s
  intro e
  rw [e, h] at n
  cases n
theorem Src.same {H H' : Hp} {a : Addr} (s : Src H a) (k : Same H H') : Src H' a := by
  obtain ⟨x, y, z, h, r⟩ := s
  exact ⟨x, y, z, k _ _ h, r⟩
/-- all that was tracked stands as before, but for what is at a -/
def Kp (a : Addr) (H H' : Hp) : Prop := ∀ b o, b ≠ a → H b = some o → H' b = some o
theorem Kp.refl (a : Addr) (H : Hp) : Kp a H H := fun _ _ _ h => h
theorem Kp.trans {a : Addr} {H H1 H2 : Hp} (p : Kp a H H1) (q : Kp a H1 H2) : Kp a H H2 := fun b o n h => q b o n (p b o n h)
theorem Kp.of {a : Addr} {H H' : Hp} (p : Same H H') : Kp a H H' := fun b o _ h => p b o h
theorem Kp.upd {a : Addr} {H : Hp} {o : HO} : Kp a H (upd H a o) := fun b u n h => by rw [upd_ne n]; exact h
theorem Kp.new {a p : Addr} {H H' : Hp} {o : HO} (q : Kp a H H') (h : H' p = none) : Kp a H (L2.upd H' p o) := fun b u n e => by
  rw [upd_ne (ne_of_none (q b u n e) h)]; exact q b u n e
/-- what was not there before may be written -/
theorem Kp.put {a p : Addr} {H H' : Hp} {o : HO} (q : Kp a H H') (h : H p = none) : Kp a H (L2.upd H' p o) := fun b u n e => by
  rw [upd_ne (ne_of_none e h)]; exact q b u n e
theorem same_new {p : Addr} {H H' : Hp} {o : HO} (q : Same H H') (h : H' p = none) : Same H (L2.upd H' p o) := fun b u e => by
  rw [upd_ne (ne_of_none (q b u e) h)]; exact q b u e
theorem same_put {p : Addr} {H H' : Hp} {o : HO} (q : Same H H') (h : H p = none) : Same H (L2.upd H' p o) := fun b u e => by
  rw [upd_ne (ne_of_none e h)]; exact q b u e
theorem Kp.free {a p : Addr} {H H' : Hp} (q : Kp a H H') (n : p ≠ a) (h : H' p = none) : H p = none := by
  cases e : H p with
  | none => rfl
  | some o =>
    rw [q p o n e] at h
    cases h
theorem tyes {σ : L2.St} {H : Hp} {A B : Hp → Prop} (h : A H) : tYes σ H (fun b H3 => if b = true then A H3 else B H3) := by
  show if true = true then A H else B H
  rw [if_pos rfl]; exact h
theorem size_of {n : Nat} (h : n ≤ 1000) : n ≤ sizeLine := Nat.le_trans h (by decide)
theorem size_lt {n : Nat} (h : n ≤ 1000) : n < sizeLine := Nat.lt_of_le_of_lt h (by decide)
theorem at_of_lt {α : Type} {xs : List α} {r : Int} (h0 : 0 ≤ r) (h1 : r < xs.length) : ∃ v, v ∈ xs ∧ xs[r.toNat]? = some v ∧ atI xs r = some v := by
  have lt : r.toNat < xs.length := by omega
  have e : xs[r.toNat]? = some xs[r.toNat] := List.getElem?_eq_getElem lt
  refine ⟨xs[r.toNat], List.getElem_mem lt, e, ?_⟩
  have q := atI_nat e
  rw [Int.toNat_of_nonneg h0] at q
  exact q
/-- the built-in names are the built-in ones -/
structure Bn (mg : Str → Option Value) : Prop where
  n_len : mg "len" = none
  n_range : mg "range" = none
  n_max : mg "max" = none
  n_min : mg "min" = none
  n_sum : mg "sum" = none
  n_sorted : mg "sorted" = none
  n_all : mg "all" = none
  n_isinstance : mg "isinstance" = none
  n_repr : mg "repr" = none
  n_tuple : mg "tuple" = none
  n_list : mg "list" = none
  n_int : mg "int" = none
  n_bool : mg "bool" = none
  n_zip : mg "zip" = none
  n_str : mg "str" = none
def spDraw : Sp := fun vs H Q _ => ∃ (a : Addr) (m : Int), vs = [.ref a, .int m] ∧ Src H a ∧ 0 < m ∧ m ≤ 1000 ∧
  ∀ (r : Int) (H' : Hp), 0 ≤ r → r < m → Src H' a → Kp a H H' → Q (.int r) H'
def spCell (K : PySem.W.Frag) : Sp := fun vs H Q _ => ∃ (a : Addr) (ns : List Int) (i : Int), vs = [.ref a, .int i] ∧ SqL K H a (ns.map V.int) ∧ 0 ≤ i ∧ ∀ n : Int, Q (.int n) H
def spSource : Sp := fun vs H Q _ => ∃ c : Int, vs = [.int c] ∧ ∀ (p : Addr) (H' : Hp), H p = none → Src H' p → Same H H' → Q (.ref p) H'
def spChoose : Sp := fun vs H Q _ => ∃ (a l : Addr) (xs : List V), vs = [.ref a, .ref l] ∧ Src H a ∧ H l = some (.lst xs) ∧ l ≠ a ∧ 0 < xs.length ∧ xs.length ≤ 1000 ∧
  ∀ (v : V) (H' : Hp), v ∈ xs → Src H' a → Kp a H H' → Q v H'
/-- the ints are amounts -/
def Am (ns : List Int) : Prop := ∀ r ∈ ns, 0 ≤ r ∧ r ≤ 30
def spAmounts : Sp := fun vs H Q _ => ∃ (a : Addr) (n : Nat), vs = [.ref a, .int n] ∧ Src H a ∧ 2 ≤ n ∧ n ≤ 6 ∧
  ∀ (p : Addr) (ns : List Int) (H' : Hp), ns.length = n → Am ns → Src H' a → Kp a H H' → H' p = some (.tup (ns.map V.int)) → Q (.ref p) H'
/-- a list of amounts grows at D -/
def AInv (a D : Addr) (H1 : Hp) (i : Nat) (H : Hp) : Prop := ∃ ns : List Int, ns.length = i ∧ Am ns ∧ Src H a ∧ Kp a H1 H ∧ H D = some (.lst (ns.map V.int))
theorem AInv.start {a D : Addr} {H1 : Hp} (s : Src H1 a) (n : H1 D = none) : AInv a D H1 0 (L2.upd H1 D (.lst [])) :=
  ⟨[], rfl, fun _ h => (nomatch h), s.upd n, (Kp.refl a H1).new n, upd_same⟩
theorem AInv.src {a D : Addr} {H1 H : Hp} {i : Nat} (p : AInv a D H1 i H) : Src H a := p.elim fun _ q => q.2.2.1
theorem AInv.next {a D : Addr} {H1 H H' : Hp} {i : Nat} {r : Int} (p : AInv a D H1 i H) (hi : i ≤ 100) (n : H1 D = none) (da : D ≠ a) (s : Src H' a) (k : Kp a H H') (r0 : 0 ≤ r) (r1 : r ≤ 30) :
    ∃ acc, H' D = some (.lst acc) ∧ acc.length < sizeLine ∧ AInv a D H1 (i + 1) (L2.upd H' D (.lst (acc ++ [.int r]))) := by
  obtain ⟨ns, e, am, _, kp, hd⟩ := p
  refine ⟨ns.map V.int, k _ _ da hd, size_lt (by rw [List.length_map]; omega), ns ++ [r], ?_, ?_, s.put da, (kp.trans k).put n, ?_⟩
  · rw [List.length_append, e]; rfl
  · intro x hx
    rcases List.mem_append.mp hx with h | h
    · exact am x h
    · rw [List.mem_singleton.mp h]; exact ⟨r0, r1⟩
  · rw [upd_same, List.map_append]; rfl
section
variable {P : Program} {w : World} {K : PySem.W.Frag} {mg : Str → Option Value} {base : Heap}
abbrev st_l_cell : Stmt := top 18
theorem sc_l_cell : FnScope ["_law_script", "_law_index"] ["_law_script", "_law_index"] (defScope st_l_cell) := ⟨rfl, rfl, rfl, by decide +kernel, rfl, by decide +kernel, by decide +kernel⟩
theorem ok_cell (B : Bn mg) (D : Df K mg "_law_cell" st_l_cell ["_law_script", "_law_index"]) : Cal P w K mg base 1 "_law_cell" ["_law_script", "_law_index"] (spCell K) := by
  refine D.cal sc_l_cell (fun vs H Q E h => ?_) (fun f cdv A out s H vs Q E hr h => ?_)
  · obtain ⟨a, ns, i, rfl, _⟩ := h
    rfl
  obtain ⟨a, ns, i, rfl, sq, i0, k⟩ := h
  refine ⟨_, (pss_cons (ps_if (pt_cmpR op_lt (pv 1) (pe_callB call_len_seq (by rfl) B.n_len (by decide +kernel) (pa_cons (pv 0) pa_nil)) (nomark _)) (pss_one (ps_ret (pe_ix ix_list (pv 0) (pv 1) (fun _ _ => rfl)))) pss_nil)
   (pss_one (ps_ret pe_int))), ?_⟩
  refine ⟨_, rfl, _, rfl, a, _, rfl, .inl sq, _, _, rfl, rfl, _, rfl, ?_⟩
  refine ite2 (fun c => ?_) (fun c => k 0)
  have c2 : i < ((ns.map V.int).length : Int) := of_decide_eq_true c
  obtain ⟨v, hv, _, e⟩ := at_of_lt i0 c2
  obtain ⟨m, _, rfl⟩ := List.mem_map.mp hv
  exact ⟨_, rfl, _, rfl, a, _, _, _, rfl, rfl, sq, e, k m⟩
abbrev st_l_source : Stmt := top 19
theorem sc_l_source : FnScope ["_law_cell_here"] ["_law_cell_here"] (defScope st_l_source) := ⟨rfl, rfl, rfl, by decide +kernel, rfl, by decide +kernel, by decide +kernel⟩
theorem ok_source (B : Bn mg) (D : Df K mg "_law_source" st_l_source ["_law_cell_here"]) : Cal P w K mg base 1 "_law_source" ["_law_cell_here"] spSource := by
  refine D.cal sc_l_source (fun vs H Q E h => ?_) (fun f cdv A out s H vs Q E hr h => ?_)
  · obtain ⟨c, rfl, _⟩ := h
    rfl
  obtain ⟨c, rfl, k⟩ := h
  refine ⟨_, (pss_one (ps_ret (pe_lst (pa_cons (pe_callB (call_max2 rfl) (by rfl) B.n_max (by decide +kernel) (pa_cons pe_int (pa_cons (pe_op op_sub (pv 0) (pe_op op_pow pe_int pe_int)) pa_nil))) (pa_cons (pe_op op_add (pe_op op_mod (pv 0) pe_int) pe_int) (pa_cons pe_int pa_nil)))))), ?_⟩
  refine ⟨_, rfl, _, _, rfl, rfl, ⟨by decide, by decide, by decide⟩, _, _, rfl, rfl, _, _, rfl, _, rfl, _, _, rfl, rfl, (by show (0 : Int) < 2147483629; decide), _, _, rfl, rfl, (by show 3 ≤ sizeLine; decide), fun p hp => ?_⟩
  refine k p _ hp ⟨_, _, _, upd_same, ?_, ?_, ?_, by decide⟩ (same_new (Same.refl H) hp)
  · split <;> omega
  · have := Int.emod_nonneg c (show (2147483629 : Int) ≠ 0 by decide)
    show 0 ≤ c % 2147483629 + 1
    omega
  · have := Int.emod_lt_of_pos c (show (0 : Int) < 2147483629 by decide)
    show c % 2147483629 + 1 < 2147483648
    omega
abbrev st_l_draw : Stmt := top 20
theorem sc_l_draw : FnScope ["_law_source_here", "_law_many", "_law_found", "_law_mixed"] ["_law_source_here", "_law_many"] (defScope st_l_draw) := ⟨rfl, rfl, rfl, by decide +kernel, rfl, by decide +kernel, by decide +kernel⟩
theorem ok_draw (D : Df K mg "_law_draw" st_l_draw ["_law_source_here", "_law_many"]) : Cal P w K mg base 1 "_law_draw" ["_law_source_here", "_law_many"] spDraw := by
  refine D.cal sc_l_draw (fun vs H Q E h => ?_) (fun f cdv A out s H vs Q E hr h => ?_)
  · obtain ⟨a, m, rfl, _⟩ := h
    rfl
  obtain ⟨a, m, rfl, ⟨x, y, z, ha, x0, y0, y1, z0⟩, m0, m1, k⟩ := h
  refine ⟨_, (pss_cons (ps_if (pt_cmpR op_gt (pe_ix ix_list (pv 0) pe_int (fun _ _ => rfl)) pe_int (nomark _)) (pss_cons (ps_set (i := 2) sc_l_draw.nd rfl (.inl rfl) (pe_op op_mod (pe_ix ix_list (pv 0) pe_int (fun _ _ => rfl)) (pv 1)))
   (pss_cons (ps_asg (pe_op op_fdiv (pe_ix ix_list (pv 0) pe_int (fun _ _ => rfl)) (pv 1)) (pg_sub (pv 0) pe_int set_list))
   (pss_one (ps_ret (pv 2))))) pss_nil)
   (pss_cons (ps_asg (pe_op op_add (pe_ix ix_list (pv 0) pe_int (fun _ _ => rfl)) pe_int) (pg_sub (pv 0) pe_int set_list))
   (pss_cons (ps_asg (pe_op op_mod (pe_op op_add (pe_op op_add (pe_op op_mul (pe_ix ix_list (pv 0) pe_int (fun _ _ => rfl)) pe_int) (pe_op op_mul pe_int (pe_ix ix_list (pv 0) pe_int (fun _ _ => rfl)))) pe_int) pe_int) (pg_sub (pv 0) pe_int set_list))
   (pss_cons (ps_set (i := 3) sc_l_draw.nd rfl (.inl rfl) (pe_op op_mod (pe_op op_add (pe_op op_add (pe_op op_mul (pe_ix ix_list (pv 0) pe_int (fun _ _ => rfl)) (pe_ix ix_list (pv 0) pe_int (fun _ _ => rfl))) (pe_op op_mul pe_int (pe_ix ix_list (pv 0) pe_int (fun _ _ => rfl)))) pe_int) pe_int))
   (pss_cons (ps_set (i := 3) sc_l_draw.nd rfl (.inl rfl) (pe_op op_mod (pe_op op_add (pe_op op_mul (pv 3) (pv 3)) (pe_op op_mul pe_int (pv 3))) pe_int))
   (pss_one (ps_ret (pe_op op_mod (pe_op op_fdiv (pv 3) pe_int) (pv 1))))))))), ?_⟩
  refine ⟨_, rfl, a, _, _, _, rfl, rfl, SqL.of ha, rfl, _, _, rfl, rfl, _, rfl, ?_⟩
  refine ite2 (fun c => ?_) (fun c => ?_)
  · refine ⟨_, rfl, a, _, _, _, rfl, rfl, SqL.of ha, rfl, _, rfl, _, _, rfl, rfl, m0, ?_⟩
    refine ⟨_, rfl, a, _, _, _, rfl, rfl, SqL.of ha, rfl, _, rfl, _, _, rfl, rfl, ⟨m0, by omega⟩, ?_⟩
    refine ⟨_, rfl, a, _, _, _, rfl, rfl, ha, rfl, ?_⟩
    refine ⟨_, rfl, k _ _ (Int.emod_nonneg _ (by omega)) (Int.emod_lt_of_pos _ m0) ⟨_, _, _, upd_same, Int.ediv_nonneg x0 (by omega), y0, y1, z0⟩ Kp.upd⟩
  · refine ⟨_, rfl, a, _, _, _, rfl, rfl, SqL.of ha, rfl, _, _, rfl, rfl, ?_⟩
    refine ⟨_, rfl, a, _, _, _, rfl, rfl, ha, rfl, ?_⟩
    generalize hH1 : upd H a _ = H1
    have h1 : H1 a = some (.lst [.int x, .int y, .int (z + 1)]) := by rw [← hH1]; exact upd_same
    have q1 : Kp a H H1 := by rw [← hH1]; exact Kp.upd
    refine ⟨_, rfl, a, _, _, _, rfl, rfl, SqL.of h1, rfl, _, _, rfl, rfl, .inl ⟨by omega, by omega⟩, _, rfl, a, _, _, _, rfl, rfl, SqL.of h1, rfl, _, _, rfl, rfl, .inl ⟨by decide, by decide⟩, _, _, rfl, rfl, _, _, rfl, rfl, _, _, rfl, rfl, (by show (0 : Int) < 2147483647; decide), ?_⟩
    refine ⟨_, rfl, a, _, _, _, rfl, rfl, h1, rfl, ?_⟩
    generalize hy : (y * 48271 + 1009 * (z + 1) + 7) % 2147483647 = y'
    have b0 : 0 ≤ y' := by rw [← hy]; exact Int.emod_nonneg _ (by decide)
    have b1 : y' < 2147483647 := by rw [← hy]; exact Int.emod_lt_of_pos _ (by decide)
    generalize hH2 : upd H1 a _ = H2
    have h2 : H2 a = some (.lst [.int x, .int y', .int (z + 1)]) := by rw [← hH2, ← hy]; exact upd_same
    have q2 : Kp a H H2 := by rw [← hH2]; exact q1.trans Kp.upd
    refine ⟨_, rfl, a, _, _, _, rfl, rfl, SqL.of h2, rfl, _, rfl, a, _, _, _, rfl, rfl, SqL.of h2, rfl, _, _, rfl, rfl, .inl ⟨by omega, by omega⟩, _, rfl, a, _, _, _, rfl, rfl, SqL.of h2, rfl, _, _, rfl, rfl, .inl ⟨by decide, by decide⟩, _, _, rfl, rfl, _, _, rfl, rfl, _, _, rfl, rfl, (by show (0 : Int) < 2147483629; decide), ?_⟩
    generalize hu : (y' * y' + 69621 * y' + 11) % 2147483629 = u
    have u0 : 0 ≤ u := by rw [← hu]; exact Int.emod_nonneg _ (by decide)
    have u1 : u < 2147483629 := by rw [← hu]; exact Int.emod_lt_of_pos _ (by decide)
    refine ⟨_, rfl, _, rfl, _, _, rfl, rfl, .inl ⟨by omega, by omega⟩, _, rfl, _, _, rfl, rfl, .inl ⟨by decide, by decide⟩, _, _, rfl, rfl, _, _, rfl, rfl, (by show (0 : Int) < 2147483587; decide), ?_⟩
    refine ⟨_, rfl, _, _, rfl, rfl, ⟨by decide, by decide⟩, _, rfl, _, _, rfl, rfl, m0, ?_⟩
    exact k _ _ (Int.emod_nonneg _ (by omega)) (Int.emod_lt_of_pos _ m0) ⟨_, _, _, h2, x0, b0, by omega, by omega⟩ q2
abbrev st_l_choose : Stmt := top 21
theorem sc_l_choose : FnScope ["_law_source_here", "_law_values"] ["_law_source_here", "_law_values"] (defScope st_l_choose) := ⟨rfl, rfl, rfl, by decide +kernel, rfl, by decide +kernel, by decide +kernel⟩
theorem ok_choose (B : Bn mg) (c_l_draw : Cal P w K mg base 1 "_law_draw" ["_law_source_here", "_law_many"] spDraw) (D : Df K mg "_law_choose" st_l_choose ["_law_source_here", "_law_values"]) : Cal P w K mg base 2 "_law_choose" ["_law_source_here", "_law_values"] spChoose := by
  refine D.cal sc_l_choose (fun vs H Q E h => ?_) (fun f cdv A out s H vs Q E hr h => ?_)
  · obtain ⟨a, l, xs, rfl, _⟩ := h
    rfl
  obtain ⟨a, l, xs, rfl, src, hl, la, n0, n1, k⟩ := h
  refine ⟨_, (pss_one (ps_ret (pe_ix ix_list (pv 1) (pe_fn c_l_draw (hr.mono (by decide)) (pa_cons (pv 0) (pa_cons (pe_callB call_len_seq (by rfl) B.n_len (by decide +kernel) (pa_cons (pv 1) pa_nil)) pa_nil))) (fun _ _ => rfl)))), ?_⟩
  refine ⟨_, rfl, _, rfl, _, rfl, l, _, rfl, .inl (SqL.of hl), ?_⟩
  refine ⟨a, xs.length, rfl, src, by omega, by omega, fun r H' r0 r1 s' kp => ?_⟩
  obtain ⟨v, hv, _, e⟩ := at_of_lt r0 r1
  exact ⟨l, _, _, _, rfl, rfl, SqL.of (kp _ _ la hl), e, k v _ hv s' kp⟩
abbrev st_l_amounts : Stmt := top 23
theorem sc_l_amounts : FnScope ["_law_source_here", "_law_many", "_law_way", "_law_base", "_law_state"] ["_law_source_here", "_law_many"] (defScope st_l_amounts) := ⟨rfl, rfl, rfl, by decide +kernel, rfl, by decide +kernel, by decide +kernel⟩
theorem ok_amounts (B : Bn mg) (c_l_draw : Cal P w K mg base 1 "_law_draw" ["_law_source_here", "_law_many"] spDraw) (c_l_choose : Cal P w K mg base 2 "_law_choose" ["_law_source_here", "_law_values"] spChoose) (D : Df K mg "_law_amounts" st_l_amounts ["_law_source_here", "_law_many"]) : Cal P w K mg base 3 "_law_amounts" ["_law_source_here", "_law_many"] spAmounts := by
  refine D.cal sc_l_amounts (fun vs H Q E h => ?_) (fun f cdv A out s H vs Q E hr h => ?_)
  · obtain ⟨a, n, rfl, _⟩ := h
    rfl
  obtain ⟨a, n, rfl, src, n0, n1, k⟩ := h
  refine ⟨_, (pss_cons (ps_asg (pe_tup (pa_cons (pe_fn c_l_draw (hr.mono (by decide)) (pa_cons (pv 0) (pa_cons pe_int pa_nil))) (pa_cons (pe_fn c_l_draw (hr.mono (by decide)) (pa_cons (pv 0) (pa_cons pe_int pa_nil))) pa_nil))) (pg_tup rfl (pgs_cons (pg_name (i := 2) sc_l_amounts.nd rfl (.inl rfl)) (pgs_cons (pg_name (i := 3) sc_l_amounts.nd rfl (.inr rfl)) pgs_nil))))
   (pss_cons (ps_if (pt_cmpR op_eq (pv 2) pe_int (nomark _)) (pss_one (ps_ret (pe_callTy call_tuple_of (by rfl) B.n_tuple (by decide +kernel) (pa_cons (pe_lc (own := [("_law_state", 4)]) (g := gName 4) rfl sc_l_amounts.nd (pi_range1 (by rfl) B.n_range (pa_cons (pv 1) pa_nil)) (blkOk_by (N := ["_law_source_here", "_law_many", "_law_way", "_law_base", "_law_state"]) (sc := defScope st_l_amounts) (by decide +kernel)) (fun _ _ _ _ _ => (pg_name (i := 4) sc_l_amounts.nd rfl (.inl rfl))) (fun _ _ _ _ _ => pts_nil) (fun _ _ _ _ _ => (pe_fn c_l_draw (hr.mono (by decide)) (pa_cons (pv 0) (pa_cons pe_int pa_nil))))) pa_nil)))) pss_nil)
   (pss_cons (ps_if (pt_cmpR op_eq (pv 2) pe_int (nomark _)) (pss_one (ps_ret (pe_callTy call_tuple_of (by rfl) B.n_tuple (by decide +kernel) (pa_cons (pe_lc (own := [("_law_state", 4)]) (g := gName 4) rfl sc_l_amounts.nd (pi_range1 (by rfl) B.n_range (pa_cons (pv 1) pa_nil)) (blkOk_by (N := ["_law_source_here", "_law_many", "_law_way", "_law_base", "_law_state"]) (sc := defScope st_l_amounts) (by decide +kernel)) (fun _ _ _ _ _ => (pg_name (i := 4) sc_l_amounts.nd rfl (.inl rfl))) (fun _ _ _ _ _ => pts_nil) (fun _ _ _ _ _ => (pe_fn c_l_draw (hr.mono (by decide)) (pa_cons (pv 0) (pa_cons pe_int pa_nil))))) pa_nil)))) pss_nil)
   (pss_cons (ps_if (pt_cmpR op_eq (pv 2) pe_int (nomark _)) (pss_one (ps_ret (pe_callTy call_tuple_of (by rfl) B.n_tuple (by decide +kernel) (pa_cons (pe_lc (own := [("_law_state", 4)]) (g := gName 4) rfl sc_l_amounts.nd (pi_range1 (by rfl) B.n_range (pa_cons (pv 1) pa_nil)) (blkOk_by (N := ["_law_source_here", "_law_many", "_law_way", "_law_base", "_law_state"]) (sc := defScope st_l_amounts) (by decide +kernel)) (fun _ _ _ _ _ => (pg_name (i := 4) sc_l_amounts.nd rfl (.inl rfl))) (fun _ _ _ _ _ => pts_nil) (fun _ _ _ _ _ => (pe_op op_add (pv 3) (pe_fn c_l_draw (hr.mono (by decide)) (pa_cons (pv 0) (pa_cons pe_int pa_nil)))))) pa_nil)))) pss_nil)
   (pss_cons (ps_if (pt_cmpR op_eq (pv 2) pe_int (nomark _)) (pss_one (ps_ret (pe_callTy call_tuple_of (by rfl) B.n_tuple (by decide +kernel) (pa_cons (pe_lc (own := [("_law_state", 4)]) (g := gName 4) rfl sc_l_amounts.nd (pi_range1 (by rfl) B.n_range (pa_cons (pv 1) pa_nil)) (blkOk_by (N := ["_law_source_here", "_law_many", "_law_way", "_law_base", "_law_state"]) (sc := defScope st_l_amounts) (by decide +kernel)) (fun _ _ _ _ _ => (pg_name (i := 4) sc_l_amounts.nd rfl (.inl rfl))) (fun _ _ _ _ _ => pts_nil) (fun _ _ _ _ _ => (pe_fn c_l_choose (hr.mono (by decide)) (pa_cons (pv 0) (pa_cons (pe_lst (pa_cons pe_int (pa_cons pe_int pa_nil))) pa_nil))))) pa_nil)))) pss_nil)
   (pss_cons (ps_if (pt_cmpR op_eq (pv 2) pe_int (nomark _)) (pss_one (ps_ret (pe_callTy call_tuple_of (by rfl) B.n_tuple (by decide +kernel) (pa_cons (pe_lc (own := [("_law_state", 4)]) (g := gName 4) rfl sc_l_amounts.nd (pi_range1 (by rfl) B.n_range (pa_cons (pv 1) pa_nil)) (blkOk_by (N := ["_law_source_here", "_law_many", "_law_way", "_law_base", "_law_state"]) (sc := defScope st_l_amounts) (by decide +kernel)) (fun _ _ _ _ _ => (pg_name (i := 4) sc_l_amounts.nd rfl (.inl rfl))) (fun _ _ _ _ _ => pts_nil) (fun _ _ _ _ _ => (pe_fn c_l_choose (hr.mono (by decide)) (pa_cons (pv 0) (pa_cons (pe_lst (pa_cons (pv 3) (pa_cons (pe_op op_add (pv 3) pe_int) (pa_cons (pe_op op_sub pe_int (pv 3)) pa_nil)))) pa_nil))))) pa_nil)))) pss_nil)
   (pss_one (ps_ret (pe_callTy call_tuple_of (by rfl) B.n_tuple (by decide +kernel) (pa_cons (pe_callB cr_sorted (by rfl) B.n_sorted (by decide +kernel) (pa_cons (pe_lc (own := [("_law_state", 4)]) (g := gName 4) rfl sc_l_amounts.nd (pi_range1 (by rfl) B.n_range (pa_cons (pv 1) pa_nil)) (blkOk_by (N := ["_law_source_here", "_law_many", "_law_way", "_law_base", "_law_state"]) (sc := defScope st_l_amounts) (by decide +kernel)) (fun _ _ _ _ _ => (pg_name (i := 4) sc_l_amounts.nd rfl (.inl rfl))) (fun _ _ _ _ _ => pts_nil) (fun _ _ _ _ _ => (pe_fn c_l_draw (hr.mono (by decide)) (pa_cons (pv 0) (pa_cons pe_int pa_nil))))) pa_nil)) pa_nil)))))))))), ?_⟩
  refine ⟨_, rfl, a, 6, rfl, src, by decide, by decide, fun way H0 w0 w1 s0 k0 => ?_⟩
  refine ⟨_, rfl, a, 29, rfl, s0, by decide, by decide, fun bs H1 b0 b1 s1 k1 => ?_⟩
  have kk := k0.trans k1
  refine ⟨(by show 2 ≤ sizeLine; decide), fun q hq => ⟨q, _, rfl, SqT.of upd_same, rfl, _, _, rfl, _, _, rfl, rfl, ?_⟩⟩
  generalize hH2 : upd H1 q _ = H2
  have s2 : Src H2 a := by rw [← hH2]; exact s1.upd hq
  have k2 : Kp a H H2 := by rw [← hH2]; exact kk.new hq
  have fin : ∀ {D : Addr} {H' : Hp}, AInv a D H2 n H' → ∃ p ys, [V.ref D] = [V.ref p] ∧ ((SqL K H' p ys ∧ ∀ l, H' l = none → Q (.ref l) (upd H' l (.tup ys))) ∨ (SqT K H' p ys ∧ Q (.ref p) H')) := by
    rintro D H' ⟨ns, e, am, s', kp, hd⟩
    exact ⟨D, _, rfl, .inl ⟨SqL.of hd, fun l hl => k l ns _ e am (s'.upd hl) ((k2.trans kp).new hl) upd_same⟩⟩
  refine ⟨_, rfl, rfl, _, rfl, ite2 (fun c => ?_) (fun c => ?_)⟩
  · refine ⟨_, rfl, n, rfl, by omega, by omega, fun D hD => lc_range (lo := 0) (n := n) (AInv a D H2) (AInv.start s2 hD) (fun i H3 hi p => ⟨rfl, tyes ?_⟩) (fun H3 p => fin p)⟩
    have s3 : Src H3 a := p.src
    refine ⟨_, rfl, a, 31, rfl, s3, by decide, by decide, fun r H4 r0 r1 s4 k4 => ?_⟩
    exact p.next (by omega) hD (s2.ne hD) s4 k4 r0 (by omega)
  refine ⟨_, rfl, rfl, _, rfl, ite2 (fun c => ?_) (fun c => ?_)⟩
  · refine ⟨_, rfl, n, rfl, by omega, by omega, fun D hD => lc_range (lo := 0) (n := n) (AInv a D H2) (AInv.start s2 hD) (fun i H3 hi p => ⟨rfl, tyes ?_⟩) (fun H3 p => fin p)⟩
    have s3 : Src H3 a := p.src
    refine ⟨_, rfl, a, 4, rfl, s3, by decide, by decide, fun r H4 r0 r1 s4 k4 => ?_⟩
    exact p.next (by omega) hD (s2.ne hD) s4 k4 r0 (by omega)
  refine ⟨_, rfl, rfl, _, rfl, ite2 (fun c => ?_) (fun c => ?_)⟩
  · refine ⟨_, rfl, n, rfl, by omega, by omega, fun D hD => lc_range (lo := 0) (n := n) (AInv a D H2) (AInv.start s2 hD) (fun i H3 hi p => ⟨rfl, tyes ?_⟩) (fun H3 p => fin p)⟩
    have s3 : Src H3 a := p.src
    refine ⟨_, rfl, _, rfl, a, 3, rfl, s3, by decide, by decide, fun r H4 r0 r1 s4 k4 => ⟨_, _, rfl, rfl, ?_⟩⟩
    exact p.next (by omega) hD (s2.ne hD) s4 k4 (by omega) (by omega)
  refine ⟨_, rfl, rfl, _, rfl, ite2 (fun c => ?_) (fun c => ?_)⟩
  · refine ⟨_, rfl, n, rfl, by omega, by omega, fun D hD => lc_range (lo := 0) (n := n) (AInv a D H2) (AInv.start s2 hD) (fun i H3 hi p => ⟨rfl, tyes ?_⟩) (fun H3 p => fin p)⟩
    have s3 : Src H3 a := p.src
    refine ⟨_, rfl, (by show 2 ≤ sizeLine; decide), fun l hl => ?_⟩
    refine ⟨a, l, _, rfl, s3.upd hl, upd_same, s3.ne hl, (by show 0 < 2; decide), (by show 2 ≤ 1000; decide), fun v H4 hv s4 k4 => ?_⟩
    have k5 : Kp a H3 H4 := ((Kp.refl a H3).new hl).trans k4
    rcases List.mem_cons.mp hv with rfl | hv
    · exact p.next (by omega) hD (s2.ne hD) s4 k5 (by decide) (by decide)
    rw [List.mem_singleton.mp hv]
    exact p.next (by omega) hD (s2.ne hD) s4 k5 (by decide) (by decide)
  refine ⟨_, rfl, rfl, _, rfl, ite2 (fun c => ?_) (fun c => ?_)⟩
  · refine ⟨_, rfl, n, rfl, by omega, by omega, fun D hD => lc_range (lo := 0) (n := n) (AInv a D H2) (AInv.start s2 hD) (fun i H3 hi p => ⟨rfl, tyes ?_⟩) (fun H3 p => fin p)⟩
    have s3 : Src H3 a := p.src
    refine ⟨_, rfl, _, rfl, _, rfl, _, _, rfl, rfl, _, rfl, _, _, rfl, rfl, (by show 3 ≤ sizeLine; decide), fun l hl => ?_⟩
    refine ⟨a, l, _, rfl, s3.upd hl, upd_same, s3.ne hl, (by show 0 < 3; decide), (by show 3 ≤ 1000; decide), fun v H4 hv s4 k4 => ?_⟩
    have k5 : Kp a H3 H4 := ((Kp.refl a H3).new hl).trans k4
    rcases List.mem_cons.mp hv with rfl | hv
    · exact p.next (by omega) hD (s2.ne hD) s4 k5 (by omega) (by omega)
    rcases List.mem_cons.mp hv with rfl | hv
    · exact p.next (r := bs + 1) (by omega) hD (s2.ne hD) s4 k5 (by omega) (by omega)
    rw [List.mem_singleton.mp hv]
    exact p.next (r := 30 - bs) (by omega) hD (s2.ne hD) s4 k5 (by omega) (by omega)
  refine ⟨_, rfl, n, rfl, by omega, by omega, fun D hD => lc_range (lo := 0) (n := n) (AInv a D H2) (AInv.start s2 hD) (fun i H3 hi p => ⟨rfl, tyes ?_⟩) (fun H3 p => ?_)⟩
  · have s3 : Src H3 a := p.src
    refine ⟨_, rfl, a, 31, rfl, s3, by decide, by decide, fun r H4 r0 r1 s4 k4 => ?_⟩
    exact p.next (by omega) hD (s2.ne hD) s4 k4 r0 (by omega)
  · obtain ⟨ns, e, am, s', kp, hd⟩ := p
    refine ⟨D, ns, rfl, SqL.of hd, by omega, fun ns' p' pm sd hp => ?_⟩
    refine ⟨p', _, rfl, .inl ⟨SqL.of upd_same, fun l hl => k l ns' _ ?_ (fun r hr => am r (pm.mem_iff.mp hr)) ((s'.upd hp).upd hl) (((k2.trans kp).new hp).new hl) upd_same⟩⟩
    rw [pm.length_eq, e]
end
end Pl
namespace Pl
open PySem PySem.Spec PyProof.Rows L2
/-! the mathematics -/
/-- the ints in ascending order -/
def srt (ns : List Int) : List Int := ns.mergeSort
theorem srt_perm (ns : List Int) : (srt ns).Perm ns := List.mergeSort_perm _ _
theorem srt_sorted (ns : List Int) : (srt ns).Pairwise (· ≤ ·) := by
  have h := List.pairwise_mergeSort (le := fun (a b : Int) => decide (a ≤ b)) (fun a b c h1 h2 => by simp at *; omega) (fun a b => by simp; omega) ns
  exact h.imp fun h => by simpa using h
theorem srt_of {l ns : List Int} (p : l.Perm ns) (s : l.Pairwise (· ≤ ·)) : l = srt ns := PySem.W.ksm_same (p.trans (srt_perm ns).symm) s (srt_sorted ns)
theorem srt_length (ns : List Int) : (srt ns).length = ns.length := (srt_perm ns).length_eq
/-- the sum of the k smallest -/
def low (ns : List Int) (k : Nat) : Int := ((srt ns).take k).sum
theorem cut_take {xs : List V} {n : Nat} (h : n ≤ xs.length) : cutV xs none (some (n : Int)) = xs.take n := by
  unfold cutV
  rw [HT.sIx_none, HT.sIx_nat, List.drop_zero, Nat.sub_zero, Nat.min_eq_left h]
/-- the second is at least as calm as the first -/
def calm (ns ms : List Int) : Bool := decide (ns.sum = ms.sum) && (List.range (ns.length + 1)).all fun k => decide (low ns k ≤ low ms k)
/-- an integer from 0 to m -/
def isTo (m : Int) : V → Bool
  | .int i => decide (0 ≤ i) && decide (i ≤ m)
  | _ => false
def isInt : V → Bool
  | .int _ => true
  | _ => false
/-- what isinstance says of the value: whether it is an int that is no bool -/
def Kd (K : PySem.W.Frag) (H : Hp) (x : V) : Prop := ∃ (t : Value) (bi bb : Bool), TyX K H x t ∧ PySem.W.kitOne K t (.type "int") = some bi ∧ PySem.W.kitOne K t (.type "bool") = some bb ∧ (bi && !bb) = isInt x
theorem Kd.int {K : PySem.W.Frag} {H : Hp} (i : Int) : Kd K H (.int i) := ⟨_, true, false, .base (.int i), kit_ty (by decide +kernel), kit_ty (by decide +kernel), rfl⟩
theorem TyX.same {K : PySem.W.Frag} {H H' : Hp} {x : V} {t : Value} (s : Same H H') (h : TyX K H x t) : TyX K H' x t := by
  cases h with
  | base b =>
    refine .base ?_
    cases b with
    | non => exact .non
    | bl y => exact .bl y
    | int i => exact .int i
    | str y => exact .str y
    | flt y => exact .flt y
    | lst e => exact .lst (s _ _ e)
    | frz e => exact .frz (s _ _ e)
    | tup e => exact .tup (s _ _ e)
    | dK e => exact .dK (s _ _ e)
    | dT e => exact .dT (s _ _ e)
    | ins e cl a b c d => exact .ins (s _ _ e) cl a b c d
  | byt b => exact .byt b
  | set e => exact .set (s _ _ e)
  | kList e c => exact .kList e c
  | kTuple e c => exact .kTuple e c
  | kDict e c => exact .kDict e c
  | fTuple e => exact .fTuple (s _ _ e)
  | fDict e => exact .fDict (s _ _ e)
theorem Kd.same {K : PySem.W.Frag} {H H' : Hp} {x : V} (s : Same H H') (h : Kd K H x) : Kd K H' x := by
  obtain ⟨t, bi, bb, ty, r⟩ := h
  exact ⟨t, bi, bb, TyX.same s ty, r⟩
/-! what the top has written of Share -/
structure Cn (mg : Str → Option Value) : Prop where
  c_FEWEST_STATES : ∃ t, mg "FEWEST_STATES" = some (.int 2 t)
  c_MOST_STATES : ∃ t, mg "MOST_STATES" = some (.int 6 t)
  c_MOST_IN_A_STATE : ∃ t, mg "MOST_IN_A_STATE" = some (.int 30 t)
structure ShK (K : PySem.W.Frag) (mg : Str → Option Value) (C : Addr) : Prop where
  cl : Cls K C
  nB : NoAttr K C "by_state"
  mgC : mg "Share" = some (.ref C)
  mks : PySem.W.makesIn K C = true
  kc : PySem.W.keepIn K (.ref C) = true
  ca : PySem.W.findIn K (.ref C) "__class__" = some (some (.builtin "object.__class__"))
  cg : PySem.W.specialIn K (.builtin "object.__class__") "__get__" = some (some (.builtin "getset_descriptor.__get__"))
  ct : PySem.W.takesIn K (.builtin "object.__class__") = some true
  mro : PySem.W.mroIn K C (.type "object") = some true
  kit : PySem.W.kitOne K (.ref C) (.ref C) = some true
  fi : ∀ f, PySem.W.findIn K (.ref C) "__call__" = some (some (.ref f)) → PySem.W.fnIn K f = true
/-- the same, of the written part alone -/
structure ShF (K : PySem.W.Frag) (C : Addr) : Prop where
  pg : PySem.W.plainGet K C Str.empty = true
  hd : PySem.W.hasDictIn K C = true
  po : PySem.W.plainOver K C = true
  sa : PySem.W.findIn K (.ref C) "__setattr__" = some (some (.builtin "object.__setattr__"))
  nB : PySem.W.findIn K (.ref C) "by_state" = some none
  mks : PySem.W.makesIn K C = true
  kc : PySem.W.keepIn K (.ref C) = true
  ca : PySem.W.findIn K (.ref C) "__class__" = some (some (.builtin "object.__class__"))
  cg : PySem.W.specialIn K (.builtin "object.__class__") "__get__" = some (some (.builtin "getset_descriptor.__get__"))
  ct : PySem.W.takesIn K (.builtin "object.__class__") = some true
  mro : PySem.W.mroIn K C (.type "object") = some true
  kit : PySem.W.kitOne K (.ref C) (.ref C) = some true
theorem ShF.k {K : PySem.W.Frag} {mg : Str → Option Value} {C : Addr} (s : ShF K C) (c : CallF K C) (g : mg "Share" = some (.ref C)) : ShK K mg C :=
  ⟨⟨s.pg, s.hd, s.po, s.sa⟩, s.nB, g, s.mks, s.kc, s.ca, s.cg, s.ct, s.mro, s.kit, fun f h => by
    obtain ⟨f', a, b⟩ := c.ex
    rw [a] at h
    cases h
    exact b⟩
def shF (t : Addr) : List (Str × V) := [("by_state", .ref t)]
theorem shF_get (t : Addr) : (shF t).lookup ("by_state" : Str) = some (.ref t) := by simp [shF, List.lookup]
/-- a share with the amounts ns stands at s, its tuple at t -/
def ShAt (C : Addr) (H : Hp) (s t : Addr) (ns : List Int) : Prop := (∃ dx, H s = some (.ins C dx (shF t))) ∧ H t = some (.tup (ns.map V.int)) ∧ 2 ≤ ns.length ∧ ns.length ≤ 6 ∧ Am ns
theorem ShAt.same {C : Addr} {H H' : Hp} {s t : Addr} {ns : List Int} (h : ShAt C H s t ns) (k : Same H H') : ShAt C H' s t ns := by
  obtain ⟨⟨dx, h1⟩, h2, r⟩ := h
  exact ⟨⟨dx, k _ _ h1⟩, k _ _ h2, r⟩
theorem ShAt.kp {C : Addr} {H H' : Hp} {s t a : Addr} {ns : List Int} (h : ShAt C H s t ns) (sr : Src H a) (k : Kp a H H') : ShAt C H' s t ns := by
  obtain ⟨⟨dx, h1⟩, h2, r⟩ := h
  exact ⟨⟨dx, k _ _ (sr.neI h1) h1⟩, k _ _ (sr.neT h2) h2, r⟩
def spIsInt (K : PySem.W.Frag) : Sp := fun vs H Q _ => ∃ (x : V) (m : Int), vs = [x, .int m] ∧ Kd K H x ∧ Q (.bl (isTo m x)) H
/-- a tuple of 2 to 6 integers from 0 to 30 -/
def isAm (xs : List V) : Bool := decide (2 ≤ xs.length) && decide (xs.length ≤ 6) && xs.all (isTo 30)
def spIsAm (K : PySem.W.Frag) : Sp := fun vs H Q _ => ∃ x : V, vs = [x] ∧
  ((∃ (p : Addr) (xs : List V), x = .ref p ∧ H p = some (.tup xs) ∧ xs.length ≤ 1000 ∧ (∀ y ∈ xs, Kd K H y) ∧ ∀ H', Same H H' → Q (.bl (isAm xs)) H') ∨
   (∃ t, TyX K H x t ∧ PySem.W.kitOne K t (.type "tuple") = some false ∧ Q (.bl false) H))
theorem isAm_ints {ns : List Int} (h2 : 2 ≤ ns.length) (h6 : ns.length ≤ 6) (am : Am ns) : isAm (ns.map V.int) = true := by
  simp only [isAm, List.length_map, Bool.and_eq_true, decide_eq_true_eq, List.all_eq_true]
  refine ⟨⟨h2, h6⟩, fun x hx => ?_⟩
  obtain ⟨i, hi, rfl⟩ := List.mem_map.mp hx
  obtain ⟨a, b⟩ := am i hi
  simp [isTo, a, b]
def spInit (C : Addr) : Sp := fun vs H Q _ => ∃ (p t dx : Addr) (ns : List Int), vs = [.ref p, .ref t] ∧ H p = some (.ins C dx []) ∧ H t = some (.tup (ns.map V.int)) ∧ 2 ≤ ns.length ∧ ns.length ≤ 6 ∧ Am ns ∧
  ∀ H', Kp p H H' → ShAt C H' p t ns → Q .non H'
theorem mk_at {C t x dx : Addr} {ns : List Int} {H : Hp} {R : Hp → Prop} {E : XK} (nx : H x = none) (nd : H dx = none) (ht : H t = some (.tup (ns.map V.int))) (h2 : 2 ≤ ns.length) (h6 : ns.length ≤ 6) (am : Am ns)
    (k : ∀ H' : Hp, Same H H' → ShAt C H' x t ns → R H') : spInit C (.ref x :: ([.ref t] ++ [])) (upd (upd H dx (.own x)) x (.ins C dx [])) (fun v H2 => v = .non ∧ R H2) E := by
  have s1 : Same H (upd (upd H dx (.own x)) x (.ins C dx [])) := same_put (same_put (Same.refl H) nd) nx
  refine ⟨x, t, dx, ns, rfl, upd_same, s1 _ _ ht, h2, h6, am, fun H' kp sh => ⟨rfl, k H' (fun b o e => kp b o (ne_of_none e nx) (s1 b o e)) sh⟩⟩
def spTotal (C : Addr) : Sp := fun vs H Q _ => ∃ (s t : Addr) (ns : List Int), vs = [.ref s] ∧ ShAt C H s t ns ∧ Q (.int ns.sum) H
def spLen (C : Addr) : Sp := fun vs H Q _ => ∃ (s t : Addr) (ns : List Int), vs = [.ref s] ∧ ShAt C H s t ns ∧ Q (.int ns.length) H
def spCall (C : Addr) : Sp := fun vs H Q _ => ∃ (s t : Addr) (ns : List Int) (k : Nat), vs = [.ref s, .int k] ∧ ShAt C H s t ns ∧ k ≤ ns.length ∧ ∀ H', Same H H' → Q (.int (low ns k)) H'
def spPair (C : Addr) : Sp := fun vs H Q _ => ∃ (s1 t1 s2 t2 : Addr) (ns ms : List Int), vs = [.ref s1, .ref s2] ∧ ShAt C H s1 t1 ns ∧ ShAt C H s2 t2 ms ∧ ns.length = ms.length ∧ Q .non H
def spCalm (C : Addr) : Sp := fun vs H Q _ => ∃ (s1 t1 s2 t2 : Addr) (ns ms : List Int), vs = [.ref s1, .ref s2] ∧ ShAt C H s1 t1 ns ∧ ShAt C H s2 t2 ms ∧ ns.length = ms.length ∧
  ∀ H', Same H H' → Q (.bl (calm ns ms)) H'
def spCalmer (C : Addr) : Sp := fun vs H Q _ => ∃ (s1 t1 s2 t2 : Addr) (ns ms : List Int), vs = [.ref s1, .ref s2] ∧ ShAt C H s1 t1 ns ∧ ShAt C H s2 t2 ms ∧ ns.length = ms.length ∧
  ∀ H', Same H H' → Q (.bl (calm ns ms && !calm ms ns)) H'
end Pl
namespace Pl
open PySem PySem.Spec PyProof.Rows L2
section
variable {P : Program} {w : World} {K : PySem.W.Frag} {mg : Str → Option Value} {base : Heap} {CShare : Addr}
abbrev st_is_integer_to : Stmt := top 2
theorem sc_is_integer_to : FnScope ["thing", "most"] ["thing", "most"] (defScope st_is_integer_to) := ⟨rfl, rfl, rfl, by decide +kernel, rfl, by decide +kernel, by decide +kernel⟩
theorem ok_isint (B : Bn mg) (D : Df K mg "is_integer_to" st_is_integer_to ["thing", "most"]) : Cal P w K mg base 1 "is_integer_to" ["thing", "most"] (spIsInt K) := by
  refine D.cal sc_is_integer_to (fun vs H Q E h => ?_) (fun f cdv A out s H vs Q E hr h => ?_)
  · obtain ⟨x, m, rfl, _⟩ := h
    rfl
  obtain ⟨x, m, rfl, ⟨t, bi, bb, ty, k1, k2, kd⟩, k⟩ := h
  refine ⟨_, (pss_one (ps_ret (pe_and (pe_callB call_isi (by rfl) B.n_isinstance (by decide +kernel) (pa_cons (pv 0) (pa_cons (pe_bltn (v := .ty "int") (by rfl) B.n_int (by decide +kernel) rfl) pa_nil))) (pe_and (pe_not (pe_callB call_isi (by rfl) B.n_isinstance (by decide +kernel) (pa_cons (pv 0) (pa_cons (pe_bltn (v := .ty "bool") (by rfl) B.n_bool (by decide +kernel) rfl) pa_nil)))) (pe_one (pe_chain op_le op_le pe_int (pv 0) (pv 1))))))), ?_⟩
  refine ⟨_, rfl, x, _, t, _, bi, rfl, .ty _, ty, k1, bi, rfl, ?_⟩
  cases bi with
  | false =>
    have e : isTo m x = false := by
      cases x <;> first | rfl | simp [isInt] at kd
    rw [e] at k
    exact iteF k
  | true =>
    refine iteT ⟨_, rfl, x, _, t, _, bb, rfl, .ty _, ty, k2, bb, rfl, _, rfl, ?_⟩
    cases bb with
    | true =>
      have e : isTo m x = false := by
        cases x <;> first | rfl | simp [isInt] at kd
      rw [e] at k
      exact iteF k
    | false =>
      refine iteT ?_
      cases x <;> first | (simp [isInt] at kd; done) | skip
      rename_i i
      refine ⟨_, rfl, _, _, rfl, rfl, _, rfl, ?_⟩
      have e : isTo m (.int i) = (decide (0 ≤ i) && decide (i ≤ m)) := rfl
      rw [e] at k
      refine ite2 (fun c => ?_) (fun c => ?_)
      · have c2 : decide (0 ≤ i) = true := c
        rw [c2] at k
        exact ⟨_, rfl, _, _, rfl, rfl, k⟩
      · have c2 : decide (0 ≤ i) = false := by simpa using c
        rw [c2] at k
        exact k
abbrev st_is_amounts : Stmt := top 14
theorem sc_is_amounts : FnScope ["thing", "amount"] ["thing"] (defScope st_is_amounts) := ⟨rfl, rfl, rfl, by decide +kernel, rfl, by decide +kernel, by decide +kernel⟩
theorem ok_isam (B : Bn mg) (Cc : Cn mg) (c_is_integer_to : Cal P w K mg base 1 "is_integer_to" ["thing", "most"] (spIsInt K)) (D : Df K mg "is_amounts" st_is_amounts ["thing"]) : Cal P w K mg base 2 "is_amounts" ["thing"] (spIsAm K) := by
  refine D.cal sc_is_amounts (fun vs H Q E h => ?_) (fun f cdv A out s H vs Q E hr h => ?_)
  · obtain ⟨x, rfl, _⟩ := h
    rfl
  obtain ⟨x, rfl, h⟩ := h
  refine ⟨_, (pss_cons (ps_if (PW.pt (pw_or (pt_not (pt_val (pe_callB call_isi (by rfl) B.n_isinstance (by decide +kernel) (pa_cons (pv 0) (pa_cons (pe_bltn (v := .ty "tuple") (by rfl) B.n_tuple (by decide +kernel) rfl) pa_nil))))) (pw_or1 (pt_not (pt_chain op_le op_le (pe_glob (v := .int 2) rfl Cc.c_FEWEST_STATES.choose_spec ⟨_, rfl⟩) (pe_callB call_len_seq (by rfl) B.n_len (by decide +kernel) (pa_cons (pv 0) pa_nil)) (pe_glob (v := .int 6) rfl Cc.c_MOST_STATES.choose_spec ⟨_, rfl⟩)))))) (pss_one (ps_ret pe_bl)) pss_nil)
   (pss_one (ps_ret (pe_callB (cr_all rfl) (by rfl) B.n_all (by decide +kernel) (pa_cons (pe_lc (own := [("amount", 1)]) (g := gName 1) rfl sc_is_amounts.nd (pi_tup (pv 0)) (blkOk_by (N := ["thing", "amount"]) (sc := defScope st_is_amounts) (by decide +kernel)) (fun _ _ _ _ _ => (pg_name (i := 1) sc_is_amounts.nd rfl (.inl rfl))) (fun _ _ _ _ _ => pts_nil) (fun _ _ _ _ _ => (pe_fn c_is_integer_to (hr.mono (by decide)) (pa_cons (pv 1) (pa_cons (pe_glob (v := .int 30) rfl Cc.c_MOST_IN_A_STATE.choose_spec ⟨_, rfl⟩) pa_nil))))) pa_nil))))), ?_⟩
  rcases h with ⟨p, xs, rfl, hp, xl, kd, k⟩ | ⟨t, ty, kt, k⟩
  · refine ⟨_, rfl, _, _, _, _, true, rfl, .ty _, .base (.tup hp), kit_ty (by decide +kernel), _, rfl, iteF ?_⟩
    refine ⟨_, rfl, p, _, rfl, .inr (SqT.of hp), _, _, rfl, rfl, _, rfl, ?_⟩
    have no : isAm xs = false → Q (.bl false) H := fun e => by
      have z := k H (Same.refl H)
      rw [e] at z
      exact z
    refine ite2 (fun c => ?_) (fun c => ?_)
    · refine ⟨_, _, rfl, rfl, _, rfl, ?_⟩
      have c2 : (2 : Int) ≤ xs.length := of_decide_eq_true c
      refine ite2 (fun c3 => ?_) (fun c3 => ?_)
      · refine no ?_
        have c4 : ¬ ((xs.length : Int) ≤ 6) := by simpa using c3
        have c5 : decide (xs.length ≤ 6) = false := by simp; omega
        simp [isAm, c5]
      · have c4 : (xs.length : Int) ≤ 6 := by simpa using c3
        have e0 : isAm xs = xs.all (isTo 30) := by
          have a1 : decide (2 ≤ xs.length) = true := by simp; omega
          have a2 : decide (xs.length ≤ 6) = true := by simp; omega
          simp [isAm, a1, a2]
        refine ⟨_, rfl, p, rfl, ⟨_, SqT.of hp⟩, fun D hD => lc_tup (K := K) (a := p) (xs := xs) (fun i H' => Same H H' ∧ H' D = some (.lst ((xs.take i).map fun x => .bl (isTo 30 x))))
          ⟨same_new (Same.refl H) hD, upd_same⟩ (fun i H' _ q => SqT.of (q.1 _ _ hp)) (fun i x H' hx q => ⟨rfl, tyes ?_⟩) (fun H' q => ?_)⟩
        · refine ⟨_, rfl, x, 30, rfl, (kd x (List.mem_of_getElem? hx)).same q.1, ?_⟩
          refine ⟨_, q.2, size_lt (by simp; omega), same_put q.1 hD, ?_⟩
          rw [upd_same, List.take_add_one, hx, List.map_append]
          rfl
        · refine ⟨D, xs.map (isTo 30), rfl, ?_, ?_⟩
          · have e := q.2
            rw [List.take_length] at e
            rw [List.map_map]
            exact SqL.of e
          · have z := k H' q.1
            rw [e0] at z
            have e1 : (xs.map (isTo 30)).all id = xs.all (isTo 30) := by rw [List.all_map]; rfl
            rw [e1]
            exact z
    · refine ⟨_, rfl, iteT (no ?_)⟩
      have c4 : ¬ ((2 : Int) ≤ xs.length) := by simpa using c
      have c5 : decide (2 ≤ xs.length) = false := by simp; omega
      simp [isAm, c5]
  · exact ⟨_, rfl, x, _, t, _, false, rfl, .ty _, ty, kt, _, rfl, iteT (iteT k)⟩
abbrev st_ShInit : Stmt := inClass (top 13) 0
theorem sc_ShInit : FnScope ["self", "amounts"] ["self", "amounts"] (defScope st_ShInit) := ⟨rfl, rfl, rfl, by decide +kernel, rfl, by decide +kernel, by decide +kernel⟩
theorem ok_init (SShare : ShK K mg CShare) (c_is_amounts : Cal P w K mg base 2 "is_amounts" ["thing"] (spIsAm K)) (D : Mh K CShare "__init__" "Share.__init__" st_ShInit ["self", "amounts"]) : MCal P w K mg base 3 CShare "__init__" ["self", "amounts"] (spInit CShare) := by
  refine D.cal sc_ShInit (fun vs H Q E h => ?_) (fun f cdv A out s H vs Q E hr h => ?_)
  · obtain ⟨p, t, dx, ns, rfl, _⟩ := h
    rfl
  obtain ⟨p, t, dx, ns, rfl, hp, ht, h2, h6, am, k⟩ := h
  refine ⟨_, (pss_cons (ps_if (pt_not (pt_val (pe_fn c_is_amounts (hr.mono (by decide)) (pa_cons (pv 1) pa_nil)))) (pss_one ps_never) pss_nil)
   (pss_one (ps_fld (pv 0) (pv 1) rfl))), ?_⟩
  refine ⟨_, rfl, .ref t, rfl, .inl ⟨t, _, rfl, ht, by rw [List.length_map]; omega, fun y hy => ?_, fun H1 s1 => ?_⟩⟩
  · obtain ⟨i, _, rfl⟩ := List.mem_map.mp hy
    exact Kd.int i
  rw [isAm_ints h2 h6 am]
  refine ⟨_, rfl, iteF ?_⟩
  refine ⟨_, rfl, _, rfl, p, CShare, dx, _, rfl, s1 _ _ hp, SShare.cl, SShare.nB, (by show 0 < 1000; decide), ?_⟩
  have tp : t ≠ p := ne_of ht hp (by intro z; cases z)
  exact k _ (fun b o n e => by rw [upd_ne n]; exact s1 _ _ e) ⟨⟨dx, upd_same⟩, by rw [upd_ne tp]; exact s1 _ _ ht, h2, h6, am⟩
end
end Pl
namespace Pl
open PySem PySem.Spec PyProof.Rows L2
theorem low_succ {ns : List Int} {i : Nat} {x : Int} (h : (srt ns)[i]? = some x) : low ns (i + 1) = low ns i + x := by
  unfold low
  rw [List.take_add_one, h, List.sum_append]
  simp
theorem perm_sum {l m : List Int} (h : l.Perm m) : l.sum = m.sum := by
  induction h with
  | nil => rfl
  | cons x _ ih => simp [ih]
  | swap x y l => simp; omega
  | trans _ _ a b => exact a.trans b
theorem low_zero (ns : List Int) : low ns 0 = 0 := rfl
theorem low_all (ns : List Int) : low ns ns.length = ns.sum := by
  unfold low
  rw [← srt_length ns, List.take_length]
  exact perm_sum (srt_perm ns)
theorem dpInts (K : PySem.W.Frag) (H : Hp) : ∀ ns : List Int, DpAll K H (ns.map V.int) (ns.map PyData.int)
  | [] => .nil
  | n :: ns => .cons (.int n) (dpInts K H ns)
theorem depthInts : ∀ ns : List Int, PyData.depthAll (ns.map PyData.int) = 0
  | [] => rfl
  | n :: ns => by
    show max 0 (PyData.depthAll (ns.map PyData.int)) = 0
    rw [depthInts ns]; rfl
theorem layInts : ∀ ns : List Int, PyData.canLayAll0 (ns.map PyData.int) = true
  | [] => by simp [PyData.canLayAll0]
  | n :: ns => by
    simp only [List.map_cons, PyData.canLayAll0, PyData.canLay0, layInts ns, Bool.and_self]
theorem shapedInts (ns : List Int) : SeqAt.shaped (.list (ns.map PyData.int)) = true := by
  show (PyData.canLay0 (.list (ns.map PyData.int)) && decide (PyData.depth (.list (ns.map PyData.int)) ≤ 64)) = true
  simp only [PyData.canLay0, PyData.depth, layInts, depthInts]
  decide
theorem cons_erase {x : Int} : ∀ {ns : List Int} {j : Nat}, ns[j]? = some x → ([x] ++ ns.eraseIdx j).Perm ns
  | [], _, h => by simp at h
  | n :: ns, 0, h => by
    obtain rfl : n = x := by simpa using h
    exact List.Perm.refl _
  | n :: ns, j + 1, h => by
    have q := cons_erase (ns := ns) (j := j) (by simpa using h)
    show (x :: n :: ns.eraseIdx j).Perm (n :: ns)
    exact (List.Perm.swap n x _).trans (List.Perm.cons n q)
theorem map_erase {α β : Type} (f : α → β) : ∀ (l : List α) (j : Nat), (l.map f).eraseIdx j = (l.eraseIdx j).map f
  | [], j => rfl
  | x :: l, 0 => rfl
  | x :: l, j + 1 => by
    show f x :: (l.map f).eraseIdx j = f x :: (l.eraseIdx j).map f
    rw [map_erase f l j]
theorem perm_erase {ns ms zs : List Int} {j : Nat} {x : Int} (p : (ms ++ ns).Perm zs) (h : ns[j]? = some x) : ((ms ++ [x]) ++ ns.eraseIdx j).Perm zs := by
  refine List.Perm.trans ?_ p
  rw [List.append_assoc]
  refine List.Perm.append_left _ ?_
  exact cons_erase h
theorem at_int {ms : List Int} {r : Int} (h0 : 0 ≤ r) (h1 : r < ms.length) : ∃ x, ms[r.toNat]? = some x ∧ x ∈ ms ∧ atI (ms.map V.int) r = some (.int x) := by
  obtain ⟨x, hx, e, _⟩ := at_of_lt h0 h1
  refine ⟨x, e, hx, ?_⟩
  have z := atI_nat (xs := ms.map V.int) (j := r.toNat) (v := .int x) (by rw [List.getElem?_map, e]; rfl)
  rw [Int.toNat_of_nonneg h0] at z
  exact z
theorem ix_of {n : Nat} {r : Int} (h0 : 0 ≤ r) (h1 : r < n) : ixN n r = some r.toNat := by
  unfold ixN
  rw [if_pos h0, if_pos h1]
theorem am_set {ms : List Int} {j : Nat} {x : Int} (am : Am ms) (h0 : 0 ≤ x) (h1 : x ≤ 30) : Am (ms.set j x) := fun r hr => by
  rcases List.mem_or_eq_of_mem_set hr with h | h
  · exact am r h
  · rw [h]; exact ⟨h0, h1⟩
end Pl
namespace Pl
open PySem PySem.Spec PyProof.Rows L2
/-- what repr can show -/
def Shw (d : PyData) : Prop := d.showable = true ∧ d.hasDict = false ∧ d.depth ≤ 60 ∧ d.shown.length ≤ sizeLine
/-- data that is not too large to be shown: depth at most k, weight at most m -/
structure Fit (k m : Nat) (d : PyData) : Prop where
  lay : d.canLay0 = true
  short : d.intsShort 13 = true
  dep : d.depth ≤ k
  wt : d.weight ≤ m
  sh : d.showable = true
  nd : d.hasDict = false
structure FitAll (k m : Nat) (ds : List PyData) : Prop where
  lay : PyData.canLayAll0 ds = true
  short : PyData.intsShortAll 13 ds = true
  dep : PyData.depthAll ds ≤ k
  wt : PyData.weightAll ds ≤ m
  sh : PyData.showableAll ds = true
  nd : PyData.hasDictAll ds = false
theorem Fit.shw {k m : Nat} {d : PyData} (f : Fit k m d) (hk : k ≤ 60 := by decide) (hm : m ≤ 2 ^ 20 := by decide) : Shw d := by
  refine ⟨f.sh, f.nd, Nat.le_trans f.dep hk, PyData.shown_fits_of_layable0 (B := 13) (by decide) (by decide) ?_ f.short⟩
  have a1 := f.lay
  have a2 : d.depth ≤ 64 := Nat.le_trans f.dep (by omega)
  have a3 : d.weight ≤ 2 ^ 20 := Nat.le_trans f.wt hm
  simp only [PyData.layable0, a1, a2, a3, decide_true, Bool.and_self]
theorem Fit.mono {k k' m m' : Nat} {d : PyData} (f : Fit k m d) (hk : k ≤ k') (hm : m ≤ m') : Fit k' m' d := ⟨f.lay, f.short, Nat.le_trans f.dep hk, Nat.le_trans f.wt hm, f.sh, f.nd⟩
theorem FitAll.mono {k k' m m' : Nat} {d : List PyData} (f : FitAll k m d) (hk : k ≤ k') (hm : m ≤ m') : FitAll k' m' d := ⟨f.lay, f.short, Nat.le_trans f.dep hk, Nat.le_trans f.wt hm, f.sh, f.nd⟩
theorem FitAll.nil {k : Nat} : FitAll k 0 [] := ⟨by simp [PyData.canLayAll0], by simp [PyData.intsShortAll], by simp [PyData.depthAll], by simp [PyData.weightAll], by simp [PyData.showableAll], by simp [PyData.hasDictAll]⟩
theorem FitAll.cons {k m n : Nat} {d : PyData} {ds : List PyData} (f : Fit k m d) (g : FitAll k n ds) : FitAll k (m + 1 + n) (d :: ds) := by
  refine ⟨?_, ?_, ?_, ?_, ?_, ?_⟩
  · simp [PyData.canLayAll0, f.lay, g.lay]
  · simp [PyData.intsShortAll, f.short, g.short]
  · have a := f.dep
    have b := g.dep
    simp only [PyData.depthAll]; omega
  · have a := f.wt
    have b := g.wt
    simp only [PyData.weightAll]; omega
  · simp [PyData.showableAll, f.sh, g.sh]
  · simp [PyData.hasDictAll, f.nd, g.nd]
theorem Fit.list {k m : Nat} {ds : List PyData} (f : FitAll k m ds) : Fit (k + 1) m (.list ds) :=
  ⟨by simpa [PyData.canLay0] using f.lay, by simpa [PyData.intsShort] using f.short, by simpa [PyData.depth] using f.dep, by simpa [PyData.weight] using f.wt, by simpa [PyData.showable] using f.sh, by simpa [PyData.hasDict] using f.nd⟩
theorem Fit.tuple {k m : Nat} {ds : List PyData} (f : FitAll k m ds) : Fit (k + 1) m (.tuple ds) :=
  ⟨by simpa [PyData.canLay0] using f.lay, by simpa [PyData.intsShort] using f.short, by simpa [PyData.depth] using f.dep, by simpa [PyData.weight] using f.wt, by simpa [PyData.showable] using f.sh, by simpa [PyData.hasDict] using f.nd⟩
theorem Fit.int {k : Nat} {i : Int} (h : i.natAbs < 2 ^ 30) : Fit k 31 (.int i) := by
  have lg : i.natAbs.log2 < 30 := by
    rcases Nat.eq_zero_or_pos i.natAbs with z | z
    · rw [z]; decide
    · exact (Nat.log2_lt (by omega)).mpr h
  refine ⟨by simp [PyData.canLay0], ?_, by simp [PyData.depth], ?_, ?_, by simp [PyData.hasDict]⟩
  · simp only [PyData.intsShort, decide_eq_true_eq]
    exact PyData.shown_int_le (by omega)
  · simp only [PyData.weight]
    split <;> omega
  · simp only [PyData.showable, decide_eq_true_eq]
    omega
theorem Fit.bool {k : Nat} (b : Bool) : Fit k 0 (.bool b) := ⟨by simp [PyData.canLay0], by simp [PyData.intsShort], by simp [PyData.depth], by simp [PyData.weight], by simp [PyData.showable], by simp [PyData.hasDict]⟩
theorem Fit.none {k : Nat} : Fit k 0 .none := ⟨by simp [PyData.canLay0], by simp [PyData.intsShort], by simp [PyData.depth], by simp [PyData.weight], by simp [PyData.showable], by simp [PyData.hasDict]⟩
theorem Fit.str {k : Nat} {x : Str} (h : PyData.strOk x = true) : Fit k x.cps.size (.str x) := ⟨by simpa [PyData.canLay0] using h, by simp [PyData.intsShort], by simp [PyData.depth], by simp [PyData.weight], by simp [PyData.showable], by simp [PyData.hasDict]⟩
theorem FitAll.ints {k : Nat} : ∀ {ns : List Int}, (∀ x ∈ ns, x.natAbs < 2 ^ 30) → FitAll k (32 * ns.length) (ns.map PyData.int)
  | [], _ => FitAll.nil
  | n :: ns, h => (FitAll.cons (Fit.int (h n List.mem_cons_self)) (FitAll.ints (ns := ns) fun x hx => h x (List.mem_cons_of_mem _ hx))).mono (Nat.le_refl _) (by simp; omega)
def spEqual (K : PySem.W.Frag) : Sp := fun vs H Q _ => ∃ (p q : Addr) (d e : PyData), vs = [.ref p, .ref q] ∧ Dp K H (.ref p) d ∧ Dp K H (.ref q) e ∧ Shw d ∧ Shw e ∧ Q (.bl (decide (V.str d.shown = V.str e.shown))) H
section
variable {P : Program} {w : World} {K : PySem.W.Frag} {mg : Str → Option Value} {base : Heap} {CShare : Addr}
abbrev st_l_is_equal : Stmt := top 22
theorem sc_l_is_equal : FnScope ["_law_actual", "_law_expected"] ["_law_actual", "_law_expected"] (defScope st_l_is_equal) := ⟨rfl, rfl, rfl, by decide +kernel, rfl, by decide +kernel, by decide +kernel⟩
theorem ok_equal (B : Bn mg) (D : Df K mg "_law_is_equal" st_l_is_equal ["_law_actual", "_law_expected"]) : CalG P w K mg base 1 "_law_is_equal" ["_law_actual", "_law_expected"] (spEqual K) := by
  refine D.calG sc_l_is_equal (fun vs H Q E h => ?_) (fun f cdv A out s H vs Q E gd hr h => ?_)
  · obtain ⟨p, q, d, e, rfl, _⟩ := h
    rfl
  obtain ⟨p, q, d, e, rfl, dp, dq, ⟨a1, a2, a3, a4⟩, ⟨b1, b2, b3, b4⟩, k⟩ := h
  refine ⟨_, (pss_one (ps_ret (pe_cmpR op_eq (pe_callB (call_reprD gd (un66 hr)) (by rfl) B.n_repr (by decide +kernel) (pa_cons (pv 0) pa_nil)) (pe_callB (call_reprD gd (un66 hr)) (by rfl) B.n_repr (by decide +kernel) (pa_cons (pv 1) pa_nil)) (nomark _)))), ?_⟩
  exact ⟨_, rfl, p, d, rfl, dp, a1, a2, a3, a4, _, rfl, q, e, rfl, dq, b1, b2, b3, b4, rfl, k⟩
end
end Pl
namespace Pl
open PySem PySem.Spec PyProof.Rows L2
theorem sqT_same {K : PySem.W.Frag} {H H' : Hp} {a : Addr} {xs : List V} (e : Same H H') (h : SqT K H a xs) : SqT K H' a xs := by
  rcases h with (h | ⟨o, h⟩) | h
  · exact .inl (.inl (e _ _ h))
  · exact .inl (.inr ⟨o, e _ _ h⟩)
  · exact .inr h
mutual
theorem dpSame {K : PySem.W.Frag} {H H' : Hp} (k : Same H H') : ∀ (d : PyData) (v : V), Dp K H v d → Dp K H' v d
  | .none, _, h => by cases h; exact .non
  | .bool b, _, h => by cases h; exact .bl b
  | .int i, _, h => by cases h; exact .int i
  | .str z, _, h => by cases h; exact .str z
  | .list ds, _, h => by
    cases h with
    | lst a b => exact .lst (k.seq a) (dpSameAll k ds _ b)
  | .tuple ds, _, h => by
    cases h with
    | tup a b => exact .tup (sqT_same k a) (dpSameAll k ds _ b)
  | .dict _, _, h => by cases h
theorem dpSameAll {K : PySem.W.Frag} {H H' : Hp} (k : Same H H') : ∀ (ds : List PyData) (vs : List V), DpAll K H vs ds → DpAll K H' vs ds
  | [], _, h => by cases h; exact .nil
  | d :: ds, _, h => by
    cases h with
    | cons a b => exact .cons (dpSame k d _ a) (dpSameAll k ds _ b)
end
end Pl
namespace Pl
open PySem PySem.Spec PyProof.Rows L2
section
variable {P : Program} {w : World} {K : PySem.W.Frag} {mg : Str → Option Value} {base : Heap} {CShare : Addr}
abbrev st_Sh_len : Stmt := inClass (top 13) 4
theorem sc_Sh_len : FnScope ["self"] ["self"] (defScope st_Sh_len) := ⟨rfl, rfl, rfl, by decide +kernel, rfl, by decide +kernel, by decide +kernel⟩
theorem ok_len (B : Bn mg) (SShare : ShK K mg CShare) (D : Mh K CShare "__len__" "Share.__len__" st_Sh_len ["self"]) : MCal P w K mg base 1 CShare "__len__" ["self"] (spLen CShare) := by
  refine D.cal sc_Sh_len (fun vs H Q E h => ?_) (fun f cdv A out s H vs Q E hr h => ?_)
  · obtain ⟨s, t, ns, rfl, _⟩ := h
    rfl
  obtain ⟨s, t, ns, rfl, ⟨⟨dx, h1⟩, h2, _⟩, k⟩ := h
  refine ⟨_, (pss_one (ps_ret (pe_callB call_len_seq (by rfl) B.n_len (by decide +kernel) (pa_cons (pe_fld (pv 0) rfl) pa_nil)))), ?_⟩
  refine ⟨_, rfl, s, CShare, dx, _, _, rfl, h1, SShare.cl, SShare.nB, shF_get t, t, _, rfl, .inr (SqT.of h2), ?_⟩
  rw [List.length_map]
  exact k
end
end Pl
namespace Pl
open PySem PySem.Spec PyProof.Rows L2
section
variable {P : Program} {w : World} {K : PySem.W.Frag} {mg : Str → Option Value} {base : Heap} {CShare : Addr}
abbrev st_Sh_amounts : Stmt := inClass (top 13) 1
theorem sc_Sh_amounts : FnScope ["self"] ["self"] (defScope st_Sh_amounts) := ⟨rfl, rfl, rfl, by decide +kernel, rfl, by decide +kernel, by decide +kernel⟩
theorem ok_pamounts (SShare : ShK K mg CShare) (D : Ph K CShare "amounts" "Share.amounts" st_Sh_amounts ["self"]) : PCal P w K mg base 1 CShare "amounts" ["self"] (getSp CShare "by_state") := by
  refine D.cal sc_Sh_amounts (fun vs H Q E h => ?_) (fun f cdv A out s H vs Q E hr h => ?_)
  · obtain ⟨a, dx, fs, v, rfl, _⟩ := h
    rfl
  obtain ⟨a, dx, fs, v, rfl, h1, l, k⟩ := h
  refine ⟨_, (pss_one (ps_ret (pe_fld (pv 0) rfl))), ?_⟩
  exact ⟨_, rfl, a, CShare, dx, _, _, rfl, h1, SShare.cl, SShare.nB, l, k⟩
end
end Pl
namespace Pl
open PySem PySem.Spec PyProof.Rows L2
/-- the amounts of both, added -/
def addl (ns ms : List Int) : List Int := List.zipWith (· + ·) ns ms
theorem addl_length {ns ms : List Int} (h : ns.length = ms.length) : (addl ns ms).length = ns.length := by simp [addl, h]
theorem addl_at {ns ms : List Int} {i : Nat} {x y : Int} (h1 : ns[i]? = some x) (h2 : ms[i]? = some y) : (addl ns ms)[i]? = some (x + y) := by
  unfold addl
  rw [List.getElem?_zipWith, h1, h2]
/-- whether none of them is above 30 -/
def fine (zs : List Int) : Bool := zs.all fun z => decide (z ≤ 30)
/-- what adding gives, as data -/
def dAdd (ns ms : List Int) : PyData := if ns.length = ms.length then (if fine (addl ns ms) = true then .tuple ((addl ns ms).map PyData.int) else .str "amounts") else .str "share"
theorem addl_nn {ns ms : List Int} (a : Am ns) (b : Am ms) : ∀ z ∈ addl ns ms, 0 ≤ z ∧ z ≤ 60 := by
  intro z hz
  obtain ⟨i, hi, rfl⟩ := List.getElem_of_mem hz
  simp only [addl, List.getElem_zipWith]
  have h1 := a _ (List.getElem_mem (show i < ns.length by simp [addl] at hi; omega))
  have h2 := b _ (List.getElem_mem (show i < ms.length by simp [addl] at hi; omega))
  omega
theorem fine_am {zs : List Int} (nn : ∀ z ∈ zs, 0 ≤ z ∧ z ≤ 60) (f : fine zs = true) : Am zs := fun z hz => by
  have := (List.all_eq_true.mp f) z hz
  have a := nn z hz
  simp at this
  omega
theorem notfine_isAm {zs : List Int} (f : fine zs = false) : isAm (zs.map V.int) = false := by
  cases e : isAm (zs.map V.int) with
  | false => rfl
  | true =>
    simp only [isAm, Bool.and_eq_true, List.all_eq_true] at e
    have : fine zs = true := List.all_eq_true.mpr fun z hz => by
      have q := e.2 (.int z) (List.mem_map.mpr ⟨z, hz, rfl⟩)
      have q2 : (decide (0 ≤ z) && decide (z ≤ 30)) = true := q
      simp only [Bool.and_eq_true] at q2
      exact q2.2
    rw [this] at f
    cases f
def spInitX (K : PySem.W.Frag) (C CA : Addr) : Sp := fun vs H Q E => ∃ (p t dx : Addr) (xs : List V), vs = [.ref p, .ref t] ∧ H p = some (.ins C dx []) ∧ H t = some (.tup xs) ∧ xs.length ≤ 1000 ∧ (∀ y ∈ xs, Kd K H y) ∧
  ((∀ ns, xs = ns.map V.int → 2 ≤ ns.length → ns.length ≤ 6 → Am ns → ∀ H', Kp p H H' → ShAt C H' p t ns → Q .non H') ∧ (isAm xs = true → ∃ ns : List Int, xs = ns.map V.int ∧ 2 ≤ ns.length ∧ ns.length ≤ 6 ∧ Am ns) ∧ (isAm xs = false → ∀ H', Same H H' → E (.ref CA) none H'))
def spPairX (K : PySem.W.Frag) (C CN : Addr) : Sp := fun vs H Q E => ∃ (s1 t1 : Addr) (ns : List Int) (y : V), vs = [.ref s1, y] ∧ ShAt C H s1 t1 ns ∧
  ((∃ (s2 t2 : Addr) (ms : List Int), y = .ref s2 ∧ ShAt C H s2 t2 ms ∧ (ns.length = ms.length → Q .non H) ∧ (¬ ns.length = ms.length → E (.ref CN) none H)) ∨ (∃ T, TyS H y T ∧ PySem.W.kitOne K (.type T) (.ref C) = some false ∧ E (.ref CN) none H))
def spAddX (K : PySem.W.Frag) (C CN CA : Addr) : Sp := fun vs H Q E => ∃ (s1 t1 : Addr) (ns : List Int) (y : V), vs = [.ref s1, y] ∧ ShAt C H s1 t1 ns ∧
  ((∃ (s2 t2 : Addr) (ms : List Int), y = .ref s2 ∧ ShAt C H s2 t2 ms ∧ (ns.length = ms.length → (fine (addl ns ms) = true → ∀ (s t : Addr) (H' : Hp), Same H H' → ShAt C H' s t (addl ns ms) → Q (.ref s) H') ∧ (fine (addl ns ms) = false → ∀ H', Same H H' → E (.ref CA) none H')) ∧ (¬ ns.length = ms.length → E (.ref CN) none H)) ∨
   (∃ T, TyS H y T ∧ PySem.W.kitOne K (.type T) (.ref C) = some false ∧ E (.ref CN) none H))
section
variable {P : Program} {w : World} {K : PySem.W.Frag} {mg : Str → Option Value} {base : Heap} {CShare CNoShare CNoAmounts : Addr}
theorem ok_initX (SShare : ShK K mg CShare) (e_NoAmounts : ExK K mg "NoAmounts" CNoAmounts) (c_is_amounts : Cal P w K mg base 2 "is_amounts" ["thing"] (spIsAm K)) (D : Mh K CShare "__init__" "Share.__init__" st_ShInit ["self", "amounts"]) : MCalX P w K mg base 3 CShare "__init__" ["self", "amounts"] (spInitX K CShare CNoAmounts) := by
  refine D.calX sc_ShInit (fun vs H Q E h => ?_) (fun f cdv A out s H vs Q E hr h => ?_)
  · obtain ⟨p, t, dx, xs, rfl, _⟩ := h
    rfl
  obtain ⟨p, t, dx, xs, rfl, hp, ht, lx, kd, k1, k2, k3⟩ := h
  refine ⟨_, (pss_cons (ps_if (pt_not (pt_val (pe_fn c_is_amounts (hr.mono (by decide)) (pa_cons (pv 1) pa_nil)))) (pss_one (ps_err e_NoAmounts (takes_of rfl rfl rfl rfl))) pss_nil)
   (pss_one (ps_fld (pv 0) (pv 1) rfl))), ?_⟩
  refine ⟨_, rfl, .ref t, rfl, .inl ⟨t, _, rfl, ht, lx, kd, fun H1 s1 => ?_⟩⟩
  cases e : isAm xs with
  | false => exact ⟨_, rfl, iteT (k3 e H1 s1)⟩
  | true =>
    obtain ⟨ns, rfl, h2, h6, am⟩ := k2 e
    refine ⟨_, rfl, iteF ?_⟩
    refine ⟨_, rfl, _, rfl, p, CShare, dx, _, rfl, s1 _ _ hp, SShare.cl, SShare.nB, (by show 0 < 1000; decide), ?_⟩
    have tp : t ≠ p := ne_of ht hp (by intro z; cases z)
    exact k1 ns rfl h2 h6 am _ (fun b o n e => by rw [upd_ne n]; exact s1 _ _ e) ⟨⟨dx, upd_same⟩, by rw [upd_ne tp]; exact s1 _ _ ht, h2, h6, am⟩
abbrev st_check_pair : Stmt := top 16
theorem sc_check_pair : FnScope ["one", "other"] ["one", "other"] (defScope st_check_pair) := ⟨rfl, rfl, rfl, by decide +kernel, rfl, by decide +kernel, by decide +kernel⟩
theorem ok_pairX (B : Bn mg) (SShare : ShK K mg CShare) (e_NoShare : ExK K mg "NoShare" CNoShare) (m_len : MCal P w K mg base 1 CShare "__len__" ["self"] (spLen CShare)) (D : Df K mg "check_pair" st_check_pair ["one", "other"]) : CalX P w K mg base 3 "check_pair" ["one", "other"] (spPairX K CShare CNoShare) := by
  refine D.calX sc_check_pair (fun vs H Q E h => ?_) (fun f cdv A out s H vs Q E hr h => ?_)
  · obtain ⟨s1, t1, ns, y, rfl, _⟩ := h
    rfl
  obtain ⟨s1, t1, ns, y, rfl, sh1, h⟩ := h
  refine ⟨_, (pss_cons (ps_if (PW.pt (pw_or (pt_not (pt_val (pe_callB call_isi (by rfl) B.n_isinstance (by decide +kernel) (pa_cons (pv 0) (pa_cons (pe_glob (v := .ref CShare) rfl SShare.mgC rfl) pa_nil))))) (pw_or1 (pt_not (pt_val (pe_callB call_isi (by rfl) B.n_isinstance (by decide +kernel) (pa_cons (pv 1) (pa_cons (pe_glob (v := .ref CShare) rfl SShare.mgC rfl) pa_nil)))))))) (pss_one (ps_err e_NoShare (takes_of rfl rfl rfl rfl))) pss_nil)
   (pss_one (ps_if (pt_cmpR op_ne (pe_callB (call_lenM m_len (hr.mono (by decide))) (by rfl) B.n_len (by decide +kernel) (pa_cons (pv 0) pa_nil)) (pe_callB (call_lenM m_len (hr.mono (by decide))) (by rfl) B.n_len (by decide +kernel) (pa_cons (pv 1) pa_nil)) (nomark _)) (pss_one (ps_err e_NoShare (takes_of rfl rfl rfl rfl))) pss_nil))), ?_⟩
  obtain ⟨⟨d1, a1⟩, _, _, l1, _⟩ := id sh1
  have ty : ∀ {s d t : Addr}, H s = some (.ins CShare d (shF t)) → TyX K H (.ref s) (.ref CShare) := fun e => .base (.ins e SShare.cl SShare.ca SShare.cg SShare.ct SShare.mro)
  refine ⟨_, rfl, _, _, _, _, true, rfl, .own _, ty a1, SShare.kit, _, rfl, iteF ?_⟩
  rcases h with ⟨s2, t2, ms, rfl, sh2, k1, k2⟩ | ⟨T, tyy, kt, k⟩
  · obtain ⟨⟨d2, a2⟩, _, _, l2, _⟩ := id sh2
    refine ⟨_, rfl, _, _, _, _, true, rfl, .own _, ty a2, SShare.kit, _, rfl, iteF ?_⟩
    refine ⟨_, rfl, s1, d1, _, rfl, a1, s1, t1, ns, rfl, sh1, ns.length, rfl, by omega, ?_⟩
    refine ⟨_, rfl, s2, d2, _, rfl, a2, s2, t2, ms, rfl, sh2, ms.length, rfl, by omega, rfl, _, rfl, ?_⟩
    refine ite2 (fun c => ?_) (fun c => ?_)
    · refine k2 fun e => ?_
      rw [e] at c
      simp at c
    · refine k1 ?_
      have c2 : V.int (ns.length : Int) = V.int (ms.length : Int) := by simpa using c
      have := V.int.inj c2
      omega
  · exact ⟨_, rfl, _, _, _, _, false, rfl, .own _, tyy.tyX, kt, _, rfl, iteT k⟩
end
end Pl
namespace Pl
open PySem PySem.Spec PyProof.Rows L2
theorem walkZT {K : PySem.W.Frag} {a b : Addr} {xs ys : List V} (hn : xs.length = ys.length) : Walk (RZ.ItzT K a b) xs.length (fun H => SqT K H a xs ∧ SqT K H b ys) (YPair (fun i => xs[i]?) (fun i => ys[i]?)) := by
  refine ⟨?_, ?_, ?_⟩
  · intro i H hi q
    exact ⟨xs, ys, xs[i], ys[i]'(by omega), q.1, q.2, by simp, by simp⟩
  · intro H q
    exact ⟨xs, ys, q.1, q.2, .inl (Nat.le_refl _)⟩
  · rintro i H v H' hi q ⟨T, x, y, e, n, e2, h1, h2⟩
    exact ⟨T, x, y, e, n, e2, h1 xs q.1, h2 ys q.2⟩
/-- the sums grow at D -/
def ZInv (D : Addr) (H0 : Hp) (ns ms : List Int) (i : Nat) (H : Hp) : Prop := Same H0 H ∧ H D = some (.lst (((addl ns ms).take i).map V.int))
theorem ZInv.turn {D T : Addr} {H0 H : Hp} {ns ms : List Int} {i : Nat} {x y : V} (ln : ns.length = ms.length) (p : ZInv D H0 ns ms i H) (hi : i < ns.length) (nD : H0 D = none) (nT : H T = none) (ex : (ns.map V.int)[i]? = some x) (ey : (ms.map V.int)[i]? = some y) :
    ∃ u v : Int, x = .int u ∧ y = .int v ∧ ∃ acc, (L2.upd H T (.tup [x, y])) D = some (.lst acc) ∧ (acc.length ≤ i) ∧ ZInv D H0 ns ms (i + 1) (L2.upd (L2.upd H T (.tup [x, y])) D (.lst (acc ++ [.int (u + v)]))) := by
  have e1 : ns[i]? = some ns[i] := List.getElem?_eq_getElem hi
  have e2 : ms[i]? = some (ms[i]'(by omega)) := List.getElem?_eq_getElem (by omega)
  rw [List.getElem?_map, e1] at ex
  rw [List.getElem?_map, e2] at ey
  obtain rfl := (Option.some.inj ex).symm
  obtain rfl := (Option.some.inj ey).symm
  refine ⟨_, _, rfl, rfl, _, by rw [upd_ne (ne_of_none p.2 nT)]; exact p.2, by simp; omega, same_put (same_new p.1 nT) nD, ?_⟩
  rw [upd_same, List.take_add_one, addl_at e1 e2, List.map_append]
  rfl
section
variable {P : Program} {w : World} {K : PySem.W.Frag} {mg : Str → Option Value} {base : Heap} {CShare CNoShare CNoAmounts : Addr}
abbrev st_Sh_add : Stmt := inClass (top 13) 7
theorem sc_Sh_add : FnScope ["self", "other", "here", "there"] ["self", "other"] (defScope st_Sh_add) := ⟨rfl, rfl, rfl, by decide +kernel, rfl, by decide +kernel, by decide +kernel⟩
theorem ok_addX (B : Bn mg) (SShare : ShK K mg CShare) (c_check_pair : CalX P w K mg base 3 "check_pair" ["one", "other"] (spPairX K CShare CNoShare)) (m_initShareX : MCalX P w K mg base 3 CShare "__init__" ["self", "amounts"] (spInitX K CShare CNoAmounts)) (D : Mh K CShare "__add__" "Share.__add__" st_Sh_add ["self", "other"]) : MCalX P w K mg base 5 CShare "__add__" ["self", "other"] (spAddX K CShare CNoShare CNoAmounts) := by
  refine D.calX sc_Sh_add (fun vs H Q E h => ?_) (fun f cdv A out s H vs Q E hr h => ?_)
  · obtain ⟨s1, t1, ns, y, rfl, _⟩ := h
    rfl
  obtain ⟨s1, t1, ns, y, rfl, sh1, h⟩ := h
  refine ⟨_, (pss_cons (ps_expr (pe_fnX c_check_pair (passW (takes_of rfl rfl rfl rfl)) (hr.mono (by decide)) (pa_cons (pv 0) (pa_cons (pv 1) pa_nil))))
   (pss_one (ps_ret (pe_mkX m_initShareX (passW (takes_of rfl rfl rfl rfl)) SShare.mks SShare.kc SShare.mgC (hr.mono (by decide)) (pa_cons (pe_callTy call_tuple_of (by rfl) B.n_tuple (by decide +kernel) (pa_cons (pe_lc (own := [("here", 2), ("there", 3)]) (g := gTup K 2 (gCons (gName 2) (gCons (gName 3) gNil))) rfl sc_Sh_add.nd (RZ.pi_zipA (by rfl) B.n_zip (pa_cons (pe_fld (pv 0) rfl) (pa_cons (pe_fld (pv 1) rfl) pa_nil))) (blkOk_by (N := ["self", "other", "here", "there"]) (sc := defScope st_Sh_add) (by decide +kernel)) (fun _ _ _ _ _ => (pg_tup rfl (pgs_cons (pg_name (i := 2) sc_Sh_add.nd rfl (.inl rfl)) (pgs_cons (pg_name (i := 3) sc_Sh_add.nd rfl (.inl rfl)) pgs_nil)))) (fun _ _ _ _ _ => pts_nil) (fun _ _ _ _ _ => (pe_op op_add (pv 2) (pv 3)))) pa_nil)) pa_nil))))), ?_⟩
  rcases h with ⟨s2, t2, ms, rfl, sh2, k1, k2⟩ | ⟨T, tyy, kt, k⟩
  · refine ⟨_, rfl, _, rfl, s1, t1, ns, _, rfl, sh1, .inl ⟨s2, t2, ms, rfl, sh2, fun ln => ?_, fun z σ => k2 z⟩⟩
    obtain ⟨ka, kb⟩ := k1 ln
    obtain ⟨⟨d1, a1⟩, b1, m2, m6, am1⟩ := id sh1
    obtain ⟨⟨d2, a2⟩, b2, _, _, am2⟩ := id sh2
    have wz := walkZT (K := K) (a := t1) (b := t2) (xs := ns.map V.int) (ys := ms.map V.int) (by simp [ln])
    refine ⟨_, rfl, s1, CShare, d1, _, _, rfl, a1, SShare.cl, SShare.nB, shF_get t1, _, rfl, s2, CShare, d2, _, _, rfl, a2, SShare.cl, SShare.nB, shF_get t2, t1, t2, _, _, rfl, .inr ⟨SqT.of b1, SqT.of b2, fun D hD => lc_it wz (ZInv D H ns ms) ⟨same_new (Same.refl H) hD, upd_same⟩ (fun i H' _ q => ⟨SqT.of (q.1 _ _ b1), SqT.of (q.1 _ _ b2)⟩) ?_ ?_⟩⟩
    · rintro i x H1 H2 hi p ⟨T, x', y', rfl, nT, rfl, ex, ey⟩
      rw [List.length_map] at hi
      obtain ⟨u, v, rfl, rfl, acc, e1, e2, e3⟩ := p.turn ln hi hD nT ex ey
      refine ⟨T, _, rfl, SqT.of upd_same, rfl, _, _, rfl, _, _, rfl, rfl, rfl, tyes ?_⟩
      exact ⟨_, rfl, _, rfl, _, _, rfl, rfl, acc, e1, size_lt (by omega), e3⟩
    · intro H1 p
      rw [List.length_map] at p
      have e : (addl ns ms).take ns.length = addl ns ms := by rw [← addl_length ln, List.take_length]
      have p2 := p.2
      rw [e] at p2
      refine ⟨D, _, rfl, .inl ⟨SqL.of p2, fun q hq => ?_⟩⟩
      generalize hH2 : upd H1 q _ = H2
      have s2' : Same H H2 := by rw [← hH2]; exact same_new p.1 hq
      have hq2 : H2 q = some (.tup ((addl ns ms).map V.int)) := by rw [← hH2, upd_same]
      intro x dx nx nd _
      have s3 : Same H2 (upd (upd H2 dx (.own x)) x (.ins CShare dx [])) := same_put (same_put (Same.refl H2) nd) nx
      refine ⟨x, q, dx, _, rfl, upd_same, s3 _ _ hq2, by simp [addl]; omega, fun y hy => ?_, fun zs ez h2 h6 am H' kp sh => ⟨rfl, ?_⟩, fun ia => ?_, fun ia H' sm σ => ?_⟩
      · obtain ⟨z, _, rfl⟩ := List.mem_map.mp hy
        exact Kd.int z
      · have ez2 : addl ns ms = zs := (List.map_inj_right (f := V.int) (fun _ _ h => V.int.inj h)).mp ez
        subst ez2
        cases f : fine (addl ns ms) with
        | true => exact ka f x q H' (s2'.trans fun b o e => kp b o (ne_of_none e nx) (s3 b o e)) sh
        | false =>
          have := isAm_ints h2 h6 am
          rw [notfine_isAm f] at this
          cases this
      · refine ⟨_, rfl, by rw [addl_length ln]; exact m2, by rw [addl_length ln]; exact m6, ?_⟩
        refine fine_am (addl_nn am1 am2) ?_
        cases f : fine (addl ns ms) with
        | true => rfl
        | false =>
          rw [notfine_isAm f] at ia
          cases ia
      · refine kb ?_ H' (s2'.trans (s3.trans sm))
        cases f : fine (addl ns ms) with
        | false => rfl
        | true =>
          have := isAm_ints (by rw [addl_length ln]; exact m2) (by rw [addl_length ln]; exact m6) (fine_am (addl_nn am1 am2) f)
          rw [this] at ia
          cases ia
  · exact ⟨_, rfl, _, rfl, s1, t1, ns, y, rfl, sh1, .inr ⟨T, tyy, kt, fun σ => k⟩⟩
end
end Pl
namespace Pl
open PySem PySem.Spec PyProof.Rows L2
theorem foldl_max_le : ∀ (zs : List Int) (z b : Int), zs.foldl max z ≤ b ↔ z ≤ b ∧ ∀ x ∈ zs, x ≤ b
  | [], z, b => by simp
  | y :: zs, z, b => by
    rw [List.foldl_cons, foldl_max_le zs (max z y) b]
    simp only [List.mem_cons, forall_eq_or_imp]
    constructor
    · rintro ⟨h1, h2⟩
      exact ⟨by omega, by omega, h2⟩
    · rintro ⟨h1, h2, h3⟩
      exact ⟨by omega, h3⟩
theorem fine_max {z : Int} {zs : List Int} : fine (z :: zs) = decide (zs.foldl max z ≤ 30) := by
  have := Bool.eq_iff_iff (a := fine (z :: zs)) (b := decide (zs.foldl max z ≤ 30))
  rw [this, decide_eq_true_iff, foldl_max_le]
  simp [fine]
theorem dAdd_fit {ns ms : List Int} (a : Am ns) (b : Am ms) (l6 : ns.length ≤ 6) : Fit 1 200 (dAdd ns ms) := by
  unfold dAdd
  split
  · rename_i ln
    split
    · refine (Fit.tuple (k := 0) (FitAll.ints (ns := addl ns ms) fun z hz => ?_)).mono (Nat.le_refl _) (by rw [addl_length ln]; omega)
      have := addl_nn a b z hz
      omega
    · exact (Fit.str (k := 1) (x := "amounts") (by decide +kernel)).mono (Nat.le_refl _) (by decide)
  · exact (Fit.str (k := 1) (x := "share") (by decide +kernel)).mono (Nat.le_refl _) (by decide)
structure AddK (K : PySem.W.Frag) (C : Addr) (T : String) : Prop where
  add : AddT K C T
  kit : PySem.W.kitOne K (.type T) (.ref C) = some false
theorem AddK.of {K : PySem.W.Frag} {C : Addr} {T : String} {fo ro : Option Value} (a : PySem.W.findIn K (.type T) "__add__" = some fo) (b : PySem.W.findIn K (.type T) "__radd__" = some ro) (c : PySem.W.subIn K (.type T) (.ref C) = some false) (d : PySem.W.kitOne K (.type T) (.ref C) = some false) : AddK K C T := ⟨⟨fo, ro, a, b, c⟩, d⟩
def spAdded (K : PySem.W.Frag) (C : Addr) : Sp := fun vs H Q _ => ∃ (s1 t1 : Addr) (ns : List Int) (y : V), vs = [.ref s1, y] ∧ ShAt C H s1 t1 ns ∧
  ((∃ (s2 t2 : Addr) (ms : List Int), y = .ref s2 ∧ ShAt C H s2 t2 ms ∧ ∀ (v : V) (H' : Hp), Same H H' → Dp K H' v (dAdd ns ms) → Q v H') ∨ (∃ T, TyS H y T ∧ AddK K C T ∧ Q (.str "share") H))
def spDue (K : PySem.W.Frag) : Sp := fun vs H Q _ => ∃ (t1 t2 : Addr) (ns ms : List Int), vs = [.ref t1, .ref t2] ∧ H t1 = some (.tup (ns.map V.int)) ∧ H t2 = some (.tup (ms.map V.int)) ∧ 1 ≤ ns.length ∧ ns.length ≤ 6 ∧ ms.length ≤ 6 ∧
  ∀ (v : V) (H' : Hp), Same H H' → Dp K H' v (dAdd ns ms) → Q v H'
section
variable {P : Program} {w : World} {K : PySem.W.Frag} {mg : Str → Option Value} {base : Heap} {CShare CNoShare CNoAmounts : Addr}
abbrev st_l_added : Stmt := top 24
theorem sc_l_added : FnScope ["_law_one", "_law_other"] ["_law_one", "_law_other"] (defScope st_l_added) := ⟨rfl, rfl, rfl, by decide +kernel, rfl, by decide +kernel, by decide +kernel⟩
theorem ok_added (SShare : ShK K mg CShare) (e_NoShare : ExK K mg "NoShare" CNoShare) (e_NoAmounts : ExK K mg "NoAmounts" CNoAmounts) (off : PySem.W.exmOne K (.ref CNoAmounts) (.ref CNoShare) = some false) (aC : AddC K CShare) (p_amounts : PCal P w K mg base 1 CShare "amounts" ["self"] (getSp CShare "by_state"))
    (m_add : MCalX P w K mg base 5 CShare "__add__" ["self", "other"] (spAddX K CShare CNoShare CNoAmounts)) (D : Df K mg "_law_added" st_l_added ["_law_one", "_law_other"]) : Cal P w K mg base 6 "_law_added" ["_law_one", "_law_other"] (spAdded K CShare) := by
  refine D.cal sc_l_added (fun vs H Q E h => ?_) (fun f cdv A out s H vs Q E hr h => ?_)
  · obtain ⟨s1, t1, ns, y, rfl, _⟩ := h
    rfl
  obtain ⟨s1, t1, ns, y, rfl, sh1, h⟩ := h
  obtain ⟨⟨d1, a1⟩, b1, m2, m6, am1⟩ := id sh1
  refine ⟨_, (pss_one (ps_try_many (tb := fun W => tRet (tProp CShare (getSp CShare "by_state") [] E0 (tOp (rAddO K CShare (spAddX K CShare CNoShare CNoAmounts) (AnyS W)) (tVar 0) (tVar 1)))) rfl rfl takes0
    (fun W pn xe tk _ => (pss_one (ps_ret (pe_pr p_amounts SShare.cl (hr.mono (by decide)) (pe_op (op_addO m_add aC (passW tk) (hr.mono (by decide))) (pv 0) (pv 1))))))
    (.cons ⟨rfl, by decide, .inl e_NoShare.g⟩ (fun a oe cls d pn _ _ => (pss_one (ps_ret pe_str))) (.cons ⟨rfl, by decide, .inl e_NoAmounts.g⟩ (fun a oe cls d pn _ _ => (pss_one (ps_ret pe_str))) .nil)))), ?_⟩
  rcases h with ⟨s2, t2, ms, rfl, sh2, k⟩ | ⟨T, ty, ak, k⟩
  · obtain ⟨⟨d2, a2⟩, b2, _⟩ := id sh2
    refine ⟨_, rfl, _, rfl, s1, d1, _, rfl, a1, .inl ⟨s2, d2, _, rfl, a2⟩, s1, t1, ns, _, rfl, sh1, .inl ⟨s2, t2, ms, rfl, sh2, fun ln => ⟨fun f p t H' sm sh => ⟨p, rfl, ?_⟩, fun f H' sm σ => ?_⟩, fun ln σ => ?_⟩⟩
    · obtain ⟨⟨dx, o⟩, q, _⟩ := id sh
      refine ⟨p, dx, _, rfl, o, p, dx, _, _, rfl, o, shF_get t, k _ H' sm ?_⟩
      have e : dAdd ns ms = .tuple ((addl ns ms).map PyData.int) := by simp [dAdd, ln, f]
      rw [e]
      exact .tup (SqT.of q) (dpInts _ _ _)
    · refine ⟨false, off, fun z => (nomatch z), fun _ => ⟨true, e_NoAmounts.me, fun _ a ha => k _ H' sm ?_, fun z => (nomatch z)⟩⟩
      have e : dAdd ns ms = .str "amounts" := by simp [dAdd, ln, f]
      rw [e]
      exact .str _
    · refine ⟨true, e_NoShare.me, fun _ a ha => k _ H (Same.refl H) ?_, fun z => (nomatch z)⟩
      have e : dAdd ns ms = .str "share" := by simp [dAdd, ln]
      rw [e]
      exact .str _
  · exact ⟨_, rfl, _, rfl, s1, d1, _, rfl, a1, .inr ⟨T, ty, ak.add⟩, s1, t1, ns, y, rfl, sh1, .inr ⟨T, ty, ak.kit, fun σ => ⟨true, e_NoShare.me, fun _ a ha => k, fun z => (nomatch z)⟩⟩⟩
abbrev st_l_due : Stmt := top 25
theorem sc_l_due : FnScope ["_law_row", "_law_more", "_law_found", "_law_first", "_law_second"] ["_law_row", "_law_more"] (defScope st_l_due) := ⟨rfl, rfl, rfl, by decide +kernel, rfl, by decide +kernel, by decide +kernel⟩
theorem ok_due (B : Bn mg) (D : Df K mg "_law_due" st_l_due ["_law_row", "_law_more"]) : Cal P w K mg base 1 "_law_due" ["_law_row", "_law_more"] (spDue K) := by
  refine D.cal sc_l_due (fun vs H Q E h => ?_) (fun f cdv A out s H vs Q E hr h => ?_)
  · obtain ⟨t1, t2, ns, ms, rfl, _⟩ := h
    rfl
  obtain ⟨t1, t2, ns, ms, rfl, h1, h2, n1, n6, m6, k⟩ := h
  refine ⟨_, (pss_cons (ps_if (pt_cmpR op_ne (pe_callB call_len_seq (by rfl) B.n_len (by decide +kernel) (pa_cons (pv 0) pa_nil)) (pe_callB call_len_seq (by rfl) B.n_len (by decide +kernel) (pa_cons (pv 1) pa_nil)) (nomark _)) (pss_one (ps_ret pe_str)) pss_nil)
   (pss_cons (ps_set (i := 2) sc_l_due.nd rfl (.inl rfl) (pe_callTy call_tuple_of (by rfl) B.n_tuple (by decide +kernel) (pa_cons (pe_lc (own := [("_law_first", 3), ("_law_second", 4)]) (g := gTup K 2 (gCons (gName 3) (gCons (gName 4) gNil))) rfl sc_l_due.nd (RZ.pi_zipA (by rfl) B.n_zip (pa_cons (pv 0) (pa_cons (pv 1) pa_nil))) (blkOk_by (N := ["_law_row", "_law_more", "_law_found", "_law_first", "_law_second"]) (sc := defScope st_l_due) (by decide +kernel)) (fun _ _ _ _ _ => (pg_tup rfl (pgs_cons (pg_name (i := 3) sc_l_due.nd rfl (.inl rfl)) (pgs_cons (pg_name (i := 4) sc_l_due.nd rfl (.inl rfl)) pgs_nil)))) (fun _ _ _ _ _ => pts_nil) (fun _ _ _ _ _ => (pe_op op_add (pv 3) (pv 4)))) pa_nil)))
   (pss_one (ps_ret (pe_ifExp (pt_cmpR op_gt (pe_callB (call_maxT rfl (un66 hr)) (by rfl) B.n_max (by decide +kernel) (pa_cons (pv 2) pa_nil)) pe_int (nomark _)) pe_str (pv 2)))))), ?_⟩
  refine ⟨_, rfl, t1, _, rfl, .inr (SqT.of h1), _, rfl, t2, _, rfl, .inr (SqT.of h2), rfl, _, rfl, ?_⟩
  refine ite2 (fun c => ?_) (fun c => ?_)
  · refine k _ H (Same.refl H) ?_
    have ln : ¬ ns.length = ms.length := fun e => by simp [e] at c
    have e : dAdd ns ms = .str "share" := by simp [dAdd, ln]
    rw [e]
    exact .str _
  have ln : ns.length = ms.length := by
    have c2 : V.int (((ns.map V.int).length : Nat) : Int) = V.int (((ms.map V.int).length : Nat) : Int) := by simpa using c
    have := V.int.inj c2
    simp only [List.length_map] at this
    omega
  have wz := walkZT (K := K) (a := t1) (b := t2) (xs := ns.map V.int) (ys := ms.map V.int) (by simp [ln])
  refine ⟨_, rfl, _, rfl, t1, t2, _, _, rfl, .inr ⟨SqT.of h1, SqT.of h2, fun D hD => lc_it wz (ZInv D H ns ms) ⟨same_new (Same.refl H) hD, upd_same⟩ (fun i H' _ q => ⟨SqT.of (q.1 _ _ h1), SqT.of (q.1 _ _ h2)⟩) ?_ ?_⟩⟩
  · rintro i x H1 H2 hi p ⟨T, x', y', rfl, nT, rfl, ex, ey⟩
    rw [List.length_map] at hi
    obtain ⟨u, v, rfl, rfl, acc, e1, e2, e3⟩ := p.turn ln hi hD nT ex ey
    refine ⟨T, _, rfl, SqT.of upd_same, rfl, _, _, rfl, _, _, rfl, rfl, rfl, tyes ?_⟩
    exact ⟨_, rfl, _, rfl, _, _, rfl, rfl, acc, e1, size_lt (by omega), e3⟩
  · intro H1 p
    rw [List.length_map] at p
    have e : (addl ns ms).take ns.length = addl ns ms := by rw [← addl_length ln, List.take_length]
    have p2 := p.2
    rw [e] at p2
    refine ⟨D, _, rfl, .inl ⟨SqL.of p2, fun q hq => ?_⟩⟩
    generalize hH2 : upd H1 q _ = H2
    have s2' : Same H H2 := by rw [← hH2]; exact same_new p.1 hq
    have hq2 : H2 q = some (.tup ((addl ns ms).map V.int)) := by rw [← hH2, upd_same]
    cases ez : addl ns ms with
    | nil =>
      have := addl_length ln
      rw [ez] at this
      simp at this
      omega
    | cons z zs =>
      have hq3 : H2 q = some (.tup ((z :: zs).map V.int)) := by rw [← ez]; exact hq2
      refine ⟨_, rfl, q, z, zs, rfl, SqT.of hq3, _, _, rfl, rfl, _, rfl, ?_⟩
      refine ite2 (fun c2 => ?_) (fun c2 => ?_)
      · have c3 : 30 < zs.foldl max z := of_decide_eq_true c2
        refine k _ H2 s2' ?_
        have f : fine (addl ns ms) = false := by
          rw [ez, fine_max]
          simp; omega
        have e : dAdd ns ms = .str "amounts" := by simp [dAdd, ln, f]
        rw [e]
        exact .str _
      · have c3 : ¬ 30 < zs.foldl max z := fun z => c2 (decide_eq_true z)
        refine ⟨_, rfl, k _ H2 s2' ?_⟩
        have f : fine (addl ns ms) = true := by
          rw [ez, fine_max]
          simp; omega
        have e : dAdd ns ms = .tuple ((addl ns ms).map PyData.int) := by simp [dAdd, ln, f]
        rw [e]
        exact .tup (SqT.of hq2) (dpInts _ _ _)
end
end Pl
namespace Pl
open PySem PySem.Spec PyProof.Rows L2
def spLaw (K : PySem.W.Frag) : Sp := fun vs H Q _ => ∃ (a : Addr) (ns : List Int), vs = [.ref a] ∧ SqL K H a (ns.map V.int) ∧ ns.length ≤ 63 ∧ ∀ H', Q (.bl true) H'
theorem am_bd {ns : List Int} (am : Am ns) : ∀ x ∈ ns, x.natAbs < 2 ^ 30 := fun x hx => by
  have := am x hx
  omega
theorem sk {p : Addr} {H1 H3 H4 : Hp} (k3 : Same H1 H3) (k4 : Kp p H3 H4) (np : H1 p = none) : Same H1 H4 := fun b o q => k4 _ _ (ne_of_none q np) (k3 _ _ q)
/-- halves -/
def half (ns : List Int) : List Int := ns.map (· / 2)
theorem half_am {ns : List Int} (a : Am ns) : Am (half ns) := fun x hx => by
  obtain ⟨y, hy, rfl⟩ := List.mem_map.mp hx
  have := a y hy
  omega
theorem half_length (ns : List Int) : (half ns).length = ns.length := by simp [half]
def HInv (D : Addr) (H0 : Hp) (n : List Int) (i : Nat) (H : Hp) : Prop := Same H0 H ∧ H D = some (.lst (((half n).take i).map V.int))
theorem HInv.start {D : Addr} {H0 : Hp} {n : List Int} (h : H0 D = none) : HInv D H0 n 0 (L2.upd H0 D (.lst [])) := ⟨same_new (Same.refl H0) h, upd_same⟩
theorem HInv.done {D : Addr} {H0 H : Hp} {n : List Int} (q : HInv D H0 n (n.map V.int).length H) : H D = some (.lst ((half n).map V.int)) := by
  have e := q.2
  rw [List.length_map, ← half_length n, List.take_length] at e
  exact e
theorem HInv.next {D : Addr} {H0 H : Hp} {n : List Int} {i : Nat} {x : V} (q : HInv D H0 n i H) (h : H0 D = none) (l : n.length ≤ 6) (hx : (n.map V.int)[i]? = some x) :
    ∃ y : Int, x = .int y ∧ ∃ acc, H D = some (.lst acc) ∧ acc.length < sizeLine ∧ HInv D H0 n (i + 1) (L2.upd H D (.lst (acc ++ [.int (y / 2)]))) := by
  rw [List.getElem?_map] at hx
  cases e : n[i]? with
  | none => rw [e] at hx; cases hx
  | some y =>
    rw [e] at hx
    obtain rfl : V.int y = x := Option.some.inj hx
    refine ⟨y, rfl, _, q.2, size_lt (by rw [List.length_map, List.length_take, half_length]; omega), same_put q.1 h, ?_⟩
    have e2 : (half n)[i]? = some (y / 2) := by simp [half, e]
    rw [upd_same, List.take_add_one, e2, List.map_append]
    rfl
section
variable {P : Program} {w : World} {K : PySem.W.Frag} {mg : Str → Option Value} {base : Heap} {CShare CNoShare CNoAmounts : Addr}
abbrev st_law : Stmt := top 26
theorem sc_law : FnScope ["_law_script", "_law_k", "_law_source_here", "_law_lap", "_law_row", "_law_more", "_law_one", "_law_other", "_law_told", "_law_odd", "_law_amount"] ["_law_script"] (defScope st_law) := ⟨rfl, rfl, rfl, by decide +kernel, rfl, by decide +kernel, by decide +kernel⟩
theorem ok_law (B : Bn mg) (SShare : ShK K mg CShare) (tt : ∀ T ∈ ["NoneType", "int", "tuple", "list", "str", "dict", "bool"], AddK K CShare T) (p_amounts : PCal P w K mg base 1 CShare "amounts" ["self"] (getSp CShare "by_state")) (m_initShare : MCal P w K mg base 3 CShare "__init__" ["self", "amounts"] (spInit CShare)) (c_l_cell : Cal P w K mg base 1 "_law_cell" ["_law_script", "_law_index"] (spCell K)) (c_l_source : Cal P w K mg base 1 "_law_source" ["_law_cell_here"] spSource) (c_l_draw : Cal P w K mg base 1 "_law_draw" ["_law_source_here", "_law_many"] spDraw) (c_l_choose : Cal P w K mg base 2 "_law_choose" ["_law_source_here", "_law_values"] spChoose) (c_l_amounts : Cal P w K mg base 3 "_law_amounts" ["_law_source_here", "_law_many"] spAmounts)
    (c_l_added : Cal P w K mg base 6 "_law_added" ["_law_one", "_law_other"] (spAdded K CShare)) (c_l_due : Cal P w K mg base 1 "_law_due" ["_law_row", "_law_more"] (spDue K)) (c_l_is_equal : CalG P w K mg base 1 "_law_is_equal" ["_law_actual", "_law_expected"] (spEqual K)) (D : Df K mg "law" st_law ["_law_script"]) : CalG P w K mg base 7 "law" ["_law_script"] (spLaw K) := by
  refine D.calG sc_law (fun vs H Q E h => ?_) (fun f cdv A out s H vs Q E gd hr h => ?_)
  · obtain ⟨a, ns, rfl, _⟩ := h
    rfl
  obtain ⟨a, ns, rfl, sq, l63, k⟩ := h
  refine ⟨_, (pss_one (ps_try_thru0 (pss_cons (ps_for PassesOwn.never rfl (pi_range1 (by rfl) B.n_range (pa_cons (pe_callB (call_max2 rfl) (by rfl) B.n_max (by decide +kernel) (pa_cons pe_int (pa_cons (pe_callB (call_min2 rfl) (by rfl) B.n_min (by decide +kernel) (pa_cons (pe_callB call_len_seq (by rfl) B.n_len (by decide +kernel) (pa_cons (pv 0) pa_nil)) (pa_cons pe_int pa_nil))) pa_nil))) pa_nil)) (pg_name (i := 1) sc_law.nd rfl (.inl rfl))
   (pss_cons (ps_set (i := 2) sc_law.nd rfl (.inl rfl) (pe_fn c_l_source (hr.mono (by decide)) (pa_cons (pe_fn c_l_cell (hr.mono (by decide)) (pa_cons (pv 0) (pa_cons (pv 1) pa_nil))) pa_nil)))
   (pss_one (ps_for PassesOwn.never rfl (pi_range1 (by rfl) B.n_range (pa_cons pe_int pa_nil)) (pg_name (i := 3) sc_law.nd rfl (.inl rfl))
   (pss_cons (ps_set (i := 4) sc_law.nd rfl (.inl rfl) (pe_fn c_l_amounts (hr.mono (by decide)) (pa_cons (pv 2) (pa_cons (pe_op op_add pe_int (pe_fn c_l_draw (hr.mono (by decide)) (pa_cons (pv 2) (pa_cons pe_int pa_nil)))) pa_nil))))
   (pss_cons (ps_set (i := 5) sc_law.nd rfl (.inl rfl) (pe_fn c_l_amounts (hr.mono (by decide)) (pa_cons (pv 2) (pa_cons (pe_ifExp (pt_cmpR op_gt (pe_fn c_l_draw (hr.mono (by decide)) (pa_cons (pv 2) (pa_cons pe_int pa_nil))) pe_int (nomark _)) (pe_callB call_len_seq (by rfl) B.n_len (by decide +kernel) (pa_cons (pv 4) pa_nil)) (pe_op op_add pe_int (pe_fn c_l_draw (hr.mono (by decide)) (pa_cons (pv 2) (pa_cons pe_int pa_nil))))) pa_nil))))
   (pss_cons (ps_if (pt_cmpR op_eq (pe_fn c_l_draw (hr.mono (by decide)) (pa_cons (pv 2) (pa_cons pe_int pa_nil))) pe_int (nomark _)) (pss_one (ps_par (i := 4) (j := 5) (by rfl) sc_law.nd rfl rfl (by decide) rfl rfl (pa_cons (pe_callTy call_tuple_of (by rfl) B.n_tuple (by decide +kernel) (pa_cons (pe_lc (own := [("_law_amount", 10)]) (g := gName 10) rfl sc_law.nd (pi_tup (pv 4)) (blkOk_by (N := ["_law_script", "_law_k", "_law_source_here", "_law_lap", "_law_row", "_law_more", "_law_one", "_law_other", "_law_told", "_law_odd", "_law_amount"]) (sc := defScope st_law) (by decide +kernel)) (fun _ _ _ _ _ => (pg_name (i := 10) sc_law.nd rfl (.inl rfl))) (fun _ _ _ _ _ => pts_nil) (fun _ _ _ _ _ => (pe_op op_fdiv (pv 10) pe_int))) pa_nil)) (pa_cons (pe_callTy call_tuple_of (by rfl) B.n_tuple (by decide +kernel) (pa_cons (pe_lc (own := [("_law_amount", 10)]) (g := gName 10) rfl sc_law.nd (pi_tup (pv 5)) (blkOk_by (N := ["_law_script", "_law_k", "_law_source_here", "_law_lap", "_law_row", "_law_more", "_law_one", "_law_other", "_law_told", "_law_odd", "_law_amount"]) (sc := defScope st_law) (by decide +kernel)) (fun _ _ _ _ _ => (pg_name (i := 10) sc_law.nd rfl (.inl rfl))) (fun _ _ _ _ _ => pts_nil) (fun _ _ _ _ _ => (pe_op op_fdiv (pv 10) pe_int))) pa_nil)) pa_nil)) (by rfl))) pss_nil)
   (pss_cons (ps_par (i := 6) (j := 7) (by rfl) sc_law.nd rfl rfl (by decide) rfl rfl (pa_cons (pe_mk m_initShare SShare.mks SShare.kc SShare.mgC (hr.mono (by decide)) (pa_cons (pv 4) pa_nil)) (pa_cons (pe_mk m_initShare SShare.mks SShare.kc SShare.mgC (hr.mono (by decide)) (pa_cons (pv 5) pa_nil)) pa_nil)) (by rfl))
   (pss_cons (ps_set (i := 8) sc_law.nd rfl (.inl rfl) (pe_lst (pa_cons (pe_fn c_l_added (hr.mono (by decide)) (pa_cons (pv 6) (pa_cons (pv 7) pa_nil))) (pa_cons (pe_fn c_l_added (hr.mono (by decide)) (pa_cons (pv 7) (pa_cons (pv 6) pa_nil))) (pa_cons (pe_pr p_amounts SShare.cl (hr.mono (by decide)) (pv 6)) (pa_cons (pe_pr p_amounts SShare.cl (hr.mono (by decide)) (pv 7)) pa_nil))))))
   (pss_cons (ps_if (pt_not (pt_val (pe_fnG c_l_is_equal gd (hr.mono (by decide)) (pa_cons (pv 8) (pa_cons (pe_lst (pa_cons (pe_fn c_l_due (hr.mono (by decide)) (pa_cons (pv 4) (pa_cons (pv 5) pa_nil))) (pa_cons (pe_fn c_l_due (hr.mono (by decide)) (pa_cons (pv 5) (pa_cons (pv 4) pa_nil))) (pa_cons (pv 4) (pa_cons (pv 5) pa_nil))))) pa_nil))))) (pss_one (ps_ret pe_bl)) pss_nil)
   (pss_cons (ps_set (i := 9) sc_law.nd rfl (.inl rfl) (pe_fn c_l_choose (hr.mono (by decide)) (pa_cons (pv 2) (pa_cons (pe_lst (pa_cons pe_non (pa_cons pe_int (pa_cons (pv 4) (pa_cons (pe_callTy call_list_of (by rfl) B.n_list (by decide +kernel) (pa_cons (pv 4) pa_nil)) (pa_cons pe_str (pa_cons pe_dnewK (pa_cons pe_bl (pa_cons (pe_tup pa_nil) (pa_cons (pv 5) pa_nil)))))))))) pa_nil))))
   (pss_one (ps_if (pt_cmpR op_ne (pe_fn c_l_added (hr.mono (by decide)) (pa_cons (pv 6) (pa_cons (pv 9) pa_nil))) pe_str (nomark _)) (pss_one (ps_ret pe_bl)) pss_nil)))))))))))))
   (pss_one (ps_ret pe_bl))))), ?_⟩
  refine ⟨_, rfl, a, _, rfl, .inl sq, _, _, rfl, _, _, rfl, _, rfl, ?_, ?_, ?_⟩
  · split <;> split <;> omega
  · split <;> split <;> omega
  generalize (Int.toNat _) = n
  refine for_range (lo := 0) (n := n) (fun i σ H' => ∃ v1 v2 v3 v4 v5 v6 v7 v8 v9 v10 : Option V, σ = [some (.ref a), v1, v2, v3, v4, v5, v6, v7, v8, v9, v10] ∧ Same H H') ⟨none, none, none, none, none, none, none, none, none, none, rfl, Same.refl H⟩ ?_ (fun σ H' _ => k H')
  rintro i σ H1 _ ⟨v1, v2, v3, v4, v5, v6, v7, v8, v9, v10, rfl, k1⟩
  refine ⟨_, rfl, _, rfl, a, ns, _, rfl, k1.seq sq, by omega, fun c => ⟨c, rfl, fun p H2 np src k2 => ?_⟩⟩
  refine ⟨12, rfl, by decide, by decide, ?_⟩
  refine for_range (lo := 0) (n := 12) (fun j σ H' => ∃ v3 v4 v5 v6 v7 v8 v9 v10 : Option V, σ = [some (.ref a), some (.int (0 + i)), some (.ref p), v3, v4, v5, v6, v7, v8, v9, v10] ∧ Src H' p ∧ Same H1 H') ⟨v3, v4, v5, v6, v7, v8, v9, v10, rfl, src, k2⟩ ?_ (fun σ H' ⟨v3, v4, v5, v6, v7, v8, v9, v10, e, _, k3⟩ => ⟨_, _, _, _, _, _, _, _, _, _, e, k1.trans k3⟩)
  rintro j σ H3 _ ⟨v3, v4, v5, v6, v7, v8, v9, v10, rfl, s3, k3⟩
  refine ⟨_, rfl, _, rfl, p, 5, rfl, s3, by decide, by decide, fun r H4 r0 r1 s4 k4 => ⟨_, _, rfl, rfl, ?_⟩⟩
  have e : (((2 + r).toNat : Nat) : Int) = 2 + r := by omega
  refine ⟨p, (2 + r).toNat, by rw [e]; rfl, s4, by omega, by omega, fun t1 n1 H5 nl1 am1 s5 k5 ht1 => ?_⟩
  have a5 : Same H1 H5 := sk (sk k3 k4 np) k5 np
  refine ⟨_, rfl, _, rfl, p, 5, rfl, s5, by decide, by decide, fun r2 H6 r20 r21 s6 k6 => ⟨_, _, rfl, rfl, _, rfl, ?_⟩⟩
  have a6 : Same H1 H6 := sk a5 k6 np
  have ht1 := k6 _ _ (s5.neT ht1) ht1
  refine ite2 (fun c => ?g1) (fun c => ?g2)
  case' g1 =>
    refine ⟨_, rfl, t1, _, rfl, .inr (SqT.of ht1), ?_⟩
    refine ⟨p, n1.length, by rw [List.length_map]; rfl, s6, by omega, by omega, fun t2 n2 H7 nl2 am2 s7 k7 ht2 => ?_⟩
    have ht1 := k7 _ _ (s6.neT ht1) ht1
    have a7 : Same H1 H7 := sk a6 k7 np
    have b2 : 2 ≤ n2.length ∧ n2.length ≤ 6 := by omega
  case' g2 =>
    refine ⟨_, rfl, p, 5, rfl, s6, by decide, by decide, fun r3 H6 r30 r31 s6' k6' => ⟨_, _, rfl, rfl, ?_⟩⟩
    have ht1 := k6' _ _ (s6.neT ht1) ht1
    have e3 : (((2 + r3).toNat : Nat) : Int) = 2 + r3 := by omega
    refine ⟨p, (2 + r3).toNat, by rw [e3]; rfl, s6', by omega, by omega, fun t2 n2 H7 nl2 am2 s7 k7 ht2 => ?_⟩
    have ht1 := k7 _ _ (s6'.neT ht1) ht1
    have a7 : Same H1 H7 := sk (sk a6 k6' np) k7 np
    have b2 : 2 ≤ n2.length ∧ n2.length ≤ 6 := by omega
  all_goals
    have b1 : 2 ≤ n1.length ∧ n1.length ≤ 6 := by omega
    refine ⟨_, rfl, p, 2, rfl, s7, by decide, by decide, fun r4 H8 r40 r41 s8 k8 => ?_⟩
    have a8 : Same H1 H8 := sk a7 k8 np
    have ht1 := k8 _ _ (s7.neT ht1) ht1
    have ht2 := k8 _ _ (s7.neT ht2) ht2
    refine ⟨rfl, _, rfl, ite2 (fun c4 => ?_) (fun c4 => ?_)⟩
    focus
      refine ⟨_, rfl, t1, rfl, ⟨_, SqT.of ht1⟩, fun D hD => lc_tup (K := K) (a := t1) (xs := n1.map V.int) (HInv D H8 n1) (HInv.start hD) (fun i' H' _ q => SqT.of (q.1 _ _ ht1)) (fun i' x H' hx q => ⟨rfl, tyes (by obtain ⟨y, rfl, z⟩ := q.next hD b1.2 hx; exact ⟨_, rfl, _, _, rfl, rfl, ⟨by decide, by decide⟩, z⟩)⟩) (fun H9 q9 => ?_)⟩
      refine ⟨D, _, rfl, .inl ⟨SqL.of q9.done, fun u1 hu1 => ?_⟩⟩
      generalize hH10 : upd H9 u1 _ = H10
      have k10 : Same H8 H10 := by rw [← hH10]; exact same_new q9.1 hu1
      have hu10 : H10 u1 = some (.tup ((half n1).map V.int)) := by rw [← hH10, upd_same]
      refine ⟨_, rfl, t2, rfl, ⟨_, SqT.of (k10 _ _ ht2)⟩, fun D2 hD2 => lc_tup (K := K) (a := t2) (xs := n2.map V.int) (HInv D2 H10 n2) (HInv.start hD2) (fun i' H' _ q => SqT.of (q.1 _ _ (k10 _ _ ht2))) (fun i' x H' hx q => ⟨rfl, tyes (by obtain ⟨y, rfl, z⟩ := q.next hD2 b2.2 hx; exact ⟨_, rfl, _, _, rfl, rfl, ⟨by decide, by decide⟩, z⟩)⟩) (fun H11 q11 => ?_)⟩
      refine ⟨D2, _, rfl, .inl ⟨SqL.of q11.done, fun u2 hu2 => ⟨_, _, rfl, ?_⟩⟩⟩
      generalize hHc : upd H11 u2 _ = Hc
      have kc : Same H8 Hc := by rw [← hHc]; exact same_new (k10.trans q11.1) hu2
      have ht1 : Hc u1 = some (.tup ((half n1).map V.int)) := by rw [← hHc]; exact (same_new q11.1 hu2) _ _ hu10
      have ht2 : Hc u2 = some (.tup ((half n2).map V.int)) := by rw [← hHc, upd_same]
      have sc : Src Hc p := s8.same kc
      have ac : Same H1 Hc := a8.trans kc
      have am1 := half_am am1
      have am2 := half_am am2
      have b1 : 2 ≤ (half n1).length ∧ (half n1).length ≤ 6 := by rw [half_length]; exact b1
      have b2 : 2 ≤ (half n2).length ∧ (half n2).length ≤ 6 := by rw [half_length]; exact b2
      generalize half n1 = n1 at *
      generalize half n2 = n2 at *
      generalize u1 = t1 at *
      generalize u2 = t2 at *
    rotate_left
    focus
      have sc : Src H8 p := s8
      have ac : Same H1 H8 := a8
      generalize H8 = Hc at *
    all_goals
      refine ⟨_, rfl, fun o1 d1 x1 y1 _ => mk_at x1 y1 ht1 b1.1 b1.2 am1 fun H9 k9 sh1 => ⟨_, rfl, fun o2 d2 x2 y2 _ => mk_at x2 y2 (k9 _ _ ht2) b2.1 b2.2 am2 fun H10 k10 sh2 => ⟨_, _, rfl, ?_⟩⟩⟩
      have sh1 := sh1.same k10
      have k10 := k9.trans k10
      refine ⟨_, rfl, _, rfl, o1, t1, n1, _, rfl, sh1, .inl ⟨o2, t2, n2, rfl, sh2, fun w1 H11 k11 dp1 => ?_⟩⟩
      refine ⟨_, rfl, _, rfl, o2, t2, n2, _, rfl, sh2.same k11, .inl ⟨o1, t1, n1, rfl, sh1.same k11, fun w2 H12 k12 dp2 => ?_⟩⟩
      have sh1 := (sh1.same k11).same k12
      have sh2 := (sh2.same k11).same k12
      have dp1 := dpSame k12 _ _ dp1
      have k12 := (k10.trans k11).trans k12
      obtain ⟨⟨dx1, oa⟩, ta, _⟩ := id sh1
      obtain ⟨⟨dx2, ob⟩, tb, _⟩ := id sh2
      refine ⟨_, rfl, o1, dx1, _, rfl, oa, o1, dx1, _, _, rfl, oa, shF_get t1, _, rfl, o2, dx2, _, rfl, ob, o2, dx2, _, _, rfl, ob, shF_get t2, (by show 4 ≤ sizeLine; decide), fun L hL => ?_⟩
      generalize hH13 : upd H12 L _ = H13
      have k13 : Same H12 H13 := by rw [← hH13]; exact same_new (Same.refl H12) hL
      have hL13 : H13 L = some (.lst [w1, w2, .ref t1, .ref t2]) := by rw [← hH13, upd_same]
      refine ⟨_, rfl, _, rfl, _, rfl, t1, t2, n1, n2, rfl, k13 _ _ ta, k13 _ _ tb, by omega, b1.2, b2.2, fun w3 H14 k14 dp3 => ?_⟩
      refine ⟨_, rfl, _, rfl, t2, t1, n2, n1, rfl, k14 _ _ (k13 _ _ tb), k14 _ _ (k13 _ _ ta), by omega, b2.2, b1.2, fun w4 H15 k15 dp4 => ?_⟩
      refine ⟨_, rfl, _, rfl, (by show 4 ≤ sizeLine; decide), fun M hM => ?_⟩
      generalize hH16 : upd H15 M _ = H16
      have k16 : Same H15 H16 := by rw [← hH16]; exact same_new (Same.refl H15) hM
      have hM16 : H16 M = some (.lst [w3, w4, .ref t1, .ref t2]) := by rw [← hH16, upd_same]
      have kx : Same H12 H16 := ((k13.trans k14).trans k15).trans k16
      have hT1 : Dp K H16 (.ref t1) (.tuple (n1.map PyData.int)) := .tup (SqT.of (kx _ _ ta)) (dpInts _ _ _)
      have hT2 : Dp K H16 (.ref t2) (.tuple (n2.map PyData.int)) := .tup (SqT.of (kx _ _ tb)) (dpInts _ _ _)
      have fit : Shw (.list [dAdd n1 n2, dAdd n2 n1, .tuple (n1.map PyData.int), .tuple (n2.map PyData.int)]) := by
        have f1 := dAdd_fit am1 am2 b1.2
        have f2 := dAdd_fit am2 am1 b2.2
        have f3 : Fit 1 200 (.tuple (n1.map PyData.int)) := (Fit.tuple (k := 0) (FitAll.ints (am_bd am1))).mono (Nat.le_refl _) (by omega)
        have f4 : Fit 1 200 (.tuple (n2.map PyData.int)) := (Fit.tuple (k := 0) (FitAll.ints (am_bd am2))).mono (Nat.le_refl _) (by omega)
        exact (Fit.list (FitAll.cons f1 (FitAll.cons f2 (FitAll.cons f3 (FitAll.cons f4 FitAll.nil))))).shw (by decide) (by decide)
      refine ⟨L, M, _, _, rfl, .lst (SqL.of (k16 _ _ (k15 _ _ (k14 _ _ hL13)))) (.cons (dpSame kx _ _ dp1) (.cons (dpSame kx _ _ dp2) (.cons hT1 (.cons hT2 .nil)))), .lst (SqL.of hM16) (.cons (dpSame (k15.trans k16) _ _ dp3) (.cons (dpSame k16 _ _ dp4) (.cons hT1 (.cons hT2 .nil)))), fit, fit, ?_⟩
      rw [decide_eq_true rfl]
      refine ⟨_, rfl, iteF ?_⟩
      have s16 : Src H16 p := (sc.same k12).same kx
      have a16 : Same H1 H16 := (ac.trans k12).trans kx
      have t1' := kx _ _ ta
      have t2' := kx _ _ tb
      have sh16 := sh1.same kx
      refine ⟨_, rfl, _, rfl, _, rfl, t1, _, rfl, .inr (SqT.of t1'), fun q1 hq1 => fun q2 hq2 => ⟨Nat.zero_le _, fun q3 hq3 => ⟨_, rfl, (by show 9 ≤ sizeLine; decide), fun N hN => ?_⟩⟩⟩
      generalize hH17 : upd _ N _ = H17
      have c4 : Same (upd (upd (upd H16 q1 (.lst (n1.map V.int))) q2 (.dK [])) q3 (.tup [])) H17 := by rw [← hH17]; exact same_new (Same.refl _) hN
      have c3 : Same (upd (upd H16 q1 (.lst (n1.map V.int))) q2 (.dK [])) H17 := (same_new (Same.refl _) hq3).trans c4
      have c2 : Same (upd H16 q1 (.lst (n1.map V.int))) H17 := (same_new (Same.refl _) hq2).trans c3
      have k17 : Same H16 H17 := (same_new (Same.refl _) hq1).trans c2
      have s17 : Src H17 p := s16.same k17
      have hN17 : H17 N = some (.lst [.non, .int 0, .ref t1, .ref q1, .str "0 0", .ref q2, .bl true, .ref q3, .ref t2]) := by rw [← hH17, upd_same]
      have Np : N ≠ p := (((s16.upd hq1).upd hq2).upd hq3).ne hN
      have q1p : q1 ≠ p := s16.ne hq1
      have q2p : q2 ≠ p := (s16.upd hq1).ne hq2
      refine ⟨p, N, _, rfl, s17, hN17, Np, (by show 0 < 9; decide), (by show 9 ≤ 1000; decide), fun v H18 hv s18 k18 => ?_⟩
      have tys : ∃ T, TyS H18 v T ∧ T ∈ ["NoneType", "int", "tuple", "list", "str", "dict", "bool"] := by
        simp only [List.mem_cons, List.not_mem_nil, or_false] at hv
        rcases hv with rfl | rfl | rfl | rfl | rfl | rfl | rfl | rfl | rfl
        · exact ⟨_, .non, by decide⟩
        · exact ⟨_, .int _, by decide⟩
        · exact ⟨_, .tup (k18 _ _ (s17.neT (k17 _ _ t1')) (k17 _ _ t1')), by decide⟩
        · exact ⟨_, .lst (k18 _ _ q1p (c2 _ _ upd_same)), by decide⟩
        · exact ⟨_, .str _, by decide⟩
        · exact ⟨_, .dK (k18 _ _ q2p (c3 _ _ upd_same)), by decide⟩
        · exact ⟨_, .bl _, by decide⟩
        · exact ⟨_, .tup (k18 _ _ (s17.neT (c4 _ _ upd_same)) (c4 _ _ upd_same)), by decide⟩
        · exact ⟨_, .tup (k18 _ _ (s17.neT (k17 _ _ t2')) (k17 _ _ t2')), by decide⟩
      obtain ⟨T, ty, mem⟩ := tys
      refine ⟨_, rfl, _, rfl, o1, t1, n1, v, rfl, (sh16.same k17).kp s17 k18, .inr ⟨T, ty, tt T mem, rfl, _, rfl, iteNS rfl ?_⟩⟩
      exact ⟨_, _, _, _, _, _, _, _, rfl, s18, sk (a16.trans k17) k18 np⟩
end
end Pl
namespace Pl
open PySem PySem.Spec PyProof.Rows L2
theorem all_ok {P : Program} {w : World} {K : PySem.W.Frag} {mg : Str → Option Value} {h base : Heap} {CShare CNoShare CNoAmounts : Addr} (X : K.In h) (G : h.Ns mainGlobals mg) (aShare : PySem.W.nsIn K mainGlobals "Share" = some (some (.ref CShare))) (sShare : ShF K CShare) (fShare : CallF K CShare) (mShare_init : MhK K CShare "__init__" "Share.__init__" st_ShInit) (mShare_len : MhK K CShare "__len__" "Share.__len__" st_Sh_len) (mShare_add : MhK K CShare "__add__" "Share.__add__" st_Sh_add) (pShare_amounts : PhK K CShare "amounts" "Share.amounts" st_Sh_amounts) (d_is_integer_to : DfK K "is_integer_to" st_is_integer_to) (d_is_amounts : DfK K "is_amounts" st_is_amounts) (d_check_pair : DfK K "check_pair" st_check_pair) (d_l_cell : DfK K "_law_cell" st_l_cell) (d_l_source : DfK K "_law_source" st_l_source) (d_l_draw : DfK K "_law_draw" st_l_draw) (d_l_choose : DfK K "_law_choose" st_l_choose) (d_l_is_equal : DfK K "_law_is_equal" st_l_is_equal) (d_l_amounts : DfK K "_law_amounts" st_l_amounts) (d_l_added : DfK K "_law_added" st_l_added) (d_l_due : DfK K "_law_due" st_l_due) (d_law : DfK K "law" st_law) (n_len : PySem.W.nsIn K mainGlobals "len" = some none) (n_range : PySem.W.nsIn K mainGlobals "range" = some none) (n_max : PySem.W.nsIn K mainGlobals "max" = some none) (n_min : PySem.W.nsIn K mainGlobals "min" = some none) (n_sum : PySem.W.nsIn K mainGlobals "sum" = some none) (n_sorted : PySem.W.nsIn K mainGlobals "sorted" = some none) (n_all : PySem.W.nsIn K mainGlobals "all" = some none) (n_isinstance : PySem.W.nsIn K mainGlobals "isinstance" = some none) (n_repr : PySem.W.nsIn K mainGlobals "repr" = some none) (n_tuple : PySem.W.nsIn K mainGlobals "tuple" = some none) (n_list : PySem.W.nsIn K mainGlobals "list" = some none) (n_int : PySem.W.nsIn K mainGlobals "int" = some none) (n_bool : PySem.W.nsIn K mainGlobals "bool" = some none) (n_zip : PySem.W.nsIn K mainGlobals "zip" = some none) (n_str : PySem.W.nsIn K mainGlobals "str" = some none) (c_FEWEST_STATES : ConI K "FEWEST_STATES" 2) (c_MOST_STATES : ConI K "MOST_STATES" 6) (c_MOST_IN_A_STATE : ConI K "MOST_IN_A_STATE" 30) (x_NoShare : ExF K "NoShare" CNoShare) (x_NoAmounts : ExF K "NoAmounts" CNoAmounts) (off : PySem.W.exmOne K (.ref CNoAmounts) (.ref CNoShare) = some false) (aCs : AddC K CShare) (t_NoneType : AddK K CShare "NoneType") (t_int : AddK K CShare "int") (t_tuple : AddK K CShare "tuple") (t_list : AddK K CShare "list") (t_str : AddK K CShare "str") (t_dict : AddK K CShare "dict") (t_bool : AddK K CShare "bool") :
    CalG P w K mg base 7 "law" ["_law_script"] (spLaw K) := by
  have B : Bn mg := ⟨PySem.W.mg_none_of X G n_len, PySem.W.mg_none_of X G n_range, PySem.W.mg_none_of X G n_max, PySem.W.mg_none_of X G n_min, PySem.W.mg_none_of X G n_sum, PySem.W.mg_none_of X G n_sorted, PySem.W.mg_none_of X G n_all, PySem.W.mg_none_of X G n_isinstance, PySem.W.mg_none_of X G n_repr, PySem.W.mg_none_of X G n_tuple, PySem.W.mg_none_of X G n_list, PySem.W.mg_none_of X G n_int, PySem.W.mg_none_of X G n_bool, PySem.W.mg_none_of X G n_zip, PySem.W.mg_none_of X G n_str⟩
  have Cc : Cn mg := ⟨c_FEWEST_STATES.mg X G, c_MOST_STATES.mg X G, c_MOST_IN_A_STATE.mg X G⟩
  have S : ShK K mg CShare := sShare.k fShare (PySem.W.mg_of X G aShare)
  have e_NoShare := x_NoShare.k X G
  have e_NoAmounts := x_NoAmounts.k X G
  have c_isint := ok_isint (P := P) (w := w) (base := base) B (d_is_integer_to.df X G (fun _ _ _ _ _ _ us hl => match us, hl with | [_, _], _ => rfl))
  have c_isam := ok_isam B Cc c_isint (d_is_amounts.df X G (fun _ _ _ _ _ _ us hl => match us, hl with | [_], _ => rfl))
  have m_init := ok_init S c_isam (mShare_init.mh (fun _ _ _ _ _ _ us hl => match us, hl with | [_, _], _ => rfl))
  have m_initX := ok_initX S e_NoAmounts c_isam (mShare_init.mh (fun _ _ _ _ _ _ us hl => match us, hl with | [_, _], _ => rfl))
  have p_amounts := ok_pamounts (P := P) (w := w) (base := base) S (pShare_amounts.ph (fun _ _ _ _ _ _ us hl => match us, hl with | [_], _ => rfl))
  have m_len := ok_len (P := P) (w := w) (base := base) B S (mShare_len.mh (fun _ _ _ _ _ _ us hl => match us, hl with | [_], _ => rfl))
  have c_pair := ok_pairX B S e_NoShare m_len (d_check_pair.df X G (fun _ _ _ _ _ _ us hl => match us, hl with | [_, _], _ => rfl))
  have m_add := ok_addX B S c_pair m_initX (mShare_add.mh (fun _ _ _ _ _ _ us hl => match us, hl with | [_, _], _ => rfl))
  have c_cell := ok_cell (P := P) (w := w) (base := base) B (d_l_cell.df X G (fun _ _ _ _ _ _ us hl => match us, hl with | [_, _], _ => rfl))
  have c_source := ok_source (P := P) (w := w) (base := base) B (d_l_source.df X G (fun _ _ _ _ _ _ us hl => match us, hl with | [_], _ => rfl))
  have c_draw := ok_draw (P := P) (w := w) (base := base) (d_l_draw.df X G (fun _ _ _ _ _ _ us hl => match us, hl with | [_, _], _ => rfl))
  have c_choose := ok_choose B c_draw (d_l_choose.df X G (fun _ _ _ _ _ _ us hl => match us, hl with | [_, _], _ => rfl))
  have c_amounts := ok_amounts B c_draw c_choose (d_l_amounts.df X G (fun _ _ _ _ _ _ us hl => match us, hl with | [_, _], _ => rfl))
  have c_added := ok_added S e_NoShare e_NoAmounts off aCs p_amounts m_add (d_l_added.df X G (fun _ _ _ _ _ _ us hl => match us, hl with | [_, _], _ => rfl))
  have c_due := ok_due (P := P) (w := w) (base := base) B (d_l_due.df X G (fun _ _ _ _ _ _ us hl => match us, hl with | [_, _], _ => rfl))
  have c_equal := ok_equal (P := P) (w := w) (base := base) B (d_l_is_equal.df X G (fun _ _ _ _ _ _ us hl => match us, hl with | [_, _], _ => rfl))
  have c_law := ok_law B S (by intro T hT; simp only [List.mem_cons, List.not_mem_nil, or_false] at hT; rcases hT with rfl | rfl | rfl | rfl | rfl | rfl | rfl <;> assumption) p_amounts m_init c_cell c_source c_draw c_choose c_amounts c_added c_due c_equal (d_law.df X G (fun _ _ _ _ _ _ us hl => match us, hl with | [_], _ => rfl))
  exact c_law
end Pl
open PySem PySem.W PyProof.Rows in
set_option maxRecDepth 100000 in
set_option maxHeartbeats 0 in
theorem PySem.Challenge.cw_poolshares_k03_shares_added_holds : PySem.Challenge.rw_poolshares_k03_shares_added.Holds := by
  w_on; o_law; k_head; (case hw => w_witness2)
  k_fill
  refine Pl.walkG (l := PySem.Challenge.rw_poolshares_k03_shares_added) (n := 63) (k := 7) (x := "_law_script") (sp := Pl.spLaw) rfl (by decide) rfl ⟨rfl, by decide, by decide⟩ (fun w h Y => PySem.W.kIn_of Y) ?F (fun K H a ns hl _ hS => ⟨a, ns, rfl, hS, hl, fun _ => rfl⟩)
  case F =>
    intro w mg fa h KX G hmg base kb nb
    refine' Pl.CalG.at (x := "law") (Pl.all_ok KX G ?aShare ?sShare ?fShare ?mShare_init ?mShare_len ?mShare_add ?pShare_amounts ?d_is_integer_to ?d_is_amounts ?d_check_pair ?d_l_cell ?d_l_source ?d_l_draw ?d_l_choose ?d_l_is_equal ?d_l_amounts ?d_l_added ?d_l_due ?d_law ?n_len ?n_range ?n_max ?n_min ?n_sum ?n_sorted ?n_all ?n_isinstance ?n_repr ?n_tuple ?n_list ?n_int ?n_bool ?n_zip ?n_str ?c_FEWEST_STATES ?c_MOST_STATES ?c_MOST_IN_A_STATE ?x_NoShare ?x_NoAmounts ?off ?aCs ?t_NoneType ?t_int ?t_tuple ?t_list ?t_str ?t_dict ?t_bool) hmg
    (case aShare => k_is)
    (case sShare => refine' ⟨?pg, ?hd, ?po, ?sa, ?nB, ?mks, ?kc, ?ca, ?cg, ?ct, ?mro, ?kit⟩; (case pg => k_is); (case hd => k_is); (case po => k_is); (case sa => k_is); (case nB => k_is); (case mks => k_is); (case kc => k_is); (case ca => k_is); (case cg => k_is); (case ct => k_is); (case mro => k_is); (case kit => first | rfl | k_is))
    (case fShare => refine' Pl.CallF.of ?a ?i; (case a => k_is); (case i => k_is))
    (case mShare_init => refine' Pl.MhK.of ?a ?i ?l ?c ?k; (case a => k_is); (case i => k_is); (case l => k_is); (case c => k_is); (case k => k_is))
    (case mShare_len => refine' Pl.MhK.of ?a ?i ?l ?c ?k; (case a => k_is); (case i => k_is); (case l => k_is); (case c => k_is); (case k => k_is))
    (case mShare_add => refine' Pl.MhK.of ?a ?i ?l ?c ?k; (case a => k_is); (case i => k_is); (case l => k_is); (case c => k_is); (case k => k_is))
    (case pShare_amounts => refine' Pl.PhK.of ?a ?g ?t ?r ?l ?c ?k; (case a => k_is); (case g => k_is); (case t => k_is); (case r => k_is); (case l => k_is); (case c => k_is); (case k => k_is))
    (case d_is_integer_to => refine' Pl.DfK.of ?a ?l ?c ?k; (case a => k_is); (case l => k_is); (case c => k_is); (case k => k_is))
    (case d_is_amounts => refine' Pl.DfK.of ?a ?l ?c ?k; (case a => k_is); (case l => k_is); (case c => k_is); (case k => k_is))
    (case d_check_pair => refine' Pl.DfK.of ?a ?l ?c ?k; (case a => k_is); (case l => k_is); (case c => k_is); (case k => k_is))
    (case d_l_cell => refine' Pl.DfK.of ?a ?l ?c ?k; (case a => k_is); (case l => k_is); (case c => k_is); (case k => k_is))
    (case d_l_source => refine' Pl.DfK.of ?a ?l ?c ?k; (case a => k_is); (case l => k_is); (case c => k_is); (case k => k_is))
    (case d_l_draw => refine' Pl.DfK.of ?a ?l ?c ?k; (case a => k_is); (case l => k_is); (case c => k_is); (case k => k_is))
    (case d_l_choose => refine' Pl.DfK.of ?a ?l ?c ?k; (case a => k_is); (case l => k_is); (case c => k_is); (case k => k_is))
    (case d_l_is_equal => refine' Pl.DfK.of ?a ?l ?c ?k; (case a => k_is); (case l => k_is); (case c => k_is); (case k => k_is))
    (case d_l_amounts => refine' Pl.DfK.of ?a ?l ?c ?k; (case a => k_is); (case l => k_is); (case c => k_is); (case k => k_is))
    (case d_l_added => refine' Pl.DfK.of ?a ?l ?c ?k; (case a => k_is); (case l => k_is); (case c => k_is); (case k => k_is))
    (case d_l_due => refine' Pl.DfK.of ?a ?l ?c ?k; (case a => k_is); (case l => k_is); (case c => k_is); (case k => k_is))
    (case d_law => refine' Pl.DfK.of ?a ?l ?c ?k; (case a => k_is); (case l => k_is); (case c => k_is); (case k => k_is))
    (case n_len => k_is)
    (case n_range => k_is)
    (case n_max => k_is)
    (case n_min => k_is)
    (case n_sum => k_is)
    (case n_sorted => k_is)
    (case n_all => k_is)
    (case n_isinstance => k_is)
    (case n_repr => k_is)
    (case n_tuple => k_is)
    (case n_list => k_is)
    (case n_int => k_is)
    (case n_bool => k_is)
    (case n_zip => k_is)
    (case n_str => k_is)
    (case c_FEWEST_STATES => refine' Pl.ConI.of ?a; (case a => k_is))
    (case c_MOST_STATES => refine' Pl.ConI.of ?a; (case a => k_is))
    (case c_MOST_IN_A_STATE => refine' Pl.ConI.of ?a; (case a => k_is))
    (case x_NoShare => refine' ⟨?a, ?xn, ?kp, ?ba, ?ty, ?cl, ?su⟩; (case a => k_is); (case xn => k_exc); (case kp => k_is); (case ba => k_is); (case ty => k_is); (case cl => k_is); (case su => first | rfl | k_is))
    (case x_NoAmounts => refine' ⟨?a, ?xn, ?kp, ?ba, ?ty, ?cl, ?su⟩; (case a => k_is); (case xn => k_exc); (case kp => k_is); (case ba => k_is); (case ty => k_is); (case cl => k_is); (case su => first | rfl | k_is))
    (case off => refine' Pl.exm_at ?ba ?cl ?ty ?su; (case ba => k_is); (case cl => k_is); (case ty => k_is); (case su => k_is))
    (case aCs => refine' Pl.AddC.of ?a ?b; (case a => k_is); (case b => k_is))
    (case t_NoneType => refine' Pl.AddK.of ?a ?b ?c ?d; (case a => k_is); (case b => k_is); (case c => k_is); (case d => first | rfl | k_is))
    (case t_int => refine' Pl.AddK.of ?a ?b ?c ?d; (case a => k_is); (case b => k_is); (case c => k_is); (case d => first | rfl | k_is))
    (case t_tuple => refine' Pl.AddK.of ?a ?b ?c ?d; (case a => k_is); (case b => k_is); (case c => k_is); (case d => first | rfl | k_is))
    (case t_list => refine' Pl.AddK.of ?a ?b ?c ?d; (case a => k_is); (case b => k_is); (case c => k_is); (case d => first | rfl | k_is))
    (case t_str => refine' Pl.AddK.of ?a ?b ?c ?d; (case a => k_is); (case b => k_is); (case c => k_is); (case d => first | rfl | k_is))
    (case t_dict => refine' Pl.AddK.of ?a ?b ?c ?d; (case a => k_is); (case b => k_is); (case c => k_is); (case d => first | rfl | k_is))
    (case t_bool => refine' Pl.AddK.of ?a ?b ?c ?d; (case a => k_is); (case b => k_is); (case c => k_is); (case d => first | rfl | k_is))
#print axioms PySem.Challenge.cw_poolshares_k03_shares_added_holds
