import PyProof.Rows.All
import Wide.All
import OpenK.AllK
import Wide.FinOn
import HandS.ForMost
import HandS.Wide
import HandS.WideMore
import HandS.TupAny
import HandS.TupLen
import HandS.Evl
import HandS.Codes
import PyProof.ReprLen
import PyProof.StrLawsRepr
import HandS.Walk
import HandS.Zip
import KE.GoesMore
import HandS.Style
import HandS.TupMul
import PyProof.StrOps2
import HandS.IsInst
import HandS.StrMore
import HandS.Dict
import HandS.Text
import HandS.Replace
import PyProof.Rows.RuleB_pow
import HandS.ExcInit
import HandS.Nested
import HandS.ClsMeth
import HandS.FStr
import KE.KExcSuper
import HandS.ExcField
import HandS.ExcIs
import HandS.ExcOwn
import HandS.WordsExc
import KE.KExcIs
import PyProof.ExcBaseAll.ValueError
import HandS.Rev
import HandS.RevTup
import KE.KDictList
import HandS.DictComp
import HandS.MapJoin
import HandS.Conv
import HandS.Iter
import HandS.HotCalls
import HandS.More
import PySem.Challenge.RW_pyhold_k88_data_beyond_the_bounds
set_option Elab.async false
set_option linter.all false
set_option maxRecDepth 100000
set_option maxHeartbeats 4000000
/-! A layer of one's own over the hand layer: defs by name, data, the helpers that the laws share. -/
namespace LK
open PySem PySem.Spec PyProof.Rows L2

/-! ### a def's promise where nothing is being shown (repr asks who is) -/
structure FnG (P : Program) (w : World) (K : PySem.W.Frag) (mg : Str → Option Value) (base : Heap) (CX : CXT) (k : Nat) (f : Addr) (fd : FuncData) (ps : List Str) (sp : Sp) : Prop where
  len : ∀ vs H Q E, sp vs H Q E → vs.length = ps.length
  run : ∀ (A : Around) (outer : List Env) (s : Shared) (H : Hp) (args : Args) (us : List Value) (vs : List V) (Q : VK) (E : XK), Room k A → A.guards = some [] →
    Env0 P w K mg base A outer s H → BindsTo s fd args (ps.zip us) → Vals vs us → sp vs H Q E → codeAny (model P w) A (.call (.ref f) args) (CR CX outer P w H s Q E) s
section
variable {P : Program} {w : World} {K : PySem.W.Frag} {mg : Str → Option Value} {base : Heap} {CX : CXT}
theorem FnG.imp {k : Nat} {f : Addr} {fd : FuncData} {ps : List Str} {sp sp' : Sp} (F : FnG P w K mg base CX k f fd ps sp) (h : ∀ vs H Q E, sp' vs H Q E → sp vs H Q E) : FnG P w K mg base CX k f fd ps sp' where
  len := fun vs H Q E q => F.len vs H Q E (h vs H Q E q)
  run := fun A outer s H args us vs Q E hr hg he hb hv hs => F.run A outer s H args us vs Q E hr hg he hb hv (h vs H Q E hs)
/-- the rule for a def: its body as a term of rules, and the reading of that term -/
theorem okG {x qual : Str} {st : Stmt} {f : Addr} {fd : FuncData} {N ps : List Str} {k : Nat} {sp : Sp} (F : Fun K x qual st f fd) (S : FnScope N ps (defScope st)) (len : ∀ vs H Q E, sp vs H Q E → vs.length = ps.length)
    (body : ∀ (cdv : Value) (A : Around) (outer : List Env) (s : Shared) (H : Hp) (vs : List V) (Q : VK) (E : XK), Room k (A.deeper (envOfC qual (defScope st) s.heap.objs.size f cdv)) →
      (A.deeper (envOfC qual (defScope st) s.heap.objs.size f cdv)).guards = some [] → sp vs H Q E →
      ∃ t, PSs (cxOf CX P w K mg base N qual (defScope st) f cdv A outer s H E) (defBody st) t ∧ t { nx := fun _ H' => Q .non H', rt := Q } (start N vs) H) :
    FnG P w K mg base CX (k + 1) f fd ps sp := by
  obtain ⟨oc, od, kV, doc, pm, an, cdv, ct, osl, rfl, lk, hcd⟩ := F.ex
  refine ⟨len, fun A outer s H args us vs Q E hr hgd e0 hb r hsp => ?_⟩
  have inn : K.In s.heap := e0.mod.kin.keeps fun b o e => (e0.bs b o e).1
  refine codeAny_call_function hr.depth (inn _ _ lk) rfl S.co S.gen rfl (PySem.W.codeRec_of inn hcd) (hb _ _ _ _ ?_)
  refine wpAny_newFunctionEnv_cells S.kind (fun y hy => ?_) fun env he s1 made => ?_
  · obtain ⟨n, v⟩ := y
    exact (S.par n (List.of_mem_zip hy).1).elim .inl fun q => .inr ⟨q, PySem.W.cellsFrom_some _ _ _ (.inl q)⟩
  · subst he
    have lim : s.heap.NoLimit := e0.mod.nolimit.keeps fun b o e => (e0.bs b o e).1
    refine ⟨lim.keeps made.toInCall.keep, codeAny_func ?_⟩
    obtain ⟨t, ht, hq⟩ := body cdv A outer s H vs Q E (hr.deeper _) hgd hsp
    refine wpAny_mono (ht.run [] s1 (start N vs) H _ (inv_start S hr.hd e0 (len _ _ _ _ hsp) r made) hq) (fun fl s' hs => ?_) fun e s' hs => hs
    cases fl with
    | ret u => exact let ⟨v, _, H', J, rv, q⟩ := hs; ⟨v, H', J.os, J.bare, J.base, J.hok, rv, q⟩
    | next => exact let ⟨_, H', J, q⟩ := hs; ⟨V.non, H', J.os, J.bare, J.base, J.hok, rfl, q⟩
    | brk => exact let ⟨_, _, _, q⟩ := hs; q.elim
    | cont => exact let ⟨_, _, _, q⟩ := hs; q.elim
/-- .. whose body lets no exception out -/
theorem okG0 {x qual : Str} {st : Stmt} {f : Addr} {fd : FuncData} {N ps : List Str} {k : Nat} {sp : Sp} (F : Fun K x qual st f fd) (S : FnScope N ps (defScope st)) (len : ∀ vs H Q E, sp vs H Q E → vs.length = ps.length)
    (body : ∀ (cdv : Value) (A : Around) (outer : List Env) (s : Shared) (H : Hp) (vs : List V) (Q : VK) (E : XK), Room k (A.deeper (envOfC qual (defScope st) s.heap.objs.size f cdv)) →
      (A.deeper (envOfC qual (defScope st) s.heap.objs.size f cdv)).guards = some [] → sp vs H Q E →
      ∃ t, PSs (cxOf CX0 P w K mg base N qual (defScope st) f cdv A outer s H E).nox (defBody st) t ∧ t { nx := fun _ H' => Q .non H', rt := Q } (start N vs) H) :
    FnG P w K mg base CX0 (k + 1) f fd ps sp :=
  okG F S len fun cdv A outer s H vs Q E hr hg hs => let ⟨t, ht, q⟩ := body cdv A outer s H vs Q E hr hg hs; ⟨t, ht.nox, q⟩
end
section
variable {X : Cx} {CX : CXT} {k : Nat} {f : Addr} {fd : FuncData} {ps : List Str} {sp : Sp} {E : XK} {x : Str} {p pos : Pos} {e : Expr} {es : List Expr} {t : TA}
theorem run_fnG {pins : List (Addr × Obj)} {σ : L2.St} {H : Hp} {s : Shared} {Q : VK} {us : List Value} {vs : List V} (F : FnG X.prog X.w X.K X.mg X.base CX k f fd ps sp) (hr : Room k X.A) (hg : X.A.guards = some []) (hb : Binds X.K fd ps [])
    (hx : Passes CX X E) (I : Inv X pins σ H s) (r : Vals vs us) (h : sp vs H Q E) : wpAny (model X.prog X.w) X.A (call (.ref f) us) (EP X pins σ Q) X.xe s := by
  have hl : (us ++ []).length = ps.length := by rw [List.append_nil, ← r.length, F.len _ _ _ _ h]
  have hbs := hb s us I.kIn hl
  rw [List.append_nil] at hbs
  refine wpAny_call (codeAny_mono (F.run X.A X.stack s H ⟨us, []⟩ us vs Q E hr hg I.env0 hbs r h) fun res s' hq => ?_)
  match res, hq with
  | .error e, hq => exact hx pins σ H s e s' I hq
  | .ok (.ret u), hq => exact I.after hq
  | .ok .next, hq => exact hq.elim
  | .ok .brk, hq => exact hq.elim
  | .ok .cont, hq => exact hq.elim
end

/-! ### defs of the text, by name -/
/-- what the top has left of the def x, whose statement is st -/
def HasFn (K : PySem.W.Frag) (x : Str) (st : Stmt) : Prop := ∃ (f : Addr) (oc : Value) (od an : Option Addr) (kV doc pm cdv ct : Value) (osl : Array (Option Value)),
  PySem.W.nsIn K mainGlobals x = some (some (.ref f)) ∧ K.lookup f = some ⟨oc, od, .func (PySem.W.fnOf x x (defArgs st) (defBody st) (defScope st) .none kV doc pm an cdv ct), osl⟩ ∧
  PySem.W.codeIn K cdv x = true ∧ PySem.W.keepIn K (.ref f) = true
/-- the def x may be called: its promise sp, by level k -/
structure Use (P : Program) (w : World) (K : PySem.W.Frag) (mg : Str → Option Value) (base : Heap) (CX : CXT) (x : Str) (k : Nat) (ps : List Str) (sp : Sp) : Prop where
  ex : ∃ (f : Addr) (fd : FuncData), FnG P w K mg base CX k f fd ps sp ∧ mg x = some (.ref f) ∧ PySem.W.keepIn K (.ref f) = true ∧ Binds K fd ps []
section
variable {P : Program} {w : World} {K : PySem.W.Frag} {mg : Str → Option Value} {base h : Heap} {CX : CXT}
theorem mk_use {x : Str} {st : Stmt} {k : Nat} {ps : List Str} {sp : Sp} (F : HasFn K x st) (X : K.In h) (G : h.Ns mainGlobals mg)
    (hb : ∀ (kV doc pm : Value) (an : Option Addr) (cdv ct : Value) (us : List Value), us.length = ps.length → bindArgs (PySem.W.fnOf x x (defArgs st) (defBody st) (defScope st) .none kV doc pm an cdv ct) ⟨us, []⟩ = pure (ps.zip us))
    (ok : ∀ (f : Addr) (fd : FuncData), Fun K x x st f fd → FnG P w K mg base CX k f fd ps sp) : Use P w K mg base CX x k ps sp := by
  obtain ⟨f, oc, od, an, kV, doc, pm, cdv, ct, osl, e, l, c, kp⟩ := F
  have Fn := fun_mk (st := st) l c kp
  exact ⟨f, _, ok f _ Fn, PySem.W.mg_of X G e, kp, Fn.binds hb⟩
theorem Use.imp {x : Str} {k : Nat} {ps : List Str} {sp sp' : Sp} (U : Use P w K mg base CX x k ps sp) (h : ∀ vs H Q E, sp' vs H Q E → sp vs H Q E) : Use P w K mg base CX x k ps sp' := by
  obtain ⟨f, fd, ok, r⟩ := U.ex
  exact ⟨f, fd, ok.imp h, r⟩
end
section
variable {X : Cx} {CX : CXT} {E : XK} {k : Nat} {x : Str} {ps : List Str} {sp : Sp} {p pos : Pos} {e : Expr} {es : List Expr} {t : TA}
theorem pe_useX (U : Use X.prog X.w X.K X.mg X.base CX x k ps sp) (hx : Passes CX X E) (hr : Room k X.A) (gd : X.A.guards = some []) (hg : Gl X x) (ha : PA X (e :: es) t) (hdb : (x == ("__debug__" : Str)) = false := by decide)
    (he : starEach (e :: es) X.env = (false, eval e X.env) :: starEach es X.env := by rfl) (hpl : (backTo pos (starEach es X.env)).any (·.1) = false := by rfl) : PE X (.Call (.Name x p) (e :: es) [] pos) (fun σ H Q => t σ H fun vs H1 => sp vs H1 Q E) := by
  obtain ⟨f, fd, ok, hm, kp, hb⟩ := U.ex
  refine ⟨fun pins s σ H Q I h => wpAny_Call_Name_kw (ld_glob I hg hm ?_ hdb)⟩
  exact PySem.W.callWith_K (h₀ := X.base) I.ok.mod.kin kp (thn (ha.run pos pins s σ H _ I h) fun us s1 ⟨vs, H1, I1, r, q⟩ => ⟨I1.kIn, run_fnG ok hr gd hb hx I1 r q⟩) he hpl
def tUse (sp : Sp) (E : XK) (t : TA) : TE := fun σ H Q => t σ H fun vs H1 => sp vs H1 Q E
theorem pe_use (U : Use X.prog X.w X.K X.mg X.base CX0 x k ps sp) (hr : Room k X.A) (gd : X.A.guards = some []) (hg : Gl X x) (ha : PA X (e :: es) t) (hdb : (x == ("__debug__" : Str)) = false := by decide)
    (he : starEach (e :: es) X.env = (false, eval e X.env) :: starEach es X.env := by rfl) (hpl : (backTo pos (starEach es X.env)).any (·.1) = false := by rfl) : PE X (.Call (.Name x p) (e :: es) [] pos) (tUse sp E0 t) := pe_useX U pass0 hr gd hg ha hdb he hpl
theorem pe_use0 (U : Use X.prog X.w X.K X.mg X.base CX0 x k ps sp) (hr : Room k X.A) (gd : X.A.guards = some []) (hg : Gl X x) (hdb : (x == ("__debug__" : Str)) = false := by decide) : PE X (.Call (.Name x p) [] [] pos) (tUse sp E0 tNil) := by
  obtain ⟨f, fd, ok, hm, kp, hb⟩ := U.ex
  exact ⟨fun pins s σ H Q I h => wpAny_Call_Name_kw (ld_glob I hg hm (PySem.W.callWith_K0 I.kIn kp (run_fnG (us := []) ok hr gd hb pass0 I .nil h)) hdb)⟩
end

/-! ### what stays -/
theorem Same.new {H : Hp} {p : Addr} {o : HO} (h : H p = none) : Same H (upd H p o) := fun b u e => by
  rw [upd_ne (ne_of_none e h)]; exact e
theorem Same.rd {H H' : Hp} {a : Addr} {u : HO} (e : Same H H') (h : Rd H a u) : Rd H' a u := by
  rcases h with h | ⟨o, h⟩
  · exact .inl (e _ _ h)
  · exact .inr ⟨o, e _ _ h⟩
theorem Same.tupl {K : PySem.W.Frag} {H H' : Hp} {a : Addr} {xs : List V} (e : Same H H') (h : SqT K H a xs) : SqT K H' a xs := by
  rcases h with h | h
  · exact .inl (Same.rd e h)
  · exact .inr h
theorem SqT.mono {K : PySem.W.Frag} {H H' : Hp} {a : Addr} {xs : List V} (h : SqT K H a xs) (e : Same H H') : SqT K H' a xs := Same.tupl e h
theorem SqL.mono {K : PySem.W.Frag} {H H' : Hp} {a : Addr} {xs : List V} (h : SqL K H a xs) (e : Same H H') : SqL K H' a xs := e.seq h

/-! ### data: none, bools, ints, texts, tuples (and lists that stand still) -/
mutual
theorem Dp.mono {K : PySem.W.Frag} {H H' : Hp} (e : Same H H') : ∀ {v : V} {d : PyData}, Dp K H v d → Dp K H' v d
  | _, _, .non => .non
  | _, _, .bl b => .bl b
  | _, _, .int i => .int i
  | _, _, .str x => .str x
  | _, _, .lst h a => .lst (e.seq h) (DpAll.mono e a)
  | _, _, .tup h a => .tup (Same.tupl e h) (DpAll.mono e a)
theorem DpAll.mono {K : PySem.W.Frag} {H H' : Hp} (e : Same H H') : ∀ {vs : List V} {ds : List PyData}, DpAll K H vs ds → DpAll K H' vs ds
  | _, _, .nil => .nil
  | _, _, .cons h a => .cons (Dp.mono e h) (DpAll.mono e a)
end
/-- a tuple just made -/
theorem Dp.made {K : PySem.W.Frag} {H : Hp} {p : Addr} {xs : List V} {ds : List PyData} (hp : H p = none) (h : DpAll K H xs ds) : Dp K (upd H p (.tup xs)) (.ref p) (.tuple ds) :=
  .tup (SqT.of upd_same) (DpAll.mono (Same.new hp) h)
theorem DpAll.length {K : PySem.W.Frag} {H : Hp} : ∀ {vs : List V} {ds : List PyData}, DpAll K H vs ds → vs.length = ds.length
  | _, _, .nil => rfl
  | _, _, .cons _ t => by simp [DpAll.length t]
theorem DpAll.app {K : PySem.W.Frag} {H : Hp} : ∀ {vs ws : List V} {ds es : List PyData}, DpAll K H vs ds → DpAll K H ws es → DpAll K H (vs ++ ws) (ds ++ es)
  | _, _, _, _, .nil, t => t
  | _, _, _, _, .cons h a, t => .cons h (DpAll.app a t)

/-! ### repr of data -/
mutual
theorem Dp.noDict {K : PySem.W.Frag} {H : Hp} : ∀ {v : V} {d : PyData}, Dp K H v d → d.hasDict = false
  | _, _, .non => rfl
  | _, _, .bl _ => rfl
  | _, _, .int _ => rfl
  | _, _, .str _ => rfl
  | _, _, .lst _ a => by simp only [PyData.hasDict]; exact DpAll.noDict a
  | _, _, .tup _ a => by simp only [PyData.hasDict]; exact DpAll.noDict a
theorem DpAll.noDict {K : PySem.W.Frag} {H : Hp} : ∀ {vs : List V} {ds : List PyData}, DpAll K H vs ds → PyData.hasDictAll ds = false
  | _, _, .nil => rfl
  | _, _, .cons h a => by simp only [PyData.hasDictAll, Dp.noDict h, DpAll.noDict a, Bool.or_self]
end
/-- what repr asks of data -/
structure ShowOk (d : PyData) : Prop where
  ok : d.showable = true
  dp : d.depth ≤ 60
  sz : d.shown.length ≤ sizeLine
def rRepr (K : PySem.W.Frag) : List V → Hp → VK → Prop := fun xs H Q => ∃ v d, xs = [v] ∧ Dp K H v d ∧ ShowOk d ∧ Q (.str d.shown) H
section
variable {X : Cx}
theorem call_repr_data (hg : X.A.guards = some []) (hu : X.A.units + 64 < cLine) : CallR X (.builtin "repr") (rRepr X.K) := by
  intro pins s σ H xs us Q I r h
  obtain ⟨v, d, rfl, hd, ⟨hs, hdp, hsz⟩, q⟩ := h
  obtain ⟨u, rfl, rv⟩ := vals1 r
  obtain ⟨as, rr⟩ := Dp.reads I d v u hd rv
  have nd := Dp.noDict hd
  cases d with
  | none => cases rr; exact PySem.P.repr_of_none ⟨.str _, H, I.tok _, ⟨_, rfl⟩, q⟩
  | bool b => cases rr; exact PySem.P.repr_of_bool ⟨.str _, H, I.tok _, ⟨_, rfl⟩, by simpa [PyData.shown] using q⟩
  | int i => cases rr; exact PySem.P.repr_of_int (of_decide_eq_true (by simpa [PyData.showable] using hs)) ⟨.str _, H, I.tok _, ⟨_, rfl⟩, by simpa [PyData.shown] using q⟩
  | str x => cases rr; exact PySem.P.repr_of_str (hsz := by simpa [PyData.shown] using hsz) ⟨.str _, H, I.tok _, ⟨_, rfl⟩, by simpa [PyData.shown] using q⟩
  | list ds =>
    obtain ⟨a, rfl⟩ := PyProof.Rows.isRef_of_reads rr rfl
    exact repr_of_reads' rr hs (PyData.noDict_hsm nd) hg (by omega) (fun _ _ e => e) (fun h' u tk hk => ⟨.str _, H, I.kept hk, ⟨_, rfl⟩, q⟩) hsz
  | tuple ds =>
    obtain ⟨a, rfl⟩ := PyProof.Rows.isRef_of_reads rr rfl
    exact repr_of_reads' rr hs (PyData.noDict_hsm nd) hg (by omega) (fun _ _ e => e) (fun h' u tk hk => ⟨.str _, H, I.kept hk, ⟨_, rfl⟩, q⟩) hsz
  | dict kv => cases hd
end

/-! ### the law's own call -/
/-- the heap behind the top, seen with the script at a locked, or with nothing tracked -/
theorem law_callG {P : Program} {w : World} {K : PySem.W.Frag} {mg mb : Str → Option Value} {CX : CXT} {k : Nat} {fa a : Addr} {fd : FuncData} {x : Str} {sp : Sp} {s₁ : Shared} {vs : List Value} {ns : List Int}
    (inn : K.In s₁.heap) (hns : s₁.heap.Ns mainGlobals mg) (hb : s₁.heap.Ns builtinsNs mb) (hbb : ∀ x : Str, x ≠ "__name__" → mb x = bootBuiltins x) (hlim : s₁.heap.NoLimit) (hgens : s₁.gens = #[])
    (ha : s₁.heap.get? a = some { cls := .type "list", data := .seq vs.toArray }) (hi : IntsAre vs ns) (hl : ns.length ≤ sizeLine) (hr : Room k callerA)
    (F : ∀ base : Heap, K.In base → base.Ns mainGlobals mg → FnG P w K mg base CX k fa fd [x] sp) (hbind : ∀ (s : Shared) (u : Value), BindsTo s fd ⟨[u], []⟩ [(x, u)])
    (hsp : ∀ H : Hp, Only H → SqL K H a (ns.map V.int) → sp [.ref a] H (fun v _ => v = .bl true) fun _ _ _ => False)
    (hCX : ∀ H e s', CX [] H s₁ (fun _ _ _ => False) e s' → False) :
    codeAny (model P w) callerA (.call (.ref fa) ⟨[.ref a], []⟩) (fun r s' => r = .ok (.ret (.bool true)) ∧ OldK s₁.heap s'.heap ∧ s'.os = s₁.os ∧ AllBare s'.gens) s₁ := by
  have rv := vals_ints hi
  have run : ∀ H : Hp, Only H → SqL K H a (ns.map V.int) → HOk P w H s₁.heap → (∀ b u, H b = some u → b = a ∧ K.lookup a = none) →
      codeAny (model P w) callerA (.call (.ref fa) ⟨[.ref a], []⟩) (fun r s' => r = .ok (.ret (.bool true)) ∧ OldK s₁.heap s'.heap ∧ s'.os = s₁.os ∧ AllBare s'.gens) s₁ := by
    intro H only hS hok at_a
    -- what is no list stays in the base
    have free : ∀ {b : Addr} {o : Obj}, s₁.heap.get? b = some o → (∀ its n, o.data ≠ .seq its n) → H b = none := fun {b o} e hd => by
      cases q : H b with
      | none => rfl
      | some u =>
        obtain ⟨rfl, _⟩ := at_a b u q
        rw [ha] at e; cases e
        exact absurd rfl (hd _ _)
    have names : ∀ {b : Addr} {m : Str → Option Value}, s₁.heap.Ns b m → (hidT s₁.heap H).Ns b m := fun {b m} hn => by
      obtain ⟨o, es, ep, e, d, r⟩ := hn
      exact ⟨o, es, ep, hidT_get e (free e fun its n z => by rw [d] at z; cases z), d, r⟩
    have inb : K.In (hidT s₁.heap H) := fun b o e => by
      refine hidT_get (inn b o e) ?_
      cases q : H b with
      | none => rfl
      | some u =>
        obtain ⟨rfl, hk⟩ := at_a b u q
        rw [e] at hk; cases hk
    have md : Mod K mg (hidT s₁.heap H) := by
      obtain ⟨mc, h1, h2⟩ := hlim
      exact ⟨inb, names hns, ⟨mb, names hb, hbb⟩, ⟨mc, names h1, h2⟩⟩
    have none_in : ∀ b : Addr, b ∉ ([] : List Addr) := fun b z => nomatch z
    have e0 : Env0 P w K mg (hidT s₁.heap H) callerA [] s₁ H := ⟨rfl, md, fun b o e => of_hidT e, Nat.le_of_eq (hidT_size _ _), trivial, fun b z => absurd z (none_in b), hok, .of_eq hgens⟩
    refine codeAny_mono ((F _ inb (names hns)).run callerA [] s₁ H ⟨[.ref a], []⟩ [.ref a] [.ref a] _ _ hr rfl e0 (hbind s₁ (.ref a)) (.cons rfl .nil) (hsp H only hS)) fun r s' h => ?_
    match r, h with
    | .error e, h => exact (hCX H e s' h).elim
    | .ok .next, h => exact False.elim h
    | .ok .brk, h => exact False.elim h
    | .ok .cont, h => exact False.elim h
    | .ok (.ret u), h =>
      obtain ⟨v, H', os, bare, un, hok', r', q⟩ := h
      obtain rfl : v = V.bl true := q
      obtain rfl : u = Value.bool true := r'
      refine ⟨rfl, OldK.of_keep fun b o e => ?_, os, bare⟩
      cases q : H b with
      | none => exact un.keep b o e q (none_in b) (none_in b)
      | some u =>
        rcases only b with z | ⟨ob, xs, z⟩
        · rw [q] at z; cases z
        · have e1 : s₁.heap.get? b = some ob := (hok b _ z).1
          rw [e] at e1; cases e1
          exact (hok' b _ (un.frzs b o _ z)).1
  cases hk : K.lookup a with
  | some o =>
    have e := inn a o hk
    rw [ha] at e; cases e
    have sz : vs.toArray.size ≤ sizeLine := by rw [List.size_toArray, hi.length]; exact hl
    exact run (fun _ => none) (fun _ => .inl rfl) (.inr ⟨_, vs.toArray, _, hk, rfl, rfl, rfl, sz, by simpa using rv⟩) (fun b u z => nomatch (show (none : Option HO) = some u from z)) fun b u z => nomatch (show (none : Option HO) = some u from z)
  | none =>
    let u0 : HO := .frz { cls := .type "list", data := .seq vs.toArray } (.lst (ns.map V.int))
    have at1 : ∀ b u, upd (fun _ => none) a u0 b = some u → b = a ∧ u = u0 := fun b u z => by
      by_cases hb : b = a
      · subst hb; rw [upd_same] at z; exact ⟨rfl, (Option.some.inj z).symm⟩
      · rw [upd_ne hb] at z; cases z
    refine run (upd (fun _ => none) a u0) (fun b => ?_) (.inl (.inr ⟨_, upd_same⟩)) (fun b u z => ?_) fun b u z => ⟨(at1 b u z).1, hk⟩
    · by_cases hb : b = a
      · subst hb; exact .inr ⟨_, _, upd_same⟩
      · exact .inl (by rw [upd_ne hb])
    · obtain ⟨rfl, rfl⟩ := at1 b u z
      exact ⟨ha, by rw [List.length_map]; exact hl, vs, _, rv, ha⟩
theorem walkG {l : PySem.W.OpenLaw} {n k : Nat} {q : Program} {loose : List Str} {XP : (Str → Option Value) → Heap → Prop} {YP : World → Heap → Prop} {d : DefRec} {K : Params → PySem.W.Frag} {CX : CXT} {sp : PySem.W.Frag → Sp} {x : Str}
    (hn : l.most = some n) (hn2 : n ≤ sizeLine) (hdf : d.params.defaults = []) (hr : Room k callerA)
    (hY : ∀ (w : World) (h : Heap), YP w h → (K w.params).In h)
    (F : ∀ (w : World) (mg : Str → Option Value) (fa : Addr) (h : Heap), (K w.params).In h → h.Ns mainGlobals mg → mg d.name = some (.ref fa) →
      ∃ fd : FuncData, (∀ (s : Shared) (u : Value), BindsTo s fd ⟨[u], []⟩ [(x, u)]) ∧
        ∀ base : Heap, (K w.params).In base → base.Ns mainGlobals mg → FnG l.prog w (K w.params) mg base CX k fa fd [x] (sp (K w.params)))
    (hsp : ∀ (K : PySem.W.Frag) (H : Hp) (a : Addr) (ns : List Int), ns.length ≤ n → Only H → SqL K H a (ns.map V.int) → sp K [.ref a] H (fun v _ => v = .bl true) fun _ _ _ => False)
    (hCX : ∀ (H : Hp) (s : Shared) (e : Value) (s' : Shared), CX [] H s (fun _ _ _ => False) e s' → False) :
    PySem.W.WalkO q loose XP YP l.row.toRowW d [] (fun f vs => PySem.call f vs) :=
  Att.attach_call hn hdf fun w s₀ s₁ mg mb fa o pm cd doc a vs ns G Y ho hd hcd hmg hobj hints hlen hg =>
    let ⟨fd, hb, hF⟩ := F w mg fa _ (hY w _ Y) G.T.g hmg
    law_callG (hY w _ Y) G.T.g G.T.b G.T.builtins G.T.nolimit hg hobj hints (Nat.le_trans hlen hn2) hr hF hb (fun H hO hS => hsp (K w.params) H a ns hlen hO hS) fun H e s' => hCX H s₁ e s'
/-- from the top's facts: the law's def and its arguments -/
theorem law_use {P : Program} {w : World} {K : PySem.W.Frag} {mg : Str → Option Value} {h : Heap} {CX : CXT} {k : Nat} {fa : Addr} {st : Stmt} {x : Str} {sp : Sp} (L : HasFn K "law" st) (X : K.In h) (G : h.Ns mainGlobals mg) (hfa : mg "law" = some (.ref fa))
    (hb : ∀ (kV doc pm : Value) (an : Option Addr) (cdv ct v : Value), bindArgs (PySem.W.fnOf "law" "law" (defArgs st) (defBody st) (defScope st) .none kV doc pm an cdv ct) ⟨[v], []⟩ = pure [(x, v)])
    (ok : ∀ base : Heap, K.In base → base.Ns mainGlobals mg → ∀ fd, Fun K "law" "law" st fa fd → FnG P w K mg base CX k fa fd [x] sp) :
    ∃ fd : FuncData, (∀ (s : Shared) (v : Value), BindsTo s fd ⟨[v], []⟩ [(x, v)]) ∧ ∀ base : Heap, K.In base → base.Ns mainGlobals mg → FnG P w K mg base CX k fa fd [x] sp := by
  obtain ⟨f, oc, od, an, kV, doc, pm, cdv, ct, osl, e, l, c, kp⟩ := L
  have z := hfa.symm.trans (PySem.W.mg_of X G e)
  cases z
  have Fn := fun_mk (st := st) l c kp
  exact ⟨_, fun s v => .of_eq (hb ..), fun base h1 h2 => ok base h1 h2 _ Fn⟩

/-! ### tests whose answer is known -/
theorem iteFb {c : Bool} {A B : Prop} (h : c = false) (b : B) : if c = true then A else B := by rw [h]; exact iteF b
theorem iteTb {c : Bool} {A B : Prop} (h : c = true) (a : A) : if c = true then A else B := by rw [h]; exact iteT a
theorem ite3 {c : Bool} {A B : Prop} (h1 : c = true → A) (h2 : c = false → B) : if c = true then A else B := by
  cases c with
  | true => exact iteT (h1 rfl)
  | false => exact iteF (h2 rfl)

/-! ### constants of the top -/
def HasInt (K : PySem.W.Frag) (x : Str) (n : Int) : Prop := ∃ (t : Tok) (m : Int), PySem.W.nsIn K mainGlobals x = some (some (.int m t)) ∧ m = n
def KTup (K : PySem.W.Frag) (a : Addr) (xs : List V) : Prop := ∃ (od : Option Addr) (its : Array Value) (n : Nat) (sl : Array (Option Value)), K.lookup a = some ⟨.type "tuple", od, .seq its n, sl⟩ ∧ its.size ≤ sizeLine ∧ Vals xs its.toList
def HasTup (K : PySem.W.Frag) (x : Str) (xs : List V) : Prop := ∃ a, PySem.W.nsIn K mainGlobals x = some (some (.ref a)) ∧ KTup K a xs
theorem KTup.sq {K : PySem.W.Frag} {a : Addr} {xs : List V} (h : KTup K a xs) (H : Hp) : SqT K H a xs := by
  obtain ⟨od, its, n, sl, e, z, v⟩ := h
  exact .inr ⟨_, its, n, e, rfl, rfl, z, v⟩
/-- the module's names, as the defs see them -/
def GInt (mg : Str → Option Value) (x : Str) (n : Int) : Prop := ∃ t, mg x = some (.int n t)
def GTup (K : PySem.W.Frag) (mg : Str → Option Value) (x : Str) (xs : List V) : Prop := ∃ a, mg x = some (.ref a) ∧ KTup K a xs
theorem HasInt.g {K : PySem.W.Frag} {mg : Str → Option Value} {h : Heap} {x : Str} {n : Int} (i : HasInt K x n) (X : K.In h) (G : h.Ns mainGlobals mg) : GInt mg x n := by
  obtain ⟨t, m, e, rfl⟩ := i
  exact ⟨t, PySem.W.mg_of X G e⟩
theorem HasTup.g {K : PySem.W.Frag} {mg : Str → Option Value} {h : Heap} {x : Str} {xs : List V} (i : HasTup K x xs) (X : K.In h) (G : h.Ns mainGlobals mg) : GTup K mg x xs := by
  obtain ⟨a, e, k⟩ := i
  exact ⟨a, PySem.W.mg_of X G e, k⟩
section
variable {X : Cx} {x : Str} {pos : Pos}
theorem pe_globI {n : Int} (h : GInt X.mg x n) (hg : Gl X x) (hd : (x == ("__debug__" : Str)) = false := by decide) : PE X (.Name x pos) (tC (.int n)) := by
  obtain ⟨t, e⟩ := h
  exact pe_glob hg e ⟨t, rfl⟩ hd
/-- a tuple of the top: it is read as xs, wherever it stands -/
def tGT (K : PySem.W.Frag) (xs : List V) : TE := fun _ H Q => ∀ a, KTup K a xs → Q (.ref a) H
theorem pe_globT {xs : List V} (h : GTup X.K X.mg x xs) (hg : Gl X x) (hd : (x == ("__debug__" : Str)) = false := by decide) : PE X (.Name x pos) (tGT X.K xs) := by
  obtain ⟨a, e, k⟩ := h
  exact ⟨fun pins s σ H Q I q => (pe_glob (v := .ref a) hg e rfl hd).run pins s σ H Q I (q a k)⟩
end

/-! ### // by any divisor but 0 -/
def CDivX (_ j : Int) : Prop := j ≠ 0 ∧ j.natAbs.log2 < 9000
theorem op_fdivX {X : Cx} : OpR X (binaryOp .FloorDiv) (rI CDivX fun i j => .int (i.fdiv j)) := opI fun _ _ _ _ _ _ _ hc q => floordiv_int hc.1 q (.inl (PyProof.noPylong_of_log2 hc.2))
theorem fdiv_le_pos (i : Int) {j : Int} (hj : 0 < j) : (i.fdiv j).natAbs ≤ i.natAbs + 1 := by
  have e := Int.mul_fdiv_add_fmod i j
  have h0 := Int.fmod_nonneg_of_pos i hj
  have h1 := Int.fmod_lt_of_pos i hj
  have a : (i.fdiv j).natAbs ≤ (j * i.fdiv j).natAbs := by
    rw [Int.natAbs_mul]; exact Nat.le_mul_of_pos_left _ (by omega)
  by_cases hi : 0 ≤ i
  · have : 0 ≤ i.fdiv j := Int.fdiv_nonneg hi (by omega)
    have : 0 ≤ j * i.fdiv j := Int.mul_nonneg (by omega) this
    omega
  · have q : i.fdiv j ≤ -1 := by
      by_cases z : 0 ≤ i.fdiv j
      · have := Int.mul_nonneg (show 0 ≤ j by omega) z
        omega
      · omega
    have r : -1 + i ≤ i.fdiv j := by
      have : i.fdiv j * (j - 1) ≤ (-1) * (j - 1) := Int.mul_le_mul_of_nonneg_right q (by omega)
      have e2 : j * i.fdiv j = i.fdiv j * (j - 1) + i.fdiv j := by rw [Int.mul_sub, Int.mul_one, Int.mul_comm]; omega
      omega
    omega
theorem fdiv_le (i j : Int) : (i.fdiv j).natAbs ≤ i.natAbs + 1 := by
  by_cases h : 0 < j
  · exact fdiv_le_pos i h
  · by_cases h2 : j = 0
    · subst h2; rw [Int.fdiv_zero]; omega
    · have e : i.fdiv j = (-i).fdiv (-j) := by rw [Int.neg_fdiv_neg]
      have := fdiv_le_pos (-i) (show 0 < -j by omega)
      rw [e]; omega

/-! ### how long a shown thing is at most -/
structure Sm (d : PyData) (dp N : Nat) : Prop where
  ok : d.showable = true
  dp : d.depth ≤ dp
  sz : d.shown.length ≤ N
structure SmAll (ds : List PyData) (dp n N : Nat) : Prop where
  ok : PyData.showableAll ds = true
  dp : PyData.depthAll ds ≤ dp
  len : ds.length ≤ n
  sz : ((PyData.shownAll ds).map (·.length)).sum ≤ N
theorem Sm.show {d : PyData} {dp N : Nat} (h : Sm d dp N) (h1 : dp ≤ 60) (h2 : N ≤ sizeLine) : ShowOk d := ⟨h.ok, Nat.le_trans h.dp h1, Nat.le_trans h.sz h2⟩
theorem Sm.mono {d : PyData} {dp N dp' N' : Nat} (h : Sm d dp N) (h1 : dp ≤ dp') (h2 : N ≤ N') : Sm d dp' N' := ⟨h.ok, Nat.le_trans h.dp h1, Nat.le_trans h.sz h2⟩
theorem shownAll_length : ∀ ds : List PyData, (PyData.shownAll ds).length = ds.length
  | [] => rfl
  | d :: ds => by simp [PyData.shownAll, shownAll_length ds]
theorem Sm.int {i : Int} (h : i.natAbs < 2 ^ 1900) : Sm (.int i) 0 2000 := by
  have hl : i.natAbs.log2 < 1900 := PySem.Flt.log2_lt_of (by decide) h
  refine ⟨?_, Nat.le_refl 0, ?_⟩
  · simp only [PyData.showable, decide_eq_true_eq]; omega
  · have e := int_text_length_le (k := 1900) (by decide) hl
    show (Str.ofString (toString i)).length ≤ 2000
    rw [PySem.ofString_length]; omega
theorem Sm.bool (b : Bool) : Sm (.bool b) 0 10 := ⟨rfl, Nat.le_refl 0, by cases b <;> decide +kernel⟩
theorem Sm.none : Sm .none 0 10 := ⟨rfl, Nat.le_refl 0, by decide +kernel⟩
theorem Sm.str {x : Str} {n : Nat} (h : x.length ≤ n) (hc : ∀ c ∈ x.cps.toList, c < 16 ^ 8) : Sm (.str x) 0 (10 * n + 2) := ⟨rfl, Nat.le_refl 0, by
  have e := PySem.StrLaws.reprText_len x hc
  show (reprText x).length ≤ _
  omega⟩
theorem SmAll.nil : SmAll [] 0 0 0 := ⟨rfl, Nat.le_refl 0, Nat.le_refl 0, Nat.le_refl 0⟩
theorem SmAll.cons {d : PyData} {ds : List PyData} {dp dp' n N M : Nat} (h : Sm d dp N) (t : SmAll ds dp' n M) : SmAll (d :: ds) (max dp dp') (n + 1) (N + M) := by
  have h1 := h.dp
  have h2 := t.dp
  refine ⟨by simp [PyData.showableAll, h.ok, t.ok], ?_, by have := t.len; simp; omega, ?_⟩
  · simp only [PyData.depthAll]; omega
  · have := h.sz
    have := t.sz
    simp only [PyData.shownAll, List.map_cons, List.sum_cons]; omega
theorem Sm.tup {ds : List PyData} {dp n N : Nat} (h : SmAll ds dp n N) : Sm (.tuple ds) (dp + 1) (N + 2 * n + 3) := by
  refine ⟨by simpa [PyData.showable] using h.ok, by simp only [PyData.depth]; have := h.dp; omega, ?_⟩
  have e := tupleText_len_le (PyData.shownAll ds)
  have := h.sz
  have := h.len
  rw [shownAll_length] at e
  show (tupleText (PyData.shownAll ds)).length ≤ _
  omega
theorem Sm.lst {ds : List PyData} {dp n N : Nat} (h : SmAll ds dp n N) : Sm (.list ds) (dp + 1) (N + 2 * n + 3) := by
  refine ⟨by simpa [PyData.showable] using h.ok, by simp only [PyData.depth]; have := h.dp; omega, ?_⟩
  have e := listText_len_le (PyData.shownAll ds)
  have := h.sz
  have := h.len
  rw [shownAll_length] at e
  show (listText (PyData.shownAll ds)).length ≤ _
  omega
theorem SmAll.many {dp N : Nat} : ∀ {ds : List PyData}, (∀ d ∈ ds, Sm d dp N) → SmAll ds dp ds.length (N * ds.length)
  | [], _ => ⟨rfl, Nat.zero_le _, Nat.le_refl 0, Nat.zero_le _⟩
  | d :: ds, h => by
    have t := SmAll.cons (h d (by simp)) (SmAll.many (fun e he => h e (List.mem_cons_of_mem _ he)))
    rw [Nat.max_self] at t
    refine ⟨t.ok, t.dp, t.len, Nat.le_trans t.sz ?_⟩
    rw [List.length_cons, Nat.mul_succ]; omega
theorem sz_0 : (0 : Nat) ≤ sizeLine := by decide
theorem sz_1 : (1 : Nat) ≤ sizeLine := by decide
theorem sz_2 : (2 : Nat) ≤ sizeLine := by decide
theorem sz_3 : (3 : Nat) ≤ sizeLine := by decide
theorem sz_4 : (4 : Nat) ≤ sizeLine := by decide
theorem sz_5 : (5 : Nat) ≤ sizeLine := by decide
/-! ### the ends: each premise a fact that k_is finds -/
theorem HasFn.mk' {K : PySem.W.Frag} {x : Str} {st : Stmt} {f : Addr} {oc : Value} {od an : Option Addr} {kV doc pm cdv ct : Value} {osl : Array (Option Value)} (a : PySem.W.nsIn K mainGlobals x = some (some (.ref f)))
    (b : K.lookup f = some ⟨oc, od, .func (PySem.W.fnOf x x (defArgs st) (defBody st) (defScope st) .none kV doc pm an cdv ct), osl⟩) (c : PySem.W.codeIn K cdv x = true) (d : PySem.W.keepIn K (.ref f) = true) : HasFn K x st :=
  ⟨f, oc, od, an, kV, doc, pm, cdv, ct, osl, a, b, c, d⟩
theorem HasInt.mk' {K : PySem.W.Frag} {x : Str} {n m : Int} {t : Tok} (a : PySem.W.nsIn K mainGlobals x = some (some (.int m t))) (e : m = n) : HasInt K x n := ⟨t, m, a, e⟩
theorem HasTup.mk' {K : PySem.W.Frag} {x : Str} {xs : List V} {a : Addr} {od : Option Addr} {its : Array Value} {n : Nat} {sl : Array (Option Value)} (h : PySem.W.nsIn K mainGlobals x = some (some (.ref a)))
    (b : K.lookup a = some ⟨.type "tuple", od, .seq its n, sl⟩) (z : its.size ≤ sizeLine) (v : Vals xs its.toList) : HasTup K x xs := ⟨a, h, od, its, n, sl, b, z, v⟩
/-! ### what the laws' helpers promise -/
/-! the digits and the place -/
def BoxAt (H : Hp) (p dl : Addr) : Prop := ∃ (ds : List Int) (k : Int), H p = some (.lst [.ref dl, .int k]) ∧ 0 ≤ k ∧ H dl = some (.lst (ds.map V.int)) ∧ ds.length ≤ 4000 ∧ ∀ d ∈ ds, 0 ≤ d ∧ d < 1000
theorem BoxAt.at_ {H : Hp} {p dl : Addr} (h : BoxAt H p dl) : ∃ xs, H p = some (.lst xs) := let ⟨_, _, a, _⟩ := h; ⟨_, a⟩
theorem BoxAt.dg {H : Hp} {p dl : Addr} (h : BoxAt H p dl) : ∃ xs, H dl = some (.lst xs) := let ⟨_, _, _, _, c, _⟩ := h; ⟨_, c⟩
def Keep (p : Addr) (H H' : Hp) : Prop := ∀ b o, H b = some o → b ≠ p → H' b = some o
def spDraw (K : PySem.W.Frag) : Sp := fun vs H Q _ => ∃ (p dl : Addr) (m : Int), vs = [.ref p, .int m] ∧ BoxAt H p dl ∧ 0 < m ∧ ∀ r H', 0 ≤ r → r < m → BoxAt H' p dl → Keep p H H' → Q (.int r) H'
def spCell (K : PySem.W.Frag) : Sp := fun vs H Q _ => ∃ (a : Addr) (ns : List Int) (i : Int), vs = [.ref a, .int i] ∧ SqL K H a (ns.map V.int) ∧ 0 ≤ i ∧ ∀ r, Q (.int r) H
def DigAt (H0 H : Hp) (dl : Addr) (n : Nat) : Prop := ∃ ds : List Int, H dl = some (.lst (ds.map V.int)) ∧ ds.length ≤ n ∧ (∀ d ∈ ds, 0 ≤ d ∧ d < 1000) ∧ Same H0 H
theorem DigAt.mono {H0 H : Hp} {dl : Addr} {n m : Nat} (h : DigAt H0 H dl n) (l : n ≤ m) : DigAt H0 H dl m := let ⟨ds, a, b, c, d⟩ := h; ⟨ds, a, by omega, c, d⟩
theorem DigAt.add {H0 H : Hp} {dl : Addr} {n : Nat} {r : Int} {xs : List V} (h : DigAt H0 H dl n) (hx : H dl = some (.lst xs)) (nd : H0 dl = none) (h0 : 0 ≤ r) (h1 : r < 1000) : DigAt H0 (upd H dl (.lst (xs ++ [.int r]))) dl (n + 1) := by
  obtain ⟨ds, a, b, c, d⟩ := h
  rw [hx] at a
  obtain rfl := HO.lst.inj (Option.some.inj a)
  refine ⟨ds ++ [r], by rw [upd_same, List.map_append]; rfl, by simp; omega, fun z hz => ?_, fun q o e => by rw [upd_ne (ne_of_none e nd)]; exact d q o e⟩
  rcases List.mem_append.mp hz with hz | hz
  · exact c z hz
  · have : z = r := by simpa using hz
    omega
def spDigits (K : PySem.W.Frag) : Sp := fun vs H Q _ => ∃ (a : Addr) (ns : List Int) (lo hi : Nat), vs = [.ref a, .int lo, .int hi] ∧ SqL K H a (ns.map V.int) ∧ lo ≤ hi ∧ hi ≤ 64 ∧
  ∀ (p : Addr) (H' : Hp), H p = none → DigAt H H' p 4000 → Q (.ref p) H'
def spBound : Sp := fun vs H Q _ => vs = [] ∧ Q (.int (2 ^ 256)) H
theorem Keep.trans {p : Addr} {H H1 H2 : Hp} (a : Keep p H H1) (b : Keep p H1 H2) : Keep p H H2 := fun c o h ne => b c o (a c o h ne) ne
theorem Keep.refl (p : Addr) (H : Hp) : Keep p H H := fun _ _ h _ => h
def Sgn (z : Int) : Prop := z = 1 ∨ z = -1
theorem Sgn.mul {z n : Int} (h : Sgn z) : (z * n).natAbs = n.natAbs := by
  rcases h with rfl | rfl <;> omega
theorem Sgn.wide {z n : Int} (h : Sgn z) (hn : n.natAbs < 2 ^ 300) : CMulW z n := wide_mul (a := 2) (b := 300) (by rcases h with rfl | rfl <;> decide) hn (by decide) (by decide) (by decide)
def spNumber (K : PySem.W.Frag) : Sp := fun vs H Q _ => ∃ (p dl : Addr), vs = [.ref p] ∧ BoxAt H p dl ∧ ∀ (n : Int) H', n.natAbs < 2 ^ 260 → BoxAt H' p dl → Keep p H H' → Q (.int n) H'
def spSame (K : PySem.W.Frag) : Sp := fun vs H Q _ => ∃ (x y : V) (d : PyData), vs = [x, y] ∧ Dp K H x d ∧ Dp K H y d ∧ ShowOk d ∧ Q (.bl true) H
theorem Same.keep {p : Addr} {H H' : Hp} (e : Same H H') : Keep p H H' := fun b o h _ => e b o h
theorem BoxAt.same {p dl : Addr} {H H' : Hp} (h : BoxAt H p dl) (e : Same H H') : BoxAt H' p dl := by
  obtain ⟨ds, k, a, b, c, d⟩ := h
  exact ⟨ds, k, e _ _ a, b, e _ _ c, d⟩
theorem BoxAt.upd {p dl l : Addr} {H : Hp} {o : HO} (h : BoxAt H p dl) (h1 : l ≠ p) (h2 : l ≠ dl) : BoxAt (L2.upd H l o) p dl := by
  obtain ⟨ds, k, a, b, c, d⟩ := h
  exact ⟨ds, k, by rw [upd_ne (Ne.symm h1)]; exact a, b, by rw [upd_ne (Ne.symm h2)]; exact c, d⟩
theorem strOk (s : Str) (h : s.cps.toList.all (fun c => decide (c < 16 ^ 8)) = true) : ∀ c ∈ s.cps.toList, c < 16 ^ 8 := fun c hc => of_decide_eq_true (List.all_eq_true.mp h c hc)

/-! ### data without lists: what no change of a list can reach -/
mutual
inductive Dt (K : PySem.W.Frag) (H : Hp) : V → PyData → Prop
  | non : Dt K H .non .none
  | bl (b : Bool) : Dt K H (.bl b) (.bool b)
  | int (i : Int) : Dt K H (.int i) (.int i)
  | str (x : Str) : Dt K H (.str x) (.str x)
  | tup {a : Addr} {xs : List V} {ds : List PyData} : SqT K H a xs → DtAll K H xs ds → Dt K H (.ref a) (.tuple ds)
inductive DtAll (K : PySem.W.Frag) (H : Hp) : List V → List PyData → Prop
  | nil : DtAll K H [] []
  | cons {v : V} {vs : List V} {d : PyData} {ds : List PyData} : Dt K H v d → DtAll K H vs ds → DtAll K H (v :: vs) (d :: ds)
end
mutual
theorem Dt.dp {K : PySem.W.Frag} {H : Hp} : ∀ {v : V} {d : PyData}, Dt K H v d → Dp K H v d
  | _, _, .non => .non
  | _, _, .bl b => .bl b
  | _, _, .int i => .int i
  | _, _, .str x => .str x
  | _, _, .tup h a => .tup h (DtAll.dp a)
theorem DtAll.dp {K : PySem.W.Frag} {H : Hp} : ∀ {vs : List V} {ds : List PyData}, DtAll K H vs ds → DpAll K H vs ds
  | _, _, .nil => .nil
  | _, _, .cons h a => .cons (Dt.dp h) (DtAll.dp a)
end
/-- every tuple that H reads H' reads as well -/
def KeepT (K : PySem.W.Frag) (H H' : Hp) : Prop := ∀ a xs, SqT K H a xs → SqT K H' a xs
mutual
theorem Dt.keepT {K : PySem.W.Frag} {H H' : Hp} (e : KeepT K H H') : ∀ {v : V} {d : PyData}, Dt K H v d → Dt K H' v d
  | _, _, .non => .non
  | _, _, .bl b => .bl b
  | _, _, .int i => .int i
  | _, _, .str x => .str x
  | _, _, .tup h a => .tup (e _ _ h) (DtAll.keepT e a)
theorem DtAll.keepT {K : PySem.W.Frag} {H H' : Hp} (e : KeepT K H H') : ∀ {vs : List V} {ds : List PyData}, DtAll K H vs ds → DtAll K H' vs ds
  | _, _, .nil => .nil
  | _, _, .cons h a => .cons (Dt.keepT e h) (DtAll.keepT e a)
end
theorem KeepT.refl (K : PySem.W.Frag) (H : Hp) : KeepT K H H := fun _ _ h => h
theorem KeepT.trans {K : PySem.W.Frag} {H H1 H2 : Hp} (a : KeepT K H H1) (b : KeepT K H1 H2) : KeepT K H H2 := fun c xs h => b c xs (a c xs h)
theorem Same.keepT {K : PySem.W.Frag} {H H' : Hp} (e : Same H H') : KeepT K H H' := fun _ _ h => Same.tupl e h
theorem Keep.keepT {K : PySem.W.Frag} {p : Addr} {H H' : Hp} (e : Keep p H H') (hp : ∃ xs, H p = some (.lst xs)) : KeepT K H H' := fun a xs h => by
  obtain ⟨ys, hp⟩ := hp
  rcases h with (h | ⟨o, h⟩) | h
  · exact .inl (.inl (e _ _ h (ne_of h hp (by intro z; cases z))))
  · exact .inl (.inr ⟨o, e _ _ h (ne_of h hp (by intro z; cases z))⟩)
  · exact .inr h
theorem KeepT.upd {K : PySem.W.Frag} {p : Addr} {H : Hp} {o : HO} {xs : List V} (hp : H p = some (.lst xs)) : KeepT K H (upd H p o) :=
  Keep.keepT (p := p) (fun b u e hb => by rw [upd_ne hb]; exact e) ⟨xs, hp⟩
theorem Dt.mono {K : PySem.W.Frag} {H H' : Hp} {v : V} {d : PyData} (e : Same H H') (h : Dt K H v d) : Dt K H' v d := h.keepT (Same.keepT e)
theorem DtAll.mono {K : PySem.W.Frag} {H H' : Hp} {v : List V} {d : List PyData} (e : Same H H') (h : DtAll K H v d) : DtAll K H' v d := h.keepT (Same.keepT e)
theorem Dt.made {K : PySem.W.Frag} {H : Hp} {p : Addr} {xs : List V} {ds : List PyData} (hp : H p = none) (h : DtAll K H xs ds) : Dt K (L2.upd H p (.tup xs)) (.ref p) (.tuple ds) := .tup (SqT.of upd_same) (DtAll.mono (Same.new hp) h)
theorem DtAll.length {K : PySem.W.Frag} {H : Hp} {vs : List V} {ds : List PyData} (h : DtAll K H vs ds) : vs.length = ds.length := LK.DpAll.length h.dp
theorem DtAll.app {K : PySem.W.Frag} {H : Hp} : ∀ {vs ws : List V} {ds es : List PyData}, DtAll K H vs ds → DtAll K H ws es → DtAll K H (vs ++ ws) (ds ++ es)
  | _, _, _, _, .nil, t => t
  | _, _, _, _, .cons h a, t => .cons h (DtAll.app a t)
theorem DtAll.get {K : PySem.W.Frag} {H : Hp} : ∀ {vs : List V} {ds : List PyData} {i : Nat} {d : PyData}, DtAll K H vs ds → ds[i]? = some d → ∃ v, vs[i]? = some v ∧ Dt K H v d
  | _, _, 0, _, .cons h _, e => ⟨_, rfl, Option.some.inj e ▸ h⟩
  | _, _, i + 1, _, .cons _ a, e => DtAll.get (i := i) a e
theorem DtAll.getV {K : PySem.W.Frag} {H : Hp} : ∀ {vs : List V} {ds : List PyData} {i : Nat} {v : V}, DtAll K H vs ds → vs[i]? = some v → ∃ d, ds[i]? = some d ∧ Dt K H v d
  | _, _, 0, _, .cons h _, e => ⟨_, rfl, Option.some.inj e ▸ h⟩
  | _, _, i + 1, _, .cons _ a, e => DtAll.getV (i := i) a e
theorem Dt.tuple_inv {K : PySem.W.Frag} {H : Hp} {v : V} {ds : List PyData} (h : Dt K H v (.tuple ds)) : ∃ a xs, v = .ref a ∧ SqT K H a xs ∧ DtAll K H xs ds := by
  cases h with
  | tup h a => exact ⟨_, _, rfl, h, a⟩
theorem DtAll.cons_inv {K : PySem.W.Frag} {H : Hp} {vs : List V} {d : PyData} {ds : List PyData} (h : DtAll K H vs (d :: ds)) : ∃ v ws, vs = v :: ws ∧ Dt K H v d ∧ DtAll K H ws ds := by
  cases h with
  | cons h a => exact ⟨_, _, rfl, h, a⟩
theorem DtAll.nil_inv {K : PySem.W.Frag} {H : Hp} {vs : List V} (h : DtAll K H vs []) : vs = [] := by cases h; rfl
theorem Dt.int_inv {K : PySem.W.Frag} {H : Hp} {v : V} {i : Int} (h : Dt K H v (.int i)) : v = .int i := by cases h; rfl
theorem Dt.str_inv {K : PySem.W.Frag} {H : Hp} {v : V} {x : Str} (h : Dt K H v (.str x)) : v = .str x := by cases h; rfl
theorem Dt.bool_inv {K : PySem.W.Frag} {H : Hp} {v : V} {b : Bool} (h : Dt K H v (.bool b)) : v = .bl b := by cases h; rfl
theorem dtStrs {K : PySem.W.Frag} {H : Hp} : ∀ xs : List Str, DtAll K H (xs.map V.str) (xs.map PyData.str)
  | [] => .nil
  | x :: xs => .cons (.str x) (dtStrs xs)
end LK

set_option Elab.async false
set_option linter.all false
set_option maxRecDepth 100000
set_option maxHeartbeats 4000000
/-! enumerate of a tuple. -/
namespace LK
open PySem PySem.Spec PyProof.Rows L2
open AutoSeq1 (wpAny_loadPart')
open Sem (wp)
def enumObj (it : Addr) : Obj := { cls := .type "enumerate", data := .fields #[.none, .bool false, .ref it, rawInt 0, .none, .none] }
def tupIt (t : Addr) : Obj := { cls := .type "tuple_iterator", data := .fields #[.ref t, .int 0 0] }
theorem meets_enumT (t : Addr) (items : Array Value) (n : Nat) (dct : Option Addr) (sl : Array (Option Value)) :
    Meets (Builtin.«enumerate.__new__» ⟨[.type "enumerate", .ref t], []⟩) (fun _ R s => s.heap.get? t = some { cls := .type "tuple", dict := dct, data := .seq items n, slots := sl } ∧
      R (.ok (.ret (.ref (s.heap.push (tupIt t)).objs.size))) { s with heap := (s.heap.push (tupIt t)).push (enumObj s.heap.objs.size) }) :=
  .of_wp fun prog w A R s h => by
    obtain ⟨hp, g, d, tk, os⟩ := s
    obtain ⟨hl, h⟩ := h
    have hsub := sub_enumerate
    have hT : Heap.IsTuple (Shared.heap ⟨hp, g, d, tk, os⟩) t items := ⟨_, hl, rfl, n, rfl⟩
    wp_walk using wpAny_loadPart' hl
    refine wpAny_stack_any fun st => wpAny_pure ?_
    split
    · rename_i c _ _ _ _ _
      cases (c == Value.type "enumerate") <;> (wp_walk using wpAny_loadPart' hl, wpAny_pyIter_tuple hT; exact ⟨_, rfl, h⟩)
    · wp_walk using wpAny_loadPart' hl, wpAny_pyIter_tuple hT
      exact ⟨_, rfl, h⟩
section
variable {prog : Program} {w : World} {A : Around} {E : Value → Shared → Prop} {s : Shared}
theorem call_enumT {t : Addr} {items : Array Value} {Q : Value → Shared → Prop} (hT : s.heap.IsTuple t items)
    (h : ∀ h', IsEnum h' (s.heap.objs.size + 1) s.heap.objs.size 0 .none → h'.IsTupleIter s.heap.objs.size t 0 → (∀ b o, s.heap.get? b = some o → h'.get? b = some o) → Q (.ref (s.heap.objs.size + 1)) { s with heap := h' }) :
    wpAny (model prog w) A (call (.type "enumerate") [.ref t]) Q E s := by
  obtain ⟨⟨c, dct, dt, sl⟩, hl, hc, n, hd⟩ := hT
  obtain rfl : c = .type "tuple" := hc
  obtain rfl : dt = .seq items n := hd
  refine callType_new F.called_enumerate (by decide) (F.typeCall_enumerate_1 _) (F.newCall_enumerate_1 _) (fun obj => F.args_object_init_2 obj _) F.entry_enumerate_new (meets_enumT t items n dct sl) ⟨hl, ?_⟩
  have hz : (s.heap.push (tupIt t)).objs.size = s.heap.objs.size + 1 := Heap.size_push ..
  have he : IsEnum ((s.heap.push (tupIt t)).push (enumObj s.heap.objs.size)) (s.heap.objs.size + 1) s.heap.objs.size 0 .none := by
    have q := Heap.get?_push_size (s.heap.push (tupIt t)) (o := enumObj s.heap.objs.size) rfl
    rw [hz] at q
    exact q
  show _ ∧ _
  rw [hz]
  exact ⟨⟨_, he, rfl⟩, h _ he (Heap.get?_push_of_some _ (Heap.get?_push_size _ rfl) |> fun q => ⟨_, q, rfl, rfl⟩) fun b o x => Heap.get?_push_of_some _ (Heap.get?_push_of_some _ x)⟩
end
/-- the tuple at a, each item in a new pair with its place -/
def IteT (K : PySem.W.Frag) (a : Addr) : It where
  go := fun i H => ∃ (xs : List V) (x : V), SqT K H a xs ∧ xs[i]? = some x
  yld := fun i H v H' => ∃ T x, v = .ref T ∧ H T = none ∧ H' = upd H T (.tup [.int (i : Nat), x]) ∧ ∀ xs, SqT K H a xs → xs[i]? = some x
  stop := fun i H => ∃ xs : List V, SqT K H a xs ∧ xs.length = i
theorem turn_enumT {P : Program} {w : World} {K : PySem.W.Frag} {elts : List Expr} {kk : Nat} {tpos : Pos} (a e it : Addr) :
    Turn P w K (.Tuple elts kk tpos) (IteT K a) [e, it] e (fun i h => (∃ old, IsEnum h e it ((i : Nat) : Int) old) ∧ h.IsTupleIter it a i ∧ e ≠ it) where
  mem := List.mem_cons_self
  obj := fun i h st b hb => by
    obtain ⟨⟨old, he⟩, ⟨o, ho, hc, hd⟩, _⟩ := st
    have hb : b = e ∨ b = it := by simpa using hb
    rcases hb with rfl | rfl
    · exact ⟨_, he, fun v q => nomatch q⟩
    · exact ⟨o, ho, fun v q => by rw [hd] at q; cases q⟩
  keep := fun i h h' st k => by
    obtain ⟨⟨old, he⟩, hi, hne⟩ := st
    exact ⟨⟨old, k e (by simp) _ he⟩, hi.at fun o q => k it (by simp) o q, hne⟩
  item := by
    intro X hP hw hK hc i pins s σ H E I hf st hg
    subst hP hw hK
    obtain ⟨⟨old, he⟩, hit, hne⟩ := st
    obtain ⟨xs, x, hq, hx⟩ := hg
    obtain ⟨its, rv, p, hz⟩ := I.tuple hq
    obtain ⟨u, hu, ru⟩ := rv.get hx
    have hel : e < s.heap.objs.size := Heap.lt_size he
    have hil : it < s.heap.objs.size := by obtain ⟨_, q, _⟩ := hit; exact Heap.lt_size q
    have hat : a ≠ it := by
      intro z
      subst z
      obtain ⟨o, q1, c1, _⟩ := hit
      obtain ⟨o', q2, c2, _⟩ := p
      rw [q1] at q2; cases q2
      exact absurd (Value.type.inj (c1.symm.trans c2)) (by decide)
    have D := Draws.tuple (prog := X.prog) (w := X.w) (A := X.A.in1) (I.ok.hd hc) it a hat its.toArray
    have Dst : (fun i (h : Heap) => h.IsTupleIter it a i ∧ h.IsTuple a its.toArray) i s.heap := ⟨hit, p⟩
    have eat : e ≠ a := by
      intro z
      subst z
      obtain ⟨o', q2, c2, _⟩ := p
      rw [he] at q2; cases q2
      exact absurd (Value.type.inj c2) (by decide)
    have hi : i < its.toArray.size := by
      have := (List.getElem?_eq_some_iff.mp hu).1
      simpa using this
    refine wpAny_pyNext_enum_itemD D he Dst hi hne (by simp [hne, eat]) fun v h' tk hv ho hst hT hsz hk => ?_
    obtain rfl : v = u := by
      have hv : its.toArray[i]? = some v := hv
      rw [show its.toArray[i]? = some u by simpa using hu] at hv
      exact (Option.some.inj hv).symm
    refine ⟨_, rfl, wpAny_letOwnedTupleGo_enum (s := { s with heap := h', toks := tk + 1 }) ho fun h'' he' sb => ?_⟩
    have hT2 := (sb.2 _ (Nat.ne_of_gt hel)).trans hT
    have new : ObjOk X.prog X.w (upd H s.heap.objs.size (.tup [.int (i : Nat), x])) h'' s.heap.objs.size (.tup [.int (i : Nat), x]) :=
      ⟨by show 2 ≤ sizeLine; decide, [.int i tk, v], .cons ⟨_, rfl⟩ (.cons ru .nil), ⟨_, hT2, rfl, _, rfl⟩⟩
    have I1 : Inv X pins σ (upd H s.heap.objs.size (.tup [.int (i : Nat), x])) { s with heap := h'', toks := tk + 1 } :=
      I.turnedNew (ch := [e, it]) (fun b ob hb q => (sb.2 b (fun z => hb (by simp [z]))).trans (hk b ob (fun z => hb (by simp [z])) (fun z => hb (by simp [z])) q)) hf (Nat.le_refl _) new
    refine ⟨.ref s.heap.objs.size, _, I1, rfl, ⟨_, x, rfl, I.hok.fresh (Nat.le_refl _), rfl, fun ys hy => by rw [I.tuple_inj hy hq]; exact hx⟩, ⟨⟨v, ?_⟩, hst.1.at fun o q => (sb.2 it (Ne.symm hne)).trans q, hne⟩, fun b hb => ?_⟩
    · rw [show ((i + 1 : Nat) : Int) = (i : Int) + 1 by omega]
      exact he'
    · have hb' : b < s.heap.objs.size := by
        have z : b = e ∨ b = it := by simpa using hb
        rcases z with rfl | rfl <;> assumption
      rw [upd_ne (Nat.ne_of_lt hb')]
      exact (hf b hb).1
  done := by
    intro X hP hw hK hc i pins s σ H E I hf st hg
    subst hP hw hK
    obtain ⟨⟨old, he⟩, hit, hne⟩ := st
    obtain ⟨xs, hq, hx⟩ := hg
    obtain ⟨its, rv, p, hz⟩ := I.tuple hq
    obtain ⟨f0, f1, f2, f3, f4, f5⟩ := hf it (by simp)
    have hl := rv.length
    have hat : a ≠ it := by
      intro z
      subst z
      obtain ⟨o, q1, c1, _⟩ := hit
      obtain ⟨o', q2, c2, _⟩ := p
      rw [q1] at q2; cases q2
      exact absurd (Value.type.inj (c1.symm.trans c2)) (by decide)
    have D := Draws.tuple (prog := X.prog) (w := X.w) (A := X.A.in1) (I.ok.hd hc) it a hat its.toArray
    have hn : i = its.toArray.size := by simp; omega
    subst hn
    exact wpAny_pyNext_enum_endD D he ⟨hit, p⟩ fun h' eb => ⟨rfl, I.turned (t' := s.toks) (fun b o hb q => eb b o hb q) f0 f1 f3 f4 f5⟩
  self := fun A i s Q E st h => let ⟨⟨_, he⟩, _⟩ := st; wpAny_pyIter_enum he h
def iEnumT (K : PySem.W.Frag) (ta : TA) : TI := fun σ H R => ta σ H fun vs H1 => ∃ a xs, vs = [.ref a] ∧ SqT K H1 a xs ∧ R (IteT K a) H1
theorem pi_enumT {X : Cx} {e : Expr} {ta : TA} {p pos tpos : Pos} {elts : List Expr} {kk : Nat} (hg : Gl X "enumerate") (hm : X.mg "enumerate" = none) (ha : PA X [e] ta) (hs : starEach [e] X.env = [(false, eval e X.env)] := by rfl) :
    PI X (.Tuple elts kk tpos) (.Call (.Name "enumerate" p) [e] [] pos) (iEnumT X.K ta) := by
  refine ⟨fun pins s σ H R I h => ?_⟩
  refine Call_ (ld_blt I hg hm boot_enumerate (PyProof.Rows.callWith_type1 (thn (ha.run pos pins s σ H _ I h) fun us s1 ⟨vs, H1, I1, r1, q1⟩ => ?_) hs rfl))
  obtain ⟨a, xs, rfl, hq, q⟩ := q1
  cases r1 with
  | cons r rr =>
    cases rr
    cases r
    obtain ⟨its, rv, p', hz⟩ := I1.tuple hq
    refine call_enumT (show s1.heap.IsTuple a its.toArray from p') fun h' he hit hk => wpAny_pyIter_enum he ?_
    refine ⟨s1.heap.objs.size + 1, [s1.heap.objs.size + 1, s1.heap.objs.size], _, _, H1, rfl, I1.kept (t' := s1.toks) hk, turn_enumT a (s1.heap.objs.size + 1) s1.heap.objs.size, ⟨⟨.none, he⟩, hit, Nat.succ_ne_self _⟩, fun b hb => ?_, q⟩
    have hle : s1.heap.objs.size ≤ b := by
      have z : b = s1.heap.objs.size + 1 ∨ b = s1.heap.objs.size := by simpa using hb
      rcases z with rfl | rfl <;> omega
    exact I1.fpOk hle (I1.hok.fresh hle)
theorem walk_enumT {K : PySem.W.Frag} {a : Addr} {xs : List V} : Walk (IteT K a) xs.length (fun H => SqT K H a xs) (YPair (fun i => some (.int (i : Nat))) (fun i => xs[i]?)) := by
  refine ⟨fun i _ hi q => ⟨xs, xs[i], q, by simp [hi]⟩, fun _ q => ⟨xs, q, rfl⟩, fun i H v H' _ q y => ?_⟩
  obtain ⟨T, x, h1, h2, h3, h4⟩ := y
  exact ⟨T, .int (i : Nat), x, h1, h2, h3, rfl, h4 xs q⟩

/-! ### comprehensions whose items are data -/
theorem tYes_of {σ : L2.St} {H : Hp} {P R : Hp → Prop} (h : P H) : tYes σ H fun b H3 => if b = true then P H3 else R H3 := by
  show (if true = true then P H else R H)
  rw [if_pos rfl]
  exact h
/-- each turn gives data and leaves what stood; no test -/
theorem lc_dt {K : PySem.W.Frag} {J : It} {n : Nat} {G : Hp → Prop} {Y : Nat → Hp → V → Hp → Prop} (w : Walk J n G Y) {g : TG} {te : TE} {vs : List Nat} {σ : L2.St} {H : Hp} {D : Addr} {Qd : Hp → Prop} (hD : H D = none) (ds : List PyData) (hn : ds.length = n) (hz : n < sizeLine)
    (hG : ∀ H', Same H H' → G H')
    (hs : ∀ i x H1 H2 d (Nx : V → Hp → Prop), i < n → ds[i]? = some d → Same H H1 → (∃ acc, H1 D = some (.lst acc)) → Y i H1 x H2 → (∀ y H5, Same H1 H5 → Dt K H5 y d → Nx y H5) →
      g x (wipe σ vs) H2 fun σ2 H3 => wipe σ2 vs = wipe σ vs ∧ te σ2 H3 Nx)
    (hd : ∀ H' acc, Same H H' → H' D = some (.lst acc) → DtAll K H' acc ds → Qd H')
    (mono : ∀ x σ H Q Q', (∀ σ' H', Q σ' H' → Q' σ' H') → g x σ H Q → g x σ H Q') :
    ∃ W : Nat → Nat → Hp → Prop, (∃ m, W 0 m (upd H D (.lst []))) ∧ ∀ i m H, W i m H →
      (J.stop i H ∧ Qd H) ∨ (J.go i H ∧ ∃ Nx : Hp → Prop, (∀ H', Nx H' → ∃ m', m' < m ∧ W (i + 1) m' H') ∧ ∀ x H', J.yld i H x H' → g x (wipe σ vs) H' fun σ2 H2 => wipe σ2 vs = wipe σ vs ∧ tYes σ2 H2 fun b H3 =>
        if b = true then te σ2 H3 fun y H4 => ∃ acc, H4 D = some (.lst acc) ∧ acc.length < sizeLine ∧ Nx (upd H4 D (.lst (acc ++ [y]))) else Nx H3) := by
  refine lc_it w (fun i H' => ∃ acc, H' D = some (.lst acc) ∧ DtAll K H' acc (ds.take i) ∧ Same H H') ⟨[], upd_same, .nil, Same.new hD⟩ (fun i H' _ h => let ⟨_, _, _, s⟩ := h; hG H' s) (fun i x H1 H2 hi h y => ?_) fun H' h => ?_
  · obtain ⟨acc, a1, a2, a3⟩ := h
    have hi' : i < ds.length := by omega
    have hg := hs i x H1 H2 ds[i] (fun y H4 => ∃ acc, H4 D = some (.lst acc) ∧ acc.length < sizeLine ∧ ∃ acc', upd H4 D (.lst (acc ++ [y])) D = some (.lst acc') ∧ DtAll K (upd H4 D (.lst (acc ++ [y]))) acc' (ds.take (i + 1)) ∧ Same H (upd H4 D (.lst (acc ++ [y]))))
      hi (List.getElem?_eq_getElem hi') a3 ⟨acc, a1⟩ y fun y H5 s hy => ?_
    · exact mono _ _ _ _ _ (fun σ2 H3 q => ⟨q.1, tYes_of q.2⟩) hg
    · have b1 := s _ _ a1
      have kt : KeepT K H5 (upd H5 D (.lst (acc ++ [y]))) := KeepT.upd b1
      refine ⟨acc, b1, ?_, _, upd_same, ?_, fun b o e => ?_⟩
      · rw [a2.length, List.length_take]; omega
      · rw [List.take_succ, List.getElem?_eq_getElem hi']
        exact DtAll.app (DtAll.keepT (KeepT.trans (Same.keepT s) kt) a2) (.cons (Dt.keepT kt hy) .nil)
      · rw [upd_ne (ne_of_none e hD)]
        exact s _ _ (a3 _ _ e)
  · obtain ⟨acc, a1, a2, a3⟩ := h
    rw [← hn, List.take_length] at a2
    exact hd H' acc a3 a1 a2
theorem mono_name {i : Nat} : ∀ x (σ : L2.St) (H : Hp) (Q Q' : L2.St → Hp → Prop), (∀ σ' H', Q σ' H' → Q' σ' H') → gName i x σ H Q → gName i x σ H Q' := fun _ _ _ _ _ h q => h _ _ q
theorem mono_tup2 {K : PySem.W.Frag} {i j n : Nat} : ∀ x (σ : L2.St) (H : Hp) (Q Q' : L2.St → Hp → Prop), (∀ σ' H', Q σ' H' → Q' σ' H') → gTup K n (gCons (gName i) (gCons (gName j) gNil)) x σ H Q → gTup K n (gCons (gName i) (gCons (gName j) gNil)) x σ H Q' := by
  rintro x σ H Q Q' h ⟨a, xs, e1, e2, e3, v, r, e4, v', r', e5, e6, q⟩
  exact ⟨a, xs, e1, e2, e3, v, r, e4, v', r', e5, e6, h _ _ q⟩
end LK

set_option Elab.async false
set_option linter.all false
set_option maxRecDepth 100000
set_option maxHeartbeats 4000000
set_option exponentiation.threshold 3000
/-! More rules: text * int, two rules at one place, what == says of data. -/
namespace LK
open PySem PySem.Spec PyProof.Rows L2
theorem at_of' {α : Type} {xs : List α} {z : Int} {j : Nat} {v : α} (e : z = (j : Int)) (h : xs[j]? = some v) : atI xs z = some v := by
  rw [e]
  exact atI_nat h
/-- z repeated k times, by its codes -/
def repC (z : List Nat) (k : Int) : List Nat := (List.replicate k.toNat z).flatten
def repS (z : Str) (k : Int) : Str := ⟨(repC z.cps.toList k).toArray⟩
theorem repC_length (z : List Nat) (k : Int) : (repC z k).length = k.toNat * z.length := by simp [repC]
theorem foldl_arr (z : Array Nat) : ∀ (n : Nat) (acc : Array Nat), (List.replicate n z).foldl (· ++ ·) acc = acc ++ (List.replicate n z.toList).flatten.toArray
  | 0, acc => by simp
  | n + 1, acc => by
    rw [List.replicate_succ, List.foldl_cons, foldl_arr z n, List.replicate_succ, List.flatten_cons]
    apply Array.ext'
    simp
def rRepS : R2 := fun x y H Q => ∃ (z : Str) (k : Int), x = .str z ∧ y = .int k ∧ -1000000000000 ≤ k ∧ k < 1000000000000 ∧ z.length * k.toNat ≤ 1000000 ∧ Q (.str (repS z k)) H
theorem repS_arr (z : Str) (k : Int) : (⟨(List.replicate k.toNat z.cps).foldl (· ++ ·) #[]⟩ : Str) = repS z k := by
  rw [foldl_arr]
  simp [repS, repC]
theorem op_rep_str {X : Cx} : OpR X (binaryOp .Mult) rRepS := by
  intro pins s σ H x y v u Q I rx ry h
  obtain ⟨z, k, rfl, rfl, h1, h2, h3, q⟩ := h
  obtain ⟨t, rfl⟩ := rx
  obtain ⟨t', rfl⟩ := ry
  have szl : (1000000 : Nat) ≤ sizeLine := by decide
  have e1 : ¬ k < 1 → k = (k.toNat : Int) := fun h => by omega
  refine PySem.P.mul_str ?_ (fun hk hz => ?_) (fun hk hz => ?_) ?_
  · rw [decide_eq_false (by omega), decide_eq_false (by omega)]; rfl
  · have e0 : z.length ≠ 0 := fun e => by rw [e] at hz; simp at hz
    have hd : (9223372036854775807 : Int) / k ≥ 1000000 := by
      apply Int.le_ediv_of_mul_le (by omega)
      have hlen : k.toNat ≤ 1000000 := Nat.le_trans (Nat.le_mul_of_pos_left _ (by omega)) h3
      omega
    have hl : z.length ≤ 1000000 := Nat.le_trans (Nat.le_mul_of_pos_right _ (by omega)) h3
    show ¬ ((z.length : Int) > 9223372036854775807 / k)
    omega
  · unfold Builtin.Str.tooLong
    simp
    omega
  · split
    · rename_i hk
      have e : repS z k = Str.empty := by
        have : k.toNat = 0 := by omega
        simp [repS, repC, this]; rfl
      refine ⟨by decide, .str _, H, I.tok _, ⟨_, rfl⟩, ?_⟩
      rw [← e]; exact q
    · rename_i hk
      split
      · rename_i hz
        have e : repS z k = z := by
          rcases Bool.or_eq_true_iff.mp hz with h | h
          · have : k = 1 := by simpa using h
            subst this
            simp [repS, repC]
          · have : z.cps.toList = [] := by
              have : z.cps.size = 0 := by simpa [Str.length] using h
              exact List.eq_nil_of_length_eq_zero (by simpa using this)
            have e2 : (List.replicate k.toNat ([] : List Nat)).flatten = [] := by simp
            unfold repS repC
            rw [this, e2]
            cases z with
            | mk c =>
              have : c = #[] := Array.toList_inj.mp (by simpa using this)
              subst this; rfl
        refine ⟨.str _, H, I, ⟨t, rfl⟩, ?_⟩
        rw [← e]; exact q
      · rw [repS_arr]
        refine ⟨?_, .str _, H, I.tok _, ⟨_, rfl⟩, q⟩
        show (repC z.cps.toList k).toArray.size ≤ sizeLine
        rw [List.size_toArray, repC_length]
        have : z.cps.toList.length = z.length := by simp [Str.length]
        rw [this, Nat.mul_comm]; omega
/-! ### the objects at the beginning -/
def clsNames : List Str := ["Exception", "ArithmeticError", "ZeroDivisionError", "OverflowError", "LookupError", "IndexError", "KeyError", "NameError", "AttributeError", "TypeError", "ValueError", "StopIteration", "RuntimeError", "RecursionError", "MemoryError", "HostError"]
def clsBases : List Int := [-1, 1, 2, 2, 1, 5, 5, 1, 1, 1, 1, 1, 1, 13, 1, 1]
def builtNames : List Str := ["print", "len", "range", "repr", "str", "int", "list", "tuple", "dict", "iter", "next", "isinstance", "abs"]
def clsVar (i : Nat) (n : Str) : PyData := .tuple [.str n, .tuple [.str "ref", .int ((i : Int) + 1)]]
def nameVar (k n : Str) : PyData := .tuple [.str n, .tuple [.str k, .str n]]
def clsObj (n : Str) (b : Int) : PyData := .tuple [.str "class", .str n, .int b, .tuple []]
def clsVars : List PyData := clsNames.mapIdx clsVar
def startVars (hs : List Str) : List PyData := clsVars ++ builtNames.map (nameVar "built") ++ hs.map (nameVar "host")
def startD (hs : List Str) : List PyData := .tuple [.str "scope", .tuple (startVars hs), .tuple [], .tuple [], .int (-1), .bool false] :: List.zipWith clsObj clsNames clsBases
/-- a list at p, of the data ds -/
def ListAt (K : PySem.W.Frag) (H : Hp) (p : Addr) (ds : List PyData) : Prop := ∃ xs, H p = some (.lst xs) ∧ DtAll K H xs ds
def spStart (K : PySem.W.Frag) : Sp := fun vs H Q _ => ∃ (t : Addr) (hs : List Str), vs = [.ref t] ∧ SqT K H t (hs.map V.str) ∧ hs.length ≤ 1000 ∧
  ∀ (p : Addr) (H' : Hp), H p = none → Same H H' → ListAt K H' p (startD hs) → Q (.ref p) H'
theorem at0 {α : Type} {x : α} {ws : List α} : atI (x :: ws) 0 = some x := at_of' (j := 0) rfl rfl
theorem at1 {α : Type} {x y : α} {ws : List α} : atI (x :: y :: ws) 1 = some y := at_of' (j := 1) rfl rfl
theorem at2 {α : Type} {x y z : α} {ws : List α} : atI (x :: y :: z :: ws) 2 = some z := at_of' (j := 2) rfl rfl
/-- a written pair, triple as it is read -/
theorem Dt.head {K : PySem.W.Frag} {H : Hp} {v : V} {z : Str} {rest : List PyData} (h : Dt K H v (.tuple (.str z :: rest))) : ∃ a ws, v = .ref a ∧ SqT K H a (.str z :: ws) ∧ DtAll K H ws rest := by
  obtain ⟨q, xs, rfl, hs, ha⟩ := h.tuple_inv
  obtain ⟨x, ws, rfl, h1, hw⟩ := ha.cons_inv
  cases h1.str_inv
  exact ⟨q, ws, rfl, hs, hw⟩
theorem Dt.pair {K : PySem.W.Frag} {H : Hp} {v : V} {z : Str} {d : PyData} (h : Dt K H v (.tuple [.str z, d])) : ∃ a x, v = .ref a ∧ SqT K H a [.str z, x] ∧ Dt K H x d := by
  obtain ⟨a, ws, rfl, hs, hw⟩ := h.head
  obtain ⟨x, ws', rfl, h1, hn⟩ := hw.cons_inv
  cases hn.nil_inv
  exact ⟨a, x, rfl, hs, h1⟩
theorem Dt.triple {K : PySem.W.Frag} {H : Hp} {v : V} {z : Str} {d e : PyData} (h : Dt K H v (.tuple [.str z, d, e])) : ∃ a x y, v = .ref a ∧ SqT K H a [.str z, x, y] ∧ Dt K H x d ∧ Dt K H y e := by
  obtain ⟨a, ws, rfl, hs, hw⟩ := h.head
  obtain ⟨x, ws', rfl, h1, hn⟩ := hw.cons_inv
  obtain ⟨y, ws'', rfl, h2, hn2⟩ := hn.cons_inv
  cases hn2.nil_inv
  exact ⟨a, x, y, rfl, hs, h1, h2⟩
theorem listAt_mono {K : PySem.W.Frag} {H H' : Hp} {p : Addr} {ds : List PyData} (h : ListAt K H p ds) (e : Same H H') : ListAt K H' p ds := by
  obtain ⟨xs, hx, ax⟩ := h
  exact ⟨xs, e _ _ hx, DtAll.mono e ax⟩
theorem eqv_nil (ds : List PyData) : PyData.eqv (.tuple ds) (.tuple []) = ds.isEmpty := by
  cases ds <;> simp [PyData.eqv, PyData.eqvAll]
theorem listAt_upd {K : PySem.W.Frag} {H : Hp} {l l' : Addr} {ds : List PyData} {xs : List V} {o : HO} (h : ListAt K H l ds) (ne : l ≠ l') (hl : H l' = some (.lst xs)) : ListAt K (upd H l' o) l ds := by
  obtain ⟨ys, hy, ay⟩ := h
  exact ⟨ys, by rw [upd_ne ne]; exact hy, DtAll.keepT (KeepT.upd hl) ay⟩
theorem listAt_app {K : PySem.W.Frag} {H : Hp} {l : Addr} {ds : List PyData} {xs : List V} {v : V} {d : PyData} (h : ListAt K H l ds) (hl : H l = some (.lst xs)) (hd : Dt K H v d) : ListAt K (upd H l (.lst (xs ++ [v]))) l (ds ++ [d]) := by
  obtain ⟨ys, hy, ay⟩ := h
  rw [hl] at hy
  obtain rfl := HO.lst.inj (Option.some.inj hy)
  exact ⟨_, upd_same, DtAll.app (DtAll.keepT (KeepT.upd hl) ay) (.cons (Dt.keepT (KeepT.upd hl) hd) .nil)⟩
theorem listAt_keep {K : PySem.W.Frag} {H H' : Hp} {l p : Addr} {ds : List PyData} (h : ListAt K H l ds) (e : Keep p H H') (ne : l ≠ p) (hp : ∃ xs, H p = some (.lst xs)) : ListAt K H' l ds := by
  obtain ⟨ys, hy, ay⟩ := h
  exact ⟨ys, e _ _ hy ne, DtAll.keepT (Keep.keepT e hp) ay⟩
theorem listAt_made {K : PySem.W.Frag} {H : Hp} {l : Addr} {xs : List V} {ds : List PyData} (hl : H l = none) (h : DtAll K H xs ds) : ListAt K (upd H l (.lst xs)) l ds := ⟨xs, upd_same, DtAll.mono (Same.new hl) h⟩
/-! how long the objects at the beginning are, shown -/
def shortS (n : Str) : Bool := decide (n.length ≤ 40) && n.cps.toList.all (fun c => decide (c < 16 ^ 8))
theorem Sm.short {n : Str} (h : shortS n = true) : Sm (.str n) 0 500 := by
  obtain ⟨h1, h2⟩ := Bool.and_eq_true_iff.mp h
  exact (Sm.str (of_decide_eq_true h1) (strOk n h2)).mono (by decide) (by decide)
theorem cls_short : ∀ n ∈ clsNames, shortS n = true := by decide +kernel
theorem built_short : ∀ n ∈ builtNames, shortS n = true := by decide +kernel
theorem Sm.nm {k n : Str} (hk : shortS k = true) (hn : shortS n = true) : Sm (nameVar k n) 3 4000 :=
  (Sm.tup (.cons (Sm.short hn) (.cons (Sm.tup (.cons (Sm.short hk) (.cons (Sm.short hn) .nil))) .nil))).mono (by decide) (by decide)
theorem Sm.cv {i : Nat} {n : Str} (hi : i < 1000) (hn : shortS n = true) : Sm (clsVar i n) 3 4000 :=
  (Sm.tup (.cons (Sm.short hn) (.cons (Sm.tup (.cons (Sm.short (n := "ref") (by decide +kernel)) (.cons (Sm.int (Nat.lt_of_lt_of_le (show ((i : Int) + 1).natAbs < 2 ^ 20 by omega) (Nat.pow_le_pow_right (by decide) (by decide)))) .nil))) .nil))).mono (by decide) (by decide)
theorem Sm.co {b : Int} {n : Str} (hb : b.natAbs < 1000) (hn : shortS n = true) : Sm (clsObj n b) 3 4000 :=
  (Sm.tup (.cons (Sm.short (n := "class") (by decide +kernel)) (.cons (Sm.short hn) (.cons (Sm.int (Nat.lt_of_lt_of_le (show b.natAbs < 2 ^ 20 by omega) (Nat.pow_le_pow_right (by decide) (by decide)))) (.cons (Sm.tup .nil) .nil))))).mono (by decide) (by decide)
theorem SmAll.mem {ds : List PyData} {dp n N m M : Nat} (h : SmAll ds dp n N) (h1 : n ≤ m) (h2 : N ≤ M) : SmAll ds dp m M := ⟨h.ok, h.dp, Nat.le_trans h.len h1, Nat.le_trans h.sz h2⟩
theorem sm_vars {hs : List Str} {L : Nat} (h : ∀ n ∈ hs, shortS n = true) (hl : hs.length ≤ L) : SmAll (startVars hs) 3 (29 + L) (4000 * (29 + L)) := by
  have h1 : ∀ d ∈ startVars hs, Sm d 3 4000 := fun d hd => by
    rcases List.mem_append.mp hd with hd | hd
    · rcases List.mem_append.mp hd with hd | hd
      · obtain ⟨i, hi, rfl⟩ := List.mem_mapIdx.mp hd
        exact Sm.cv (Nat.lt_trans hi (by decide)) (cls_short _ (List.getElem_mem hi))
      · obtain ⟨n, hn, rfl⟩ := List.mem_map.mp hd
        exact Sm.nm (by decide +kernel) (built_short n hn)
    · obtain ⟨n, hn, rfl⟩ := List.mem_map.mp hd
      exact Sm.nm (by decide +kernel) (h n hn)
  have hlen : (startVars hs).length = 29 + hs.length := by
    simp only [startVars, List.length_append, List.length_map]
    have : clsVars.length = 16 := by decide
    have : builtNames.length = 13 := by decide
    omega
  exact (SmAll.many h1).mem (by omega) (by omega)
theorem sm_start {hs : List Str} {L : Nat} (h : ∀ n ∈ hs, shortS n = true) (hl : hs.length ≤ L) : ∀ d ∈ startD hs, Sm d 5 (5000 * (30 + L)) := fun d hd => by
  rcases List.mem_cons.mp hd with rfl | hd
  · exact (Sm.tup (.cons (Sm.short (n := "scope") (by decide +kernel)) (.cons (Sm.tup (sm_vars h hl)) (.cons (Sm.tup .nil) (.cons (Sm.tup .nil) (.cons (Sm.int (by decide)) (.cons (Sm.bool false) .nil))))))).mono (by decide) (by omega)
  · have : ∃ n b, d = clsObj n b ∧ n ∈ clsNames ∧ b.natAbs < 1000 := by
      have key : ∀ q ∈ List.zip clsNames clsBases, q.1 ∈ clsNames ∧ q.2.natAbs < 1000 := by decide +kernel
      rw [← List.map_uncurry_zip_eq_zipWith] at hd
      obtain ⟨q, hq, rfl⟩ := List.mem_map.mp hd
      exact ⟨q.1, q.2, rfl, key q hq⟩
    obtain ⟨n, b, rfl, hn, hb⟩ := this
    exact (Sm.co hb (cls_short n hn)).mono (by decide) (by omega)
theorem start_cls {hs : List Str} {k : Nat} (h1 : 1 ≤ k) (h2 : k ≤ 16) : ∃ rest, (startD hs)[k]? = some (.tuple (.str "class" :: rest)) := by
  obtain ⟨j, rfl⟩ : ∃ j, k = j + 1 := ⟨k - 1, by omega⟩
  have l1 : clsNames.length = 16 := by decide
  have l2 : clsBases.length = 16 := by decide
  refine ⟨[.str clsNames[j]!, .int clsBases[j]!, .tuple []], ?_⟩
  have e1 : clsNames[j]? = some clsNames[j]! := by rw [List.getElem!_eq_getElem?_getD]; rw [List.getElem?_eq_getElem (by omega)]; rfl
  have e2 : clsBases[j]? = some clsBases[j]! := by rw [List.getElem!_eq_getElem?_getD]; rw [List.getElem?_eq_getElem (by omega)]; rfl
  show (List.zipWith clsObj clsNames clsBases)[j]? = _
  rw [List.getElem?_zipWith, e1, e2]
  rfl
end LK

set_option Elab.async false
set_option linter.all false
set_option maxRecDepth 100000
set_option maxHeartbeats 4000000
set_option exponentiation.threshold 3000
/-! tuple * 1; rows: texts or tuples at one place; the type of what is read as a tuple; data equal to itself. -/
namespace LK
open PySem PySem.Spec PyProof.Rows L2
theorem tuple_mul1 (l : Addr) (items : Array Value) (n : Nat) (dd : Option Addr) (sl : Array (Option Value)) (u : Tok) :
    Meets (Builtin.«tuple.__mul__» ⟨[.ref l, .int 1 u], []⟩) (fun _ R s => s.heap.get? l = some { cls := .type "tuple", dict := dd, data := .seq items n, slots := sl } ∧ R (.ok (.ret (Value.ref l))) s) :=
  .of_wp fun prog w A R s h => by
    obtain ⟨hp, g, d, tk, os⟩ := s
    obtain ⟨hl, h⟩ := h
    have f1 := AutoSeq1.idx_int
    have c0 : (decide ((1 : Int) < -(2 ^ 63)) || decide ((1 : Int) ≥ 2 ^ 63)) = false := by decide
    have c1 : (items.isEmpty || (1 : Int) == 1) = true := by simp
    wp_walk using wpAny_loadPart' hl
    exact ⟨_, rfl, h⟩
/-- a tuple times an int from 1 to 1000 -/
def rRepTA (K : PySem.W.Frag) : R2 := fun x y H Q => ∃ l k xs, x = .ref l ∧ y = .int k ∧ SqT K H l xs ∧ xs ≠ [] ∧ 1 ≤ k ∧ k ≤ 1000 ∧ xs.length ≤ 1000 ∧ (k = 1 → Q (.ref l) H) ∧ (k ≠ 1 → ∀ p, H p = none → Q (.ref p) (upd H p (.tup (List.replicate k.toNat xs).flatten)))
section
variable {X : Cx}
theorem op_repTA : OpR X (binaryOp .Mult) (rRepTA X.K) := by
  intro pins s σ H x y v u Q I rx ry h
  obtain ⟨l, k, xs, rfl, rfl, hT, hne, h1, h2, hz, q1, q2⟩ := h
  by_cases hk : k = 1
  · subst hk
    cases rx
    obtain ⟨t, rfl⟩ := ry
    obtain ⟨its, r, ⟨⟨cls, dd, data, sl⟩, ho, hc, n, hd⟩, hs⟩ := I.tuple hT
    simp only at hc hd
    subst hc hd
    refine wpAny_binaryOp_repeat_ref (T := "tuple") (U := "int") (by decide) ⟨_, ho, rfl⟩ (fun s' => typeIs_int s' 1 t) noFill_tuple_mul F.fills_int_mul F.slot_int_rmul repeat_tuple F.slot_int_index.lookup
      (call_meets F.slot_int_rmul (typeIs_int s 1 t) F.entry_int_rmul (F.args_int_rmul_2 _ _) (int_rmul_tuple 1 t l its.toArray n dd sl)
        ⟨ho, rfl, ⟨_, ho, rfl⟩, call_meets F.slot_tuple_mul ⟨_, ho, rfl⟩ F.entry_tuple_mul (F.args_tuple_mul_2 _ _) (tuple_mul1 l its.toArray n dd sl t) ⟨ho, ?_⟩⟩)
    exact ⟨.ref l, H, I, rfl, q1 rfl⟩
  · exact op_repT pins s σ H _ _ v u Q I rx ry ⟨l, k, xs, rfl, rfl, hT, hne, by omega, h2, hz, q2 hk⟩
end
theorem SqT.tyX {K : PySem.W.Frag} {H : Hp} {a : Addr} {xs : List V} (h : SqT K H a xs) : TyX K H (.ref a) (.type "tuple") := by
  rcases h with (h | ⟨o, h⟩) | ⟨o, its, n, e, c, _⟩
  · exact .base (.tup h)
  · exact .fTuple h
  · exact .kTuple e c
/-! ### data equal to itself -/
mutual
theorem eqv_self : ∀ {d : PyData}, d.canLay0 = true → PyData.eqv d d = true
  | .none, _ => by simp [PyData.eqv]
  | .bool _, _ => by simp [PyData.eqv]
  | .int _, _ => by simp [PyData.eqv]
  | .str _, _ => by simp [PyData.eqv]
  | .list xs, h => by rw [PyData.eqv]; exact eqvAll_self (by simpa [PyData.canLay0] using h)
  | .tuple xs, h => by rw [PyData.eqv]; exact eqvAll_self (by simpa [PyData.canLay0] using h)
  | .dict _, h => absurd h (by simp [PyData.canLay0])
theorem eqvAll_self : ∀ {xs : List PyData}, PyData.canLayAll0 xs = true → PyData.eqvAll xs xs = true
  | [], _ => by simp [PyData.eqvAll]
  | x :: xs, h => by
    rw [PyData.canLayAll0, Bool.and_eq_true] at h
    rw [PyData.eqvAll, eqv_self h.1, eqvAll_self h.2]; rfl
end
theorem canLayAll0_of {ds : List PyData} (h : ∀ d ∈ ds, d.canLay0 = true) : PyData.canLayAll0 ds = true := by
  induction ds with
  | nil => rfl
  | cons d ds ih => rw [PyData.canLayAll0, h d (by simp), ih fun e he => h e (List.mem_cons_of_mem _ he)]; rfl
theorem depthAll_of {ds : List PyData} {n : Nat} (h : ∀ d ∈ ds, d.depth ≤ n) : PyData.depthAll ds ≤ n := by
  induction ds with
  | nil => exact Nat.zero_le _
  | cons d ds ih => rw [PyData.depthAll]; exact Nat.max_le.mpr ⟨h d (by simp), ih fun e he => h e (List.mem_cons_of_mem _ he)⟩
/-! ### rows: a text, or a tuple of small ints -/
def Item (d : PyData) : Prop := ∃ i : Int, d = .tuple [.str "int", .int i] ∧ 0 ≤ i ∧ i < 11
def Low (z : Str) : Prop := ∀ c ∈ z.cps.toList, c < 128
inductive Row : Bool → PyData → Nat → Prop
  | txt {z : Str} {n : Nat} : z.length = n → Low z → Row true (.str z) n
  | tup {ds : List PyData} {n : Nat} : ds.length = n → (∀ d ∈ ds, Item d) → Row false (.tuple ds) n
def catD : PyData → PyData → PyData
  | .str a, .str b => .str (a ++ b)
  | .tuple a, .tuple b => .tuple (a ++ b)
  | a, _ => a
def repD (d : PyData) (k : Int) : PyData := match d with
  | .str a => .str (repS a k)
  | .tuple a => .tuple (List.replicate k.toNat a).flatten
  | a => a
def noneD : PyData → PyData
  | .str a => .str (cutS a none (some 0))
  | .tuple _ => .tuple []
  | a => a
theorem len_app (a b : Str) : (a ++ b).length = a.length + b.length := strLen_append a b
theorem len_rep (z : Str) (k : Int) : (repS z k).length = z.length * k.toNat := by
  show (repC z.cps.toList k).toArray.size = _
  rw [List.size_toArray, repC_length, Nat.mul_comm]
  simp [Str.length]
theorem Low.app {a b : Str} (h : Low a) (g : Low b) : Low (a ++ b) := by
  intro c hc
  have e : (a ++ b).cps.toList = a.cps.toList ++ b.cps.toList := by
    show (a.cps ++ b.cps).toList = _
    simp
  rw [e] at hc
  rcases List.mem_append.mp hc with hc | hc
  · exact h c hc
  · exact g c hc
theorem Low.rep {a : Str} (h : Low a) (k : Int) : Low (repS a k) := by
  intro c hc
  have hc : c ∈ (List.replicate k.toNat a.cps.toList).flatten := by simpa [repS, repC] using hc
  obtain ⟨l, hl, hcl⟩ := List.mem_flatten.mp hc
  exact h c (List.eq_of_mem_replicate hl ▸ hcl)
theorem Low.cut {a : Str} (h : Low a) (lo hi : Option Int) : Low (cutS a lo hi) := by
  intro c hc
  have hc : c ∈ (a.cps.toList.drop (HT.sIx a.length 0 lo)).take (HT.sIx a.length a.length hi - HT.sIx a.length 0 lo) := hc
  exact h c (List.mem_of_mem_drop (List.mem_of_mem_take hc))
theorem cut_to (a : Str) (m : Nat) : (cutS a none (some (m : Int))).length ≤ m := by
  show ((a.cps.toList.drop (HT.sIx a.length 0 none)).take (HT.sIx a.length a.length (some (m : Int)) - HT.sIx a.length 0 none)).toArray.size ≤ m
  rw [List.size_toArray, List.length_take, HT.sIx_nat]
  omega
theorem Row.cat {t : Bool} {a b : PyData} {n m : Nat} (h : Row t a n) (g : Row t b m) : Row t (catD a b) (n + m) := by
  cases h with
  | txt e l =>
    cases g with
    | txt e2 l2 => exact .txt (by rw [len_app, e, e2]) (l.app l2)
  | tup e l =>
    cases g with
    | tup e2 l2 => exact .tup (by rw [List.length_append, e, e2]) fun d hd => (List.mem_append.mp hd).elim (l d) (l2 d)
theorem Row.rep {t : Bool} {a : PyData} {n : Nat} (h : Row t a n) (k : Int) : Row t (repD a k) (n * k.toNat) := by
  cases h with
  | txt e l => exact .txt (by rw [len_rep, e]) (l.rep k)
  | tup e l =>
    refine .tup (by rw [PyProof.Rows.lm_len_rep_flat, e, Nat.mul_comm]) fun d hd => ?_
    obtain ⟨x, hx, hdx⟩ := List.mem_flatten.mp hd
    exact l d (List.eq_of_mem_replicate hx ▸ hdx)
theorem Row.none {t : Bool} {a : PyData} {n : Nat} (h : Row t a n) : Row t (noneD a) 0 := by
  cases h with
  | @txt z _ e l => exact .txt (Nat.le_zero.mp (cut_to z 0)) (l.cut _ _)
  | tup e l => exact .tup rfl fun d hd => by cases hd
theorem Item.sm {d : PyData} (h : Item d) : Sm d 1 3000 := by
  obtain ⟨i, rfl, h0, h1⟩ := h
  exact (Sm.tup (.cons (Sm.short (n := "int") (by decide +kernel)) (.cons (Sm.int (Nat.lt_of_lt_of_le (show i.natAbs < 2 ^ 20 by omega) (Nat.pow_le_pow_right (by decide) (by decide)))) .nil))).mono (by decide) (by decide)
theorem Row.sm {t : Bool} {d : PyData} {n : Nat} (h : Row t d n) (hn : n ≤ 1000) : Sm d 2 3100000 := by
  cases h with
  | txt e l => exact (Sm.str (n := 1000) (by omega) fun c hc => Nat.lt_of_lt_of_le (l c hc) (by decide)).mono (by decide) (by decide)
  | tup e l => exact (Sm.tup ((SmAll.many fun d hd => (l d hd).sm).mem (m := 1000) (M := 3000000) (by omega) (by omega))).mono (by decide) (by decide)
theorem Row.lay {t : Bool} {d : PyData} {n : Nat} (h : Row t d n) : d.canLay0 = true := by
  cases h with
  | @txt z _ e l =>
    rw [PyData.canLay0]
    exact Array.all_eq_true_iff_forall_mem.mpr fun c hc => by
      have := l c (Array.mem_toList_iff.mpr hc)
      exact decide_eq_true (by omega)
  | tup e l =>
    rw [PyData.canLay0]
    exact canLayAll0_of fun d hd => by obtain ⟨i, rfl, _⟩ := l d hd; simp only [PyData.canLay0, PyData.canLayAll0, Bool.and_true]; decide +kernel
section
variable {X : Cx}
/-- a + b, two rows -/
def rCatD (K : PySem.W.Frag) : R2 := fun x y H Q => ∃ (t : Bool) (a b : PyData) (n m : Nat), Row t a n ∧ Row t b m ∧ Dt K H x a ∧ Dt K H y b ∧ n + m ≤ 2000 ∧ ∀ v H', Same H H' → Dt K H' v (catD a b) → Q v H'
theorem op_catD : OpR X (binaryOp .Add) (rCatD X.K) := by
  intro pins s σ H x y v u Q I rx ry h
  obtain ⟨t, a, b, n, m, ha, hb, da, db, hz, q⟩ := h
  cases ha with
  | txt e l =>
    cases hb with
    | txt e2 l2 =>
      cases da.str_inv; cases db.str_inv
      exact op_add_str pins s σ H _ _ v u Q I rx ry ⟨_, _, rfl, rfl, by rw [e, e2]; exact Nat.le_trans hz (by decide), q _ _ (Same.refl _) (.str _)⟩
  | @tup ds _ e l =>
    cases hb with
    | @tup es _ e2 l2 =>
      obtain ⟨p, xs, rfl, hs, ax⟩ := da.tuple_inv
      obtain ⟨p2, ys, rfl, hs2, ay⟩ := db.tuple_inv
      have lx := ax.length
      have ly := ay.length
      refine op_catA pins s σ H _ _ v u Q I rx ry ⟨p, p2, xs, ys, rfl, rfl, hs, hs2, by rw [lx, ly, e, e2]; exact Nat.le_trans hz (by decide), fun h0 => ?_, fun _ h0 => ?_, fun _ _ z hz => ?_⟩
      · subst h0
        have : ds = [] := List.eq_nil_of_length_eq_zero (by rw [← lx]; rfl)
        subst this
        exact q _ _ (Same.refl _) db
      · subst h0
        have : es = [] := List.eq_nil_of_length_eq_zero (by rw [← ly]; rfl)
        subst this
        refine q _ _ (Same.refl _) ?_
        show Dt X.K H (.ref p) (.tuple (ds ++ []))
        rw [List.append_nil]; exact da
      · exact q _ _ (Same.new hz) (Dt.made hz (DtAll.app ax ay))
/-- a * k, a row and an int -/
def rRepD (K : PySem.W.Frag) : R2 := fun x y H Q => ∃ (t : Bool) (a : PyData) (n : Nat) (k : Int), Row t a n ∧ Dt K H x a ∧ y = .int k ∧ 1 ≤ n ∧ 1 ≤ k ∧ n * k ≤ 1000 ∧ ∀ v H', Same H H' → Dt K H' v (repD a k) → Q v H'
theorem dtRep {K : PySem.W.Frag} {H : Hp} {xs : List V} {ds : List PyData} (h : DtAll K H xs ds) : ∀ m : Nat, DtAll K H (List.replicate m xs).flatten (List.replicate m ds).flatten
  | 0 => .nil
  | m + 1 => by
    rw [List.replicate_succ, List.flatten_cons, List.replicate_succ, List.flatten_cons]
    exact DtAll.app h (dtRep h m)
theorem op_repD : OpR X (binaryOp .Mult) (rRepD X.K) := by
  intro pins s σ H x y v u Q I rx ry h
  obtain ⟨t, a, n, k, ha, da, rfl, hn, hk, hz, q⟩ := h
  have k1 : k ≤ 1000 := by
    have : 1 * k ≤ n * k := Int.mul_le_mul_of_nonneg_right (by omega) (by omega)
    omega
  have n1 : n ≤ 1000 := by
    have : (n : Int) * 1 ≤ n * k := Int.mul_le_mul_of_nonneg_left hk (by omega)
    omega
  cases ha with
  | txt e l =>
    cases da.str_inv
    refine op_rep_str pins s σ H _ _ v u Q I rx ry ⟨_, k, rfl, rfl, by omega, by omega, ?_, q _ _ (Same.refl _) (.str _)⟩
    rw [e]
    exact Nat.le_trans (Nat.mul_le_mul n1 (show k.toNat ≤ 1000 by omega)) (by decide)
  | @tup ds _ e l =>
    obtain ⟨p, xs, rfl, hs, ax⟩ := da.tuple_inv
    have lx := ax.length
    refine op_repTA pins s σ H _ _ v u Q I rx ry ⟨p, k, xs, rfl, rfl, hs, fun z => ?_, hk, k1, by omega, fun h1 => ?_, fun h1 z hz => ?_⟩
    · subst z
      rw [List.length_nil] at lx
      omega
    · subst h1
      refine q _ _ (Same.refl _) ?_
      show Dt X.K H (.ref p) (.tuple (List.replicate 1 ds).flatten)
      rw [show (List.replicate 1 ds).flatten = ds by simp]
      exact da
    · exact q _ _ (Same.new hz) (Dt.made hz (dtRep ax _))
/-- a[:0], a row -/
def rNoneD (K : PySem.W.Frag) : V → Option Int → Option Int → Hp → VK → Prop := fun x lo hi H Q => ∃ (t : Bool) (a : PyData) (n : Nat), Row t a n ∧ Dt K H x a ∧ n ≤ 2000 ∧ lo = none ∧ hi = some 0 ∧ ∀ v H', Same H H' → Dt K H' v (noneD a) → Q v H'
theorem sl_noneD : SlR X (rNoneD X.K) := by
  intro pins s σ H x v vl vu lo hi sl Q I rx hs pl pu h
  obtain ⟨t, a, n, ha, da, hn, rfl, rfl, q⟩ := h
  cases ha with
  | txt e l =>
    cases da.str_inv
    exact sl_str pins s σ H _ v vl vu _ _ sl Q I rx hs pl pu ⟨_, rfl, by rw [e]; exact Nat.le_trans hn (by decide), q _ _ (Same.refl _) (.str _)⟩
  | @tup ds _ e l =>
    obtain ⟨p, xs, rfl, hq, ax⟩ := da.tuple_inv
    have lx := ax.length
    refine sl_tupA pins s σ H _ v vl vu _ _ sl Q I rx hs pl pu ⟨p, xs, rfl, hq, fun hw => ?_, fun _ z hz => ?_⟩
    · have h0 : ds.length = 0 := by
        have := hw.2
        rw [show (some (0 : Int)) = some ((0 : Nat) : Int) from rfl, HT.sIx_nat] at this
        omega
      have := List.eq_nil_of_length_eq_zero h0
      subst this
      exact q _ _ (Same.refl _) da
    · refine q _ _ (Same.new hz) (Dt.made hz ?_)
      have : cutV xs none (some 0) = [] := by
        apply List.eq_nil_of_length_eq_zero
        unfold cutV
        rw [List.length_take, show (some (0 : Int)) = some ((0 : Nat) : Int) from rfl, HT.sIx_nat]
        omega
      rw [this]
      exact .nil
/-- len(a), a row -/
def rLenD (K : PySem.W.Frag) : List V → Hp → VK → Prop := fun vs H Q => ∃ (v : V) (t : Bool) (a : PyData) (n : Nat), vs = [v] ∧ Row t a n ∧ Dt K H v a ∧ n ≤ 2000 ∧ Q (.int (n : Int)) H
theorem call_lenD' : CallR X (.builtin "len") (rLenD X.K) := by
  intro pins s σ H xs us Q I r h
  obtain ⟨v, t, a, n, rfl, ha, da, hn, q⟩ := h
  cases ha with
  | txt e l =>
    cases da.str_inv
    exact call_len pins s σ H _ us Q I r ⟨_, n, rfl, ⟨by rw [e]; exact Nat.le_trans hn (by decide), e.symm⟩, q⟩
  | @tup ds _ e l =>
    obtain ⟨p, ys, rfl, hq, ax⟩ := da.tuple_inv
    exact call_len pins s σ H _ us Q I r ⟨_, n, rfl, .inr ⟨_, hq, by rw [ax.length, e]⟩, q⟩
end
end LK

set_option Elab.async false
set_option linter.all false
set_option maxRecDepth 100000
set_option maxHeartbeats 4000000
set_option exponentiation.threshold 3000
/-! Letters, digits, underscores; texts of the top. -/
namespace LK
open PySem PySem.Spec PyProof.Rows L2 SX
def isD (c : Nat) : Bool := decide (48 ≤ c) && decide (c ≤ 57)
def isL (c : Nat) : Bool := (decide (65 ≤ c) && decide (c ≤ 90)) || (decide (97 ≤ c) && decide (c ≤ 122)) || c == 95
def isW (c : Nat) : Bool := isD c || isL c
theorem isW_lt {c : Nat} (h : isW c = true) : c < 128 := by
  simp [isW, isD, isL] at h; omega
theorem uni_alpha : ∀ c < 128, Unicode.isAlpha c = (isL c && c != 95) := by decide +kernel
theorem uni_digit : ∀ c < 128, Unicode.isDigit c = isD c := by decide +kernel
theorem uni_alnum : ∀ c < 128, Unicode.isAlnum c = (isW c && c != 95) := by decide +kernel
theorem alpha1 {c : Nat} (h : c < 128) : Txt.isalpha (S [c]) = (isL c && c != 95) := by
  show (decide ((S [c]).length > 0) && (S [c]).cps.all Unicode.isAlpha) = _
  rw [S_len]; simp [S, uni_alpha c h]
theorem digit1 {c : Nat} (h : c < 128) : Txt.isdigit (S [c]) = isD c := by
  show (decide ((S [c]).length > 0) && (S [c]).cps.all Unicode.isDigit) = _
  rw [S_len]; simp [S, uni_digit c h]
theorem alnum1 {c : Nat} (h : c < 128) : Txt.isalnum (S [c]) = (isW c && c != 95) := by
  show (decide ((S [c]).length > 0) && (S [c]).cps.all Unicode.isAlnum) = _
  rw [S_len]; simp [S, uni_alnum c h]
theorem digitS {a : List Nat} (h : ∀ c ∈ a, c < 128) (hne : a ≠ []) : Txt.isdigit (S a) = a.all isD := by
  show (decide ((S a).length > 0) && (S a).cps.all Unicode.isDigit) = _
  have : 0 < a.length := List.length_pos_iff.mpr hne
  rw [S_len, decide_eq_true this, Bool.true_and]
  show a.toArray.all Unicode.isDigit = _
  rw [List.all_toArray]
  apply Bool.eq_iff_iff.mpr
  rw [List.all_eq_true, List.all_eq_true]
  exact ⟨fun g c hc => uni_digit c (h c hc) ▸ g c hc, fun g c hc => (uni_digit c (h c hc)).symm ▸ g c hc⟩
/-! texts of the top -/
def GStr (mg : Str → Option Value) (x : Str) (z : Str) : Prop := ∃ t, mg x = some (.str z t)
def HasStr (K : PySem.W.Frag) (x : Str) (p : Str → Prop) : Prop := ∃ (z : Str) (t : Tok), PySem.W.nsIn K mainGlobals x = some (some (.str z t)) ∧ p z
theorem HasStr.mk' {K : PySem.W.Frag} {x : Str} {p : Str → Prop} {z : Str} {t : Tok} (a : PySem.W.nsIn K mainGlobals x = some (some (.str z t))) (b : p z) : HasStr K x p := ⟨z, t, a, b⟩
theorem HasStr.g {K : PySem.W.Frag} {mg : Str → Option Value} {h : Heap} {x : Str} {p : Str → Prop} (i : HasStr K x p) (X : K.In h) (G : h.Ns mainGlobals mg) : ∃ z, GStr mg x z ∧ p z := by
  obtain ⟨z, t, e, hp⟩ := i
  exact ⟨z, ⟨t, PySem.W.mg_of X G e⟩, hp⟩
theorem pe_globS {X : Cx} {x z : Str} {pos : Pos} (h : GStr X.mg x z) (hg : Gl X x) (hd : (x == ("__debug__" : Str)) = false := by decide) : PE X (.Name x pos) (tC (.str z)) := by
  obtain ⟨t, e⟩ := h
  exact pe_glob hg e ⟨t, rfl⟩ hd
theorem split1 {a : List Nat} {c : Nat} (h : c ∉ a) (hc : c < 256) : Txt.split (S a) (S [c]) = [S a] := by
  rw [split_S (by simp) (by simpa using hc)]
  have := SX.spl_join (c := c) (sep := []) (parts := [a]) (by simp) (by simpa using h)
  have e : TL.joinL [c] [a] = a := by simp [TL.joinL]
  rw [e] at this
  rw [this]; rfl
theorem lstrip1 {a : List Nat} {b : List Nat} (h : ∀ c, a.head? = some c → c ∉ b) : Txt.lstripChars (S a) (S b) = S a := by
  have e1 : (S a).cps.toList.takeWhile (S b).cps.contains = [] := tw0 a fun c hc => by
    have := h c hc
    show b.toArray.contains c = false
    rw [List.contains_toArray]
    simpa using this
  have e0 : stripLo (S b).cps.contains true (S a) = 0 := by
    unfold stripLo
    rw [if_pos rfl, e1] <;> rfl
  have e3 : stripHi (S b).cps.contains false (S a) 0 = (S a).length := by
    unfold stripHi
    rw [if_neg Bool.false_ne_true]
  unfold Txt.lstripChars Txt.stripBy stripSame
  rw [e0, e3]
  exact if_pos (by simp)
/-! while, its test's reading made monotone -/
def tUp (c : TT) : TT := fun σ H Q => ∃ P : Bool → Hp → Prop, c σ H P ∧ ∀ b H1, P b H1 → Q b H1
theorem pt_up {X : Cx} {e : Expr} {c : TT} (h : PT X e c) : PT X e (tUp c) :=
  ⟨fun pins s σ H Q I ⟨P, hP, k⟩ => thn (h.run pins s σ H P I hP) fun b s1 ⟨H1, I1, q⟩ => ⟨H1, I1, k _ _ q⟩⟩
theorem while_up {c : TT} {tb : TS} {D : Ends} {σ : L2.St} {H : Hp} (Pv : L2.St → Hp → Prop) (μ : L2.St → Hp → Nat) (h0 : Pv σ H)
    (hs : ∀ σ H, Pv σ H → c σ H fun b H1 => if b = true then tb { D with nx := fun σ' H' => Pv σ' H' ∧ μ σ' H' < μ σ H, ct := fun σ' H' => Pv σ' H' ∧ μ σ' H' < μ σ H, bk := D.nx } σ H1 else D.nx σ H1) : tWhile (tUp c) tb D σ H :=
  while_by Pv μ h0 (fun σ H p => ⟨_, hs σ H p, fun _ _ h => h⟩) (fun σ H Q Q' hq ⟨P, hP, k⟩ => ⟨P, hP, fun b H1 h => hq b H1 (k b H1 h)⟩)
theorem nl_S : ("\n" : Str) = S [10] := by decide +kernel
theorem us_S : ("_" : Str) = S [95] := by decide +kernel
theorem sp_S : (" " : Str) = S [32] := by decide +kernel
theorem hash_S : ("#" : Str) = S [35] := by decide +kernel
theorem sign_eq {c d : Nat} : decide (V.str ⟨#[c]⟩ = V.str (S [d])) = decide (c = d) := by
  by_cases h : c = d
  · subst h; rw [decide_eq_true rfl, decide_eq_true rfl]
  · rw [decide_eq_false h, decide_eq_false]
    intro e
    have := S_inj (a := [c]) (b := [d]) (V.str.inj e)
    exact h (by simpa using this)
theorem str_eq {a b : List Nat} : decide (V.str (S a) = V.str (S b)) = decide (a = b) := by
  by_cases h : a = b
  · subst h; rw [decide_eq_true rfl, decide_eq_true rfl]
  · rw [decide_eq_false h, decide_eq_false]
    intro e
    exact h (S_inj (V.str.inj e))
theorem starts1 {c d : Nat} {r : List Nat} : Txt.startswith (S (c :: r)) (S [d]) = decide (c = d) := by
  show (decide (0 + (S [d]).length ≤ (S (c :: r)).length) && ((c :: r).toArray.extract 0 (0 + (S [d]).length) == [d].toArray)) = _
  rw [S_len, S_len]
  have e : (c :: r).toArray.extract 0 (0 + [d].length) = #[c] := by simp
  rw [e]
  by_cases h : c = d
  · subst h; simp
  · simp [h]
theorem at_S {a : List Nat} {j c : Nat} (h : a[j]? = some c) : atI (S a).cps.toList (j : Int) = some c := atI_nat h
theorem cut_all {a : List Nat} : cutS (S a) (some 0) (some ((a.length : Nat) : Int)) = S a := by
  unfold cutS
  rw [S_len, show (some (0 : Int)) = some ((0 : Nat) : Int) from rfl, HT.sIx_nat, HT.sIx_nat]
  show (⟨((a.drop (min 0 a.length)).take (min a.length a.length - min 0 a.length)).toArray⟩ : Str) = ⟨a.toArray⟩
  rw [Nat.zero_min, List.drop_zero, Nat.min_self, Nat.sub_zero, List.take_length]
/-! a promise at a higher level -/
theorem FnG.mono {P : Program} {w : World} {K : PySem.W.Frag} {mg : Str → Option Value} {base : Heap} {CX : CXT} {j k : Nat} {f : Addr} {fd : FuncData} {ps : List Str} {sp : Sp} (F : FnG P w K mg base CX j f fd ps sp) (h : j ≤ k) : FnG P w K mg base CX k f fd ps sp :=
  ⟨F.len, fun A outer s H args us vs Q E hr => F.run A outer s H args us vs Q E (hr.mono h)⟩
theorem Use.mono {P : Program} {w : World} {K : PySem.W.Frag} {mg : Str → Option Value} {base : Heap} {CX : CXT} {x : Str} {j k : Nat} {ps : List Str} {sp : Sp} (U : Use P w K mg base CX x j ps sp) (h : j ≤ k) : Use P w K mg base CX x k ps sp := by
  obtain ⟨f, fd, ok, r⟩ := U.ex
  exact ⟨f, fd, ok.mono h, r⟩
/-! the signs that a program may hold -/
def okC (c : Nat) : Bool := c == 10 || (decide (32 ≤ c) && decide (c ≤ 126) && c != 37)
theorem okC_lt {c : Nat} (h : okC c = true) : c < 128 := by
  simp [okC] at h; omega
theorem lstrip_sp (a : List Nat) : Txt.lstripChars (S a) (S [32]) = S (a.dropWhile (· == 32)) := by
  have e1 : (S a).cps.toList.takeWhile (S [32]).cps.contains = a.takeWhile (· == 32) := by
    show a.takeWhile _ = _
    congr 1
    funext c
    show #[32].contains c = _
    simp [Array.contains, BEq.comm]
  have el : (a.takeWhile (· == 32)).length ≤ a.length := (List.takeWhile_prefix _).length_le
  have ed : a.drop (a.takeWhile (· == 32)).length = a.dropWhile (· == 32) := by
    have h := List.takeWhile_append_dropWhile (p := (· == 32)) (l := a)
    have : (a.takeWhile (· == 32) ++ a.dropWhile (· == 32)).drop (a.takeWhile (· == 32)).length = a.dropWhile (· == 32) := List.drop_left
    rwa [h] at this
  have e0 : stripLo (S [32]).cps.contains true (S a) = (a.takeWhile (· == 32)).length := by
    unfold stripLo
    rw [if_pos rfl, e1] <;> rfl
  have e3 : stripHi (S [32]).cps.contains false (S a) (a.takeWhile (· == 32)).length = (S a).length := by
    unfold stripHi
    rw [if_neg Bool.false_ne_true]
  unfold Txt.lstripChars Txt.stripBy stripSame stripped
  rw [e0, e3]
  split
  · rename_i h
    simp at h
    have : (a.takeWhile (· == 32)).length = 0 := by simpa using h
    rw [this, List.drop_zero] at ed
    rw [← ed]
  · show (⟨a.toArray.extract (a.takeWhile (· == 32)).length (S a).length⟩ : Str) = _
    rw [S_len, ← ed]
    congr 1
    apply Array.toList_inj.mp
    simp only [Array.toList_extract, List.extract_eq_drop_take]
    exact List.take_of_length_le (by rw [List.length_drop]; omega)
/-- z[i:j] by codes -/
theorem cut_S {a : List Nat} {i j : Nat} (hi : i ≤ a.length) (hj : j ≤ a.length) : cutS (S a) (some ((i : Nat) : Int)) (some ((j : Nat) : Int)) = S ((a.drop i).take (j - i)) := by
  unfold cutS
  rw [S_len, HT.sIx_nat, HT.sIx_nat, Nat.min_eq_left hi, Nat.min_eq_left hj]
/-- a line: so many spaces, and perhaps a word -/
def lnT (s : Nat) (w : List Nat) : List Nat := List.replicate s 32 ++ w
theorem lnT_len (s : Nat) (w : List Nat) : (lnT s w).length = s + w.length := by simp [lnT]
theorem lnT_sp {s : Nat} {w : List Nat} {i : Nat} (h : i < s) : (lnT s w)[i]? = some 32 := by
  unfold lnT
  rw [List.getElem?_append_left (by simpa using h), List.getElem?_replicate, if_pos h]
theorem lnT_w {s : Nat} {w : List Nat} {i : Nat} : (lnT s w)[s + i]? = w[i]? := by
  unfold lnT
  rw [List.getElem?_append_right (by simp), List.length_replicate, Nat.add_sub_cancel_left]
theorem lnT_drop (s : Nat) (w : List Nat) : (lnT s w).drop s = w := by
  unfold lnT
  rw [List.drop_append_of_le_length (by simp)]
  simp
/-- a while by an invariant that carries its measure -/
theorem while_upN {c : TT} {tb : TS} {D : Ends} {σ : L2.St} {H : Hp} (W : Nat → L2.St → Hp → Prop) (h0 : ∃ m, W m σ H)
    (hs : ∀ m σ H, W m σ H → c σ H fun b H1 => if b = true then tb { D with nx := fun σ' H' => ∃ m', m' < m ∧ W m' σ' H', ct := fun σ' H' => ∃ m', m' < m ∧ W m' σ' H', bk := D.nx } σ H1 else D.nx σ H1) : tWhile (tUp c) tb D σ H := by
  refine ⟨W, h0, fun m σ H w => ⟨_, hs m σ H w, fun b H1 h => ?_⟩⟩
  cases b with
  | false => exact h
  | true => exact ⟨_, fun σ' H' q => q, h⟩
end LK

set_option Elab.async false
set_option linter.all false
set_option maxRecDepth 100000
set_option maxHeartbeats 4000000
set_option exponentiation.threshold 3000
/-! What several laws share: boxes and lists beside changes of other objects. -/
namespace LK
open PySem PySem.Spec PyProof.Rows L2
section
variable {K : PySem.W.Frag}
theorem BoxAt.ne_new {H : Hp} {p dl b : Addr} (B : BoxAt H p dl) (h : H b = none) : b ≠ p ∧ b ≠ dl := by
  obtain ⟨xs, g⟩ := B.at_
  obtain ⟨ys, g2⟩ := B.dg
  exact ⟨fun e => (by subst e; rw [h] at g; cases g), fun e => (by subst e; rw [h] at g2; cases g2)⟩
theorem BoxAt.kp {H H' : Hp} {p dl : Addr} (B : BoxAt H p dl) (h : ∀ b o, b = p ∨ b = dl → H b = some o → H' b = some o) : BoxAt H' p dl := by
  obtain ⟨ds, k, a, b, c, d⟩ := B
  exact ⟨ds, k, h _ _ (.inl rfl) a, b, h _ _ (.inr rfl) c, d⟩
theorem BoxAt.keep' {H H' : Hp} {p dl l : Addr} (B : BoxAt H p dl) (k : Keep l H H') (h1 : l ≠ p) (h2 : l ≠ dl) : BoxAt H' p dl :=
  B.kp fun b o hb e => k b o e (by
    rcases hb with rfl | rfl
    · exact Ne.symm h1
    · exact Ne.symm h2)
theorem BoxAt.keep2 {H H' : Hp} {p dl l m : Addr} (B : BoxAt H p dl) (k : ∀ b o, H b = some o → b ≠ l → b ≠ m → H' b = some o) (h1 : l ≠ p) (h2 : l ≠ dl) (h3 : m ≠ p) (h4 : m ≠ dl) : BoxAt H' p dl :=
  B.kp fun b o hb e => by
    rcases hb with rfl | rfl
    · exact k _ _ e (Ne.symm h1) (Ne.symm h3)
    · exact k _ _ e (Ne.symm h2) (Ne.symm h4)
theorem KeepT.ins {p C dx : Addr} {H : Hp} {o : HO} {fs : List (Str × V)} (hp : H p = some (.ins C dx fs)) : KeepT K H (L2.upd H p o) := fun a xs h => by
  rcases h with (h | ⟨o', h⟩) | h
  · exact .inl (.inl (by rw [upd_ne (ne_of h hp (by intro z; cases z))]; exact h))
  · exact .inl (.inr ⟨o', by rw [upd_ne (ne_of h hp (by intro z; cases z))]; exact h⟩)
  · exact .inr h
theorem listAt_ins {p C dx l : Addr} {H : Hp} {o : HO} {fs : List (Str × V)} {ds : List PyData} (h : ListAt K H l ds) (hp : H p = some (.ins C dx fs)) : ListAt K (upd H p o) l ds := by
  obtain ⟨xs, e, a⟩ := h
  exact ⟨xs, by rw [upd_ne (ne_of e hp (by intro z; cases z))]; exact e, DtAll.keepT (KeepT.ins hp) a⟩
theorem Low.zero : Low "" := fun c hc => by
  have e : ("" : Str).cps.toList = [] := by decide +kernel
  rw [e] at hc; cases hc
theorem DtAll.take {H : Hp} : ∀ (n : Nat) {vs : List V} {ds : List PyData}, DtAll K H vs ds → DtAll K H (vs.take n) (ds.take n)
  | 0, _, _, _ => .nil
  | _ + 1, _, _, .nil => .nil
  | n + 1, _, _, .cons h a => .cons h (DtAll.take n a)
theorem len_start0 : (startD []).length = 17 := by decide
theorem sm_start0 : ∀ d ∈ startD [], Sm d 5 150000 := fun d hd => sm_start (hs := []) (L := 0) (by simp) (by simp) d hd
theorem sm_heap {ds : List PyData} (h : ds.length ≤ 30) (sm : ∀ d ∈ ds, Sm d 5 150000) : ShowOk (.list ds) := (Sm.lst ((SmAll.many sm).mem (m := 30) (M := 4500000) h (by omega))).show (by decide) (by decide)
theorem ListAt.dp {H : Hp} {l : Addr} {ds : List PyData} (h : ListAt K H l ds) : Dp K H (.ref l) (.list ds) := let ⟨_, e, a⟩ := h; .lst (SqL.of e) a.dp
end
theorem FnG.or {P : Program} {w : World} {K : PySem.W.Frag} {mg : Str → Option Value} {base : Heap} {CX : CXT} {k : Nat} {f : Addr} {fd : FuncData} {ps : List Str} {sp sp' : Sp} (A : FnG P w K mg base CX k f fd ps sp) (B : FnG P w K mg base CX k f fd ps sp') :
    FnG P w K mg base CX k f fd ps (fun vs H Q E => sp vs H Q E ∨ sp' vs H Q E) where
  len := fun vs H Q E h => h.elim (A.len vs H Q E) (B.len vs H Q E)
  run := fun A' outer s H args us vs Q E hr hg he hb hv h => h.elim (A.run A' outer s H args us vs Q E hr hg he hb hv) (B.run A' outer s H args us vs Q E hr hg he hb hv)
/-- start_heap of a list of names -/
def spStartL (K : PySem.W.Frag) : Sp := fun vs H Q _ => ∃ (t : Addr) (hs : List Str), vs = [.ref t] ∧ SqL K H t (hs.map V.str) ∧ hs.length ≤ 1000 ∧
  ∀ (p : Addr) (H' : Hp), H p = none → Same H H' → ListAt K H' p (startD hs) → Q (.ref p) H'
def spStart2 (K : PySem.W.Frag) : Sp := fun vs H Q E => spStart K vs H Q E ∨ spStartL K vs H Q E
theorem ip_fdiv {X : Cx} : PIp X .FloorDiv (rI CDiv fun i j => .int (i / j)) := fun pins s σ H x y v u Q I r1 r2 h => iop_fdiv pins s σ H x y v u Q I r1 r2 h
theorem none_back0 {p np : Addr} {H H' : Hp} (K1 : Keep p H H') (B : ∃ xs, H' p = some (.lst xs)) (h : H' np = none) : H np = none := by
  cases e : H np with
  | none => rfl
  | some o =>
    by_cases ep : np = p
    · subst ep
      obtain ⟨xs, g⟩ := B
      rw [g] at h; cases h
    · rw [K1 _ _ e ep] at h; cases h
end LK

set_option Elab.async false
set_option linter.all false
set_option maxRecDepth 100000
set_option maxHeartbeats 4000000
/-! dicts of the top: what a literal dict of the program gives, read where it stands. -/
namespace LK
open PySem PySem.Spec PyProof.Rows L2
/-- at a lies a dict of the top with these entries -/
def KDct (P : Program) (w : World) (K : PySem.W.Frag) (a : Addr) (kvs : List (Key × V)) : Prop := (a == sysModules) = false ∧ ∃ vs, KV kvs vs ∧ ∀ h : Heap, K.In h → h.DictOf (mixKind P w) a vs
def tDGetK (P : Program) (w : World) (K : PySem.W.Frag) (td ty : TE) : TE := fun σ H Q => td σ H fun x H1 => ty σ H1 fun y H2 => ∃ a kvs k v, x = .ref a ∧ KDct P w K a kvs ∧ y = kV k ∧ valV kvs k = some v ∧ Q v H2
def tDInK (P : Program) (w : World) (K : PySem.W.Frag) (ty td : TE) : TE := fun σ H Q => ty σ H fun y H1 => td σ H1 fun x H2 => ∃ a kvs k, x = .ref a ∧ KDct P w K a kvs ∧ y = kV k ∧ Q (.bl (valV kvs k).isSome) H2
section
variable {X : Cx} {o i : Expr} {pos : Pos} {td ty : TE}
theorem pe_dgetK (ho : PE X o td) (hi : PE X i ty) (hs : NoSl i) : PE X (.Subscript o i pos) (tDGetK X.prog X.w X.K td ty) := by
  refine ⟨fun pins s σ H Q I h => ?_⟩
  refine subD_of PySem.F.slot_dict_getitem.lookup hs (thn (ho.run pins s σ H _ I h) fun u s1 ⟨x, H1, I1, rx, q1⟩ => thn (hi.run pins s1 σ H1 _ I1 q1) fun iv s2 ⟨y, H2, I2, ry, a, kvs, k, v, ex, ⟨hsys, vs, rel, dd⟩, ey, l, q2⟩ => ?_)
  subst ex ey
  obtain rfl : u = Value.ref a := rx
  have dd := dd _ I2.kIn
  refine ⟨dd.typeIs, ?_⟩
  obtain ⟨w', hw, rw'⟩ := RelO.some_of (v := v) (o := valueAt vs k) (by rw [← l]; exact rel.val k)
  exact wpAny_getItem_of (kV_is ry) dd.mapOf hw ⟨v, H2, I2.tok _, rw', q2⟩
theorem pc_dinK (hi : PE X i ty) (ho : PE X o td) : PC X .In i o (tDInK X.prog X.w X.K ty td) := by
  refine ⟨fun pins s σ H Q I h => ?_⟩
  refine thn (hi.run pins s σ H _ I h) fun iv s1 ⟨y, H1, I1, ry, q1⟩ => thn (ho.run pins s1 σ H1 _ I1 q1) fun u s2 ⟨x, H2, I2, rx, a, kvs, k, ex, ⟨hsys, vs, rel, dd⟩, ey, q2⟩ => ?_
  subst ex ey
  obtain rfl : u = Value.ref a := rx
  have dd := dd _ I2.kIn
  refine wpAny_in_of (kV_is ry) hsys dd.mapOf ?_
  rw [← (rel.val k).isSome_eq]
  exact ⟨.bl _, H2, I2.tok _, rfl, q2⟩
end
/-! its fact from the top -/
def HasDct (P : Program) (w : World) (K : PySem.W.Frag) (x : Str) (kvs : List (Key × V)) : Prop := ∃ a, PySem.W.nsIn K mainGlobals x = some (some (.ref a)) ∧ KDct P w K a kvs
structure UseD (P : Program) (w : World) (K : PySem.W.Frag) (mg : Str → Option Value) (x : Str) (kvs : List (Key × V)) : Prop where
  ex : ∃ a, mg x = some (.ref a) ∧ KDct P w K a kvs
/-- entries whose keys and values are texts -/
inductive DEnt (w : World) : List DictEntry → List (Str × Str) → Prop
  | nil : DEnt w [] []
  | cons {e : DictEntry} {es : List DictEntry} {k v : Str} {ps : List (Str × Str)} {t t' : Tok} : e.key = .str k t → e.hash = hashStr w k → e.val = .str v t' → DEnt w es ps → DEnt w (e :: es) ((k, v) :: ps)
def txtKV (ps : List (Str × Str)) : List (Key × V) := ps.map fun p => (.inr p.1, .str p.2)
theorem DEnt.pairs {P : Program} {w : World} : ∀ {es : List DictEntry} {ps : List (Str × Str)}, DEnt w es ps → ∃ vs : List (Key × Value), KV (txtKV ps) vs ∧ PySem.Pairs (mixKind P w) es vs ∧ vs.map (·.1) = ps.map (fun p => (Sum.inr p.1 : Key)) ∧ ∀ e ∈ es, ∃ k, (mixKind P w).is k e.key = true ∧ e.hash = (mixKind P w).hash k
  | _, _, .nil => ⟨[], .nil, .nil, rfl, fun _ h => by cases h⟩
  | _, _, .cons (k := k) (v := v) (t := t) (t' := t') hk hh hv r => by
    obtain ⟨vs, a, b, c, d⟩ := DEnt.pairs (P := P) r
    refine ⟨(.inr k, .str v t') :: vs, .cons ⟨rfl, ⟨_, rfl⟩⟩ a, .cons (by rw [hk]; exact mixKind_str P w k t) hv b, by rw [List.map_cons, c]; rfl, fun e he => ?_⟩
    rcases List.mem_cons.mp he with rfl | he
    · exact ⟨.inr k, by rw [hk]; exact mixKind_str P w k t, hh⟩
    · exact d e he
theorem nodup_inr : ∀ {xs : List Str}, xs.Nodup → (xs.map (Sum.inr : Str → Key)).Nodup
  | [], _ => .nil
  | x :: r, h => by
    obtain ⟨h1, h2⟩ := List.nodup_cons.mp h
    refine List.nodup_cons.mpr ⟨fun hm => ?_, nodup_inr h2⟩
    obtain ⟨y, hy, e⟩ := List.mem_map.mp hm
    exact h1 (Sum.inr.inj e ▸ hy)
theorem HasDct.mk' {P : Program} {w : World} {K : PySem.W.Frag} {x : Str} {ps : List (Str × Str)} {a : Addr} {es : Array DictEntry} {ep : Nat} (h : PySem.W.nsIn K mainGlobals x = some (some (.ref a)))
    (b : K.lookup a = some { cls := .type "dict", data := .dict es ep }) (hs : (a == sysModules) = false) (c : DEnt w es.toList ps) (nd : (ps.map (·.1)).Nodup) : HasDct P w K x (txtKV ps) := by
  obtain ⟨vs, v1, v2, v3, v4⟩ := DEnt.pairs (P := P) c
  refine ⟨a, h, hs, vs, v1, fun hh hK => ⟨_, es, ep, hK a _ b, ⟨rfl, rfl, rfl⟩, rfl, fun e he => v4 e (Array.mem_toList_iff.mpr he), v2, ?_⟩⟩
  rw [v3]
  have : ps.map (fun p => (Sum.inr p.1 : Key)) = (ps.map (·.1)).map Sum.inr := by rw [List.map_map]; rfl
  rw [this]
  exact nodup_inr nd
theorem HasDct.g {P : Program} {w : World} {K : PySem.W.Frag} {mg : Str → Option Value} {h : Heap} {x : Str} {kvs : List (Key × V)} (D : HasDct P w K x kvs) (X : K.In h) (G : h.Ns mainGlobals mg) : UseD P w K mg x kvs := by
  obtain ⟨a, e, k⟩ := D
  exact ⟨a, PySem.W.mg_of X G e, k⟩
end LK

set_option Elab.async false
set_option linter.all false
set_option maxRecDepth 100000
set_option maxHeartbeats 4000000
set_option exponentiation.threshold 3000
/-! Numbers, texts over the 95 characters, dicts of the top with any plain values. -/
namespace LK
open PySem PySem.Spec PyProof.Rows L2 SX
def CPowW (i j : Int) : Prop := 0 ≤ j ∧ (Builtin.Int.intBits i : Int) * j ≤ 2 ^ 27
theorem op_powW {X : Cx} : OpR X (binaryOp .Pow) (rI CPowW fun i j => .int (i ^ j.toNat)) := opI fun _ _ _ _ _ _ _ hc q => pow_int hc.1 hc.2 q
/-- the 95 characters by their codes -/
def chStr : Str := "\n !\"#$&'()*+,-./0123456789:;<=>?@ABCDEFGHIJKLMNOPQRSTUVWXYZ[\\]^_`abcdefghijklmnopqrstuvwxyz{|}~"
def chC : List Nat := chStr.cps.toList
theorem chC_len : chC.length = 95 := by decide +kernel
theorem chStr_S : chStr = S chC := by unfold chC S; rfl
def ch (j : Nat) : Nat := chC.getD j 0
/-- the text of a row of indices -/
def tx (js : List Nat) : Str := S (js.map ch)
theorem ch_at {j : Nat} (h : j < 95) : chC[j]? = some (ch j) := by
  have h' : j < chC.length := by rw [chC_len]; exact h
  rw [List.getElem?_eq_getElem h', ch, List.getD_eq_getElem?_getD, List.getElem?_eq_getElem h']; rfl
theorem ch_low (j : Nat) : ch j < 128 := by
  by_cases h : j < 95
  · exact (show ∀ c ∈ chC, c < 128 by decide +kernel) _ (List.mem_of_getElem? (ch_at h))
  · rw [ch, List.getD_eq_getElem?_getD, List.getElem?_eq_none (by rw [chC_len]; omega)]; decide
theorem ch_inj {i j : Nat} (hi : i < 95) (hj : j < 95) (h : ch i = ch j) : i = j := by
  have key : ∀ i < 95, ∀ j < 95, ch i = ch j → i = j := by decide +kernel
  exact key i hi j hj h
theorem tx_len (js : List Nat) : (tx js).length = js.length := by rw [tx, S_len, List.length_map]
theorem tx_app (a b : List Nat) : tx (a ++ b) = tx a ++ tx b := by rw [tx, List.map_append, ← S_cat]; rfl
theorem occ_ch : ∀ j < 95, (Builtin.Str.occurrences chStr ⟨#[ch j]⟩ 0 95 1).head? = some j := by decide +kernel
theorem occ_at {j : Nat} (h : j < 95) : ∃ rest, Builtin.Str.occurrences chStr ⟨#[ch j]⟩ 0 chStr.length 1 = j :: rest := by
  have e := occ_ch j h
  rw [show chStr.length = 95 by decide +kernel]
  cases q : Builtin.Str.occurrences chStr ⟨#[ch j]⟩ 0 95 1 with
  | nil => rw [q] at e; cases e
  | cons a r => rw [q] at e; exact ⟨r, by rw [Option.some.inj e]⟩
theorem joinL_one : ∀ cs : List Nat, TL.joinL [] (cs.map fun c => [c]) = cs
  | [] => rfl
  | [c] => rfl
  | c :: d :: r => by
    have := joinL_one (d :: r)
    show [c] ++ ([] ++ TL.joinL [] ((d :: r).map fun c => [c])) = _
    rw [this]; rfl
theorem join_chars (cs : List Nat) : Txt.join "" (cs.map fun c => (⟨#[c]⟩ : Str)) = S cs := by
  rw [TL.join_eq]
  have e := TL.tl_join "" (cs.map fun c => (⟨#[c]⟩ : Str))
  rw [show TL.tl ("" : Str) = [] by decide +kernel, List.map_map, show (TL.tl ∘ fun c => (⟨#[c]⟩ : Str)) = fun c => [c] from rfl, joinL_one] at e
  cases h : Str.join "" (cs.map fun c => (⟨#[c]⟩ : Str)) with
  | mk a =>
    rw [h] at e
    have e : a.toList = cs := e
    subst e
    rfl
section
variable {X : Cx} {K : PySem.W.Frag} {T id : String} {name : Str} {r : V → List V → Hp → VK → Prop} {o e : Expr} {es : List Expr} {to : TE} {t : TA} {apos cpos : Pos}
/-- a built-in method, where the written part is told (in a comprehension) -/
theorem pe_bmK (hK : X.K = K) (pa : PlainAttrs T) (slot : Slot T name id) (hty : typeOf (.builtin id) = pure (.type "method_descriptor")) (hm : MtR X id r) (ho : PE X o to) (ha : PA X (e :: es) t)
    (hbase : attributeBase o name X.env (eval o X.env) = eval o X.env := by rfl)
    (hfew : ((backTo cpos (starEach (e :: es) X.env)).all (fun x => !x.1) && (backToKw cpos (keywordEach [] X.env)).all (fun x => x.1.isSome)
      && decide ((e :: es).length + ([] : List Keyword).length + (if ([] : List Keyword).isEmpty then 0 else 1) < 30)) = true := by rfl)
    (hline : (apos.endLine == cpos.line) = true := by rfl) (hs : starEach (e :: es) X.env = (false, eval e X.env) :: starEach es X.env := by rfl) (hplain : (backTo cpos (starEach es X.env)).any (·.1) = false := by rfl) :
    PE X (.Call (.Attribute o name apos) (e :: es) [] cpos) (tBM K T r to t) := by
  subst hK; exact pe_bm pa slot hty hm ho ha hbase hfew hline hs hplain
end
/-! dicts of the top whose keys are texts and whose values are plain -/
inductive DEntV (w : World) : List DictEntry → List (Str × V) → Prop
  | nil : DEntV w [] []
  | cons {e : DictEntry} {es : List DictEntry} {k : Str} {v : V} {ps : List (Str × V)} {t : Tok} : e.key = .str k t → e.hash = hashStr w k → RelV v e.val → DEntV w es ps → DEntV w (e :: es) ((k, v) :: ps)
def valKV (ps : List (Str × V)) : List (Key × V) := ps.map fun p => (.inr p.1, p.2)
theorem DEntV.pairs {P : Program} {w : World} : ∀ {es : List DictEntry} {ps : List (Str × V)}, DEntV w es ps → ∃ vs : List (Key × Value), KV (valKV ps) vs ∧ PySem.Pairs (mixKind P w) es vs ∧ vs.map (·.1) = ps.map (fun p => (Sum.inr p.1 : Key)) ∧ ∀ e ∈ es, ∃ k : Key, (mixKind P w).is k e.key = true ∧ e.hash = (mixKind P w).hash k
  | _, _, .nil => ⟨[], .nil, .nil, rfl, fun _ h => by cases h⟩
  | _, _, .cons (e := e0) (k := k) (v := v) (t := t) hk hh hv r => by
    obtain ⟨vs, a, b, c, d⟩ := DEntV.pairs (P := P) r
    refine ⟨(.inr k, e0.val) :: vs, .cons ⟨rfl, hv⟩ a, .cons (by rw [hk]; exact mixKind_str P w k t) rfl b, by rw [List.map_cons, c]; rfl, fun e he => ?_⟩
    rcases List.mem_cons.mp he with rfl | he
    · exact ⟨.inr k, by rw [hk]; exact mixKind_str P w k t, hh⟩
    · exact d e he
theorem HasDct.mkV {P : Program} {w : World} {K : PySem.W.Frag} {x : Str} {ps : List (Str × V)} {a : Addr} {es : Array DictEntry} {ep : Nat} (h : PySem.W.nsIn K mainGlobals x = some (some (.ref a)))
    (b : K.lookup a = some { cls := .type "dict", data := .dict es ep }) (hs : (a == sysModules) = false) (c : DEntV w es.toList ps) (nd : (ps.map (·.1)).Nodup) : HasDct P w K x (valKV ps) := by
  obtain ⟨vs, v1, v2, v3, v4⟩ := DEntV.pairs (P := P) c
  refine ⟨a, h, hs, vs, v1, fun hh hK => ⟨_, es, ep, hK a _ b, ⟨rfl, rfl, rfl⟩, rfl, fun e he => v4 e (Array.mem_toList_iff.mpr he), v2, ?_⟩⟩
  rw [v3]
  have : ps.map (fun p => (Sum.inr p.1 : Key)) = (ps.map (·.1)).map Sum.inr := by rw [List.map_map]; rfl
  rw [this]
  exact nodup_inr nd
theorem dtAll_int {K : PySem.W.Frag} {H : Hp} : ∀ {is : List Int} {ws : List V}, DtAll K H ws (is.map PyData.int) → ws = is.map V.int
  | [], _, h => by cases h.nil_inv; rfl
  | i :: r, _, h => by
    obtain ⟨y, ws, rfl, h1, h2⟩ := h.cons_inv
    cases h1.int_inv
    rw [dtAll_int h2]; rfl
theorem cut_one (x : V) (xs : List V) : cutV (x :: xs) (some 1) none = xs := by
  unfold cutV
  rw [show (some (1 : Int)) = some ((1 : Nat) : Int) from rfl, HT.sIx_nat, HT.sIx_none, Nat.min_eq_left (by simp)]
  simp
theorem tx_take (js : List Nat) (n : Nat) : cutS (tx js) none (some (n : Int)) = tx (js.take n) := by
  unfold cutS
  rw [tx_len, HT.sIx_nat, HT.sIx_none]
  show (⟨(((js.map ch).drop 0).take (min n js.length - 0)).toArray⟩ : Str) = ⟨((js.take n).map ch).toArray⟩
  rw [List.drop_zero, Nat.sub_zero, List.map_take]
  congr 2
  by_cases h : n ≤ js.length
  · rw [Nat.min_eq_left h]
  · rw [Nat.min_eq_right (by omega), List.take_of_length_le (by simp), List.take_of_length_le (by simp; omega)]
theorem tx_drop (js : List Nat) (n : Nat) : cutS (tx js) (some (n : Int)) none = tx (js.drop n) := by
  unfold cutS
  rw [tx_len, HT.sIx_nat, HT.sIx_none]
  show (⟨(((js.map ch).drop (min n js.length)).take (js.length - min n js.length)).toArray⟩ : Str) = ⟨((js.drop n).map ch).toArray⟩
  rw [List.map_drop]
  congr 2
  by_cases h : n ≤ js.length
  · rw [Nat.min_eq_left h, List.take_of_length_le (by simp)]
  · rw [Nat.min_eq_right (by omega), List.drop_of_length_le (by simp), List.drop_of_length_le (by simp; omega)]; simp
def rLenK (K : PySem.W.Frag) : List V → Hp → VK → Prop := fun xs H Q => ∃ x n, xs = [x] ∧ LenV K x H n ∧ Q (.int (n : Nat)) H
theorem call_lenK {X : Cx} {K : PySem.W.Frag} (hK : X.K = K) : CallR X (.builtin "len") (rLenK K) := by subst hK; exact call_len
end LK

set_option Elab.async false
set_option linter.all false
set_option maxRecDepth 100000
set_option maxHeartbeats 4000000
/-! An own exception class over ValueError (its bases may be own ones) whose __init__ says super().__init__(..) first. -/
namespace SupX
open PySem PySem.Spec PyProof.Rows L2 NdefX
/-- what the written part says of the class at C, its __init__ at fI (a def that closes over __class__), in the program P -/
structure SupC (P : Program) (K : PySem.W.Frag) (C fI cc : Addr) (F : NF) : Prop where
  oex : OexC K C
  fn : ∃ oc od doc pm ctv osl, K.lookup fI = some ⟨oc, od, .func (F.fd doc pm ctv), osl⟩
  cl : F.cl = [(("__class__" : Str), cc)]
  cd : PySem.W.codeIn K (.ref F.c) F.qual = true
  code : ∃ ccl cdd vs ccs file tf, K.lookup F.c = some ⟨ccl, cdd, .fields vs, ccs⟩ ∧ vs[2]? = some (.str file tf) ∧ ((P.main.file : Str) == file) = true
  top : (P.main.scope.names.lookup ("super" : Str)).isSome = false
  cell : ∃ cl cld csl, K.lookup cc = some ⟨cl, cld, .cell (some (.ref C)), csl⟩
  own : PySem.W.mroIn K C (.ref C) = some true
  isB : PySem.W.subIn K (.ref C) (.type "ValueError") = some true
  sup : PySem.W.ks_superIn K C C "__init__" = some (some (.builtin "ValueError.__init__"))
  opq : PySem.W.nsIn K cStatics "thirdparty.any" = some none
  glob : PySem.W.nsIn K mainGlobals "super" = some none
/-- super().__init__(..), then the rest -/
def tSup (C : Addr) (ta : TA) (tr : TS) : TS := fun D σ H => ta σ H fun ws H1 => ws.length ≤ 1000 ∧ ∃ a, σ[0]? = some (some (.ref a)) ∧ H1 a = some (exo a C none) ∧ tr D σ H1
section
variable {P : Program} {w : World} {K : PySem.W.Frag} {mg : Str → Option Value} {base : Heap} {N ps : List Str} {F : NF} {fI C cc : Addr} {k : Nat} {sp : Sp} {e : Expr} {es : List Expr} {rest : List Stmt} {p0 p1 pa pc pe : Pos} {self : Str} {ar : Arg}
theorem sup_ok (T : SupC P K C fI cc F) (S : NScope N (self :: ps) ["__class__"] F.scope) (len : ∀ vs H Q E, sp vs H Q E → vs.length = (self :: ps).length)
    (hself : ∀ vs H Q E, sp vs H Q E → ∃ a ws, vs = .ref a :: ws ∧ H a = some (exo a C none))
    (hbd : F.body = .Expr (.Call (.Attribute (.Call (.Name "super" p0) [] [] p1) "__init__" pa) (e :: es) [] pc) pe :: rest) (hpar : (F.params.posonlyargs ++ F.params.args).head? = some ar) (har : ar.arg = self)
    (hks : F.scope.names.lookup ("super" : Str) = some .globalImplicit) (hkc : F.scope.names.lookup ("__class__" : Str) = some .free) (hka : F.scope.names.lookup self = some .local)
    (he : ∀ env : Env, starEach (e :: es) env = (false, eval e env) :: starEach es env) (hpl : ∀ env : Env, (backTo pc (starEach es env)).any (·.1) = false)
    (hev : ∀ env : Env, ∃ pl : Sem Bool, eval (.Call (.Attribute (.Call (.Name "super" p0) [] [] p1) "__init__" pa) (e :: es) [] pc) env = (do
      let ov ← attributeBase (.Call (.Name "super" p0) [] [] p1) "__init__" env (eval (.Call (.Name "super" p0) [] [] p1) env)
      standAt pa.atName
      let (f, first) ← holding [ov] (getMethod ov "__init__" pl)
      callWith pc f first (backTo pc (starEach (e :: es) env)) []))
    (body : ∀ (A : Around) (outer : List Env) (s : Shared) (H : Hp) (vs : List V) (Q : VK) (E : XK), Room k (A.deeper (envF F fI s.heap.objs.size)) → sp vs H Q E →
      ∃ ta tr, PA (ncx CX0 P w K mg base N F fI A outer s H E) (e :: es) ta ∧ PSs (ncx CX0 P w K mg base N F fI A outer s H E) rest tr ∧ tSup C ta tr { nx := fun _ H' => Q .non H', rt := Q } (startF N vs [none]) H) :
    ∀ fd, (∃ oc od osl, K.lookup fI = some ⟨oc, od, .func fd, osl⟩) → FnOk P w K mg base CX0 (k + 1) fI fd (self :: ps) sp := by
  rintro fd ⟨oc', od', osl', lk'⟩
  obtain ⟨oc, od, doc, pm, ctv, osl, lk⟩ := T.fn
  have efd : fd = F.fd doc pm ctv := by
    rw [lk] at lk'
    have := Option.some.inj lk'
    injection this with _ _ h _
    injection h with h
    exact h.symm
  subst efd
  refine ⟨len, fun A outer s H args us vs Q E hr e0 hb r hsp => ?_⟩
  have inn : K.In s.heap := e0.mod.kin.keeps fun b o e => (e0.bs b o e).1
  have lim : s.heap.NoLimit := e0.mod.nolimit.keeps fun b o e => (e0.bs b o e).1
  obtain ⟨a, ws, rfl, ha⟩ := hself _ _ _ _ hsp
  refine ks_codeAny_call_defAt (fd := F.fd doc pm ctv) (body := F.body) (binds := (self :: ps).zip us) hr.depth (inn _ _ lk) rfl lim (PySem.W.codeRec_of inn T.cd) rfl hb S.nocell
    (fun ⟨n, _⟩ hx => S.par n (List.of_mem_zip hx).1) (fun h₁ hns kp => ?_) S.co S.gen S.kind
  obtain ⟨cl, cld, csl, hcell⟩ := T.cell
  have cellS : s.heap.IsCell cc (some (.ref C)) := ⟨_, inn _ _ hcell, rfl⟩
  have ec : ∀ y c, F.cl.lookup y = some c → y = "__class__" ∧ c = cc := fun y c h => by
    rw [T.cl] at h
    by_cases hy : y = ("__class__" : Str)
    · subst hy
      simp [List.lookup] at h
      exact ⟨rfl, h.symm⟩
    · have : (y == ("__class__" : Str)) = false := beq_eq_false_iff_ne.mpr hy
      simp [List.lookup, this] at h
  have lc : F.cl.lookup ("__class__" : Str) = some cc := by rw [T.cl]; simp [List.lookup]
  obtain ⟨oB, hoB⟩ : ∃ o, base.get? cc = some o := ⟨_, e0.mod.kin _ _ hcell⟩
  have Cs : CellsAt F.cl ["__class__"] [none] s.heap H := by
    refine ⟨rfl, fun y c h => ?_, fun x y c h1 h2 => ?_, fun i y h => ?_⟩
    · obtain ⟨_, rfl⟩ := ec y c h
      exact ⟨(e0.bs _ _ hoB).2, _, cellS⟩
    · rw [(ec x c h1).1, (ec y c h2).1]
    · match i, h with
      | 0, h =>
        obtain rfl := Option.some.inj h
        exact ⟨cc, lc, fun v hv => by simp at hv⟩
      | i + 1, h => simp at h
  obtain ⟨ta, tr, hta, htr, hq⟩ := body A outer s H _ Q E (hr.deeper _) hsp
  have I : Inv (ncx CX0 P w K mg base N F fI A outer s H E) [] (startF N (.ref a :: ws) [none]) H { s with heap := h₁, toks := s.toks + ((self :: ps).zip us).length } := inv_startN S hr.hd e0 (len _ _ _ _ hsp) r Cs hns kp
  show PySem.wpAt (model P w) (A.deeper (envF F fI s.heap.objs.size)) (.func F.body (envF F fI s.heap.objs.size)) (execs F.body (envF F fI s.heap.objs.size)) _ _ _
  generalize s.toks + ((self :: ps).zip us).length = tk at I
  rw [show execs F.body = execs (.Expr (.Call (.Attribute (.Call (.Name "super" p0) [] [] p1) "__init__" pa) (e :: es) [] pc) pe :: rest) from by rw [hbd]]
  refine ks_wpAt_execs_cons ?_
  refine ks_wpAt_Expr_any ?_ (by unfold interactive; rw [show (envF F fI s.heap.objs.size).scope.kind = .function from S.kind]; rfl)
  obtain ⟨pl, hev⟩ := hev (envF F fI s.heap.objs.size)
  refine ks_wpAt_MethodCall ?_ hev
  obtain ⟨ccl, cdd, vs', ccs, file, tf, hcode, hvs, hfile⟩ := T.code
  have X1 : K.In h₁ := inn.keeps kp
  refine ks_wpAt_super_base (env := envF F fI s.heap.objs.size) hks hkc rfl rfl (X1 _ _ lk) rfl hpar rfl (X1 _ _ hcode) rfl hvs hfile T.top ?_
  obtain ⟨mb, hmb, hboot⟩ := e0.mod.blt
  have kB : ∀ b o, base.get? b = some o → h₁.get? b = some o := fun b o e => kp b o (e0.bs b o e).1
  refine PySem.W.ks_loadName_global S.kind hks (PySem.Calls.loadGlobal_builtin (env := envF F fI s.heap.objs.size) (e0.mod.glob.keeps kB) (PySem.W.mg_none_of e0.mod.kin e0.mod.glob T.glob) (hmb.keeps kB) (hboot _ (by decide +kernel)) ⟨rfl, ?_⟩)
  refine wpAny_loadName_free S.kind hkc lc ⟨_, X1 _ _ hcell, rfl⟩ ?_
  -- self
  have ndp : (self :: ps).Nodup := by
    have h : ((self :: ps) ++ [("__class__" : Str)]).Nodup := by rw [← S.pre]; exact S.nd.sublist (List.take_sublist _ _)
    exact (List.nodup_append.mp h).1
  obtain ⟨us', rfl⟩ : ∃ us', us = .ref a :: us' := by
    cases r with
    | cons r1 r2 => exact ⟨_, by rw [show _ = Value.ref a from r1]⟩
  rw [har]
  refine wpAny_loadName_local S.kind hka hns (zip_look (i := 0) (x := self) (u := .ref a) ndp rfl rfl) ?_
  -- super(__class__, self)
  obtain ⟨nm, q, NN, bs, bm, sn, sub, ab, col, dd, k0, k1, k2, k3, k5, hC, hbm⟩ := T.oex.cls
  have hcl : PySem.W.clsIn K C = some { name := nm, bases := bs, mro := .ref C :: bm, ns := NN, qualname := q, hasDict := true, slotNames := sn, subclasses := sub, abstract := ab, collection := col, hasDel := false } := by unfold PySem.W.clsIn; rw [hC] <;> rfl
  obtain ⟨t1, hoa⟩ := exo_at I.hok ha
  obtain ⟨hh0, g, dr, tk0, os⟩ := s
  dsimp only at *
  refine ks_wpAny_isType_cls (X1 _ _ hC) rfl ⟨rfl, ?_⟩
  refine ks_wpAny_call_super (X1 _ _ hC) rfl hoa rfl (fun c e => by cases e) (PySem.W.looks_mroIn X1 T.own) (fun h2 e2 k2' => ?_)
  have X2 : K.In h2 := X1.keeps k2'
  have IA : PySem.W.InstAt h2 a _ C none := ⟨k2' _ _ hoa, rfl, rfl, trivial⟩
  have hm := T.sup
  unfold PySem.W.ks_superIn at hm
  rw [hcl] at hm
  refine PySem.W.kxs_getMethod PySem.W.kxs_ValueError e2 (PySem.W.looks_opaque X2 T.opq) (l₀ := .ref C :: bm) (fun A Q E s k q => wpAny_bind ((PySem.W.looks_clsIn X2 hcl) A _ E s k (wpAny_pure q))) rfl X2 hm (IA.type.andThen (PySem.W.looks_subIn X2 T.isB)) (PySem.W.ks_ne X2 IA hcl) (by decide) ?_
  -- the wrapper, called
  have I1 : Inv (ncx CX0 P w K mg base N F fI A outer ⟨hh0, g, dr, tk0, os⟩ H E) [(h2.objs.size, PySem.W.kxs_mw "ValueError.__init__" a)] (startF N (.ref a :: ws) [none]) H ⟨h2.push (PySem.W.kxs_mw "ValueError.__init__" a), g, dr, tk + 1, os⟩ :=
    ClX.pin_new (t' := tk + 1) I (fun b o e => Heap.get?_push_of_some _ (k2' _ _ e)) (Nat.le_of_lt (Heap.lt_size e2)) (Heap.get?_push_at rfl rfl) (fun v e => by cases e)
  have He := he (envF F fI hh0.objs.size)
  rw [He]
  refine PySem.W.kxs_callWith (i := "ValueError.__init__") (x := a) (by show (false || (backTo pc (starEach es (envF F fI hh0.objs.size))).any (·.1)) = false; rw [hpl]; rfl) ?_
  refine PySem.Calls.evalArgs_plain ?_
  have hrun := hta.run pc _ _ _ _ _ I1 hq
  change wpAny _ _ (spliced (backTo pc (starEach (e :: es) (envF F fI hh0.objs.size)))) _ _ _ at hrun
  rw [He] at hrun
  refine thn hrun fun vs s1 ⟨ws', H1, I2, r2, hz, a', ha', hb', q⟩ => ?_
  obtain rfl : a = a' := by
    have e : (startF N (.ref a :: ws) [none])[0]? = some (some (V.ref a)) := rfl
    rw [e] at ha'
    exact V.ref.inj (Option.some.inj (Option.some.inj ha'))
  have hu := ClX.pin_at I2
  refine ⟨hu, ?_⟩
  obtain ⟨t2, ho2⟩ := exo_at I2.hok hb'
  have hlen : vs.length ≤ sizeLine := by
    rw [← Paired.length r2, sizeLine_eq]
    omega
  obtain ⟨h3, g3, d3, t3, os3⟩ := s1
  have X3 : K.In h3 := I2.kIn
  dsimp only at *
  refine wpAny_call (codeAny_of_tree ?_)
  show wpAny _ _ (callAny (.ref h2.objs.size) ⟨[] ++ vs, []⟩) _ _ _
  rw [List.nil_append]
  simp only [callAny]
  refine wpAny_bind (wpAny_load hu ?_)
  simp only [PySem.W.kxs_mw, show (Value.type "method-wrapper" == Value.type "method" || Value.type "method-wrapper" == Value.type "builtin_function_or_method" || Value.type "method-wrapper" == Value.type "method-wrapper") = true by decide, if_true]
  refine PySem.W.KFB.if_so (by decide) ?_
  refine wpAny_bind (PySem.W.check_bound_init PySem.F.excBase_ValueError.toExcCallFacts (X3 _ _ hC) ho2 rfl ?_)
  refine wpAny_bind (wpAny_pure (wpAny_pure ?_))
  refine ⟨plainId_quiet PySem.F.excBase_ValueError.init.plain _, codeAny_builtin PySem.F.excBase_ValueError.initEntry ?_⟩
  refine PySem.W.exc_init_tree (cls := .ref C) (t0 := t2) (dv := none) (c2 := .none) (c3 := .none) (b4 := .bool false) ho2 hlen fun h4 k4 e4 _ => ?_
  have J := I2.write (t' := t3) (x := a) (e := a) (o := exo a C none) (by rw [hb']; exact True.intro) (.inl rfl) k4 ⟨_, e4⟩ (exo_ok e4)
  have eu : upd H1 a (exo a C none) = H1 := by
    funext b
    by_cases hb : b = a
    · rw [hb, upd_same, hb']
    · rw [upd_ne hb]
  rw [eu] at J
  have J := ClX.unpin J
  refine wpAt_of_wpAny (wpAny_mono (htr.run [] _ _ _ _ J q) (fun fl s' hs => ?_) fun _ _ z => z)
  have fin : ∀ {σ' : L2.St} {H' : Hp} {v : V} {u : Value}, Inv (ncx CX0 P w K mg base N F fI A outer ⟨hh0, g, dr, tk0, os⟩ H E) [] σ' H' s' → L2.RelV v u → Q v H' → CE outer P w H ⟨hh0, g, dr, tk0, os⟩ Q u s' :=
    fun {σ' H' v u} J rv q => ⟨v, H', J.os, J.bare, J.base, J.hok, rv, q⟩
  cases fl with
  | ret u =>
    obtain ⟨v, σ', H', J, rv, q⟩ := hs
    exact fin J rv q
  | next =>
    obtain ⟨σ', H', J, q⟩ := hs
    exact fin (v := V.non) (u := Value.none) J rfl q
  | brk =>
    obtain ⟨_, _, _, q⟩ := hs
    exact False.elim q
  | cont =>
    obtain ⟨_, _, _, q⟩ := hs
    exact False.elim q
end
end SupX

set_option Elab.async false
set_option linter.all false
set_option maxRecDepth 100000
set_option maxHeartbeats 4000000
/-! Own exceptions in the layer: isinstance of a caught one that has a dict; raise C(line, reason); defs that raise. -/
namespace LK
open PySem PySem.Spec PyProof.Rows L2 NdefX SupX
section
variable {K : PySem.W.Frag} {x D : Addr} {ox : Obj}
theorem kitx_excD (C : ExcC K D) : PySem.W.KitX K (.ref x) (.ref D) (fun h => ∃ od, PySem.W.InstAt h x ox D od) where
  ty := fun _ _ _ ⟨_, I⟩ => I.type
  it := fun _ _ X _ => by
    obtain ⟨cdD, hcD, _⟩ := PySem.W.any_some C.hd
    unfold PySem.W.clsIn at hcD
    split at hcD
    · rename_i c' d' cd' sl' ho
      intro A' Q' E' s' k q
      unfold isType loadHead
      exact wpAny_bind (wpAny_loadPart (k _ _ (X _ _ ho)) (wpAny_pure q))
    · cases hcD
  ne := fun h tp dd its n sl X htp => by
    obtain ⟨cdD, hcD, _⟩ := PySem.W.any_some C.hd
    refine Bool.eq_false_iff.mpr fun q => ?_
    have e : D = tp := Value.ref.inj (beq_iff_eq.mp q)
    subst e
    unfold PySem.W.clsIn at hcD
    split at hcD
    · rename_i c' d' cd' sl' ho
      have z := (X _ _ ho).symm.trans htp
      cases z
    · cases hcD
  ca := fun X ⟨od, I⟩ k => PySem.W.kx_classE X I C.hg C.hk C.hs (PySem.W.findObj_dataE (by obtain ⟨cd, hc, _⟩ := PySem.W.any_some C.hd; rw [hc]; rfl) C.ha C.hn C.ht) C.hm k
end
/-- isinstance(e, c), e the exception that the suite holds, its dict at dd -/
def rIsD (K : PySem.W.Frag) (D a dd : Addr) : List V → Hp → VK → Prop := fun xs H Q => ∃ (c : V) (cv : Value) (b : Bool) (fs : List (Str × V)), xs = [.ref a, c] ∧ (∀ u, RelV c u → u = cv) ∧ PySem.W.kitOne K (.ref D) cv = some b ∧ H dd = some (.xd fs) ∧ Q (.bl b) H
theorem call_isD {X : Cx} {a D dd : Addr} {oe : Obj} {pn : List (Addr × Obj)} (C : ExcC X.K D) (hz : Zc (.ref D) (some dd) oe) (hf : ∃ vs, oe.data = .fields vs) : CallR (X.suite a ((a, oe) :: pn)) (.builtin "isinstance") (rIsD X.K D a dd) := by
  intro pins s σ H xs us Q I r h
  obtain ⟨c, cv, b, fs, rfl, hcv, e, hd, q⟩ := h
  cases r with
  | cons rx rr =>
    cases rr with
    | cons rt rr =>
      cases rr
      cases rx
      have ec := hcv _ rt
      subst ec
      obtain ⟨hget, _⟩ := I.pin (a, oe) (List.mem_append.mpr (.inl List.mem_cons_self))
      obtain ⟨vs, hv⟩ := hf
      have hx : ObjOk X.prog X.w H s.heap dd (.xd fs) := I.hok dd _ hd
      obtain ⟨mA, hns, hr⟩ := hx
      obtain ⟨od, ho, hl⟩ := lookIn_ns hns
      have J : PySem.W.InstAt s.heap a oe D (some od) := ⟨hget, hz.1, by unfold PySem.W.notCls; rw [hv] <;> rfl, by rw [hz.2]; exact ho⟩
      exact PySem.W.kia_one (kitx_excD C) I.kIn ⟨_, J⟩ e (fun z => nomatch z) fun tk => ⟨.bl b, H, I.kept (t' := tk) fun _ _ z => z, rfl, q⟩
/-! ### the class Fault -/
/-- what its __init__ leaves -/
def spFault (K : PySem.W.Frag) (C : Addr) : Sp := fun vs H Q _ => ∃ (a : Addr) (n : Int) (r : Str), vs = [.ref a, .int n, .str r] ∧ H a = some (exo a C none) ∧ n.natAbs < 2 ^ 100 ∧ r.length ≤ 1000 ∧
  ∀ d H', H d = none → H' a = some (exo a C (some d)) → H' d = some (exd d [("reason", .str r), ("line", .int n)]) → (∀ b, b ≠ a → b ≠ d → H' b = H b) → Q .non H'
/-- the class stands at C, its base at B: what a raise and an except ask -/
structure UseF (P : Program) (w : World) (K : PySem.W.Frag) (mg : Str → Option Value) (base : Heap) (C B : Addr) : Prop where
  oex : OexC K C
  xf : XfC K C
  isc : ExcC K C
  mC : mg "Fault" = some (.ref C)
  mB : mg "HoldError" = some (.ref B)
  line : PySem.W.findIn K (.ref C) "line" = some none
  reason : PySem.W.findIn K (.ref C) "reason" = some none
  exm : PySem.W.exmOne K (.ref C) (.ref B) = some true
  ve : PySem.W.kitOne K (.ref C) (.type "ValueError") = some true
  ini : ∃ (fI : Addr) (fd : FuncData), PySem.W.findIn K (.ref C) "__init__" = some (some (.ref fI)) ∧ PySem.W.typeIn K (.ref fI) = some (.type "function") ∧ FnOk P w K mg base CX0 1 fI fd ["self", "line", "reason"] (spFault K C) ∧ Binds K fd ["self", "line", "reason"] []
def faultD (n : Int) (r : Str) : HO := .xd [("reason", .str r), ("line", .int n)]
/-- raise Fault(line, reason) -/
def tRaiseF (C : Addr) (ta : TA) (W : WX) : TS := fun _ σ H => ta σ H fun vs H1 => ∃ (n : Int) (r : Str), vs = [.int n, .str r] ∧ n.natAbs < 2 ^ 100 ∧ r.length ≤ 1000 ∧ ∀ d, H1 d = none → W (.ref C) (some d) σ (upd H1 d (faultD n r))
section
variable {X : Cx} {C B : Addr} {W : WX} {e1 : Expr} {es : List Expr} {ta : TA} {p pos pos2 : Pos}
theorem pa_up (h : PA X es ta) : PA X es (fun σ H Q => ∃ P : List V → Hp → Prop, ta σ H P ∧ ∀ vs H1, P vs H1 → Q vs H1) :=
  ⟨fun pos pins s σ H Q I ⟨P, hP, k⟩ => thn (h.run pos pins s σ H P I hP) fun us s1 ⟨vs, H1, I1, r, q⟩ => ⟨vs, H1, I1, r, k vs H1 q⟩⟩
theorem ps_raiseF (U : UseF X.prog X.w X.K X.mg X.base C B) (hc : X.calm = true) (tk : Takes X W) (hr : Room 2 X.A) (hg : Gl X "Fault") (ha : PA X (e1 :: es) ta)
    (he : starEach (e1 :: es) X.env = (false, eval e1 X.env) :: starEach es X.env := by rfl) (hpl : (backTo pos (starEach es X.env)).any (·.1) = false := by rfl) :
    PS X (.Raise (some (.Call (.Name "Fault" p) (e1 :: es) [] pos)) none pos2) (tRaiseF C ta W) := by
  obtain ⟨fI, fd, i1, i2, ok, hb⟩ := U.ini
  have R := ps_raise (pos := pos2) hc tk (pmk_oex (p := p) (pos := pos) U.oex i1 i2 ok hr hb .nil pass0 hg U.mC (pa_up ha) (by decide) he hpl)
  refine ⟨fun pins s σ H D I h => R.run pins s σ H D I ⟨_, h, ?_⟩⟩
  rintro vs H1 ⟨n, r, rfl, hn, hr, k⟩
  refine ⟨show 2 ≤ 1000 by decide, fun a ha1 => ⟨a, n, r, rfl, upd_same, hn, hr, fun d H2 hd ha2 hd2 keep => ?_⟩⟩
  have hda : d ≠ a := fun e => by
    subst e
    rw [upd_same] at hd
    cases hd
  rw [upd_ne hda] at hd
  refine ⟨rfl, d, _, ha2, hd2, hd, ?_⟩
  have e : upd (del H2 a) d (.xd [("reason", .str r), ("line", .int n)]) = upd H1 d (faultD n r) := by
    funext b
    by_cases hb : b = d
    · subst hb
      rw [upd_same, upd_same]; rfl
    · rw [upd_ne hb, upd_ne hb]
      by_cases hba : b = a
      · subst hba
        rw [del_same, ha1]
      · rw [del_ne hba, keep b hba hb, upd_ne hba]
  rw [e]
  exact k d hd
end
/-! ### the call of a def that may raise -/
section
variable {X : Cx} {CX : CXT} {k : Nat} {f : Addr} {fd : FuncData} {ps : List Str} {sp : Sp} {x : Str} {p pos : Pos} {e : Expr} {es : List Expr} {t : TA}
theorem run_fnSG {pins : List (Addr × Obj)} {σ : L2.St} {H : Hp} {s : Shared} {Q : VK} {us : List Value} {vs : List V} {E : L2.St → XK} (F : FnG X.prog X.w X.K X.mg X.base CX k f fd ps sp) (hr : Room k X.A) (hg : X.A.guards = some []) (hb : Binds X.K fd ps [])
    (hx : PassesAt CX X σ (E σ)) (I : Inv X pins σ H s) (r : Vals vs us) (h : sp vs H Q (E σ)) : wpAny (model X.prog X.w) X.A (call (.ref f) us) (EP X pins σ Q) X.xe s := by
  have hl : (us ++ []).length = ps.length := by rw [List.append_nil, ← r.length, F.len _ _ _ _ h]
  have hbs := hb s us I.kIn hl
  rw [List.append_nil] at hbs
  refine wpAny_call (codeAny_mono (F.run X.A X.stack s H ⟨us, []⟩ us vs Q _ hr hg I.env0 hbs r h) fun res s' hq => ?_)
  match res, hq with
  | .error e, hq => exact hx pins H s e s' I hq
  | .ok (.ret u), hq => exact I.after hq
  | .ok .next, hq => exact hq.elim
  | .ok .brk, hq => exact hq.elim
  | .ok .cont, hq => exact hq.elim
def tUseS (sp : Sp) (E : L2.St → XK) (t : TA) : TE := fun σ H Q => t σ H fun vs H1 => sp vs H1 Q (E σ)
/-- in a try -/
theorem pe_useS {E : L2.St → XK} (U : Use X.prog X.w X.K X.mg X.base CX x k ps sp) (hx : ∀ σ, PassesAt CX X σ (E σ)) (hr : Room k X.A) (gd : X.A.guards = some []) (hg : Gl X x) (ha : PA X (e :: es) t) (hdb : (x == ("__debug__" : Str)) = false := by decide)
    (he : starEach (e :: es) X.env = (false, eval e X.env) :: starEach es X.env := by rfl) (hpl : (backTo pos (starEach es X.env)).any (·.1) = false := by rfl) : PE X (.Call (.Name x p) (e :: es) [] pos) (tUseS sp E t) := by
  obtain ⟨f, fd, ok, hm, kp, hb⟩ := U.ex
  refine ⟨fun pins s σ H Q I h => wpAny_Call_Name_kw (ld_glob I hg hm ?_ hdb)⟩
  exact PySem.W.callWith_K (h₀ := X.base) I.ok.mod.kin kp (thn (ha.run pos pins s σ H _ I h) fun us s1 ⟨vs, H1, I1, r, q⟩ => ⟨I1.kIn, run_fnSG ok hr gd hb (hx _) I1 r q⟩) he hpl
/-- in a def that lets out what the callee lets out -/
theorem pe_useR {E : XK} (U : Use X.prog X.w X.K X.mg X.base (L2.CX X.prog X.w) x k ps sp) (tk : Takes X fun cls d _ H => E cls d H) (hr : Room k X.A) (gd : X.A.guards = some []) (hg : Gl X x) (ha : PA X (e :: es) t) (hdb : (x == ("__debug__" : Str)) = false := by decide)
    (he : starEach (e :: es) X.env = (false, eval e X.env) :: starEach es X.env := by rfl) (hpl : (backTo pos (starEach es X.env)).any (·.1) = false := by rfl) : PE X (.Call (.Name x p) (e :: es) [] pos) (tUse sp E t) :=
  pe_useX U (passes_call tk fun _ _ _ _ h => h) hr gd hg ha hdb he hpl
end
/-! ### Fault's __init__ -/
section
variable {P : Program} {w : World} {K : PySem.W.Frag} {mg : Str → Option Value} {base : Heap} {F : NF} {fI C cc : Addr} {p0 p1 pa pc pe q1 q2 q3 q4 q5 q6 q7 a1 a2 a3 a4 b1 b2 b3 b4 : Pos} {k1 k2 : Nat} {ar : Arg}
theorem fault_ini (T : SupC P K C fI cc F) (hl : PySem.W.findIn K (.ref C) "line" = some none) (hr : PySem.W.findIn K (.ref C) "reason" = some none)
    (S : NScope ["self", "line", "reason", "__class__"] ["self", "line", "reason"] ["__class__"] F.scope)
    (hbd : F.body = [.Expr (.Call (.Attribute (.Call (.Name "super" p0) [] [] p1) "__init__" pa) [.JoinedStr [.Constant (.str "line ") k1 q1, .FormattedValue (.Name "line" q2) (-1) none q3, .Constant (.str ": ") k2 q4, .FormattedValue (.Name "reason" q5) (-1) none q6] q7] [] pc) pe,
      .Assign [.Attribute (.Name "self" a1) "line" a2] (.Name "line" a3) a4, .Assign [.Attribute (.Name "self" b1) "reason" b2] (.Name "reason" b3) b4])
    (hpar : (F.params.posonlyargs ++ F.params.args).head? = some ar) (har : ar.arg = "self") (hks : F.scope.names.lookup ("super" : Str) = some .globalImplicit)
    (hev : ∀ env : Env, ∃ pl : Sem Bool, eval (.Call (.Attribute (.Call (.Name "super" p0) [] [] p1) "__init__" pa) [.JoinedStr [.Constant (.str "line ") k1 q1, .FormattedValue (.Name "line" q2) (-1) none q3, .Constant (.str ": ") k2 q4, .FormattedValue (.Name "reason" q5) (-1) none q6] q7] [] pc) env = (do
      let ov ← attributeBase (.Call (.Name "super" p0) [] [] p1) "__init__" env (eval (.Call (.Name "super" p0) [] [] p1) env)
      standAt pa.atName
      let (f, first) ← holding [ov] (getMethod ov "__init__" pl)
      callWith pc f first (backTo pc (starEach [.JoinedStr [.Constant (.str "line ") k1 q1, .FormattedValue (.Name "line" q2) (-1) none q3, .Constant (.str ": ") k2 q4, .FormattedValue (.Name "reason" q5) (-1) none q6] q7] env)) [])) :
    ∀ fd, (∃ oc od osl, K.lookup fI = some ⟨oc, od, .func fd, osl⟩) → FnOk P w K mg base CX0 1 fI fd ["self", "line", "reason"] (spFault K C) := by
  have v0 : F.scope.names.lookup ("self" : Str) = some .local := S.par _ (by simp)
  have v1 : F.scope.names.lookup ("line" : Str) = some .local := S.par _ (by simp)
  have v2 : F.scope.names.lookup ("reason" : Str) = some .local := S.par _ (by simp)
  refine sup_ok (k := 0) T S (fun vs H Q E h => ?_) (fun vs H Q E h => ?_) hbd hpar har hks (S.frk _ (by simp)) v0 (fun _ => rfl) (fun _ => rfl) hev fun A outer s H vs Q E hroom h => ?_
  · obtain ⟨a, n, r, rfl, _⟩ := h
    rfl
  · obtain ⟨a, n, r, rfl, ha, _⟩ := h
    exact ⟨a, _, rfl, ha⟩
  · obtain ⟨a, n, r, rfl, ha, hn, hz, k⟩ := h
    refine ⟨_, _, pa_cons (pe_joined (.cons pe_str (.cons (pe_fmt (pe_var (i := 1) rfl (.inl v1))) (.cons pe_str (.cons (pe_fmt (pe_var (i := 2) rfl (.inl v2))) .nil))))) pa_nil,
      pss_cons (ps_ost (pe_var (i := 0) rfl (.inl v0)) (pe_var (i := 1) rfl (.inl v1))) (pss_one (ps_ost (pe_var (i := 0) rfl (.inl v0)) (pe_var (i := 2) rfl (.inl v2)))), ?_⟩
    have hln : (Str.ofString (toString n)).length ≤ 2000 := by
      have hl : n.natAbs.log2 < 1900 := Nat.lt_of_lt_of_le (PySem.Flt.log2_lt_of (k := 100) (by decide) hn) (by decide)
      have e := int_text_length_le (k := 1900) (by decide) hl
      rw [PySem.ofString_length]; omega
    have l1 : (Str.empty ++ ("line " : Str)).length = 5 := by decide +kernel
    have l2 : (": " : Str).length = 2 := by decide +kernel
    refine ⟨_, rfl, by rw [l1]; decide, ?_⟩
    refine ⟨_, rfl, .inr ⟨n, rfl, Nat.lt_of_lt_of_le (PySem.Flt.log2_lt_of (k := 100) (by decide) hn) (by decide), _, rfl, ?_, ?_⟩⟩
    · rw [strLen_append, l1]
      exact Nat.le_trans (show 5 + _ ≤ 3000 by omega) (by decide)
    refine ⟨_, rfl, ?_, ?_⟩
    · rw [strLen_append, strLen_append, l1, l2]
      exact Nat.le_trans (show _ ≤ 3000 by omega) (by decide)
    refine ⟨_, rfl, .inl ⟨r, rfl, Nat.le_trans hz (by decide), _, rfl, ?_, ?_⟩⟩
    · rw [strLen_append, strLen_append, strLen_append, l1, l2]
      exact Nat.le_trans (show _ ≤ 5000 by omega) (by decide)
    refine ⟨show 1 ≤ 1000 by decide, a, rfl, ha, ?_⟩
    refine ⟨_, rfl, _, rfl, a, C, rfl, T.oex, hl, .inl ⟨ha, fun d hd hda => ?_⟩⟩
    refine ⟨_, rfl, _, rfl, a, C, rfl, T.oex, hr, .inr ⟨d, [("line", .int n)], upd_same, by rw [upd_ne hda, upd_same], (show 1 ≤ 900 by decide), ?_⟩⟩
    have hd2 : d ≠ a := hda
    refine k d _ hd (by rw [upd_ne (Ne.symm hd2), upd_same]) upd_same fun b hb hbd => ?_
    rw [upd_ne hbd, upd_ne hb, upd_ne hbd]
end
theorem kit_ve {K : PySem.W.Frag} {C : Addr} (h : PySem.W.subIn K (.ref C) (.type "ValueError") = some true) : PySem.W.kitOne K (.ref C) (.type "ValueError") = some true := by
  unfold PySem.W.kitOne PySem.W.kitCls
  rw [if_neg (fun e => by cases (beq_iff_eq.mp e))]
  show (if PySem.W.kitMeta "ValueError" = true then _ else _) = _
  rw [if_pos (by decide +kernel)]
  exact h
def rIsV (K : PySem.W.Frag) (C a : Addr) (cls : Value) (d : Option Addr) : List V → Hp → VK → Prop := fun xs H Q => cls = .ref C ∧ ∃ dd, d = some dd ∧ rIsD K C a dd xs H Q
theorem call_isV {X : Cx} {a C : Addr} {oe : Obj} {cls : Value} {d : Option Addr} {pn : List (Addr × Obj)} (T : ExcC X.K C) (hz : Zc cls d oe) (hf : ∃ vs, oe.data = .fields vs) : CallR (X.suite a ((a, oe) :: pn)) (.builtin "isinstance") (rIsV X.K C a cls d) := by
  intro pins s σ H xs us Q I r h
  obtain ⟨rfl, dd, rfl, q⟩ := h
  exact call_isD T hz hf pins s σ H xs us Q I r q
/-! ### from the top's facts -/
abbrev nfF (st : Stmt) (cc cda : Addr) : NF := ⟨"__init__", "Fault.__init__", defArgs st, defBody st, defScope st, [(("__class__" : Str), cc)], cda⟩
structure FaultK (P : Program) (K : PySem.W.Frag) (st : Stmt) (C B fI cc cda : Addr) : Prop where
  gC : PySem.W.nsIn K mainGlobals "Fault" = some (some (.ref C))
  gB : PySem.W.nsIn K mainGlobals "HoldError" = some (some (.ref B))
  sup : SupC P K C fI cc (nfF st cc cda)
  xf : XfC K C
  isc : ExcC K C
  line : PySem.W.findIn K (.ref C) "line" = some none
  reason : PySem.W.findIn K (.ref C) "reason" = some none
  exm : PySem.W.exmOne K (.ref C) (.ref B) = some true
  ini : PySem.W.findIn K (.ref C) "__init__" = some (some (.ref fI))
  ity : PySem.W.typeIn K (.ref fI) = some (.type "function")
def HasFault (P : Program) (K : PySem.W.Frag) (st : Stmt) : Prop := ∃ C B fI cc cda, FaultK P K st C B fI cc cda
section
variable {P : Program} {K : PySem.W.Frag} {st : Stmt} {C B fI cc cda : Addr} {nm q : Str} {N : Addr} {bs bm : List Value} {sn : List Str} {sub : List Value} {ab : Bool} {col : Option Bool} {dd : Option Addr} {k0 k1 k2 k3 k5 : Option Value}
  {oc : Value} {od : Option Addr} {doc pm ctv : Value} {osl : Array (Option Value)} {ccl : Value} {cdd : Option Addr} {vs : Array Value} {ccs : Array (Option Value)} {file : Str} {tf : Tok} {xcl : Value} {xld : Option Addr} {xsl : Array (Option Value)}
theorem HasFault.mk' (a1 : PySem.W.nsIn K mainGlobals "Fault" = some (some (.ref C))) (a2 : PySem.W.nsIn K mainGlobals "HoldError" = some (some (.ref B)))
    (a3 : K.lookup C = some (excClassObj nm q C N bs bm true sn sub ab col dd k0 k1 k2 k3 k5 "ValueError.__new__")) (a4 : PySem.HandSPX.refsVE bm = true)
    (a5 : PySem.W.findIn K (.ref C) "__setattr__" = some (some (.builtin "object.__setattr__"))) (a6 : PySem.W.subIn K (.ref C) (.type "BaseException") = some true) (a7 : PySem.W.typeIn K (.ref C) = some (.type "type")) (a8 : PySem.W.keepIn K (.ref C) = true)
    (b1 : PySem.W.findIn K (.ref C) "__init__" = some (some (.ref fI))) (b2 : PySem.W.typeIn K (.ref fI) = some (.type "function"))
    (b3 : K.lookup fI = some ⟨oc, od, .func ((nfF st cc cda).fd doc pm ctv), osl⟩) (b4 : PySem.W.codeIn K (.ref cda) "Fault.__init__" = true)
    (b5 : K.lookup cda = some ⟨ccl, cdd, .fields vs, ccs⟩) (b6 : vs[2]? = some (.str file tf)) (b7 : ((P.main.file : Str) == file) = true) (b8 : (P.main.scope.names.lookup ("super" : Str)).isSome = false)
    (c1 : K.lookup cc = some ⟨xcl, xld, .cell (some (.ref C)), xsl⟩) (c2 : PySem.W.mroIn K C (.ref C) = some true) (c3 : PySem.W.subIn K (.ref C) (.type "ValueError") = some true)
    (c4 : PySem.W.ks_superIn K C C "__init__" = some (some (.builtin "ValueError.__init__"))) (c5 : PySem.W.nsIn K cStatics "thirdparty.any" = some none) (c6 : PySem.W.nsIn K mainGlobals "super" = some none)
    (d1 : PySem.W.findIn K (.ref C) "__getattribute__" = some (some (.builtin "BaseException.__getattribute__"))) (d2 : PySem.W.findIn K (.ref C) "__getattr__" = some none) (d3 : PySem.W.hasDictIn K C = true)
    (d4 : PySem.W.findIn K (.ref C) "__class__" = some (some (.builtin "object.__class__"))) (d5 : PySem.W.specialIn K (.builtin "object.__class__") "__get__" = some (some (.builtin "getset_descriptor.__get__")))
    (d6 : PySem.W.takesIn K (.builtin "object.__class__") = some true) (d7 : PySem.W.mroIn K C (.type "object") = some true)
    (e1 : PySem.W.findIn K (.ref C) "line" = some none) (e2 : PySem.W.findIn K (.ref C) "reason" = some none) (e3 : PySem.W.subIn K (.ref B) (.type "BaseException") = some true) (e4 : PySem.W.hasDictIn K B = true) (e5 : PySem.W.typeIn K (.ref B) = some (.type "type")) (e6 : PySem.W.subIn K (.ref C) (.ref B) = some true) : HasFault P K st :=
  ⟨C, B, fI, cc, cda, a1, a2, ⟨⟨⟨nm, q, N, bs, bm, sn, sub, ab, col, dd, k0, k1, k2, k3, k5, a3, a4⟩, a5, a6, a7, a8⟩, ⟨oc, od, doc, pm, ctv, osl, b3⟩, rfl, b4, ⟨ccl, cdd, vs, ccs, file, tf, b5, b6, b7⟩, b8, ⟨xcl, xld, xsl, c1⟩, c2, c3, c4, c5, c6⟩,
    ⟨d1, d2, a6, d3⟩, ⟨d1, d2, a6, d3, d4, d5, d6, d7⟩, e1, e2, PySem.W.exm_ref e3 e4 e5 e6, b1, b2⟩
end
section
variable {P : Program} {w : World} {K : PySem.W.Frag} {mg : Str → Option Value} {base h : Heap} {st : Stmt} {p0 p1 pa pc pe q1 q2 q3 q4 q5 q6 q7 a1 a2 a3 a4 b1 b2 b3 b4 : Pos} {k1 k2 : Nat} {ar : Arg}
theorem mk_useF (f : HasFault P K st) (X : K.In h) (G : h.Ns mainGlobals mg)
    (S : NScope ["self", "line", "reason", "__class__"] ["self", "line", "reason"] ["__class__"] (defScope st))
    (hbd : defBody st = [.Expr (.Call (.Attribute (.Call (.Name "super" p0) [] [] p1) "__init__" pa) [.JoinedStr [.Constant (.str "line ") k1 q1, .FormattedValue (.Name "line" q2) (-1) none q3, .Constant (.str ": ") k2 q4, .FormattedValue (.Name "reason" q5) (-1) none q6] q7] [] pc) pe,
      .Assign [.Attribute (.Name "self" a1) "line" a2] (.Name "line" a3) a4, .Assign [.Attribute (.Name "self" b1) "reason" b2] (.Name "reason" b3) b4])
    (hpar : ((defArgs st).posonlyargs ++ (defArgs st).args).head? = some ar) (har : ar.arg = "self") (hks : (defScope st).names.lookup ("super" : Str) = some .globalImplicit)
    (hev : ∀ env : Env, ∃ pl : Sem Bool, eval (.Call (.Attribute (.Call (.Name "super" p0) [] [] p1) "__init__" pa) [.JoinedStr [.Constant (.str "line ") k1 q1, .FormattedValue (.Name "line" q2) (-1) none q3, .Constant (.str ": ") k2 q4, .FormattedValue (.Name "reason" q5) (-1) none q6] q7] [] pc) env = (do
      let ov ← attributeBase (.Call (.Name "super" p0) [] [] p1) "__init__" env (eval (.Call (.Name "super" p0) [] [] p1) env)
      standAt pa.atName
      let (f, first) ← holding [ov] (getMethod ov "__init__" pl)
      callWith pc f first (backTo pc (starEach [.JoinedStr [.Constant (.str "line ") k1 q1, .FormattedValue (.Name "line" q2) (-1) none q3, .Constant (.str ": ") k2 q4, .FormattedValue (.Name "reason" q5) (-1) none q6] q7] env)) []))
    (hb : ∀ (cc cda : Addr) (doc pm ctv : Value) (us : List Value), us.length = 3 → bindArgs ((nfF st cc cda).fd doc pm ctv) ⟨us, []⟩ = pure ((["self", "line", "reason"] : List Str).zip us)) :
    ∃ C B, UseF P w K mg base C B := by
  obtain ⟨C, B, fI, cc, cda, f⟩ := f
  obtain ⟨oc, od, doc, pm, ctv, osl, lk⟩ := f.sup.fn
  exact ⟨C, B, f.sup.oex, f.xf, f.isc, PySem.W.mg_of X G f.gC, PySem.W.mg_of X G f.gB, f.line, f.reason, f.exm, kit_ve f.sup.isB, fI, _, f.ini, f.ity, fault_ini f.sup f.line f.reason S hbd hpar har hks hev _ ⟨oc, od, osl, lk⟩, .all (hb cc cda doc pm ctv)⟩
end
end LK

set_option Elab.async false
set_option linter.all false
set_option maxRecDepth 100000
set_option maxHeartbeats 4000000
/-! An own class of exceptions without an init of its own, raised without arguments: BadData. -/
namespace LK
open PySem PySem.Spec PyProof.Rows L2
def veB : List Value := [.type "ValueError", .type "Exception", .type "BaseException", .type "object"]
section
variable {X : Cx} {C : Addr} {bmB : List Value} {B newId initId : String}
theorem pmk_own0 {x : Str} {p pos : Pos} (F : ExcBaseFacts B newId initId bmB) (q : PySem.W.excIn X.K C bmB newId = true) (gC : X.mg x = some (.ref C)) (kC : PySem.W.keepIn X.K (.ref C) = true) (r : Raises X (.ref C)) (hg : Gl X x)
    (hdb : (x == ("__debug__" : Str)) = false := by decide) : PMk X (.Call (.Name x p) [] [] pos) (fun _ H Q => Q (.ref C) none H) := by
  intro pins s σ H Q I h
  refine wpAny_Call_Name_kw (ld_glob I hg gC ?_ hdb)
  refine PySem.W.callWith_K0 I.kIn kC ?_
  show wpAny _ _ (call (.ref C) []) _ _ _
  obtain ⟨bm, N, nm, qn, bs, hdct, sn, sub, ab, col, dd, k0, k1, k2, k3, k5, mN, hC, hN, hni, T⟩ := exc_obj I.kIn q
  refine wpAny_call_exc_subT F T hC hN hni (fun h' e hm => ?_) (Nat.zero_le _)
  exact mk_of I hm r h (I.hok.gone hm.new)
end
/-- the class BadData at C, its base HoldError at B -/
structure UseD0 (K : PySem.W.Frag) (mg : Str → Option Value) (C B : Addr) : Prop where
  q : PySem.W.excIn K C veB "ValueError.__new__" = true
  isc : ExcC K C
  mC : mg "BadData" = some (.ref C)
  mB : mg "HoldError" = some (.ref B)
  kC : PySem.W.keepIn K (.ref C) = true
  tyC : PySem.W.typeIn K (.ref C) = some (.type "type")
  exm : PySem.W.exmOne K (.ref C) (.ref B) = some true
theorem UseD0.kit {K : PySem.W.Frag} {mg : Str → Option Value} {C B : Addr} (_ : UseD0 K mg C B) : PySem.W.kitOne K (.ref C) (.ref C) = some true := by
  unfold PySem.W.kitOne
  rw [if_pos (beq_self_eq_true _)]
def tRaise0 (C : Addr) (W : WX) : TS := fun _ σ H => W (.ref C) none σ H
theorem ps_raise0 {X : Cx} {C B : Addr} {W : WX} {p pos pos2 : Pos} (U : UseD0 X.K X.mg C B) (hc : X.calm = true) (tk : Takes X W) (hg : Gl X "BadData") :
    PS X (.Raise (some (.Call (.Name "BadData" p) [] [] pos)) none pos2) (tRaise0 C W) := by
  have R := ps_raise (pos := pos2) hc tk (pmk_own0 (p := p) (pos := pos) PySem.F.excBase_ValueError U.q U.mC U.kC (raises_own U.isc.hs U.tyC) hg)
  exact ⟨fun pins s σ H D I h => R.run pins s σ H D I h⟩
def HasBd (K : PySem.W.Frag) (C : Addr) : Prop := ∃ B, PySem.W.nsIn K mainGlobals "BadData" = some (some (.ref C)) ∧ PySem.W.nsIn K mainGlobals "HoldError" = some (some (.ref B)) ∧ PySem.W.excIn K C veB "ValueError.__new__" = true ∧ ExcC K C ∧
  PySem.W.keepIn K (.ref C) = true ∧ PySem.W.typeIn K (.ref C) = some (.type "type") ∧ PySem.W.exmOne K (.ref C) (.ref B) = some true
theorem HasBd.mk' {K : PySem.W.Frag} {C B : Addr} (a1 : PySem.W.nsIn K mainGlobals "BadData" = some (some (.ref C))) (a2 : PySem.W.nsIn K mainGlobals "HoldError" = some (some (.ref B))) (a3 : PySem.W.excIn K C veB "ValueError.__new__" = true)
    (a4 : PySem.W.keepIn K (.ref C) = true) (a5 : PySem.W.typeIn K (.ref C) = some (.type "type")) (a6 : PySem.W.subIn K (.ref C) (.type "BaseException") = some true)
    (d1 : PySem.W.findIn K (.ref C) "__getattribute__" = some (some (.builtin "BaseException.__getattribute__"))) (d2 : PySem.W.findIn K (.ref C) "__getattr__" = some none) (d3 : PySem.W.hasDictIn K C = true)
    (d4 : PySem.W.findIn K (.ref C) "__class__" = some (some (.builtin "object.__class__"))) (d5 : PySem.W.specialIn K (.builtin "object.__class__") "__get__" = some (some (.builtin "getset_descriptor.__get__")))
    (d6 : PySem.W.takesIn K (.builtin "object.__class__") = some true) (d7 : PySem.W.mroIn K C (.type "object") = some true)
    (e3 : PySem.W.subIn K (.ref B) (.type "BaseException") = some true) (e4 : PySem.W.hasDictIn K B = true) (e5 : PySem.W.typeIn K (.ref B) = some (.type "type")) (e6 : PySem.W.subIn K (.ref C) (.ref B) = some true) : HasBd K C :=
  ⟨B, a1, a2, a3, ⟨d1, d2, a6, d3, d4, d5, d6, d7⟩, a4, a5, PySem.W.exm_ref e3 e4 e5 e6⟩
theorem HasBd.g {K : PySem.W.Frag} {mg : Str → Option Value} {h : Heap} {C : Addr} (k : HasBd K C) (X : K.In h) (G : h.Ns mainGlobals mg) : ∃ B, UseD0 K mg C B := by
  obtain ⟨B, a1, a2, a3, a4, a5, a6, a7⟩ := k
  exact ⟨B, a3, a4, PySem.W.mg_of X G a1, PySem.W.mg_of X G a2, a5, a6, a7⟩
end LK
namespace LK
open PySem PySem.Spec PyProof.Rows L2
/-- isinstance(e, c), e the exception that the suite holds, without a dict -/
def rIsN (K : PySem.W.Frag) (C a : Addr) (cls : Value) (d : Option Addr) : List V → Hp → VK → Prop := fun xs H Q => cls = .ref C ∧ d = none ∧ rIsE K C a xs H Q
theorem call_isN {X : Cx} {a C : Addr} {oe : Obj} {cls : Value} {d : Option Addr} {pn : List (Addr × Obj)} (T : ExcC X.K C) (hz : Zc cls d oe) (hf : ∃ vs, oe.data = .fields vs) : CallR (X.suite a ((a, oe) :: pn)) (.builtin "isinstance") (rIsN X.K C a cls d) := by
  intro pins s σ H xs us Q I r h
  obtain ⟨rfl, rfl, h⟩ := h
  exact call_isE T hz hf pins s σ H xs us Q I r h
end LK

set_option Elab.async false
set_option linter.all false
set_option maxRecDepth 100000
set_option maxHeartbeats 4000000
/-! rows: texts by their codes, tuples of data; cut, joined, their length -/
namespace LK
open PySem PySem.Spec PyProof.Rows L2 SX
inductive RowD where
  | txt (cs : List Nat)
  | tup (ds : List PyData)
namespace RowD
def d : RowD → PyData
  | txt cs => .str (S cs)
  | tup ds => .tuple ds
def len : RowD → Nat
  | txt cs => cs.length
  | tup ds => ds.length
end RowD
/-- xs[lo:hi] -/
def cutG {α : Type} (xs : List α) (lo hi : Option Int) : List α := (xs.drop (HT.sIx xs.length 0 lo)).take (HT.sIx xs.length xs.length hi - HT.sIx xs.length 0 lo)
def RowD.cut (r : RowD) (lo hi : Option Int) : RowD := match r with
  | .txt cs => .txt (cutG cs lo hi)
  | .tup ds => .tup (cutG ds lo hi)
theorem cutG_nat {α : Type} (xs : List α) {i j : Nat} (hi : i ≤ xs.length) (hj : j ≤ xs.length) : cutG xs (some (i : Int)) (some (j : Int)) = (xs.drop i).take (j - i) := by
  unfold cutG
  rw [HT.sIx_nat, HT.sIx_nat, Nat.min_eq_left hi, Nat.min_eq_left hj]
theorem cutG_to {α : Type} (xs : List α) {j : Nat} (hj : j ≤ xs.length) : cutG xs none (some (j : Int)) = xs.take j := by
  unfold cutG
  rw [HT.sIx_none, HT.sIx_nat, Nat.min_eq_left hj, List.drop_zero, Nat.sub_zero]
theorem cutG_from {α : Type} (xs : List α) {j : Nat} (hj : j ≤ xs.length) : cutG xs (some (j : Int)) none = xs.drop j := by
  unfold cutG
  rw [HT.sIx_none, HT.sIx_nat, Nat.min_eq_left hj]
  exact List.take_of_length_le (by rw [List.length_drop]; omega)
theorem DtAll.drop {K : PySem.W.Frag} {H : Hp} : ∀ {vs : List V} {ds : List PyData} (n : Nat), DtAll K H vs ds → DtAll K H (vs.drop n) (ds.drop n)
  | _, _, 0, h => h
  | _, _, _ + 1, .nil => .nil
  | _, _, n + 1, .cons _ t => t.drop n
theorem DtAll.takeN {K : PySem.W.Frag} {H : Hp} : ∀ {vs : List V} {ds : List PyData} (n : Nat), DtAll K H vs ds → DtAll K H (vs.take n) (ds.take n)
  | _, _, 0, _ => by rw [List.take_zero, List.take_zero]; exact .nil
  | _, _, _ + 1, .nil => .nil
  | _, _, n + 1, .cons h t => .cons h (t.takeN n)
theorem DtAll.cutG {K : PySem.W.Frag} {H : Hp} {vs : List V} {ds : List PyData} (h : DtAll K H vs ds) (lo hi : Option Int) : DtAll K H (cutV vs lo hi) (cutG ds lo hi) := by
  unfold cutV LK.cutG
  rw [h.length]
  exact DtAll.takeN _ (h.drop _)
theorem cutS_G (cs : List Nat) (lo hi : Option Int) : cutS (S cs) lo hi = S (cutG cs lo hi) := by
  unfold cutS cutG
  rw [S_len]
section
variable {X : Cx}
def rSlR (K : PySem.W.Frag) : V → Option Int → Option Int → Hp → VK → Prop := fun x lo hi H Q => ∃ r : RowD, Dt K H x r.d ∧ r.len ≤ 2000 ∧ ∀ v H', Same H H' → Dt K H' v (r.cut lo hi).d → Q v H'
theorem sl_row : SlR X (rSlR X.K) := by
  intro pins s σ H x v vl vu lo hi sl Q I rx hs pl pu h
  obtain ⟨r, dr, hn, q⟩ := h
  cases r with
  | txt cs =>
    cases dr.str_inv
    refine sl_str pins s σ H _ v vl vu _ _ sl Q I rx hs pl pu ⟨_, rfl, by rw [S_len]; exact Nat.le_trans hn (by decide), q _ _ (Same.refl _) ?_⟩
    rw [cutS_G]
    exact .str _
  | tup ds =>
    obtain ⟨p, xs, rfl, hq, ax⟩ := dr.tuple_inv
    have lx := ax.length
    refine sl_tupA pins s σ H _ v vl vu _ _ sl Q I rx hs pl pu ⟨p, xs, rfl, hq, fun hw => ?_, fun _ z hz => ?_⟩
    · refine q _ _ (Same.refl _) ?_
      rw [lx] at hw
      show Dt _ _ _ (PyData.tuple (cutG ds lo hi))
      unfold cutG
      rw [hw.1, hw.2, List.drop_zero, Nat.sub_zero, List.take_length]
      exact dr
    · exact q _ _ (Same.new hz) (Dt.made hz (ax.cutG lo hi))
/-- len(a), a row -/
def rLenR (K : PySem.W.Frag) : List V → Hp → VK → Prop := fun vs H Q => ∃ (v : V) (r : RowD), vs = [v] ∧ Dt K H v r.d ∧ r.len ≤ 2000 ∧ Q (.int (r.len : Int)) H
theorem call_lenR : CallR X (.builtin "len") (rLenR X.K) := by
  intro pins s σ H xs us Q I r h
  obtain ⟨v, rw', rfl, da, hn, q⟩ := h
  cases rw' with
  | txt cs =>
    cases da.str_inv
    exact call_len pins s σ H _ us Q I r ⟨_, cs.length, rfl, ⟨by rw [S_len]; exact Nat.le_trans hn (by decide), (S_len _).symm⟩, q⟩
  | tup ds =>
    obtain ⟨p, ys, rfl, hq, ax⟩ := da.tuple_inv
    exact call_len pins s σ H _ us Q I r ⟨_, ds.length, rfl, .inr ⟨_, hq, ax.length.symm⟩, q⟩
/-- x + y, tuples of data -/
def rCatTD (K : PySem.W.Frag) : R2 := fun x y H Q => ∃ ds es : List PyData, Dt K H x (.tuple ds) ∧ Dt K H y (.tuple es) ∧ ds.length + es.length ≤ 2000 ∧ ∀ v H', Same H H' → Dt K H' v (.tuple (ds ++ es)) → Q v H'
theorem op_catTD : OpR X (binaryOp .Add) (rCatTD X.K) := by
  intro pins s σ H x y v u Q I rx ry h
  obtain ⟨ds, es, dx, dy, hz, q⟩ := h
  obtain ⟨a, xs, rfl, ha, ax⟩ := dx.tuple_inv
  obtain ⟨b, ys, rfl, hb, ay⟩ := dy.tuple_inv
  have lx := ax.length
  have ly := ay.length
  refine op_catA pins s σ H _ _ v u Q I rx ry ⟨a, b, xs, ys, rfl, rfl, ha, hb, by rw [lx, ly]; exact Nat.le_trans hz (by decide), fun e => ?_, fun _ e => ?_, fun _ _ p hp => ?_⟩
  · subst e
    cases ax
    exact q _ _ (Same.refl _) dy
  · subst e
    cases ay
    rw [List.append_nil] at q
    exact q _ _ (Same.refl _) dx
  · exact q _ _ (Same.new hp) (Dt.made hp (DtAll.app ax ay))
end
end LK

set_option Elab.async false
set_option linter.all false
set_option maxRecDepth 100000
set_option maxHeartbeats 4000000
/-! Classes of one's own in the layer: fields, instances made, methods called. -/
namespace LK
open PySem PySem.Spec PyProof.Rows L2
/-- none of the names stands in the class -/
inductive NoAll (K : PySem.W.Frag) (C : Addr) : List Str → Prop
  | nil : NoAll K C []
  | cons {f : Str} {r : List Str} (h : PySem.W.findIn K (.ref C) f = some none) (t : NoAll K C r) : NoAll K C (f :: r)
theorem NoAll.at {K : PySem.W.Frag} {C : Addr} {f : Str} : ∀ {fs : List Str}, NoAll K C fs → fs.contains f = true → NoAttr K C f
  | _, .nil, h => by cases h
  | g :: r, .cons a t, h => by
    by_cases e : f = g
    · subst e; exact a
    · refine NoAll.at t ?_
      rw [List.contains_cons] at h
      rcases Bool.or_eq_true_iff.mp h with q | q
      · exact absurd (eq_of_beq q) e
      · exact q
/-- the class x as the top leaves it, at C, with the fields fs -/
structure ClsK (K : PySem.W.Frag) (x : Str) (fs : List Str) (C : Addr) : Prop where
  ns : PySem.W.nsIn K mainGlobals x = some (some (.ref C))
  cl : Cls K C
  mks : PySem.W.makesIn K C = true
  kp : PySem.W.keepIn K (.ref C) = true
  no : NoAll K C fs
theorem ClsK.mk' {K : PySem.W.Frag} {x : Str} {fs : List Str} {C : Addr} (a : PySem.W.nsIn K mainGlobals x = some (some (.ref C))) (pg : PySem.W.plainGet K C Str.empty = true) (hd : PySem.W.hasDictIn K C = true) (po : PySem.W.plainOver K C = true)
    (sa : PySem.W.findIn K (.ref C) "__setattr__" = some (some (.builtin "object.__setattr__"))) (mk : PySem.W.makesIn K C = true) (kp : PySem.W.keepIn K (.ref C) = true) (no : NoAll K C fs) : ClsK K x fs C := ⟨a, ⟨pg, hd, po, sa⟩, mk, kp, no⟩
structure UseC (K : PySem.W.Frag) (mg : Str → Option Value) (x : Str) (fs : List Str) (C : Addr) : Prop where
  cl : Cls K C
  no : NoAll K C fs
  mg : mg x = some (.ref C)
theorem ClsK.g {K : PySem.W.Frag} {mg : Str → Option Value} {h : Heap} {x : Str} {fs : List Str} {C : Addr} (k : ClsK K x fs C) (X : K.In h) (G : h.Ns mainGlobals mg) : UseC K mg x fs C := ⟨k.cl, k.no, PySem.W.mg_of X G k.ns⟩
/-- a method as the top leaves it -/
def HasMeth (K : PySem.W.Frag) (C : Addr) (m q : Str) (st : Stmt) : Prop := ∃ (f : Addr) (oc : Value) (od an : Option Addr) (kV doc pm cdv ct : Value) (osl : Array (Option Value)),
  PySem.W.findIn K (.ref C) m = some (some (.ref f)) ∧ PySem.W.isFn K (.ref f) = true ∧ PySem.W.keepIn K (.ref f) = true ∧
  K.lookup f = some ⟨oc, od, .func (PySem.W.fnOf m q (defArgs st) (defBody st) (defScope st) .none kV doc pm an cdv ct), osl⟩ ∧ PySem.W.codeIn K cdv q = true
theorem HasMeth.mk' {K : PySem.W.Frag} {C : Addr} {m q : Str} {st : Stmt} {f : Addr} {oc : Value} {od an : Option Addr} {kV doc pm cdv ct : Value} {osl : Array (Option Value)} (a : PySem.W.findIn K (.ref C) m = some (some (.ref f))) (i : PySem.W.isFn K (.ref f) = true)
    (k : PySem.W.keepIn K (.ref f) = true) (b : K.lookup f = some ⟨oc, od, .func (PySem.W.fnOf m q (defArgs st) (defBody st) (defScope st) .none kV doc pm an cdv ct), osl⟩) (c : PySem.W.codeIn K cdv q = true) : HasMeth K C m q st :=
  ⟨f, oc, od, an, kV, doc, pm, cdv, ct, osl, a, i, k, b, c⟩
/-- a method may be called -/
structure UseM (P : Program) (w : World) (K : PySem.W.Frag) (mg : Str → Option Value) (base : Heap) (CX : CXT) (C : Addr) (m : Str) (k : Nat) (ps : List Str) (sp : Sp) : Prop where
  ex : ∃ (f : Addr) (fd : FuncData), FnG P w K mg base CX k f fd ps sp ∧ Meth K C m f ∧ Binds K fd ps []
/-- an instance may be made -/
structure UseK (P : Program) (w : World) (K : PySem.W.Frag) (mg : Str → Option Value) (base : Heap) (x : Str) (C : Addr) (k : Nat) (ps : List Str) (sp : Sp) : Prop where
  ex : ∃ (f : Addr) (fd : FuncData), FnOk P w K mg base CX0 k f fd ps sp ∧ Mk K C f ∧ Binds K fd ps [] ∧ mg x = some (.ref C)
section
variable {P : Program} {w : World} {K : PySem.W.Frag} {mg : Str → Option Value} {base h : Heap} {CX : CXT} {C : Addr} {m q x : Str} {st : Stmt} {k : Nat} {ps fs : List Str} {sp : Sp}
theorem mk_useM (F : HasMeth K C m q st) (hb : ∀ (kV doc pm : Value) (an : Option Addr) (cdv ct : Value) (us : List Value), us.length = ps.length → bindArgs (PySem.W.fnOf m q (defArgs st) (defBody st) (defScope st) .none kV doc pm an cdv ct) ⟨us, []⟩ = pure (ps.zip us))
    (ok : ∀ (f : Addr) (fd : FuncData), Fun K m q st f fd → FnG P w K mg base CX k f fd ps sp) : UseM P w K mg base CX C m k ps sp := by
  obtain ⟨f, oc, od, an, kV, doc, pm, cdv, ct, osl, a, i, kp, b, c⟩ := F
  have Fn := fun_mk (st := st) b c kp
  exact ⟨f, _, ok f _ Fn, ⟨a, i, kp⟩, Fn.binds hb⟩
theorem mk_useK (k0 : ClsK K x fs C) (F : HasMeth K C "__init__" q st) (X : K.In h) (G : h.Ns mainGlobals mg) (hb : ∀ (kV doc pm : Value) (an : Option Addr) (cdv ct : Value) (us : List Value), us.length = ps.length → bindArgs (PySem.W.fnOf "__init__" q (defArgs st) (defBody st) (defScope st) .none kV doc pm an cdv ct) ⟨us, []⟩ = pure (ps.zip us))
    (ok : ∀ (f : Addr) (fd : FuncData), Fun K "__init__" q st f fd → FnOk P w K mg base CX0 k f fd ps sp) : UseK P w K mg base x C k ps sp := by
  obtain ⟨f, oc, od, an, kV, doc, pm, cdv, ct, osl, a, i, kp, b, c⟩ := F
  have Fn := fun_mk (st := st) b c kp
  exact ⟨f, _, ok f _ Fn, ⟨k0.mks, a, i, k0.kp⟩, Fn.binds hb, PySem.W.mg_of X G k0.ns⟩
theorem UseM.imp {sp' : Sp} (U : UseM P w K mg base CX C m k ps sp) (i : ∀ vs H Q E, sp' vs H Q E → sp vs H Q E) : UseM P w K mg base CX C m k ps sp' := by
  obtain ⟨f, fd, ok, r⟩ := U.ex
  exact ⟨f, fd, ok.imp i, r⟩
end
/-! ### readings -/
def tFd (C : Addr) (ta : TE) (f : Str) : TE := fun σ H Q => ta σ H fun x H1 => ∃ a dx gs v, x = .ref a ∧ H1 a = some (.ins C dx gs) ∧ gs.lookup f = some v ∧ Q v H1
def sFd (C : Addr) (ta tv : TE) (f : Str) : TS := fun D σ H => tv σ H fun y H1 => ta σ H1 fun x H2 => ∃ a dx gs, x = .ref a ∧ H2 a = some (.ins C dx gs) ∧ gs.length < 1000 ∧ D.nx σ (upd H2 a (.ins C dx (putF f y gs)))
def sFdAug (C : Addr) (ta tv : TE) (rd : V → V → Hp → VK → Prop) (f : Str) : TS := fun D σ H => ta σ H fun x H1 => ∃ a dx gs v, x = .ref a ∧ H1 a = some (.ins C dx gs) ∧ gs.lookup f = some v ∧
  tv σ H1 fun y H2 => rd v y H2 fun z H3 => ∃ dx' gs', H3 a = some (.ins C dx' gs') ∧ gs'.length < 1000 ∧ D.nx σ (upd H3 a (.ins C dx' (putF f z gs')))
def tMc (C : Addr) (m : Str) (sp : Sp) (E : XK) (ta : TE) (t : TA) : TE := fun σ H Q => ta σ H fun x H1 => ∃ a dx gs, x = .ref a ∧ H1 a = some (.ins C dx gs) ∧ gs.lookup m = none ∧ t σ H1 fun vs H2 => sp (.ref a :: vs) H2 Q E
def tMk (C : Addr) (sp : Sp) (t : TA) : TE := fun σ H Q => t σ H fun vs H1 => ∀ x dx, H1 x = none → H1 dx = none → dx ≠ x → sp (.ref x :: vs) (upd (upd H1 dx (.own x)) x (.ins C dx [])) (fun v H2 => v = .non ∧ Q (.ref x) H2) E0
section
variable {X : Cx} {CX : CXT} {C : Addr} {x m f : Str} {fs ps : List Str} {k : Nat} {sp : Sp} {o e value : Expr} {es : List Expr} {p pos pos' tpos apos : Pos} {ta tv : TE} {t : TA}
theorem pe_fd (U : UseC X.K X.mg x fs C) (hf : fs.contains f = true) (he : PE X e ta) (hb : attributeBase e f X.env (eval e X.env) = eval e X.env := by rfl) : PE X (.Attribute e f pos) (tFd C ta f) := by
  refine ⟨fun pins s σ H Q I h => ?_⟩
  refine attr_of hb (thn (he.run pins s σ H _ I h) fun u s1 ⟨x, H1, I1, rx, a, dx, fs, v, ex, ea, l, q⟩ => ?_)
  subst ex
  obtain rfl : u = Value.ref a := rx
  exact getattr_ok I1 ea U.cl (U.no.at hf) l fun u' s2 I2 ru => ⟨v, H1, I2, ru, q⟩
theorem ps_fd (U : UseC X.K X.mg x fs C) (hf : fs.contains f = true) (ha : PE X o ta) (hv : PE X value tv) (hs : swapsWith value (some (.Attribute o f pos')) pos.line X.env = pure false := by rfl) : PS X (.Assign [.Attribute o f pos'] value pos) (sFd C ta tv f) := by
  refine ⟨fun pins s σ H D I h => ?_⟩
  refine plainObj_wpAny_Assign_Attribute (thn (hv.run pins s σ H _ I h) fun u s1 ⟨y, H1, I1, ry, q⟩ => thn (ha.run pins s1 σ H1 _ I1 q) fun ov s2 ⟨x, H2, I2, rx, a, dx, fs, ex, ea, l, q2⟩ => ?_) hs
  subst ex
  obtain rfl : ov = Value.ref a := rx
  exact setattr_ok I2 ea U.cl (U.no.at hf) l ry fun s3 I3 => ⟨σ, _, I3, q2⟩
theorem ps_fdaug (U : UseC X.K X.mg x fs C) (hf : fs.contains f = true) {op : Operator} {rd : V → V → Hp → VK → Prop} (ha : PE X o ta) (hv : PE X value tv) (hop : InOp X op rd) : PS X (.AugAssign (.Attribute o f tpos) op value pos) (sFdAug C ta tv rd f) := by
  refine ⟨fun pins s σ H D I h => ?_⟩
  refine wpAny_AugAssign_AttributeAny (thn (ha.run pins s σ H _ I h) fun ov s1 ⟨x, H1, I1, rx, a, dx, fs, v, ex, ea, l, q⟩ => ?_)
  subst ex
  obtain rfl : ov = Value.ref a := rx
  refine getattr_ok I1 ea U.cl (U.no.at hf) l fun u s2 I2 ru => thn (hv.run pins s2 σ H1 _ I2 q) fun w3 s3 ⟨y, H2, I3, ry, q3⟩ => thn (hop pins s3 σ H2 v y u w3 _ I3 ru ry q3) fun w4 s4 ⟨z, H3, I4, rz, dx', fs', ea', l', q4⟩ => ?_
  exact setattr_ok I4 ea' U.cl (U.no.at hf) l' rz fun s5 I5 => ⟨σ, _, I5, q4⟩
/-- o.m(e, ..) -/
theorem pe_mc {E : XK} {pl : Sem Bool} (U : UseC X.K X.mg x fs C) (M : UseM X.prog X.w X.K X.mg X.base CX C m k ps sp) (hx : Passes CX X E) (hr : Room k X.A) (gd : X.A.guards = some []) (he : PE X o ta) (ha : PA X (e :: es) t)
    (hst : starEach (e :: es) X.env = (false, eval e X.env) :: starEach es X.env := by rfl) (hpl : (backTo pos (starEach es X.env)).any (·.1) = false := by rfl)
    (ht : eval (.Call (.Attribute o m apos) (e :: es) [] pos) X.env = (do
      let ov ← eval o X.env
      standAt apos.atName
      let (f, first) ← holding [ov] (getMethod ov m pl)
      callWith pos f first (backTo pos (starEach (e :: es) X.env)) (backToKw pos (keywordEach [] X.env))) := by rfl) :
    PE X (.Call (.Attribute o m apos) (e :: es) [] pos) (tMc C m sp E ta t) := by
  obtain ⟨f, fd, F, hm, hb⟩ := M.ex
  refine ⟨fun pins s σ H Q I h => ?_⟩
  refine PySem.W.methodCall_KW (pl := pl) (thn (he.run pins s σ H _ I h) fun u s1 ⟨x, H1, I1, rx, a, dx, fs, ex, ea, l, q⟩ => ?_) ht
  subst ex
  obtain rfl : u = Value.ref a := rx
  refine getmeth_ok I1 ea U.cl hm l ?_
  refine PySem.W.callWith_K (first := [.ref a]) (h₀ := X.base) I.ok.mod.kin hm.kp (thn (ha.run pos pins s1 σ H1 _ I1 q) fun us s2 ⟨vs, H2, I2, r, q2⟩ => ⟨I2.kIn, ?_⟩) hst hpl
  exact run_fnG (us := .ref a :: us) (vs := .ref a :: vs) F hr gd hb hx I2 (.cons rfl r) q2
/-- o.m() -/
theorem pe_mc0 {E : XK} {pl : Sem Bool} (U : UseC X.K X.mg x fs C) (M : UseM X.prog X.w X.K X.mg X.base CX C m k ps sp) (hx : Passes CX X E) (hr : Room k X.A) (gd : X.A.guards = some []) (he : PE X o ta)
    (ht : eval (.Call (.Attribute o m apos) [] [] pos) X.env = (do
      let ov ← eval o X.env
      standAt apos.atName
      let (f, first) ← holding [ov] (getMethod ov m pl)
      callWith pos f first (backTo pos (starEach [] X.env)) (backToKw pos (keywordEach [] X.env))) := by rfl) :
    PE X (.Call (.Attribute o m apos) [] [] pos) (tMc C m sp E ta tNil) := by
  obtain ⟨f, fd, F, hm, hb⟩ := M.ex
  refine ⟨fun pins s σ H Q I h => ?_⟩
  refine PySem.W.methodCall_KW (pl := pl) (thn (he.run pins s σ H _ I h) fun u s1 ⟨x, H1, I1, rx, a, dx, fs, ex, ea, l, q⟩ => ?_) ht
  subst ex
  obtain rfl : u = Value.ref a := rx
  refine getmeth_ok I1 ea U.cl hm l ?_
  exact PySem.W.callWith_K0 (first := [.ref a]) I1.kIn hm.kp (run_fnG (us := [.ref a]) (vs := [.ref a]) F hr gd hb hx I1 (.cons rfl .nil) q)
/-- C(e, ..) -/
theorem pe_mk (M : UseK X.prog X.w X.K X.mg X.base x C k ps sp) (hr : Room (k + 1) X.A) (hg : Gl X x) (ha : PA X (e :: es) t) (hdb : (x == ("__debug__" : Str)) = false := by decide) (he : starEach (e :: es) X.env = (false, eval e X.env) :: starEach es X.env := by rfl)
    (hpl : (backTo pos (starEach es X.env)).any (·.1) = false := by rfl) : PE X (.Call (.Name x p) (e :: es) [] pos) (tMk C sp t) := by
  obtain ⟨f, fd, F, mk, hb, hm⟩ := M.ex
  have R := pe_make (p := p) (pos := pos) mk F hr hg hm hb .nil pass0 ha hdb he hpl
  refine ⟨fun pins s σ H Q I h => R.run pins s σ H Q I ?_⟩
  have e0 : (tMake C sp [] E0 t : TE) = tMk C sp t := by
    funext σ H Q
    unfold tMake tMk
    simp only [List.append_nil]
  rw [e0]; exact h
end
end LK

set_option Elab.async false
set_option linter.all false
set_option maxRecDepth 100000
set_option maxHeartbeats 4000000
/-! list(reversed(x)) of a tuple -/
namespace LK
open PySem PySem.Spec PyProof.Rows L2 SX
theorem nolen_rt : typeLookup (.type "reversed") "__len__" = pure none := by rw [typeLookup_type, builtinLookup_eq_fast]; kernel_rfl
theorem slot_rt_hint : Slot "reversed" "__length_hint__" "reversed.__length_hint__" :=
  .of (owner := "reversed") (n := "__length_hint__") (by rw [typeLookup_type, builtinLookup_eq_fast]; kernel_rfl) (by decide +kernel) (by decide +kernel) (by decide +kernel)
    (by first | exact .inl (by decide +kernel) | exact .inr (by decide +kernel)) (by rw [isSubtype_type]; kernel_rfl)
theorem entry_rt_hint : entryFor table "reversed.__length_hint__" = some Builtin.«reversed.__length_hint__» := entryFor_of_tree (by kernel_rfl)
theorem args_rt_hint (a : Value) : argsOk "reversed.__length_hint__" ⟨[a], []⟩ := by
  unfold argsOk; rw [signature?_of (id := "reversed.__length_hint__") (n := ['_', '_', 't', 'n', 'i', 'h', '_', 'h', 't', 'g', 'n', 'e', 'l', '_', '_']) (o := ['d', 'e', 's', 'r', 'e', 'v', 'e', 'r']) (by kernel_rfl) RT.owner_rt]; kernel_rfl
section
variable {prog : Program} {w : World} {A : Around} {E : Value → Shared → Prop} {s : Shared}
theorem hint_rt {it t : Addr} {items : Array Value} {Q : Bool → Shared → Prop} (hit : RT.IsRt s.heap it t ((items.size : Int) - 1)) (ht : IsTup s.heap t items) (hn : items.size ≤ sizeLine)
    (hQ : ∀ b tk, Q b { s with toks := tk }) : wpAny (model prog w) A (Builtin.List.listLengthHint (.ref it)) Q E s := by
  have hT : s.TypeIs (.ref it) "reversed" := hit.typeIs
  obtain ⟨o, ho, hc, hd⟩ := id hit
  unfold Builtin.List.listLengthHint
  refine wpAny_bind (wpAny_specialOf hT nolen_rt ?_)
  show wpAny _ _ (specialOf (Value.ref it) (Str.ofString "__length_hint__") >>= _) _ _ _
  refine wpAny_bind (wpAny_specialOf hT slot_rt_hint.lookup ?_)
  generalize hid : ("reversed.__length_hint__" : String) = id0
  wp_delta
  rw [show splitId id0 = some ("reversed", "__length_hint__") from by subst hid; decide +kernel]
  subst hid
  refine wpAny_bind (wpAny_isInstance (b := true) hT (by rw [isSubtype_type]; kernel_rfl) ?_)
  rw [if_neg (by decide)]
  rw [if_neg (by decide +kernel)]
  refine wpAny_bind (wpAny_rule ?_)
  refine wpAny_bind (wpAny_of_eq (slot_rt_hint.bind (.ref it)) ?_)
  refine wpAny_bind (wpAny_attempt (wpAny_call_entry slot_rt_hint hT entry_rt_hint ?_ (args_rt_hint _)))
  unfold Builtin.«reversed.__length_hint__»
  refine wpAny_bind (wpAny_of_eq (a := Value.ref it) rfl ?_)
  refine wpAny_bind (wpAny_field ho hd (x := .ref t) rfl ?_)
  rw [if_neg (show ¬ ((Value.ref t == Value.none) = true) from Bool.false_ne_true)]
  refine wpAny_bind (len_tuple ht (by rw [sizeLine_eq] at hn; omega) ?_)
  refine wpAny_bind (wpAny_of_eq (a := some ((items.size : Nat) : Int)) rfl ?_)
  refine wpAny_bind (wpAny_field (s := { s with toks := s.toks + 1 + 1 }) ho hd (x := rawInt ((items.size : Int) - 1)) rfl ?_)
  show wpAny _ _ (if ((items.size : Nat) : Int) < (items.size : Int) - 1 + 1 then _ else _) _ _ _
  rw [if_neg (by omega)]
  have e1 : (items.size : Int) - 1 + 1 = ((items.size : Nat) : Int) := by omega
  rw [e1]
  have hz := hn
  rw [sizeLine_eq] at hz
  unfold retInt
  refine wpAny_bind (wpAny_mkInt ?_)
  refine wpAny_pure ⟨_, rfl, ?_⟩
  dsimp only
  have f0 : ¬ (((items.size : Nat) : Int) < 0) := Int.not_lt.mpr (Int.natCast_nonneg _)
  have f1 : Builtin.List.listFitsIndex ((items.size : Nat) : Int) = true := by
    unfold Builtin.List.listFitsIndex
    rw [Bool.and_eq_true]
    exact ⟨decide_eq_true (by omega), decide_eq_true (by omega)⟩
  have f2 : Builtin.List.listTooLong ((items.size : Nat) : Int).toNat = false := by
    unfold Builtin.List.listTooLong
    rw [Int.toNat_natCast]
    exact decide_eq_false (Nat.not_lt.mpr hn)
  have f3 : ∀ tk, asInt? (Value.int ((items.size : Nat) : Int) tk) = pure (some ((items.size : Nat) : Int)) := fun _ => rfl
  generalize ((items.size : Nat) : Int) = N at f0 f1 f2 f3 ⊢
  rw [f3]
  refine wpAny_bind (wpAny_pure ?_)
  dsimp only
  rw [f1, if_neg (show ¬ ((!true) = true) by decide), if_neg f0, f2, if_neg Bool.false_ne_true]
  exact wpAny_pure (hQ _ _)
theorem walks_rt {t it : Addr} {items : Array Value} (hh : A.handled = none) (hne : t ≠ it) (hn : items.size ≤ sizeLine) :
    Walks prog w A it [it, t] [it] items.size (fun i v => items[items.size - 1 - i]? = some v) (fun i h => i ≤ items.size ∧ RT.IsRt h it t ((items.size : Int) - 1 - (i : Nat)) ∧ IsTup h t items) where
  sub := fun b hb => by rw [List.mem_singleton.mp hb]; simp
  frame := fun i h h' st hk => ⟨st.1, st.2.1.at fun o e => hk it (by simp) o e, let ⟨o, ho, r⟩ := st.2.2; ⟨o, hk t (by simp) o ho, r⟩⟩
  item := fun i s Q E hi st hQ => by
    have e1 : (items.size : Int) - 1 - ((i : Nat) : Int) = ((items.size - 1 - i : Nat) : Int) := by omega
    have st2 := st.2.1
    rw [e1] at st2
    have hx : items[items.size - 1 - i]? = some (items[items.size - 1 - i]'(by omega)) := Array.getElem?_eq_getElem (by omega)
    refine RT.next_rt_item st2 st.2.2 hx hn fun h' hit' sb => ?_
    have e2 : ((items.size - 1 - i : Nat) : Int) - 1 = (items.size : Int) - 1 - ((i + 1 : Nat) : Int) := by omega
    rw [e2] at hit'
    exact hQ _ h' _ hx ⟨hi, hit', let ⟨o, ho, r⟩ := st.2.2; ⟨o, (sb.2 t hne).trans ho, r⟩⟩ fun b o hb e => (sb.2 b (fun h => hb (by simp [h]))).trans e
  done := fun s Q E st hQ => by
    have st2 := st.2.1
    rw [show (items.size : Int) - 1 - ((items.size : Nat) : Int) = -1 by omega] at st2
    exact RT.next_rt_end hh st2 fun h' he => hQ h' s.toks fun b o hb e => he b o (fun h => hb (by simp [h])) e
  self := fun i s Q E st h => RT.iter_rt st.2.1 h
theorem extend_rt {R : Result → Shared → Prop} {it t S : Addr} {items : Array Value} (res : Value) (c₀ : Nat) (hh : A.handled = none) (hit : RT.IsRt s.heap it t ((items.size : Int) - 1)) (ht : IsTup s.heap t items) (hne : t ≠ it) (hn : items.size ≤ sizeLine) (hSi : S ≠ it) (hSt : S ≠ t)
    (hS : s.heap.get? S = some { cls := .type "list", data := .seq #[] c₀ })
    (hR : ∀ h' tk acc' c', (∀ b o, b ≠ S → b ≠ it → s.heap.get? b = some o → h'.get? b = some o) → h'.get? S = some { cls := .type "list", dict := none, data := .seq acc' c', slots := #[] } → ItemsOf (fun i v => items[items.size - 1 - i]? = some v) acc' items.size → R (.ok (.ret res)) { s with heap := h', toks := tk }) :
    wpAny (model prog w) A.in1 (Builtin.List.listExtendWith (.ref S) (.ref it) res)
      (fun fin s' => match fin with | .done f => R (.ok f) s' | .again c' => c'.quiet = true ∧ codeAny (model prog w) A c' R s') (fun e s' => R (.error e) s') s := by
  have W := walks_rt (prog := prog) (w := w) (A := A.in1) (items := items) hh hne hn
  have hSf : S ∉ [it, t] := by simp only [List.mem_cons, List.not_mem_nil, or_false, not_or]; exact ⟨hSi, hSt⟩
  have key : ∀ (h : Heap) (c₁ tk : Nat), (∀ b o, b ≠ S → s.heap.get? b = some o → h.get? b = some o) →
      h.get? S = some { cls := .type "list", data := .seq #[] c₁ } → codeAny (model prog w) A (.builtin "list.extend.loop" ⟨[.ref S, .ref it, res], []⟩) R { s with heap := h, toks := tk } := by
    intro h c₁ tk hk hS₁
    have hst : (fun (i : Nat) (h : Heap) => i ≤ items.size ∧ RT.IsRt h it t ((items.size : Int) - 1 - (i : Nat)) ∧ IsTup h t items) 0 h :=
      ⟨Nat.zero_le _, by rw [show (items.size : Int) - 1 - ((0 : Nat) : Int) = (items.size : Int) - 1 by omega]; exact hit.at fun o e => hk it o (Ne.symm hSi) e, let ⟨o, ho, r⟩ := ht; ⟨o, hk t o (Ne.symm hSt) ho, r⟩⟩
    refine codeAny_extend_loopS W.toS hn S hSf res items.size 0 _ #[] c₁ rfl (Nat.zero_le _) hst hS₁ (ItemsOf.nil _) fun s' acc' c' hm hS' hacc => ?_
    rw [Moved.eq_with hm]
    refine hR s'.heap s'.toks acc' c' (fun b o hb hb2 e => hm.heap b o (fun hmem => ?_) (hk b o hb e)) hS' hacc
    rcases List.mem_cons.mp hmem with e' | hmem
    · exact hb e'
    · exact hb2 (List.mem_singleton.mp hmem)
  have hT : s.TypeIs (.ref it) "reversed" := hit.typeIs
  have h1 : Builtin.List.listSameRef (.ref S) (.ref it) = false := by simp [Builtin.List.listSameRef, hSi]
  unfold Builtin.List.listExtendWith
  refine wpAny_bind (wpAny_typeOf hT ?_)
  rw [if_neg (by rw [h1]; decide)]
  refine wpAny_bind (RT.iter_rt hit ?_)
  refine wpAny_bind (wpAny_holding (hint_rt hit ht hn fun b tk => ?_))
  refine wpAny_ite_split (fun _ => ?_) (fun _ => wpAny_pure ⟨plainId_quiet PySem.F.plain_extend_loop _, key _ c₀ _ (fun b o _ e => e) hS⟩)
  refine wpAny_bind (wpAny_rule ?_)
  refine wpAny_bind ?_
  show wpAny _ _ (updateSeq S (·.push .none) >>= fun _ => updateSeq S (·.pop)) _ _ _
  refine wpAny_bind (wpAny_updateSeq (s := { s with toks := tk }) hS rfl ?_)
  have hS₂ := Heap.get?_update_self (Obj.mapSeq (·.push Value.none)) hS rfl
  refine wpAny_updateSeq (hz := by seq_fits) hS₂ rfl ?_
  have hS₃ := Heap.get?_update_self (Obj.mapSeq (·.pop)) hS₂ rfl
  refine wpAny_pure ⟨plainId_quiet PySem.F.plain_extend_loop _, key _ _ _ (fun b o hb e => ?_) hS₃⟩
  exact (Heap.get?_update_other _ _ (Ne.symm hb)).trans ((Heap.get?_update_other _ _ (Ne.symm hb)).trans e)
theorem call_listRt {it t : Addr} {items : Array Value} {Q : Value → Shared → Prop} (hh : A.handled = none) (hit : RT.IsRt s.heap it t ((items.size : Int) - 1)) (ht : IsTup s.heap t items) (hne : t ≠ it) (hn : items.size ≤ sizeLine)
    (hQ : ∀ h' tk acc' c', (∀ b o, b ≠ it → s.heap.get? b = some o → h'.get? b = some o) → h'.get? s.heap.objs.size = some { cls := .type "list", dict := none, data := .seq acc' c', slots := #[] } → ItemsOf (fun i v => items[items.size - 1 - i]? = some v) acc' items.size → Q (.ref s.heap.objs.size) { s with heap := h', toks := tk }) :
    wpAny (model prog w) A (call (.type "list") [.ref it]) Q E s := by
  refine callType_codes (Q₁ := fun obj s₁ => obj = .ref s.heap.objs.size ∧ s₁ = { s with heap := s.heap.push { cls := .type "list", data := .seq #[] } }) PySem.F.called_list (PySem.F.typeCall_list_1 _) PySem.F.entry_list_init
    (code_list_new _ ⟨rfl, rfl⟩) fun obj s₁ h₁ => ?_
  obtain ⟨rfl, rfl⟩ := h₁
  have hS : (s.heap.push { cls := .type "list", data := .seq #[] }).get? s.heap.objs.size = some { cls := .type "list", data := .seq #[] } := Heap.get?_push_size _ rfl
  have li : it < s.heap.objs.size := let ⟨_, e, _⟩ := hit; Heap.lt_size e
  have lt : t < s.heap.objs.size := let ⟨_, e, _⟩ := ht; Heap.lt_size e
  refine ⟨⟨_, hS, rfl⟩, PySem.F.args_list_init_2 _ _, ?_⟩
  show wpAny _ _ (do let old ← Builtin.List.listItems (.ref s.heap.objs.size); Builtin.List.listUpdate (.ref s.heap.objs.size) (fun _ => #[]); letGo old.toList.reverse; Builtin.List.listExtendWith (.ref s.heap.objs.size) (.ref it) .none) _ _ _
  refine wpAny_bind ?_
  unfold Builtin.List.listItems
  refine wpAny_bind (wpAny_seqItems hS rfl (wpAny_pure ?_))
  show wpAny _ _ (updateSeq s.heap.objs.size (fun _ => #[]) >>= fun _ => letGo (#[] : Array Value).toList.reverse >>= fun _ => Builtin.List.listExtendWith (.ref s.heap.objs.size) (.ref it) .none) _ _ _
  refine wpAny_bind (wpAny_updateSeq hS rfl ?_)
  have hS₂ := Heap.get?_update_self (Obj.mapSeq (fun _ => (#[] : Array Value))) hS rfl
  have oth : ∀ b o, b ≠ s.heap.objs.size → s.heap.get? b = some o → ((s.heap.push { cls := .type "list", data := .seq #[] }).update s.heap.objs.size (Obj.mapSeq (fun _ => (#[] : Array Value)))).get? b = some o :=
    fun b o hb e => (Heap.get?_update_other _ _ (Ne.symm hb)).trans (Heap.get?_push_of_some _ e)
  refine wpAny_bind (wpAny_letGo ?_)
  refine extend_rt (A := A.in1) .none _ hh (hit.at fun o e => oth it o (Nat.ne_of_lt li) e) (let ⟨o, ho, r⟩ := ht; ⟨o, oth t o (Nat.ne_of_lt lt) ho, r⟩) hne hn (Nat.ne_of_gt li) (Nat.ne_of_gt lt) hS₂ fun h' tk acc' c' hk hS' hacc => ?_
  exact ⟨rfl, hQ h' tk acc' c' (fun b o hb e => hk b o (Nat.ne_of_lt (Heap.lt_size e)) hb (oth b o (Nat.ne_of_lt (Heap.lt_size e)) e)) hS' hacc⟩
end
def tListRev (K : PySem.W.Frag) (te : TE) : TE := fun σ H Q => te σ H fun v H1 => ∃ (a : Addr) (xs : List V), v = .ref a ∧ SqT K H1 a xs ∧ ∀ q, H1 q = none → Q (.ref q) (L2.upd H1 q (.lst xs.reverse))
theorem pe_listRevT {X : Cx} {e : Expr} {te : TE} {p p2 pos pos2 : Pos} (hc : X.calm = true) (hg : Gl X "list") (hm : X.mg "list" = none) (hg2 : Gl X "reversed") (hm2 : X.mg "reversed" = none) (he : PE X e te)
    (hs : starEach [e] X.env = (false, eval e X.env) :: starEach [] X.env := by rfl)
    (hs2 : starEach [.Call (.Name "reversed" p2) [e] [] pos2] X.env = (false, eval (.Call (.Name "reversed" p2) [e] [] pos2) X.env) :: starEach [] X.env := by rfl) :
    PE X (.Call (.Name "list" p) [.Call (.Name "reversed" p2) [e] [] pos2] [] pos) (tListRev X.K te) := by
  refine ⟨fun pins s σ H Q I h => ?_⟩
  refine Call_ (ld_blt I hg hm PyProof.Rows.boot_list (PyProof.Rows.callWith_type1 (args_cons (Call_ (ld_blt I hg2 hm2 PyProof.Rows.boot_reversed (PyProof.Rows.callWith_type1 (args_cons (thn (he.run pins s σ H _ I h) fun u s1 ⟨v, H1, I1, r1, q1⟩ => args_nil ?_) hs) hs rfl))) hs2) hs2 rfl))
  obtain ⟨a, xs, ev, hq, q⟩ := q1
  subst ev
  obtain rfl : u = Value.ref a := r1
  obtain ⟨its, rv, p', hz⟩ := I1.tuple hq
  have hn : its.toArray.size ≤ sizeLine := by rw [List.size_toArray, ← rv.length]; exact hz
  refine RT.call_reversed_tup p' (fun A E Q k => len_tuple p' (by rw [sizeLine_eq] at hn; omega) k) (args_nil ?_)
  have k0 : ∀ b o, s1.heap.get? b = some o → (s1.heap.push (RT.rtObj a ((its.toArray.size : Int) - 1))).get? b = some o := fun b o e => Heap.get?_push_of_some _ e
  have I2 : Inv X pins σ H1 { s1 with heap := s1.heap.push (RT.rtObj a ((its.toArray.size : Int) - 1)), toks := s1.toks + 1 + 1 } := I1.kept (t' := s1.toks + 1 + 1) k0
  obtain ⟨f0, f1, f2, f3, f4, f5⟩ := I1.fpOk (H' := H1) (b := s1.heap.objs.size) (Nat.le_refl _) (I1.hok.fresh (Nat.le_refl _))
  obtain ⟨oa, hoa, _⟩ := id p'
  have hne : a ≠ s1.heap.objs.size := Nat.ne_of_lt (Heap.lt_size hoa)
  refine call_listRt (s := { s1 with heap := s1.heap.push (RT.rtObj a ((its.toArray.size : Int) - 1)), toks := s1.toks + 1 + 1 }) (I1.ok.hd hc) ⟨_, Heap.get?_push_size _ rfl, rfl, rfl⟩ (p'.keeps k0) hne hn fun h' tk acc c hk hS' hi => ?_
  have szp : (s1.heap.push (RT.rtObj a ((its.toArray.size : Int) - 1))).objs.size = s1.heap.objs.size + 1 := Heap.size_push ..
  have kk : ∀ b o, s1.heap.get? b = some o → h'.get? b = some o := fun b o e => hk b o (Nat.ne_of_lt (Heap.lt_size e)) (k0 b o e)
  have le : s1.heap.objs.size ≤ (s1.heap.push (RT.rtObj a ((its.toArray.size : Int) - 1))).objs.size := by rw [szp]; exact Nat.le_succ _
  refine ⟨.ref (s1.heap.push (RT.rtObj a ((its.toArray.size : Int) - 1))).objs.size, L2.upd H1 _ (.lst xs.reverse), I1.laid (t' := tk) kk le (show ObjOk X.prog X.w _ _ _ (.lst xs.reverse) from ⟨by rw [List.length_reverse]; exact hz, acc.toList, c, RT.vals_rev rv hi, ?_⟩), rfl, q _ (I1.hok.fresh le)⟩
  rw [Array.toArray_toList]
  exact hS'
end LK

set_option Elab.async false
set_option linter.all false
set_option maxRecDepth 100000
set_option maxHeartbeats 4000000
/-! defs that call themselves: a promise by depth, each depth from the one before -/
namespace LK
open PySem PySem.Spec PyProof.Rows L2 SX
section
variable {P : Program} {w : World} {K : PySem.W.Frag} {mg : Str → Option Value} {base h : Heap} {CX : CXT}
/-- sp 0 asks for nothing that can be (it is false); depth n + 1 may use depth n -/
theorem mk_useR {x : Str} {st : Stmt} {ps : List Str} (sp : Nat → Sp) (k0 : Nat) (F : HasFn K x st) (X : K.In h) (G : h.Ns mainGlobals mg)
    (hb : ∀ (kV doc pm : Value) (an : Option Addr) (cdv ct : Value) (us : List Value), us.length = ps.length → bindArgs (PySem.W.fnOf x x (defArgs st) (defBody st) (defScope st) .none kV doc pm an cdv ct) ⟨us, []⟩ = pure (ps.zip us))
    (h0 : ∀ vs H Q E, ¬ sp 0 vs H Q E)
    (ok : ∀ (n : Nat), Use P w K mg base CX x (k0 + n) ps (sp n) → ∀ (f : Addr) (fd : FuncData), Fun K x x st f fd → FnG P w K mg base CX (k0 + n + 1) f fd ps (sp (n + 1))) : ∀ n, Use P w K mg base CX x (k0 + n) ps (sp n)
  | 0 => by
    obtain ⟨f, oc, od, an, kV, doc, pm, cdv, ct, osl, e, l, c, kp⟩ := F
    have Fn := fun_mk (st := st) l c kp
    exact ⟨f, _, ⟨fun vs H Q E s => absurd s (h0 vs H Q E), fun _ _ _ _ _ _ vs Q E _ _ _ _ _ s => absurd s (h0 _ _ _ _)⟩, PySem.W.mg_of X G e, kp, Fn.binds hb⟩
  | n + 1 => mk_use F X G hb (ok n (mk_useR sp k0 F X G hb h0 ok n))
end
end LK

set_option Elab.async false
set_option linter.all false
set_option maxRecDepth 100000
set_option maxHeartbeats 4000000
/-! dict comprehensions over any walk; dicts whose keys are ints -/
namespace LK
open PySem PySem.Spec PyProof.Rows L2
theorem dc_it {J : It} {n : Nat} {G : Hp → Prop} {Y : Nat → Hp → V → Hp → Prop} (wk : Walk J n G Y) {g : TG} {tt : TT} {tk tv : TE} {own : List Nat} {σ : L2.St} {H0 : Hp} {D : Addr} {Qd : Hp → Prop} (I : Nat → Hp → Prop) (st : I 0 (upd H0 D (.dK []))) (still : ∀ j H, j ≤ n → I j H → G H)
    (turn : ∀ j x H H', j < n → I j H → Y j H x H' → g x (wipe σ own) H' fun τ Ha => wipe τ own = wipe σ own ∧ tt τ Ha fun b Hb =>
      if b = true then tk τ Hb fun key Hc => tv τ Hc fun val Hd => ∃ ps c, key = kV c ∧ Hd D = some (.dK ps) ∧ ps.length < sizeLine ∧ I (j + 1) (upd Hd D (.dK (putK ps c val))) else I (j + 1) Hb) (fin : ∀ H, I n H → Qd H) :
    ∃ W : Nat → Nat → Hp → Prop, (∃ m, W 0 m (upd H0 D (.dK []))) ∧ ∀ j m H, W j m H → (J.stop j H ∧ Qd H) ∨ (J.go j H ∧ ∃ Nx : Hp → Prop, (∀ H', Nx H' → ∃ m', m' < m ∧ W (j + 1) m' H') ∧
      ∀ x H', J.yld j H x H' → g x (wipe σ own) H' fun τ Ha => wipe τ own = wipe σ own ∧ tt τ Ha fun b Hb =>
        if b = true then tk τ Hb fun key Hc => tv τ Hc fun val Hd => ∃ ps c, key = kV c ∧ Hd D = some (.dK ps) ∧ ps.length < sizeLine ∧ Nx (upd Hd D (.dK (putK ps c val))) else Nx Hb) := by
  refine ⟨fun j m H => j ≤ n ∧ m = n - j ∧ I j H, ⟨n - 0, Nat.zero_le _, rfl, st⟩, ?_⟩
  rintro j m H ⟨hj, rfl, hI⟩
  have hG := still j H hj hI
  rcases Nat.lt_or_ge j n with c | c
  · exact .inr ⟨wk.goes j H c hG, I (j + 1), fun H' h' => ⟨n - (j + 1), by omega, c, rfl, h'⟩, fun x H' y => turn j x H H' c hI (wk.yields j H x H' c hG y)⟩
  · obtain rfl : j = n := Nat.le_antisymm hj c
    exact .inl ⟨wk.stops H hG, fin H hI⟩
/-- a dict whose keys are the ints of a row -/
def KnAt (H : Hp) (a : Addr) (ks : List Int) : Prop := ∃ kvs : List (Key × V), H a = some (.dK kvs) ∧ kvs.length ≤ ks.length ∧ ∀ k : Int, (valV kvs (.inl k)).isSome = decide (k ∈ ks)
theorem KnAt.nil {H : Hp} {a : Addr} : KnAt (upd H a (.dK [])) a [] := ⟨[], upd_same, Nat.le_refl _, fun k => by rw [valV_nil]; simp⟩
theorem KnAt.put {H : Hp} {a : Addr} {ks : List Int} {kvs : List (Key × V)} {k : Int} {v : V} (h : KnAt H a ks) (e : H a = some (.dK kvs)) : KnAt (upd H a (.dK (putK kvs (.inl k) v))) a (ks ++ [k]) := by
  obtain ⟨kvs', e', l, p⟩ := h
  rw [e] at e'
  obtain rfl := HO.dK.inj (Option.some.inj e')
  refine ⟨_, upd_same, ?_, fun j => ?_⟩
  · have := length_putK kvs (.inl k) v
    rw [List.length_append, List.length_singleton]; omega
  · rw [valV_put]
    by_cases c : j = k
    · subst c; simp
    · rw [if_neg (fun h => c (Sum.inl.inj h)), p j]
      simp [c]
theorem KnAt.same {H H' : Hp} {a : Addr} {ks : List Int} (h : KnAt H a ks) (e : Same H H') : KnAt H' a ks := let ⟨x, b, c⟩ := h; ⟨x, e _ _ b, c⟩
/-- what a comprehension's block asks of each of its pieces -/
abbrev InBlk (X : Cx) (scope : Scope) (Z : Cx → Prop) : Prop := ∀ (s : Shared) (H : Hp) (C : Addr) (cl : List (Str × Addr)) (fp : List Addr), Z (X.blk s H scope (compEnvC scope cl C X.env) fp)
/-- name = {k: v for ..}, the name a local of the def -/
theorem ps_setDc {X : Cx} {i : Nat} {y : Str} {py : Pos} {ke ve te ie : Expr} {ifs : List Expr} {scope : Scope} {own : List (Str × Nat)} {p1 p2 : Pos} {wi : TI} {g : TG} {tt : TT} {tk tv : TE} (calm : X.calm = true) (nd : X.N.Nodup) (at_ : X.N[i]? = some y) (isl : X.env.scope.names.lookup y = some .local) (used : swapsWith (.DictComp ke ve [⟨te, ie, ifs, 0⟩] scope p1) (some (.Name y py)) p2.line X.env = pure true)
    (hi : PI X te ie wi) (blk : BlkOk X.N X.env.scope scope own) (a1 : InBlk X scope fun Y => PG Y te g) (a2 : InBlk X scope fun Y => PTs Y ifs tt) (a3 : InBlk X scope fun Y => PE Y ke tk) (a4 : InBlk X scope fun Y => PE Y ve tv) (fi : ∀ x, foldedSetIterable ie X.env x = pure x := by intro _; rfl) : PS X (.Assign [.Name y py] (.DictComp ke ve [⟨te, ie, ifs, 0⟩] scope p1) p2) (tAsg (tDc wi g tt tk tv (own.map (·.2))) (gName i)) := ⟨fun pins s σ H D I h => by
  rw [exec_Assign_Name_used _ _ _ _ used]; refine wpAny_bind (wpAny_standAt (wpAny_bind ?_)); show wpAny _ X.A (do let _ ← comprehension (.DictComp ke ve [⟨te, ie, ifs, 0⟩] scope p1) scope X.env (firstIterPos [⟨te, ie, ifs, 0⟩] p1) newDict false (eval ie X.env) (some (assign (.Name y py) X.env))) _ _ s
  have h' : tDc wi g tt tk tv (own.map (·.2)) σ H (fun x H1 => gName i x σ H1 D.nx) := h
  refine wpAny_bind (thn (dc_core (Qf := fun _ z => SP X pins D .next z) calm nd I hi blk a1 a2 a3 a4 fi h' fun L C z m H' I' q ns fo => ?_) fun _ _ hq => wpAny_pure (wpAny_pure hq)); show wpAny _ _ (assign (.Name y py) X.env (.ref L)) _ _ _
  refine wpAny_assign_Name (store_ok2 (v := V.ref L) I' nd at_ (.inl isl) rfl (fun z2 I2 ⟨b, sb, hb⟩ => ?_) (.inr isl)); obtain ⟨e0, e1, e2, e3, e4, e5⟩ := fo
  have apart : C ≠ b := hb.elim (fun w => by rw [w]; exact e1) fun w e => e4 y b w e.symm
  exact ⟨m, ns.sameBut sb apart, fun h3 sb3 => ⟨_, H', I2.turned (t' := z2.toks) (fun c o hc e => (sb3.2 c hc).trans e) e0 e1 e3 e4 e5, q⟩⟩⟩
theorem swd_true {ke ve : Expr} {gs : List Comprehension} {scope : Scope} {p1 py : Pos} {y : Str} {l : Nat} {env : Env} (h1 : env.scope.kind = .function) (h2 : env.scope.names.lookup y = some .local) (h3 : (py.line == p1.line) = true) (h4 : (scope.names.any fun (n, k) => n == y && (k == .local || k == .cell)) = false) : swapsWith (.DictComp ke ve gs scope p1) (some (.Name y py)) l env = pure true := by
  have k1 : env.kindOf y = some .local := h2
  have k2 : env.blockKind = .function := by unfold Env.blockKind; rw [h1]; rfl
  unfold swapsWith; simp only [k2, k1, h4, Expr.pos, h3]; rfl
end LK

set_option Elab.async false
set_option linter.all false
set_option maxRecDepth 100000
set_option maxHeartbeats 4000000
/-! x.split(): the words of a text -/
namespace LK
open PySem PySem.Spec PyProof.Rows L2
theorem mt_split0 {X : Cx} : MtR X "str.split" (fun x xs H Q => ∃ z, x = .str z ∧ xs = [] ∧ z.length + 2 ≤ sizeLine ∧ rNewStrs (Txt.words z) H Q) := by
  intro pins s σ H x xs v us Q I ex es hyp
  obtain ⟨z, rfl, rfl, lim, next⟩ := hyp
  obtain ⟨tok, rfl⟩ := ex
  cases es
  have few : (Txt.words z).length ≤ sizeLine := Nat.le_trans (words_le z) (by omega)
  have few2 : (Builtin.Str.spaceWords z (z.length + 1)).length ≤ sizeLine := by
    have w1 := (StrLaws.sw_weight z).1
    have w2 := StrLaws.len_le_wsum (Builtin.Str.spaceWords z (z.length + 1))
    omega
  refine call_meets F.slot_str_split (typeIs_str _ _ _) F.entry_str_split (F.args_str_split_1 _) (meets_str_split_space z tok (by omega) few2) ?_
  cases hb : Builtin.Str.spaceWords z (z.length + 1) == [(0, z.length)]
  · simp only [Bool.false_eq_true, if_false]
    rw [strsFrom_eq]
    exact laid_strs (ys := Txt.words z) I ((numbered_texts _ _).trans (if_neg (ne_true_of_eq_false hb)).symm) few next
  · simp only [if_true]
    exact laid_strs (l := [(z, tok)]) (ys := Txt.words z) (k := s.toks) I (if_pos hb).symm few next
end LK

set_option Elab.async false
set_option linter.all false
set_option maxRecDepth 100000
set_option maxHeartbeats 4000000
/-! Defs held by names and by dicts of the top: action = D[k]; action(x). The keys and the length of a dict of the top. -/
namespace LK
open PySem PySem.Spec PyProof.Rows L2
/-! ### a def that a local holds -/
def tCallV (X : Cx) (k : Nat) (i : Nat) (t : TA) : TE := fun σ H Q => ∃ (f : Addr) (fd : FuncData) (ps : List Str) (sp : Sp), σ[i]? = some (some (.ref f)) ∧ FnG X.prog X.w X.K X.mg X.base CX0 k f fd ps sp ∧ PySem.W.keepIn X.K (.ref f) = true ∧ Binds X.K fd ps [] ∧
  t σ H fun vs H1 => sp vs H1 Q E0
section
variable {X : Cx} {k i : Nat} {x : Str} {p pos : Pos} {e : Expr} {es : List Expr} {t : TA}
theorem pe_callV (hv : PE X (.Name x p) (tVar i)) (hr : Room k X.A) (gd : X.A.guards = some []) (ha : PA X (e :: es) t)
    (he : starEach (e :: es) X.env = (false, eval e X.env) :: starEach es X.env := by rfl) (hpl : (backTo pos (starEach es X.env)).any (·.1) = false := by rfl) : PE X (.Call (.Name x p) (e :: es) [] pos) (tCallV X k i t) := by
  refine ⟨fun pins s σ H Q I ⟨f, fd, ps, sp, eσ, F, kp, hb, h⟩ => ?_⟩
  refine wpAny_Call_Name_kw (thn (hv.run pins s σ H (fun v H' => v = V.ref f ∧ H' = H) I ⟨_, eσ, rfl, rfl⟩) fun u s1 ⟨v, H', I1, rv, ev, eH⟩ => ?_)
  subst ev eH
  obtain rfl : u = Value.ref f := rv
  exact PySem.W.callWith_K (h₀ := X.base) I1.ok.mod.kin kp (thn (ha.run pos pins s1 σ _ _ I1 h) fun us s2 ⟨vs, H2, I2, r, q⟩ => ⟨I2.kIn, run_fnG F hr gd hb pass0 I2 r q⟩) he hpl
end
/-! ### defs by name and place -/
def HasFnA (K : PySem.W.Frag) (x : Str) (st : Stmt) (f : Addr) : Prop := ∃ (oc : Value) (od an : Option Addr) (kV doc pm cdv ct : Value) (osl : Array (Option Value)),
  PySem.W.nsIn K mainGlobals x = some (some (.ref f)) ∧ K.lookup f = some ⟨oc, od, .func (PySem.W.fnOf x x (defArgs st) (defBody st) (defScope st) .none kV doc pm an cdv ct), osl⟩ ∧
  PySem.W.codeIn K cdv x = true ∧ PySem.W.keepIn K (.ref f) = true
theorem HasFnA.mk' {K : PySem.W.Frag} {x : Str} {st : Stmt} {f : Addr} {oc : Value} {od an : Option Addr} {kV doc pm cdv ct : Value} {osl : Array (Option Value)} (a : PySem.W.nsIn K mainGlobals x = some (some (.ref f)))
    (b : K.lookup f = some ⟨oc, od, .func (PySem.W.fnOf x x (defArgs st) (defBody st) (defScope st) .none kV doc pm an cdv ct), osl⟩) (c : PySem.W.codeIn K cdv x = true) (d : PySem.W.keepIn K (.ref f) = true) : HasFnA K x st f := ⟨oc, od, an, kV, doc, pm, cdv, ct, osl, a, b, c, d⟩
theorem HasFnA.fn {K : PySem.W.Frag} {x : Str} {st : Stmt} {f : Addr} (h : HasFnA K x st f) : HasFn K x st := by
  obtain ⟨oc, od, an, kV, doc, pm, cdv, ct, osl, a, b, c, d⟩ := h
  exact ⟨f, oc, od, an, kV, doc, pm, cdv, ct, osl, a, b, c, d⟩
structure UseA (P : Program) (w : World) (K : PySem.W.Frag) (mg : Str → Option Value) (base : Heap) (x : Str) (k : Nat) (ps : List Str) (sp : Sp) (f : Addr) : Prop where
  ex : ∃ fd : FuncData, FnG P w K mg base CX0 k f fd ps sp ∧ mg x = some (.ref f) ∧ PySem.W.keepIn K (.ref f) = true ∧ Binds K fd ps []
section
variable {P : Program} {w : World} {K : PySem.W.Frag} {mg : Str → Option Value} {base h : Heap}
theorem UseA.use {x : Str} {k : Nat} {ps : List Str} {sp : Sp} {f : Addr} (U : UseA P w K mg base x k ps sp f) : Use P w K mg base CX0 x k ps sp := by
  obtain ⟨fd, r⟩ := U.ex
  exact ⟨f, fd, r⟩
theorem mk_useA {x : Str} {st : Stmt} {k : Nat} {ps : List Str} {sp : Sp} {f : Addr} (F : HasFnA K x st f) (X : K.In h) (G : h.Ns mainGlobals mg)
    (hb : ∀ (kV doc pm : Value) (an : Option Addr) (cdv ct : Value) (us : List Value), us.length = ps.length → bindArgs (PySem.W.fnOf x x (defArgs st) (defBody st) (defScope st) .none kV doc pm an cdv ct) ⟨us, []⟩ = pure (ps.zip us))
    (ok : ∀ (f : Addr) (fd : FuncData), Fun K x x st f fd → FnG P w K mg base CX0 k f fd ps sp) : UseA P w K mg base x k ps sp f := by
  obtain ⟨oc, od, an, kV, doc, pm, cdv, ct, osl, e, l, c, kp⟩ := F
  have Fn := fun_mk (st := st) l c kp
  exact ⟨_, ok f _ Fn, PySem.W.mg_of X G e, kp, Fn.binds hb⟩
end
/-! ### a dict of the top whose values are defs -/
inductive FEnt (w : World) : List DictEntry → List (Str × Addr) → Prop
  | nil : FEnt w [] []
  | cons {e : DictEntry} {es : List DictEntry} {k : Str} {v : Addr} {ps : List (Str × Addr)} {t : Tok} : e.key = .str k t → e.hash = hashStr w k → e.val = .ref v → FEnt w es ps → FEnt w (e :: es) ((k, v) :: ps)
def fnKV (ps : List (Str × Addr)) : List (Key × V) := ps.map fun p => (.inr p.1, .ref p.2)
theorem FEnt.pairs {P : Program} {w : World} : ∀ {es : List DictEntry} {ps : List (Str × Addr)}, FEnt w es ps → ∃ vs : List (Key × Value), KV (fnKV ps) vs ∧ PySem.Pairs (mixKind P w) es vs ∧ vs.map (·.1) = ps.map (fun p => (Sum.inr p.1 : Key)) ∧ ∀ e ∈ es, ∃ k, (mixKind P w).is k e.key = true ∧ e.hash = (mixKind P w).hash k
  | _, _, .nil => ⟨[], .nil, .nil, rfl, fun _ h => by cases h⟩
  | _, _, .cons (k := k) (v := v) (t := t) hk hh hv r => by
    obtain ⟨vs, a, b, c, d⟩ := FEnt.pairs (P := P) r
    refine ⟨(.inr k, .ref v) :: vs, .cons ⟨rfl, rfl⟩ a, .cons (by rw [hk]; exact mixKind_str P w k t) hv b, by rw [List.map_cons, c]; rfl, fun e he => ?_⟩
    rcases List.mem_cons.mp he with rfl | he
    · exact ⟨.inr k, by rw [hk]; exact mixKind_str P w k t, hh⟩
    · exact d e he
theorem HasDct.mkF {P : Program} {w : World} {K : PySem.W.Frag} {x : Str} {ps : List (Str × Addr)} {a : Addr} {es : Array DictEntry} {ep : Nat} (h : PySem.W.nsIn K mainGlobals x = some (some (.ref a)))
    (b : K.lookup a = some { cls := .type "dict", data := .dict es ep }) (hs : (a == sysModules) = false) (c : FEnt w es.toList ps) (nd : (ps.map (·.1)).Nodup) : HasDct P w K x (fnKV ps) := by
  obtain ⟨vs, v1, v2, v3, v4⟩ := FEnt.pairs (P := P) c
  refine ⟨a, h, hs, vs, v1, fun hh hK => ⟨_, es, ep, hK a _ b, ⟨rfl, rfl, rfl⟩, rfl, fun e he => v4 e (Array.mem_toList_iff.mpr he), v2, ?_⟩⟩
  rw [v3]
  have : ps.map (fun p => (Sum.inr p.1 : Key)) = (ps.map (·.1)).map Sum.inr := by rw [List.map_map]; rfl
  rw [this]
  exact nodup_inr nd
/-! ### list(D), len(D) -/
def rListK (P : Program) (w : World) (K : PySem.W.Frag) : List V → Hp → VK → Prop := fun xs H Q => ∃ p kvs, xs = [.ref p] ∧ KDct P w K p kvs ∧ kvs.length ≤ 1000 ∧ ∀ q, H q = none → Q (.ref q) (upd H q (.lst (kvs.map fun kv => kV kv.1)))
theorem call_listK {X : Cx} (hc : X.calm = true) : CallR X (.type "list") (rListK X.prog X.w X.K) := by
  intro pins s σ H xs us Q I r h
  obtain ⟨p, kvs, rfl, ⟨hsys, vs, rel, dd⟩, hz, q⟩ := h
  obtain ⟨u, rfl, rx⟩ := vals1 r
  obtain rfl : u = Value.ref p := rx
  obtain ⟨ep, hat⟩ := (dd _ I.kIn).dictAt
  have hl : kvs.length = vs.length := Paired.length rel
  have hz2 : vs.length ≤ sizeLine := by rw [← hl]; exact Nat.le_trans hz (by decide)
  refine PySem.W.kdl_call (PySem.W.kdl_dict (knd := mixKind X.prog X.w) (kvs := vs) (ep := ep) hsys) (I.ok.hd hc) hat hz2 fun h2 tk acc c kk hS it => ?_
  have ok : ObjOk X.prog X.w (upd H s.heap.objs.size (.lst (kvs.map fun kv => kV kv.1))) h2 s.heap.objs.size (.lst (kvs.map fun kv => kV kv.1)) := by
    refine ⟨by rw [List.length_map, hl]; exact hz2, acc.toList, c, ?_, by rw [Array.toArray_toList]; exact hS⟩
    have el : acc.toList.length = acc.size := by simp
    refine vals_of_at (by rw [List.length_map, el, it.1, hl]) fun j x y h1 h2 => ?_
    obtain ⟨k, z, hkz, hi⟩ := it.2 j y (by rw [← Array.getElem?_toList]; exact h2)
    have e1 : (kvs.map (·.1))[j]? = some k := by
      rw [KV.keys rel, List.getElem?_map, hkz]
      rfl
    have e3 : (kvs.map fun kv => kV kv.1) = (kvs.map (·.1)).map kV := by rw [List.map_map]; rfl
    rw [e3, List.getElem?_map, e1] at h1
    cases h1
    exact keyIs_rel hi
  exact ⟨.ref s.heap.objs.size, _, I.laid kk (Nat.le_refl _) ok, rfl, q _ (I.hok.fresh (Nat.le_refl _))⟩
theorem call_lenDK {X : Cx} : CallR X (.builtin "len") (fun xs H Q => ∃ p kvs, xs = [V.ref p] ∧ KDct X.prog X.w X.K p kvs ∧ kvs.length ≤ 1000 ∧ Q (.int (kvs.length : Nat)) H) := by
  intro pins s σ H xs us Q I r h
  obtain ⟨p, kvs, rfl, ⟨hsys, vs, rel, dd⟩, hz, q⟩ := h
  obtain ⟨u, rfl, rx⟩ := vals1 r
  obtain rfl : u = Value.ref p := rx
  have hl : kvs.length = vs.length := Paired.length rel
  refine call_len_dict hsys (dd _ I.kIn) (by rw [← hl]; omega) ?_
  exact ⟨.int (kvs.length : Nat), H, I.tok _, ⟨_, by rw [hl]⟩, q⟩
end LK

set_option Elab.async false
set_option linter.all false
set_option maxRecDepth 100000
set_option maxHeartbeats 4000000
/-! for k in D, D a dict of the top; dicts of the top whose values are tuples of the top -/
namespace LK
open PySem PySem.Spec PyProof.Rows L2
/-- a dict of the top, its object written out -/
def KDctI (P : Program) (w : World) (K : PySem.W.Frag) (a : Addr) (kvs : List (Key × V)) : Prop := KDct P w K a kvs ∧ ∃ (es : Array DictEntry) (ep : Nat), K.lookup a = some { cls := .type "dict", data := .dict es ep }
def HasDctI (P : Program) (w : World) (K : PySem.W.Frag) (x : Str) (kvs : List (Key × V)) : Prop := ∃ a, PySem.W.nsIn K mainGlobals x = some (some (.ref a)) ∧ KDctI P w K a kvs
structure UseI (P : Program) (w : World) (K : PySem.W.Frag) (mg : Str → Option Value) (x : Str) (kvs : List (Key × V)) : Prop where
  ex : ∃ a, mg x = some (.ref a) ∧ KDctI P w K a kvs
theorem HasDctI.g {P : Program} {w : World} {K : PySem.W.Frag} {mg : Str → Option Value} {h : Heap} {x : Str} {kvs : List (Key × V)} (D : HasDctI P w K x kvs) (X : K.In h) (G : h.Ns mainGlobals mg) : UseI P w K mg x kvs := by
  obtain ⟨a, e, k⟩ := D
  exact ⟨a, PySem.W.mg_of X G e, k⟩
theorem HasDct.i {P : Program} {w : World} {K : PySem.W.Frag} {x : Str} {kvs : List (Key × V)} {a : Addr} {es : Array DictEntry} {ep : Nat} (D : HasDct P w K x kvs) (h : PySem.W.nsIn K mainGlobals x = some (some (.ref a)))
    (b : K.lookup a = some { cls := .type "dict", data := .dict es ep }) : HasDctI P w K x kvs := by
  obtain ⟨a', e, k⟩ := D
  rw [h] at e
  cases e
  exact ⟨a, h, k, es, ep, b⟩
/-- the keys of the dict of the top at a -/
def ItkK (a : Addr) (kvs : List (Key × V)) : It :=
  ⟨fun i _ => i < kvs.length, fun i H x H' => H' = H ∧ ∃ k v, kvs[i]? = some (k, v) ∧ x = kV k, fun i _ => kvs.length ≤ i⟩
theorem KDctI.at {P : Program} {w : World} {K : PySem.W.Frag} {a : Addr} {kvs : List (Key × V)} (D : KDctI P w K a kvs) : ∃ (es : Array DictEntry) (ep : Nat) (vs : List (Key × Value)), (a == sysModules) = false ∧ KV kvs vs ∧
    ∀ h : Heap, K.In h → es.size = kvs.length ∧ h.get? a = some { cls := .type "dict", data := .dict es ep } ∧ h.DictAt (mixKind P w) a vs ep := by
  obtain ⟨⟨hs, vs, rel, dd⟩, es, ep, lk⟩ := D
  refine ⟨es, ep, vs, hs, rel, fun h hK => ?_⟩
  obtain ⟨o, es', ep', ho, hx, hd, r⟩ := dd h hK
  have e := hK a _ lk
  rw [ho] at e
  cases e
  cases hd
  have l1 := r.2.1.length
  have l2 : kvs.length = vs.length := Paired.length rel
  rw [Array.length_toList] at l1
  exact ⟨by omega, ho, _, _, ho, hx, rfl, r⟩
section
variable {P : Program} {w : World} {K : PySem.W.Frag} {tg : Expr} {a : Addr} {es : Array DictEntry} {ep : Nat} {kvs : List (Key × V)} {vs : List (Key × Value)}
theorem turn_keysK (it : Addr) (kv : KV kvs vs) (at_ : ∀ h : Heap, K.In h → es.size = kvs.length ∧ h.get? a = some { cls := .type "dict", data := .dict es ep } ∧ h.DictAt (mixKind P w) a vs ep) :
    Turn P w K tg (ItkK a kvs) [it] it (fun i h => h.IsKeyIter it a i kvs.length ep) where
  mem := by simp
  obj := fun i h st b hb => by
    have e : b = it := by simpa using hb
    subst e
    obtain ⟨oi, e, c, dd⟩ := st
    exact ⟨oi, e, fun v z => by rw [dd] at z; cases z⟩
  keep := fun i h h' st k => st.at fun oi e => k it (by simp) oi e
  item := by
    intro X hP hw hK hc i pins s σ H E I hf st hg
    subst hP hw hK
    obtain ⟨f0, f1, f2, f3, f4, f5⟩ := hf it (by simp)
    obtain ⟨hsz, hgd, hm⟩ := at_ _ I.kIn
    obtain ⟨⟨k, v⟩, hkv⟩ : ∃ p, kvs[i]? = some p := ⟨kvs[i], List.getElem?_eq_getElem hg⟩
    obtain ⟨u, hu, ru⟩ := kv_get kv hkv
    have hl : kvs.length = vs.length := Paired.length kv
    rw [hl] at st
    refine wpAny_pyNext_dict_item st hm hu fun key h' hkey st' sb => ?_
    have I1 : Inv X pins σ H { s with heap := h' } := I.turned (t' := s.toks) (fun b ob hb e => (sb.2 b hb).trans e) f0 f1 f3 f4 f5
    obtain ⟨oi, e, c, dd⟩ := id st'
    refine ⟨key, rfl, go_of (s := { s with heap := h' }) e c dd (by decide) ⟨kV k, H, I1, relV_key (show keyIs k key = true from hkey), ⟨rfl, k, v, hkv, rfl⟩, ?_, fun b hb => (hf b hb).1⟩⟩
    show h'.IsKeyIter it a (i + 1) kvs.length _
    rw [hl]
    exact st'
  done := by
    intro X hP hw hK hc i pins s σ H E I hf st hg
    subst hP hw hK
    obtain ⟨f0, f1, f2, f3, f4, f5⟩ := hf it (by simp)
    obtain ⟨hsz, hgd, hm⟩ := at_ _ I.kIn
    exact next_key_end (I.ok.hd hc) st hgd rfl hsz hg fun h' eb => ⟨rfl, I.turned (t' := s.toks) (fun b ob hb e => eb b ob hb e) f0 f1 f3 f4 f5⟩
  self := fun A i s Q E st h => wpAny_pyIter_keyiter st h
end
def iKeysK (P : Program) (w : World) (K : PySem.W.Frag) (td : TE) : TI := fun σ H R => td σ H fun x H1 => ∃ a kvs, x = .ref a ∧ KDctI P w K a kvs ∧ R (ItkK a kvs) H1
theorem pi_keysK {X : Cx} {tg e : Expr} {td : TE} (he : PE X e td) : PI X tg e (iKeysK X.prog X.w X.K td) := by
  refine ⟨fun pins s σ H R I h => ?_⟩
  refine thn (he.run pins s σ H _ I h) fun u s1 ⟨x, H1, I1, rx, a, kvs, ex, D, q⟩ => ?_
  subst ex
  obtain rfl : u = Value.ref a := rx
  obtain ⟨es, ep, vs, hs, kv, at_⟩ := D.at
  obtain ⟨hsz, hgd, hm⟩ := at_ _ I1.kIn
  refine iter_keys hs hgd ⟨rfl, rfl, rfl⟩ rfl (pi_one (tk := s1.toks) I1 _ (turn_keysK _ kv at_) ⟨_, Heap.get?_push_size _ rfl, rfl, ?_⟩ q)
  rw [hsz] <;> rfl
theorem walk_keysK {a : Addr} {kvs : List (Key × V)} : Walk (ItkK a kvs) kvs.length (fun _ => True) (fun i H x H' => H' = H ∧ ∃ k v, kvs[i]? = some (k, v) ∧ x = kV k) :=
  ⟨fun _ _ hi _ => hi, fun _ _ => Nat.le_refl _, fun _ _ _ _ _ _ y => y⟩
/-! ### dicts of the top whose values are tuples of the top -/
inductive TEnt (w : World) (K : PySem.W.Frag) : List DictEntry → List (Str × List V) → List (Str × Addr) → Prop
  | nil : TEnt w K [] [] []
  | cons {e : DictEntry} {es : List DictEntry} {k : Str} {a : Addr} {xs : List V} {ps : List (Str × List V)} {qs : List (Str × Addr)} {t : Tok} {od : Option Addr} {its : Array Value} {n : Nat} {sl : Array (Option Value)} :
      e.key = .str k t → e.hash = hashStr w k → e.val = .ref a → K.lookup a = some ⟨.type "tuple", od, .seq its n, sl⟩ → its.size ≤ sizeLine → Vals xs its.toList → TEnt w K es ps qs → TEnt w K (e :: es) ((k, xs) :: ps) ((k, a) :: qs)
theorem TEnt.f {w : World} {K : PySem.W.Frag} : ∀ {es : List DictEntry} {ps : List (Str × List V)} {qs : List (Str × Addr)}, TEnt w K es ps qs → FEnt w es qs ∧ ps.map (·.1) = qs.map (·.1) ∧ Paired (fun q p => KTup K q.2 p.2) qs ps
  | _, _, _, .nil => ⟨.nil, rfl, .nil⟩
  | _, _, _, .cons h1 h2 h3 h4 h5 h6 r => by
    obtain ⟨a, b, c⟩ := r.f
    exact ⟨.cons h1 h2 h3 a, by rw [List.map_cons, List.map_cons, b], .cons ⟨_, _, _, _, h4, h5, h6⟩ c⟩
/-- the dict x of the top: each key's value is a tuple of the top -/
def HasTupD (P : Program) (w : World) (K : PySem.W.Frag) (x : Str) (ps : List (Str × List V)) : Prop := ∃ qs : List (Str × Addr), HasDctI P w K x (fnKV qs) ∧ ps.map (·.1) = qs.map (·.1) ∧ Paired (fun q p => KTup K q.2 p.2) qs ps
structure UseT (P : Program) (w : World) (K : PySem.W.Frag) (mg : Str → Option Value) (x : Str) (ps : List (Str × List V)) : Prop where
  ex : ∃ qs : List (Str × Addr), UseI P w K mg x (fnKV qs) ∧ ps.map (·.1) = qs.map (·.1) ∧ Paired (fun q p => KTup K q.2 p.2) qs ps
theorem HasTupD.g {P : Program} {w : World} {K : PySem.W.Frag} {mg : Str → Option Value} {h : Heap} {x : Str} {ps : List (Str × List V)} (D : HasTupD P w K x ps) (X : K.In h) (G : h.Ns mainGlobals mg) : UseT P w K mg x ps := by
  obtain ⟨qs, a, b, c⟩ := D
  exact ⟨qs, a.g X G, b, c⟩
theorem HasTupD.mk' {P : Program} {w : World} {K : PySem.W.Frag} {x : Str} {ps : List (Str × List V)} {qs : List (Str × Addr)} {a : Addr} {es : Array DictEntry} {ep : Nat} (h : PySem.W.nsIn K mainGlobals x = some (some (.ref a)))
    (b : K.lookup a = some { cls := .type "dict", data := .dict es ep }) (hs : (a == sysModules) = false) (c : TEnt w K es.toList ps qs) (nd : (ps.map (·.1)).Nodup) : HasTupD P w K x ps := by
  obtain ⟨c1, c2, c3⟩ := c.f
  exact ⟨qs, (HasDct.mkF (P := P) h b hs c1 (c2 ▸ nd)).i h b, c2, c3⟩
end LK
namespace LK
open PySem PySem.Spec PyProof.Rows L2
/-! a name of the top that is bound to a def of another name -/
def HasFnN (K : PySem.W.Frag) (x y : Str) (st : Stmt) : Prop := ∃ (f : Addr) (oc : Value) (od an : Option Addr) (kV doc pm cdv ct : Value) (osl : Array (Option Value)),
  PySem.W.nsIn K mainGlobals x = some (some (.ref f)) ∧ K.lookup f = some ⟨oc, od, .func (PySem.W.fnOf y y (defArgs st) (defBody st) (defScope st) .none kV doc pm an cdv ct), osl⟩ ∧
  PySem.W.codeIn K cdv y = true ∧ PySem.W.keepIn K (.ref f) = true
theorem HasFnN.mk' {K : PySem.W.Frag} {x y : Str} {st : Stmt} {f : Addr} {oc : Value} {od an : Option Addr} {kV doc pm cdv ct : Value} {osl : Array (Option Value)} (a : PySem.W.nsIn K mainGlobals x = some (some (.ref f)))
    (b : K.lookup f = some ⟨oc, od, .func (PySem.W.fnOf y y (defArgs st) (defBody st) (defScope st) .none kV doc pm an cdv ct), osl⟩) (c : PySem.W.codeIn K cdv y = true) (d : PySem.W.keepIn K (.ref f) = true) : HasFnN K x y st :=
  ⟨f, oc, od, an, kV, doc, pm, cdv, ct, osl, a, b, c, d⟩
theorem HasFn.n {K : PySem.W.Frag} {x : Str} {st : Stmt} (F : HasFn K x st) : HasFnN K x x st := F
section
variable {P : Program} {w : World} {K : PySem.W.Frag} {mg : Str → Option Value} {base h : Heap} {CX : CXT}
theorem mk_useY {x y : Str} {st : Stmt} {k : Nat} {ps : List Str} {sp : Sp} (F : HasFnN K x y st) (X : K.In h) (G : h.Ns mainGlobals mg)
    (hb : ∀ (kV doc pm : Value) (an : Option Addr) (cdv ct : Value) (us : List Value), us.length = ps.length → bindArgs (PySem.W.fnOf y y (defArgs st) (defBody st) (defScope st) .none kV doc pm an cdv ct) ⟨us, []⟩ = pure (ps.zip us))
    (ok : ∀ (f : Addr) (fd : FuncData), Fun K y y st f fd → FnG P w K mg base CX k f fd ps sp) : Use P w K mg base CX x k ps sp := by
  obtain ⟨f, oc, od, an, kV, doc, pm, cdv, ct, osl, e, l, c, kp⟩ := F
  have Fn := fun_mk (st := st) l c kp
  exact ⟨f, _, ok f _ Fn, PySem.W.mg_of X G e, kp, Fn.binds hb⟩
/-- defs that call one another: a promise by depth; at each depth all of them, from the depth before -/
theorem mk_useG {x y : Str} {st : Stmt} {ps : List Str} (sp : Nat → Sp) (k0 kn : Nat) (F : HasFnN K x y st) (X : K.In h) (G : h.Ns mainGlobals mg)
    (hb : ∀ (kV doc pm : Value) (an : Option Addr) (cdv ct : Value) (us : List Value), us.length = ps.length → bindArgs (PySem.W.fnOf y y (defArgs st) (defBody st) (defScope st) .none kV doc pm an cdv ct) ⟨us, []⟩ = pure (ps.zip us))
    (h0 : ∀ vs H Q E, ¬ sp 0 vs H Q E)
    (ok : ∀ (n : Nat), Use P w K mg base CX x (k0 + kn * n) ps (sp n) → ∀ (f : Addr) (fd : FuncData), Fun K y y st f fd → FnG P w K mg base CX (k0 + kn * (n + 1)) f fd ps (sp (n + 1))) : ∀ n, Use P w K mg base CX x (k0 + kn * n) ps (sp n)
  | 0 => by
    obtain ⟨f, oc, od, an, kV, doc, pm, cdv, ct, osl, e, l, c, kp⟩ := F
    have Fn := fun_mk (st := st) l c kp
    exact ⟨f, _, ⟨fun vs H Q E s => absurd s (h0 vs H Q E), fun _ _ _ _ _ _ vs Q E _ _ _ _ _ s => absurd s (h0 _ _ _ _)⟩, PySem.W.mg_of X G e, kp, Fn.binds hb⟩
  | n + 1 => mk_useY F X G hb (ok n (mk_useG sp k0 kn F X G hb h0 ok n))
end
end LK
namespace LK
open PySem PySem.Spec PyProof.Rows L2
/-! a nested tuple of the top, as data -/
def HasDat (K : PySem.W.Frag) (x : Str) (d : PyData) : Prop := ∃ a, PySem.W.nsIn K mainGlobals x = some (some (.ref a)) ∧ ∀ H, Dt K H (.ref a) d
def GDat (K : PySem.W.Frag) (mg : Str → Option Value) (x : Str) (d : PyData) : Prop := ∃ a, mg x = some (.ref a) ∧ ∀ H, Dt K H (.ref a) d
theorem HasDat.g {K : PySem.W.Frag} {mg : Str → Option Value} {h : Heap} {x : Str} {d : PyData} (i : HasDat K x d) (X : K.In h) (G : h.Ns mainGlobals mg) : GDat K mg x d := by
  obtain ⟨a, e, r⟩ := i
  exact ⟨a, PySem.W.mg_of X G e, r⟩
theorem KTup.dt {K : PySem.W.Frag} {a : Addr} {xs : List V} {ds : List PyData} (h : KTup K a xs) (H : Hp) (d : DtAll K H xs ds) : Dt K H (.ref a) (.tuple ds) := .tup (h.sq H) d
theorem HasDat.mk2 {K : PySem.W.Frag} {x s z : Str} {a b : Addr} {od od2 : Option Addr} {its its2 : Array Value} {n n2 : Nat} {sl sl2 : Array (Option Value)} (h : PySem.W.nsIn K mainGlobals x = some (some (.ref a)))
    (h1 : K.lookup a = some ⟨.type "tuple", od, .seq its n, sl⟩) (z1 : its.size ≤ sizeLine) (v1 : Vals [.str s, .ref b] its.toList) (h2 : K.lookup b = some ⟨.type "tuple", od2, .seq its2 n2, sl2⟩) (z2 : its2.size ≤ sizeLine) (v2 : Vals [.str z] its2.toList) :
    HasDat K x (.tuple [.str s, .tuple [.str z]]) :=
  ⟨a, h, fun H => KTup.dt ⟨_, _, _, _, h1, z1, v1⟩ H (.cons (.str _) (.cons (KTup.dt ⟨_, _, _, _, h2, z2, v2⟩ H (.cons (.str _) .nil)) .nil))⟩
def tGD (K : PySem.W.Frag) (d : PyData) : TE := fun _ H Q => ∀ v, (∀ H, Dt K H v d) → Q v H
theorem pe_globD {X : Cx} {x : Str} {pos : Pos} {d : PyData} (h : GDat X.K X.mg x d) (hg : Gl X x) (hd : (x == ("__debug__" : Str)) = false := by decide) : PE X (.Name x pos) (tGD X.K d) := by
  obtain ⟨a, e, r⟩ := h
  exact ⟨fun pins s σ H Q I q => (pe_glob (v := .ref a) hg e rfl hd).run pins s σ H Q I (q (.ref a) r)⟩
end LK

set_option linter.all false
namespace LK
section
open PySem PySem.Spec PyProof.Rows L2
theorem FnG.up {P : Program} {w : World} {K : PySem.W.Frag} {mg : Str → Option Value} {base : Heap} {CX : CXT} {k k' : Nat} {f : Addr} {fd : FuncData} {ps : List Str} {sp : Sp} (F : FnG P w K mg base CX k f fd ps sp) (h : k ≤ k') : FnG P w K mg base CX k' f fd ps sp :=
  ⟨F.len, fun A outer s H args us vs Q E hr => F.run A outer s H args us vs Q E (hr.mono h)⟩
theorem Use.up {P : Program} {w : World} {K : PySem.W.Frag} {mg : Str → Option Value} {base : Heap} {CX : CXT} {k k' : Nat} {x : Str} {ps : List Str} {sp : Sp} (U : Use P w K mg base CX x k ps sp) (h : k ≤ k') : Use P w K mg base CX x k' ps sp := by
  obtain ⟨f, fd, F, r⟩ := U.ex
  exact ⟨f, fd, F.up h, r⟩
theorem HasDctI.mkF' {P : Program} {w : World} {K : PySem.W.Frag} {x : Str} {qs : List (Str × Addr)} {a : Addr} {es : Array DictEntry} {ep : Nat} (h : PySem.W.nsIn K mainGlobals x = some (some (.ref a)))
    (b : K.lookup a = some { cls := .type "dict", data := .dict es ep }) (hs : (a == sysModules) = false) (c : FEnt w es.toList qs) (nd : (qs.map (·.1)).Nodup) : HasDctI P w K x (fnKV qs) :=
  (HasDct.mkF (P := P) h b hs c nd).i h b
end
end LK

set_option Elab.async false
set_option linter.all false
set_option maxRecDepth 100000
set_option maxHeartbeats 4000000
/-! The own exception with one field (place) in the layer: raise, its init, what an except asks of it; defs called while an exception is held. -/
namespace LK
open PySem PySem.Spec PyProof.Rows L2 NdefX SupX
/-! ### a def called in the suite of an except -/
structure FnP (P : Program) (w : World) (K : PySem.W.Frag) (mg : Str → Option Value) (base : Heap) (k : Nat) (f : Addr) (fd : FuncData) (ps : List Str) (sp : Sp) : Prop where
  len : ∀ vs H Q E, sp vs H Q E → vs.length = ps.length
  go : ∀ (A : Around) (outer : List Env) (s : Shared) (H : Hp) (args : Args) (us : List Value) (vs : List V) (Q : VK) (E : XK) (p : Addr × Obj), L2H.RoomH k A → L2H.PinOk outer H s p → Env0 P w K mg base A outer s H → BindsTo s fd args (ps.zip us) →
    Vals vs us → sp vs H Q E → codeAny (model P w) A (.call (.ref f) args) (CR CX0 outer P w H s Q E) s
section
variable {P : Program} {w : World} {K : PySem.W.Frag} {mg : Str → Option Value} {base h : Heap}
theorem okP {x qual : Str} {st : Stmt} {f : Addr} {fd : FuncData} {N ps : List Str} {k : Nat} {sp : Sp} (F : Fun K x qual st f fd) (S : FnScope N ps (defScope st)) (len : ∀ vs H Q E, sp vs H Q E → vs.length = ps.length)
    (body : ∀ (cdv : Value) (A : Around) (outer : List Env) (s : Shared) (H : Hp) (vs : List V) (Q : VK) (E : XK) (p : Addr × Obj), L2H.RoomH k (A.deeper (envOfC qual (defScope st) s.heap.objs.size f cdv)) → sp vs H Q E →
      ∃ t, PSs (L2H.cxH CX0 P w K mg base N qual (defScope st) f cdv A outer s H E p) (defBody st) t ∧ t { nx := fun _ H' => Q .non H', rt := Q } (start N vs) H) : FnP P w K mg base (k + 1) f fd ps sp := by
  obtain ⟨oc, od, kV, doc, pm, an, cdv, ct, osl, rfl, lk, hcd⟩ := F.ex
  refine ⟨len, fun A outer s H args us vs Q E p hr pin e0 hb r hsp => ?_⟩
  have inn : K.In s.heap := e0.mod.kin.keeps fun b o e => (e0.bs b o e).1
  refine codeAny_call_function hr.depth (inn _ _ lk) rfl S.co S.gen rfl (PySem.W.codeRec_of inn hcd) (hb _ _ _ _ ?_)
  refine wpAny_newFunctionEnv_cells S.kind (fun y hy => ?_) fun env he s1 made => ?_
  · obtain ⟨n, v⟩ := y
    exact (S.par n (List.of_mem_zip hy).1).elim .inl fun q => .inr ⟨q, PySem.W.cellsFrom_some _ _ _ (.inl q)⟩
  · subst he
    have lim : s.heap.NoLimit := e0.mod.nolimit.keeps fun b o e => (e0.bs b o e).1
    refine ⟨lim.keeps made.toInCall.keep, codeAny_func ?_⟩
    obtain ⟨t, ht, hq⟩ := body cdv A outer s H vs Q E p (hr.deeper _) hsp
    refine wpAny_mono (ht.run [] s1 (start N vs) H _ (L2H.inv_startH S pin e0 (len _ _ _ _ hsp) r made) hq) (fun fl s2 hs => ?_) fun e s2 hs => hs
    cases fl with
    | ret u => exact let ⟨v, _, H2, J, rv, q⟩ := hs; ⟨v, H2, J.os, J.bare, J.base, J.hok, rv, q⟩
    | next => exact let ⟨_, H2, J, q⟩ := hs; ⟨V.non, H2, J.os, J.bare, J.base, J.hok, rfl, q⟩
    | brk => exact let ⟨_, _, _, q⟩ := hs; q.elim
    | cont => exact let ⟨_, _, _, q⟩ := hs; q.elim
structure UseP (P : Program) (w : World) (K : PySem.W.Frag) (mg : Str → Option Value) (base : Heap) (x : Str) (k : Nat) (ps : List Str) (sp : Sp) : Prop where
  ex : ∃ (f : Addr) (fd : FuncData), FnP P w K mg base k f fd ps sp ∧ mg x = some (.ref f) ∧ PySem.W.keepIn K (.ref f) = true ∧ Binds K fd ps []
theorem mk_useP {x : Str} {st : Stmt} {k : Nat} {ps : List Str} {sp : Sp} (F : HasFn K x st) (X : K.In h) (G : h.Ns mainGlobals mg)
    (hb : ∀ (kV doc pm : Value) (an : Option Addr) (cdv ct : Value) (us : List Value), us.length = ps.length → bindArgs (PySem.W.fnOf x x (defArgs st) (defBody st) (defScope st) .none kV doc pm an cdv ct) ⟨us, []⟩ = pure (ps.zip us))
    (ok : ∀ (f : Addr) (fd : FuncData), Fun K x x st f fd → FnP P w K mg base k f fd ps sp) : UseP P w K mg base x k ps sp := by
  obtain ⟨f, oc, od, an, kV, doc, pm, cdv, ct, osl, e, l, c, kp⟩ := F
  have Fn := fun_mk (st := st) l c kp
  exact ⟨f, _, ok f _ Fn, PySem.W.mg_of X G e, kp, Fn.binds hb⟩
end
section
variable {X : Cx} {k : Nat} {x : Str} {ps : List Str} {sp : Sp} {p pos : Pos} {e : Expr} {es : List Expr} {t : TA}
theorem pe_useP (U : UseP X.prog X.w X.K X.mg X.base x k ps sp) (hr : L2H.RoomH k X.A) (hp : ∃ q, q ∈ X.pn) (hg : Gl X x) (ha : PA X (e :: es) t) (hdb : (x == ("__debug__" : Str)) = false := by decide)
    (he : starEach (e :: es) X.env = (false, eval e X.env) :: starEach es X.env := by rfl) (hpl : (backTo pos (starEach es X.env)).any (·.1) = false := by rfl) : PE X (.Call (.Name x p) (e :: es) [] pos) (tUse sp E0 t) := by
  obtain ⟨f, fd, F, hm, kp, hb⟩ := U.ex
  obtain ⟨q0, hq0⟩ := hp
  refine ⟨fun pins s σ H Q I h => wpAny_Call_Name_kw (ld_glob I hg hm ?_ hdb)⟩
  refine PySem.W.callWith_K (h₀ := X.base) I.ok.mod.kin kp (thn (ha.run pos pins s σ H _ I h) fun us s1 ⟨vs, H1, I1, r, q⟩ => ⟨I1.kIn, ?_⟩) he hpl
  have hl : (us ++ []).length = ps.length := by rw [List.append_nil, ← r.length, F.len _ _ _ _ q]
  have hbs := hb s1 us I1.kIn hl
  rw [List.append_nil] at hbs
  have P1 := I1.pin q0 (List.mem_append_left _ hq0)
  have pin : L2H.PinOk X.stack H1 s1 q0 := ⟨P1.1, P1.2.1, fun hm => (List.mem_cons.mp (I1.stkSub q0.1 hm)).elim P1.2.2.1 P1.2.2.2.1, P1.2.2.2.2⟩
  refine wpAny_call (codeAny_mono (F.go X.A X.stack s1 H1 ⟨us, []⟩ us vs Q E0 q0 hr pin I1.env0 hbs r q) fun res s2 hq => ?_)
  match res, hq with
  | .error e, hq => exact hq.elim
  | .ok (.ret u), hq => exact I1.after hq
  | .ok .next, hq => exact hq.elim
  | .ok .brk, hq => exact hq.elim
  | .ok .cont, hq => exact hq.elim
end
/-! ### the class with the field place -/
def badD (n : Int) : HO := .xd [("place", .int n)]
/-- what its init leaves -/
def spBad (K : PySem.W.Frag) (C : Addr) : Sp := fun vs H Q _ => ∃ (a : Addr) (n : Int), vs = [.ref a, .int n] ∧ H a = some (exo a C none) ∧ n.natAbs < 2 ^ 100 ∧
  ∀ d H', H d = none → H' a = some (exo a C (some d)) → H' d = some (exd d [("place", .int n)]) → (∀ b, b ≠ a → b ≠ d → H' b = H b) → Q .non H'
structure UseB (P : Program) (w : World) (K : PySem.W.Frag) (mg : Str → Option Value) (base : Heap) (C B : Addr) : Prop where
  oex : OexC K C
  xf : XfC K C
  isc : ExcC K C
  mC : mg "BadNumbers" = some (.ref C)
  mB : mg "HoldError" = some (.ref B)
  place : PySem.W.findIn K (.ref C) "place" = some none
  exm : PySem.W.exmOne K (.ref C) (.ref B) = some true
  ini : ∃ (fI : Addr) (fd : FuncData), PySem.W.findIn K (.ref C) "__init__" = some (some (.ref fI)) ∧ PySem.W.typeIn K (.ref fI) = some (.type "function") ∧ FnOk P w K mg base CX0 1 fI fd ["self", "place"] (spBad K C) ∧ Binds K fd ["self", "place"] []
/-- raise BadNumbers(place) -/
def tRaiseB (C : Addr) (ta : TA) (W : WX) : TS := fun _ σ H => ta σ H fun vs H1 => ∃ (n : Int), vs = [.int n] ∧ n.natAbs < 2 ^ 100 ∧ ∀ d, H1 d = none → W (.ref C) (some d) σ (upd H1 d (badD n))
section
variable {X : Cx} {C B : Addr} {W : WX} {e1 : Expr} {es : List Expr} {ta : TA} {p pos pos2 : Pos}
theorem ps_raiseB (U : UseB X.prog X.w X.K X.mg X.base C B) (hc : X.calm = true) (tk : Takes X W) (hr : Room 2 X.A) (hg : Gl X "BadNumbers") (ha : PA X (e1 :: es) ta)
    (he : starEach (e1 :: es) X.env = (false, eval e1 X.env) :: starEach es X.env := by rfl) (hpl : (backTo pos (starEach es X.env)).any (·.1) = false := by rfl) :
    PS X (.Raise (some (.Call (.Name "BadNumbers" p) (e1 :: es) [] pos)) none pos2) (tRaiseB C ta W) := by
  obtain ⟨fI, fd, i1, i2, ok, hb⟩ := U.ini
  have R := ps_raise (pos := pos2) hc tk (pmk_oex (p := p) (pos := pos) U.oex i1 i2 ok hr hb .nil pass0 hg U.mC (pa_up ha) (by decide) he hpl)
  refine ⟨fun pins s σ H D I h => R.run pins s σ H D I ⟨_, h, ?_⟩⟩
  rintro vs H1 ⟨n, rfl, hn, k⟩
  refine ⟨show 1 ≤ 1000 by decide, fun a ha1 => ⟨a, n, rfl, upd_same, hn, fun d H2 hd ha2 hd2 keep => ?_⟩⟩
  have hda : d ≠ a := fun e => by
    subst e
    rw [upd_same] at hd
    cases hd
  rw [upd_ne hda] at hd
  refine ⟨rfl, d, _, ha2, hd2, hd, ?_⟩
  have e : upd (del H2 a) d (.xd [("place", .int n)]) = upd H1 d (badD n) := by
    funext b
    by_cases hb : b = d
    · subst hb
      rw [upd_same, upd_same]; rfl
    · rw [upd_ne hb, upd_ne hb]
      by_cases hba : b = a
      · subst hba
        rw [del_same, ha1]
      · rw [del_ne hba, keep b hba hb, upd_ne hba]
  rw [e]
  exact k d hd
end
section
variable {P : Program} {w : World} {K : PySem.W.Frag} {mg : Str → Option Value} {base : Heap} {F : NF} {fI C cc : Addr} {p0 p1 pa pc pe q1 q2 q3 q4 a1 a2 a3 a4 : Pos} {k1 : Nat} {ar : Arg}
theorem bad_ini (T : SupC P K C fI cc F) (hl : PySem.W.findIn K (.ref C) "place" = some none)
    (S : NScope ["self", "place", "__class__"] ["self", "place"] ["__class__"] F.scope)
    (hbd : F.body = [.Expr (.Call (.Attribute (.Call (.Name "super" p0) [] [] p1) "__init__" pa) [.JoinedStr [.Constant (.str "place ") k1 q1, .FormattedValue (.Name "place" q2) (-1) none q3] q4] [] pc) pe,
      .Assign [.Attribute (.Name "self" a1) "place" a2] (.Name "place" a3) a4])
    (hpar : (F.params.posonlyargs ++ F.params.args).head? = some ar) (har : ar.arg = "self") (hks : F.scope.names.lookup ("super" : Str) = some .globalImplicit)
    (hev : ∀ env : Env, ∃ pl : Sem Bool, eval (.Call (.Attribute (.Call (.Name "super" p0) [] [] p1) "__init__" pa) [.JoinedStr [.Constant (.str "place ") k1 q1, .FormattedValue (.Name "place" q2) (-1) none q3] q4] [] pc) env = (do
      let ov ← attributeBase (.Call (.Name "super" p0) [] [] p1) "__init__" env (eval (.Call (.Name "super" p0) [] [] p1) env)
      standAt pa.atName
      let (f, first) ← holding [ov] (getMethod ov "__init__" pl)
      callWith pc f first (backTo pc (starEach [.JoinedStr [.Constant (.str "place ") k1 q1, .FormattedValue (.Name "place" q2) (-1) none q3] q4] env)) [])) :
    ∀ fd, (∃ oc od osl, K.lookup fI = some ⟨oc, od, .func fd, osl⟩) → FnOk P w K mg base CX0 1 fI fd ["self", "place"] (spBad K C) := by
  have v0 : F.scope.names.lookup ("self" : Str) = some .local := S.par _ (by simp)
  have v1 : F.scope.names.lookup ("place" : Str) = some .local := S.par _ (by simp)
  refine sup_ok (k := 0) T S (fun vs H Q E h => ?_) (fun vs H Q E h => ?_) hbd hpar har hks (S.frk _ (by simp)) v0 (fun _ => rfl) (fun _ => rfl) hev fun A outer s H vs Q E hroom h => ?_
  · obtain ⟨a, n, rfl, _⟩ := h
    rfl
  · obtain ⟨a, n, rfl, ha, _⟩ := h
    exact ⟨a, _, rfl, ha⟩
  · obtain ⟨a, n, rfl, ha, hn, k⟩ := h
    refine ⟨_, _, pa_cons (pe_joined (.cons pe_str (.cons (pe_fmt (pe_var (i := 1) rfl (.inl v1))) .nil))) pa_nil,
      pss_one (ps_ost (pe_var (i := 0) rfl (.inl v0)) (pe_var (i := 1) rfl (.inl v1))), ?_⟩
    have hln : (Str.ofString (toString n)).length ≤ 2000 := by
      have hl : n.natAbs.log2 < 1900 := Nat.lt_of_lt_of_le (PySem.Flt.log2_lt_of (k := 100) (by decide) hn) (by decide)
      have e := int_text_length_le (k := 1900) (by decide) hl
      rw [PySem.ofString_length]; omega
    have l1 : (Str.empty ++ ("place " : Str)).length = 6 := by decide +kernel
    refine ⟨_, rfl, by rw [l1]; decide, ?_⟩
    refine ⟨_, rfl, .inr ⟨n, rfl, Nat.lt_of_lt_of_le (PySem.Flt.log2_lt_of (k := 100) (by decide) hn) (by decide), _, rfl, ?_, ?_⟩⟩
    · rw [strLen_append, l1]
      exact Nat.le_trans (show 6 + _ ≤ 3000 by omega) (by decide)
    refine ⟨show 1 ≤ 1000 by decide, a, rfl, ha, ?_⟩
    refine ⟨_, rfl, _, rfl, a, C, rfl, T.oex, hl, .inl ⟨ha, fun d hd hda => ?_⟩⟩
    refine k d _ hd upd_same (by rw [upd_ne hda, upd_same]) fun b hb hbd => ?_
    rw [upd_ne hb, upd_ne hbd]
end
/-! ### from the top's facts -/
abbrev nfB (st : Stmt) (cc cda : Addr) : NF := ⟨"__init__", "BadNumbers.__init__", defArgs st, defBody st, defScope st, [(("__class__" : Str), cc)], cda⟩
structure BadK (P : Program) (K : PySem.W.Frag) (st : Stmt) (C B fI cc cda : Addr) : Prop where
  gC : PySem.W.nsIn K mainGlobals "BadNumbers" = some (some (.ref C))
  gB : PySem.W.nsIn K mainGlobals "HoldError" = some (some (.ref B))
  sup : SupC P K C fI cc (nfB st cc cda)
  xf : XfC K C
  isc : ExcC K C
  place : PySem.W.findIn K (.ref C) "place" = some none
  exm : PySem.W.exmOne K (.ref C) (.ref B) = some true
  ini : PySem.W.findIn K (.ref C) "__init__" = some (some (.ref fI))
  ity : PySem.W.typeIn K (.ref fI) = some (.type "function")
def HasBad (P : Program) (K : PySem.W.Frag) (st : Stmt) (C : Addr) : Prop := ∃ B fI cc cda, BadK P K st C B fI cc cda
section
variable {P : Program} {K : PySem.W.Frag} {st : Stmt} {C B fI cc cda : Addr} {nm q : Str} {N : Addr} {bs bm : List Value} {sn : List Str} {sub : List Value} {ab : Bool} {col : Option Bool} {dd : Option Addr} {k0 k1 k2 k3 k5 : Option Value}
  {oc : Value} {od : Option Addr} {doc pm ctv : Value} {osl : Array (Option Value)} {ccl : Value} {cdd : Option Addr} {vs : Array Value} {ccs : Array (Option Value)} {file : Str} {tf : Tok} {xcl : Value} {xld : Option Addr} {xsl : Array (Option Value)}
theorem HasBad.mk' (a1 : PySem.W.nsIn K mainGlobals "BadNumbers" = some (some (.ref C))) (a2 : PySem.W.nsIn K mainGlobals "HoldError" = some (some (.ref B)))
    (a3 : K.lookup C = some (excClassObj nm q C N bs bm true sn sub ab col dd k0 k1 k2 k3 k5 "ValueError.__new__")) (a4 : PySem.HandSPX.refsVE bm = true)
    (a5 : PySem.W.findIn K (.ref C) "__setattr__" = some (some (.builtin "object.__setattr__"))) (a6 : PySem.W.subIn K (.ref C) (.type "BaseException") = some true) (a7 : PySem.W.typeIn K (.ref C) = some (.type "type")) (a8 : PySem.W.keepIn K (.ref C) = true)
    (b1 : PySem.W.findIn K (.ref C) "__init__" = some (some (.ref fI))) (b2 : PySem.W.typeIn K (.ref fI) = some (.type "function"))
    (b3 : K.lookup fI = some ⟨oc, od, .func ((nfB st cc cda).fd doc pm ctv), osl⟩) (b4 : PySem.W.codeIn K (.ref cda) "BadNumbers.__init__" = true)
    (b5 : K.lookup cda = some ⟨ccl, cdd, .fields vs, ccs⟩) (b6 : vs[2]? = some (.str file tf)) (b7 : ((P.main.file : Str) == file) = true) (b8 : (P.main.scope.names.lookup ("super" : Str)).isSome = false)
    (c1 : K.lookup cc = some ⟨xcl, xld, .cell (some (.ref C)), xsl⟩) (c2 : PySem.W.mroIn K C (.ref C) = some true) (c3 : PySem.W.subIn K (.ref C) (.type "ValueError") = some true)
    (c4 : PySem.W.ks_superIn K C C "__init__" = some (some (.builtin "ValueError.__init__"))) (c5 : PySem.W.nsIn K cStatics "thirdparty.any" = some none) (c6 : PySem.W.nsIn K mainGlobals "super" = some none)
    (d1 : PySem.W.findIn K (.ref C) "__getattribute__" = some (some (.builtin "BaseException.__getattribute__"))) (d2 : PySem.W.findIn K (.ref C) "__getattr__" = some none) (d3 : PySem.W.hasDictIn K C = true)
    (d4 : PySem.W.findIn K (.ref C) "__class__" = some (some (.builtin "object.__class__"))) (d5 : PySem.W.specialIn K (.builtin "object.__class__") "__get__" = some (some (.builtin "getset_descriptor.__get__")))
    (d6 : PySem.W.takesIn K (.builtin "object.__class__") = some true) (d7 : PySem.W.mroIn K C (.type "object") = some true)
    (e1 : PySem.W.findIn K (.ref C) "place" = some none) (e3 : PySem.W.subIn K (.ref B) (.type "BaseException") = some true) (e4 : PySem.W.hasDictIn K B = true) (e5 : PySem.W.typeIn K (.ref B) = some (.type "type")) (e6 : PySem.W.subIn K (.ref C) (.ref B) = some true) : HasBad P K st C :=
  ⟨B, fI, cc, cda, a1, a2, ⟨⟨⟨nm, q, N, bs, bm, sn, sub, ab, col, dd, k0, k1, k2, k3, k5, a3, a4⟩, a5, a6, a7, a8⟩, ⟨oc, od, doc, pm, ctv, osl, b3⟩, rfl, b4, ⟨ccl, cdd, vs, ccs, file, tf, b5, b6, b7⟩, b8, ⟨xcl, xld, xsl, c1⟩, c2, c3, c4, c5, c6⟩,
    ⟨d1, d2, a6, d3⟩, ⟨d1, d2, a6, d3, d4, d5, d6, d7⟩, e1, PySem.W.exm_ref e3 e4 e5 e6, b1, b2⟩
end
section
variable {P : Program} {w : World} {K : PySem.W.Frag} {mg : Str → Option Value} {base h : Heap} {st : Stmt} {p0 p1 pa pc pe q1 q2 q3 q4 a1 a2 a3 a4 : Pos} {k1 : Nat} {ar : Arg} {C : Addr}
theorem mk_useB (f : HasBad P K st C) (X : K.In h) (G : h.Ns mainGlobals mg)
    (S : NScope ["self", "place", "__class__"] ["self", "place"] ["__class__"] (defScope st))
    (hbd : defBody st = [.Expr (.Call (.Attribute (.Call (.Name "super" p0) [] [] p1) "__init__" pa) [.JoinedStr [.Constant (.str "place ") k1 q1, .FormattedValue (.Name "place" q2) (-1) none q3] q4] [] pc) pe,
      .Assign [.Attribute (.Name "self" a1) "place" a2] (.Name "place" a3) a4])
    (hpar : ((defArgs st).posonlyargs ++ (defArgs st).args).head? = some ar) (har : ar.arg = "self") (hks : (defScope st).names.lookup ("super" : Str) = some .globalImplicit)
    (hev : ∀ env : Env, ∃ pl : Sem Bool, eval (.Call (.Attribute (.Call (.Name "super" p0) [] [] p1) "__init__" pa) [.JoinedStr [.Constant (.str "place ") k1 q1, .FormattedValue (.Name "place" q2) (-1) none q3] q4] [] pc) env = (do
      let ov ← attributeBase (.Call (.Name "super" p0) [] [] p1) "__init__" env (eval (.Call (.Name "super" p0) [] [] p1) env)
      standAt pa.atName
      let (f, first) ← holding [ov] (getMethod ov "__init__" pl)
      callWith pc f first (backTo pc (starEach [.JoinedStr [.Constant (.str "place ") k1 q1, .FormattedValue (.Name "place" q2) (-1) none q3] q4] env)) []))
    (hb : ∀ (cc cda : Addr) (doc pm ctv : Value) (us : List Value), us.length = 2 → bindArgs ((nfB st cc cda).fd doc pm ctv) ⟨us, []⟩ = pure ((["self", "place"] : List Str).zip us)) :
    ∃ B, UseB P w K mg base C B := by
  obtain ⟨B, fI, cc, cda, f⟩ := f
  obtain ⟨oc, od, doc, pm, ctv, osl, lk⟩ := f.sup.fn
  exact ⟨B, f.sup.oex, f.xf, f.isc, PySem.W.mg_of X G f.gC, PySem.W.mg_of X G f.gB, f.place, f.exm, fI, _, f.ini, f.ity, bad_ini f.sup f.place S hbd hpar har hks hev _ ⟨oc, od, osl, lk⟩, .all (hb cc cda doc pm ctv)⟩
end
/-! ### another class of the top, of which the caught one is none -/
def HasKin (K : PySem.W.Frag) (x : Str) (C : Addr) (b : Bool) : Prop := ∃ D, PySem.W.nsIn K mainGlobals x = some (some (.ref D)) ∧ PySem.W.kitOne K (.ref C) (.ref D) = some b
theorem HasKin.mk' {K : PySem.W.Frag} {x : Str} {C D : Addr} {b : Bool} (h1 : PySem.W.nsIn K mainGlobals x = some (some (.ref D))) (h0 : (Value.ref C == Value.ref D) = false) (h2 : PySem.W.hasDictIn K D = true)
    (h3 : PySem.W.typeIn K (.ref D) = some (.type "type")) (h4 : PySem.W.subIn K (.ref C) (.ref D) = some b) : HasKin K x C b := ⟨D, h1, by
  obtain ⟨cd, hc, _⟩ := PySem.W.any_some h2
  unfold PySem.W.kitOne
  rw [h0, if_neg Bool.false_ne_true]
  show (if ((PySem.W.clsIn K D).isSome && PySem.W.typeIn K (.ref D) == some (.type "type")) = true then PySem.W.subIn K (.ref C) (.ref D) else none) = _
  rw [hc, h3, h4]
  rfl⟩
structure UseKin (K : PySem.W.Frag) (mg : Str → Option Value) (x : Str) (C : Addr) (b : Bool) : Prop where
  ex : ∃ D, mg x = some (.ref D) ∧ PySem.W.kitOne K (.ref C) (.ref D) = some b
theorem HasKin.g {K : PySem.W.Frag} {mg : Str → Option Value} {h : Heap} {x : Str} {C : Addr} {b : Bool} (k : HasKin K x C b) (X : K.In h) (G : h.Ns mainGlobals mg) : UseKin K mg x C b := by
  obtain ⟨D, h1, h2⟩ := k
  exact ⟨D, PySem.W.mg_of X G h1, h2⟩
section
variable {P : Program} {w : World} {K : PySem.W.Frag} {mg : Str → Option Value} {base : Heap}
theorem FnG.calm {k : Nat} {f : Addr} {fd : FuncData} {ps : List Str} {sp : Sp} (F : FnG P w K mg base (L2.CX P w) k f fd ps sp) (hE : ∀ vs H Q E E', sp vs H Q E → sp vs H Q E') : FnG P w K mg base CX0 k f fd ps sp :=
  ⟨F.len, fun A outer s H args us vs Q E hr hg he hb hv hs => PySem.codeAny_mono (F.run A outer s H args us vs Q E0 hr hg he hb hv (hE _ _ _ _ _ hs)) fun r s' h => by
    cases r with
    | ok fl => cases fl <;> exact h
    | error e =>
      obtain ⟨a, B, H', cls, d, _, _, _, _, _, _, _, hh⟩ := h
      exact hh.elim⟩
end
end LK

set_option Elab.async false
set_option linter.all false
set_option maxRecDepth 100000
set_option maxHeartbeats 4000000
/-! d.items() where the keys of d are tuples -/
namespace LK
open PySem PySem.Spec PyProof.Rows L2
open Sem (wp)
section
variable {prog : Program} {w : World} {A : Around} {E : Value → Shared → Prop} {s : Shared} {it d : Addr} {i ep n : Nat} {ok ov : Value}
theorem next_item_raw {o : Obj} {es : Array DictEntry} {en : DictEntry} {Q : Option Value → Shared → Prop} (hit : IsItemIter s.heap it d i n ep ok ov) (hod : s.heap.get? d = some o) (hdd : o.data = .dict es ep) (hn : es.size = n) (he : es[i]? = some en)
    (hQ : ∀ h', IsItemIterOut h' it d (i + 1) n ep en.key en.val s.heap.objs.size → h'.get? s.heap.objs.size = some { cls := .type "tuple", data := .seq #[en.key, en.val] } → h'.objs.size = s.heap.objs.size + 1 →
      (∀ b o, b ≠ it → s.heap.get? b = some o → h'.get? b = some o) → Q (some (.ref s.heap.objs.size)) { s with heap := h' }) : wpAny (model prog w) A (pyNext (.ref it)) Q E s := by
  have hT : s.TypeIs (.ref it) "dict_itemiterator" := ⟨_, hit, rfl⟩
  refine wpAny_bind (wpAny_attempt (wpAny_callSpecial?_slot hT F.slot_dict_itemiterator_next (wpAny_call_entry F.slot_dict_itemiterator_next hT F.entry_dict_itemiterator_next ?_ (F.args_dict_itemiterator_next_1 (Value.ref it)))))
  refine wpAny_bind (wpAny_pure ?_)
  refine wpAny_bind ?_
  refine wpAny_bind (wpAny_bind (wpAny_typeNameOfWhole_itemiter hT (wpAny_pure ?_)))
  refine wpAny_bind (wpAny_fieldsOf hit rfl ?_)
  have hown : Builtin.Dict_items.ownsTuple "dict_itemiterator" = true := of_decide_eq_true (id (Eq.refl true))
  simp only [hown, if_true]
  show wpAny _ _ (if (Value.ref d == Value.none) = true then _ else _) _ _ _
  rw [if_neg (show ¬ (Value.ref d == Value.none) = true from Bool.false_ne_true)]
  refine wpAny_bind (wpAny_pure ?_)
  refine wpAny_bind (wpAny_dictEntries hod hdd ?_)
  show wpAny _ _ (if ((es.size : Int) != (n : Int)) = true then _ else _) _ _ _
  rw [if_neg (by rw [hn]; simp)]
  refine wpAny_bind (wpAny_pure ?_)
  refine wpAny_bind (wpAny_dictEpoch hod hdd ?_)
  show wpAny _ _ (if ((ep : Int) != (ep : Int)) = true then _ else _) _ _ _
  rw [if_neg (by simp)]
  refine wpAny_pure ?_
  show wpAny _ _ (match if (i : Int) < 0 then none else es[(i : Int).toNat]? with | some e => _ | none => _) _ _ _
  rw [if_neg (show ¬ (i : Int) < 0 by omega), Int.toNat_natCast, he]
  refine wpAny_bind (wpAny_bind (wpAny_typeNameOfWhole_itemiter hT (wpAny_pure ?_)))
  refine wpAny_bind (wpAny_isOneOf_itemiter hT ?_)
  simp only [hown, if_true]
  refine wpAny_bind (wpAny_setField_rec hit (by simp) fun h1 he1 hs1 => ?_)
  replace he1 : IsItemIter h1 it d (i + 1) n ep ok ov := he1
  have hT1 : ({ s with heap := h1 } : Shared).TypeIs (.ref it) "dict_itemiterator" := ⟨_, he1, rfl⟩
  refine wpAny_bind (wpAny_holding ?_)
  refine wpAny_bind (wpAny_isOneOf_itemiter hT1 ?_)
  show wpAny _ _ (if (false : Bool) = true then _ else _) _ _ _
  rw [if_neg Bool.false_ne_true]
  refine wpAny_bind (wpAny_isOneOf_itemiter hT1 ?_)
  show wpAny _ _ (if (false : Bool) = true then _ else _) _ _ _
  rw [if_neg Bool.false_ne_true]
  refine wpAny_bind (wpAny_newTuple ?_)
  have he2 : IsItemIter (h1.push { cls := .type "tuple", data := .seq #[en.key, en.val] }) it d (i + 1) n ep ok ov := Heap.get?_push_of_some _ he1
  have hil : it < s.heap.objs.size := Heap.lt_size hit
  have hz1 : h1.objs.size = s.heap.objs.size := hs1.1
  have ht2 : (h1.push { cls := .type "tuple", data := .seq #[en.key, en.val] }).get? s.heap.objs.size = some { cls := .type "tuple", data := .seq #[en.key, en.val] } := by rw [← hz1]; exact Heap.get?_push_size _ rfl
  have kk2 : ∀ b o, b ≠ it → s.heap.get? b = some o → (h1.push { cls := .type "tuple", data := .seq #[en.key, en.val] }).get? b = some o := fun b o hb h => Heap.get?_push_of_some _ (by rw [hs1.2 b hb]; exact h)
  refine wpAny_bind ?_
  refine wpAny_bind (wpAny_field he2 rfl (x := .none) rfl (wpAny_pure ?_))
  simp only [if_true]
  refine wpAny_bind (wpAny_field he2 rfl (x := ok) rfl ?_)
  refine wpAny_bind (wpAny_field he2 rfl (x := ov) rfl ?_)
  refine wpAny_bind (wpAny_setField_rec he2 (by simp) fun h3 he3 hs3 => ?_)
  replace he3 : IsItemIter h3 it d (i + 1) n ep en.key ov := he3
  refine wpAny_bind (wpAny_setField_rec he3 (by simp) fun h4 he4 hs4 => ?_)
  replace he4 : IsItemIter h4 it d (i + 1) n ep en.key en.val := he4
  refine wpAny_bind (wpAny_setField_rec he4 (by simp) fun h5 he5 hs5 => ?_)
  refine wpAny_bind (wpAny_setField_rec he5 (by simp) fun h6 he6 hs6 => ?_)
  have he7 : IsItemIterOut h6 it d (i + 1) n ep en.key en.val s.heap.objs.size := by
    show h6.get? it = some _
    rw [← hz1]
    exact he6
  have up : ∀ b o, b ≠ it → (h1.push { cls := .type "tuple", data := .seq #[en.key, en.val] }).get? b = some o → h6.get? b = some o := fun b o hb h => by rw [hs6.2 b hb, hs5.2 b hb, hs4.2 b hb, hs3.2 b hb]; exact h
  have hz6 : h6.objs.size = s.heap.objs.size + 1 := by rw [hs6.1, hs5.1, hs4.1, hs3.1, Heap.size_push, hz1]
  refine wpAny_bind (wpAny_letGo (wpAny_pure (wpAny_pure ?_)))
  refine ⟨_, rfl, wpAny_pure ?_⟩
  show Q (some (.ref h1.objs.size)) _
  rw [hz1]
  exact hQ h6 he7 (up _ _ (Nat.ne_of_gt hil) ht2) hz6 fun b o hb h => up b o hb (kk2 b o hb h)
theorem next_item_end {o : Obj} {es : Array DictEntry} {Q : Option Value → Shared → Prop} (hh : A.handled = none) (hit : IsItemIter s.heap it d i n ep ok ov) (hod : s.heap.get? d = some o) (hdd : o.data = .dict es ep) (hn : es.size = n) (he : es[i]? = none)
    (hQ : ∀ h', Heap.ExtBut it s.heap h' → Q none { s with heap := h' }) : wpAny (model prog w) A (pyNext (.ref it)) Q E s := by
  have hT : s.TypeIs (.ref it) "dict_itemiterator" := ⟨_, hit, rfl⟩
  refine wpAny_bind (wpAny_attempt (wpAny_callSpecial?_slot hT F.slot_dict_itemiterator_next (wpAny_call_entry F.slot_dict_itemiterator_next hT F.entry_dict_itemiterator_next ?_ (F.args_dict_itemiterator_next_1 (Value.ref it)))))
  refine wpAny_bind (wpAny_pure ?_)
  refine wpAny_bind ?_
  refine wpAny_bind (wpAny_bind (wpAny_typeNameOfWhole_itemiter hT (wpAny_pure ?_)))
  refine wpAny_bind (wpAny_fieldsOf hit rfl ?_)
  have hown : Builtin.Dict_items.ownsTuple "dict_itemiterator" = true := of_decide_eq_true (id (Eq.refl true))
  simp only [hown, if_true]
  show wpAny _ _ (if (Value.ref d == Value.none) = true then _ else _) _ _ _
  rw [if_neg (show ¬ (Value.ref d == Value.none) = true from Bool.false_ne_true)]
  refine wpAny_bind (wpAny_pure ?_)
  refine wpAny_bind (wpAny_dictEntries hod hdd ?_)
  show wpAny _ _ (if ((es.size : Int) != (n : Int)) = true then _ else _) _ _ _
  rw [if_neg (by rw [hn]; simp)]
  refine wpAny_bind (wpAny_pure ?_)
  refine wpAny_bind (wpAny_dictEpoch hod hdd ?_)
  show wpAny _ _ (if ((ep : Int) != (ep : Int)) = true then _ else _) _ _ _
  rw [if_neg (by simp)]
  refine wpAny_pure ?_
  show wpAny _ _ (match if (i : Int) < 0 then none else es[(i : Int).toNat]? with | some e => _ | none => _) _ _ _
  rw [if_neg (show ¬ (i : Int) < 0 by omega), Int.toNat_natCast, he]
  refine wpAny_bind (wpAny_bind (wpAny_typeNameOfWhole_itemiter hT (wpAny_pure ?_)))
  simp only [hown, if_true]
  refine wpAny_bind (wpAny_setField hit rfl (show 2 < 8 by decide) ?_)
  have eb := (Heap.SameBut.update s.heap it (Obj.mapFields fun x => x.setIfInBounds 2 Value.none)).extBut
  generalize s.heap.update it (Obj.mapFields fun x => x.setIfInBounds 2 Value.none) = h1 at eb
  refine wpAny_bind ?_
  refine wpAny_bind (wpAny_newObj_type ?_ ?_)
  refine wpAny_bind (wpAny_of_eq (Eq.refl (firstArgMember (Value.type "StopIteration") [])) ?_)
  refine wpAny_newObj_type ?_ (sizeOk_excFields _ _ _ _ _ _ _ _)
  refine wpAny_bind (wpAny_handled ?_)
  rw [show A.in1.handled = none from hh]
  refine wpAny_bind (wpAny_pure (wpAny_throw ?_))
  refine wpAny_bind (wpAny_isInstance ⟨_, Heap.get?_push_size _ rfl, rfl⟩ isSubtype_stop (wpAny_pure ?_))
  exact hQ _ ((eb.push _).push _)
  exact Nat.zero_le _
end
/-- the turns of d.items(), d locked: a key that is a tuple, its value, a new tuple of both -/
def ItiT (d : Addr) (o : Obj) (kvs : List (List Key × V)) : It where
  go := fun i H => H d = some (.frz o (.dT kvs)) ∧ i < kvs.length
  yld := fun i H x H' => ∃ T k q v, kvs[i]? = some (k, v) ∧ x = .ref T ∧ H T = none ∧ H q = some (.tup (k.map kV)) ∧ H' = upd H T (.tup [.ref q, v])
  stop := fun i H => H d = some (.frz o (.dT kvs)) ∧ kvs.length ≤ i
theorem paired_get {α β : Type} {F : α → β → Prop} : ∀ {l : List α} {m : List β}, Paired F l m → ∀ {i : Nat} {a : α}, l[i]? = some a → ∃ b, m[i]? = some b ∧ F a b
  | _, _, .cons h _, 0, _, e => by cases e; exact ⟨_, rfl, h⟩
  | _, _, .cons _ r, i + 1, _, e => paired_get r (i := i) e
theorem frzT_all {X : Cx} {pins : List (Addr × Obj)} {σ : L2.St} {H : Hp} {s : Shared} {d : Addr} {o : Obj} {kvs : List (List Key × V)} {es : Array DictEntry} {ep : Nat} (I : L2.Inv X pins σ H s) (hd : H d = some (.frz o (.dT kvs))) (hod : o.data = .dict es ep) :
    s.heap.get? d = some o ∧ es.size = kvs.length ∧ ∀ (i : Nat) (k : List Key) (v : V), kvs[i]? = some (k, v) → ∃ en q u, es[i]? = some en ∧ en.key = .ref q ∧ en.val = u ∧ H q = some (.tup (k.map kV)) ∧ L2.RelV v u := by
  have h := I.hok d _ hd
  unfold ObjOk at h
  obtain ⟨h1, h2⟩ := h
  unfold ObjOk at h2
  obtain ⟨_, _, xs, hp, o', es', ep', g1, g2, g3, g4, _⟩ := h2
  rw [h1] at g1
  cases g1
  obtain ⟨rfl, rfl⟩ := dict_ep g3 hod
  have hl := hp.length
  refine ⟨h1, by rw [← Array.length_toList, g4, List.length_map]; exact hl.symm, fun i k v e => ?_⟩
  obtain ⟨⟨k', q, u⟩, e2, e3, e4, e5⟩ := paired_get hp e
  refine ⟨entryOfKey (tupleKind (mixKind X.prog X.w)) (k', q, u), q, u, ?_, rfl, rfl, e4, e5⟩
  rw [← Array.getElem?_toList, g4, List.getElem?_map, e2]
  rfl
theorem turn_itemsT {P : Program} {w : World} {K : PySem.W.Frag} {d : Addr} {o : Obj} {es : Array DictEntry} {ep : Nat} {kvs : List (List Key × V)} {elts : List Expr} {kk : Nat} {tpos : Pos} (it : Addr) (hod : o.data = .dict es ep) :
    Turn P w K (.Tuple elts kk tpos) (ItiT d o kvs) [it] it fun i h => ∃ ok ov, IsItemIter h it d i kvs.length ep ok ov where
  mem := List.mem_singleton.mpr rfl
  obj := fun i h ⟨ok, ov, e⟩ b hb => by
    obtain rfl := List.mem_singleton.mp hb
    exact ⟨_, e, fun v z => nomatch z⟩
  keep := fun i h h' ⟨ok, ov, e⟩ k => ⟨ok, ov, k it (List.mem_singleton.mpr rfl) _ e⟩
  item := fun X hP hw hK hc i pins s σ H E I hf st hg => by
    subst hP hw hK
    obtain ⟨hd, hi⟩ := hg
    obtain ⟨ok, ov, he⟩ := st
    obtain ⟨hgd, hsz, hen⟩ := frzT_all I hd hod
    obtain ⟨⟨k, v⟩, hkv⟩ : ∃ x, kvs[i]? = some x := ⟨_, List.getElem?_eq_getElem hi⟩
    obtain ⟨en, q, u, e1, e2, e3, e4, e5⟩ := hen i k v hkv
    have hlt := Heap.lt_size he
    refine next_item_raw he hgd hod hsz e1 fun h' ho hT hz hk => ⟨_, rfl, wpAny_letOwnedTupleGo_items ho fun h'' he' sb => ?_⟩
    rw [e2, e3] at hT
    have hT2 := (sb.2 s.heap.objs.size (Nat.ne_of_gt hlt)).trans hT
    have new : ObjOk X.prog X.w (upd H s.heap.objs.size (.tup [.ref q, v])) h'' s.heap.objs.size (.tup [.ref q, v]) := by
      unfold ObjOk
      exact ⟨(by decide : 2 ≤ sizeLine), [.ref q, u], .cons rfl (.cons e5 .nil), _, hT2, rfl, 0, rfl⟩
    have I1 := Inv.turnedNew (t' := s.toks) (ch := [it]) I (fun b ob hb e => (sb.2 b fun h => hb (List.mem_singleton.mpr h)).trans (hk b ob (fun h => hb (List.mem_singleton.mpr h)) e)) hf (Nat.le_refl _) new
    refine ⟨.ref s.heap.objs.size, _, I1, rfl, ⟨_, k, q, v, hkv, rfl, HOk.fresh I.hok (Nat.le_refl _), e4, rfl⟩, ⟨_, _, he'⟩, fun b hb => ?_⟩
    obtain rfl := List.mem_singleton.mp hb
    rw [upd_ne (Nat.ne_of_lt hlt)]
    exact (hf b (List.mem_singleton.mpr rfl)).1
  done := fun X hP hw hK hc i pins s σ H E I hf st hg => by
    subst hP hw hK
    obtain ⟨hd, hi⟩ := hg
    obtain ⟨ok, ov, he⟩ := st
    obtain ⟨f0, f1, f2, f3, f4, f5⟩ := hf it (List.mem_singleton.mpr rfl)
    obtain ⟨hgd, hsz, hen⟩ := frzT_all I hd hod
    refine next_item_end (I.ok.hd hc) he hgd hod hsz (Array.getElem?_eq_none (by omega)) fun h' eb => ⟨rfl, I.turned (t' := s.toks) (fun b ob hb e => eb b ob hb e) f0 f1 f3 f4 f5⟩
  self := fun A i s Q E ⟨_, _, e⟩ h => PySem.W.kcp_self e h
def iItemsT (td : TE) : TI := fun σ H R => td σ H fun x H1 => ∃ d o kvs, x = .ref d ∧ H1 d = some (.frz o (.dT kvs)) ∧ R (ItiT d o kvs) H1
section
variable {prog : Program} {w : World} {A : Around} {E : Value → Shared → Prop} {s : Shared} {d v : Addr} {ep : Nat}
theorem meets_itemsT (d : Addr) (hs : (d == sysModules) = false) : MeetsIn prog w (Builtin.«dict.items» { pos := [Value.ref d] }) fun x R s =>
      s.TypeIs (.ref d) "dict" ∧ R (Except.ok (Flow.ret (Value.ref s.heap.objs.size))) { heap := s.heap.push { cls := Value.type "dict_items", data := Data.fields #[Value.ref d] }, gens := s.gens, drawn := s.drawn, toks := s.toks, os := s.os } :=
  MeetsIn.of_wp fun A R s ⟨ht, h⟩ => by
    refine wpAny_bind ?_
    refine wpAny_bind (wpAny_notOrdered_dict ht ?_)
    refine wpAny_pure ?_
    show wpAny _ _ (do
      (if (d == sysModules) = true then _ else _)
      let __do_lift ← newFields "dict_items" [Value.ref d]
      ret __do_lift) _ _ _
    rw [if_neg (by rw [hs]; exact Bool.false_ne_true)]
    refine wpAny_bind (wpAny_pure ?_)
    refine wpAny_bind (wpAny_newObj_type (wpAny_pure ⟨_, rfl, h⟩) ?_)
    exact (by decide : 1 ≤ sizeLine + 2)
theorem iter_itemsT {o : Obj} {es : Array DictEntry} {Q : Value → Shared → Prop} (hv : s.heap.IsItemsView v d) (hod : s.heap.get? d = some o) (hdd : o.data = .dict es ep)
    (hQ : Q (.ref s.heap.objs.size) { s with heap := s.heap.push { cls := .type "dict_itemiterator", data := .fields #[.none, .bool false, .ref d, .int 0 0, .int (es.size : Nat) 0, .int (ep : Nat) 0, .none, .none] } }) : wpAny (model prog w) A (pyIter (.ref v)) Q E s := by
  obtain ⟨ov, hov, hcv, hdv⟩ := id hv
  refine wpAny_pyIter_slot (Heap.IsItemsView.typeIs hv) F.slot_dict_items_iter (wpAny_call_entry F.slot_dict_items_iter (Heap.IsItemsView.typeIs hv) F.entry_dict_items_iter ?_ ?_)
  · refine wpAny_bind (wpAny_pure ?_)
    refine wpAny_bind ?_
    refine wpAny_bind (wpAny_field hov hdv rfl (wpAny_pure ?_))
    refine wpAny_bind ?_
    refine wpAny_bind (wpAny_dictEntries hod hdd ?_)
    refine wpAny_bind (wpAny_dictEpoch hod hdd ?_)
    have hown : Builtin.Dict_items.ownsTuple "dict_itemiterator" = true := of_decide_eq_true (id (Eq.refl true))
    simp only [hown, if_true]
    refine wpAny_newObj_type (wpAny_pure ⟨_, rfl, "dict_itemiterator", .builtin "dict_itemiterator.__next__", ⟨_, Heap.get?_push_size _ rfl, rfl⟩, F.slot_dict_itemiterator_next.lookup, hQ⟩) ?_
    exact (show 8 ≤ sizeLine + 2 by decide)
  · exact F.args_dict_items_iter_1 (Value.ref v)
end
theorem pi_itemsT {X : Cx} {e : Expr} {td : TE} {apos cpos : Pos} {elts : List Expr} {kk : Nat} {tpos : Pos} (he : PE X e td) (hbase : attributeBase e "items" X.env (eval e X.env) = eval e X.env := by rfl) (hline : (apos.endLine == cpos.line) = true := by decide) :
    PI X (.Tuple elts kk tpos) (.Call (.Attribute e "items" apos) [] [] cpos) (iItemsT td) := by
  refine ⟨fun pins s σ H R I h => ?_⟩
  refine wpAny_Call_method hbase rfl hline F.plainAttrs_dict F.slot_dict_items F.type_dict_items ?_
  refine thn (he.run pins s σ H _ I h) fun u s1 ⟨x, H1, I1, rx, d, o, kvs, ex, hd, q⟩ => ?_
  subst ex
  obtain rfl : u = Value.ref d := rx
  have hk := I1.hok d _ hd
  unfold ObjOk at hk
  obtain ⟨hgd, h2⟩ := hk
  unfold ObjOk at h2
  obtain ⟨_, hs, xs, hp, o', es, ep, g1, g2, g3, g4, _⟩ := h2
  rw [hgd] at g1
  cases g1
  obtain ⟨hgd2, hsz, hen⟩ := frzT_all I1 hd g3
  have hT : s1.TypeIs (.ref d) "dict" := ⟨o, hgd, g2.1⟩
  refine ⟨hT, fun a ea => ?_, ?_⟩
  · cases ea
    exact ⟨o, hgd, g2.2.1⟩
  have I2 := I1.kept (t' := s1.toks) fun b ob q => Heap.get?_push_of_some { cls := Value.type "dict_items", data := Data.fields #[Value.ref d] } q
  refine method_meetsIn F.slot_dict_items F.entry_dict_items rfl (PySem.evalArgs_none ⟨rfl, hT, F.args_dict_items_1 (Value.ref d), _, meets_itemsT d hs, hT, ?_⟩)
  refine iter_itemsT (o := o) (es := es) (ep := ep) ⟨_, Heap.get?_push_size _ rfl, rfl, rfl⟩ (Heap.get?_push_of_some _ hgd) g3 ?_
  refine pi_one I2 _ (turn_itemsT _ g3) ⟨.none, .none, ?_⟩ q
  rw [← hsz]
  exact Heap.get?_push_size _ rfl
theorem walk_itemsT {d : Addr} {o : Obj} {kvs : List (List Key × V)} : Walk (ItiT d o kvs) kvs.length (fun H => H d = some (.frz o (.dT kvs))) (fun i H x H' => ∃ T k q v, kvs[i]? = some (k, v) ∧ x = .ref T ∧ H T = none ∧ H q = some (.tup (k.map kV)) ∧ H' = upd H T (.tup [.ref q, v])) :=
  ⟨fun _ _ hi h => ⟨h, hi⟩, fun _ h => ⟨h, Nat.le_refl _⟩, fun _ _ _ _ _ _ y => y⟩
end LK

set_option Elab.async false
set_option linter.all false
set_option maxRecDepth 100000
set_option maxHeartbeats 4000000
/-! {k: v}, one pair, the key a tuple -/
namespace LK
open PySem PySem.Spec PyProof.Rows L2
theorem d_set {X : Cx} {pins : List (Addr × Obj)} {σ : L2.St} {H : Hp} {s : Shared} {a b : Addr} {v : V} {r : Value} {A : Around} {E : Value → Shared → Prop} {Q : Unit → Shared → Prop} {kvs : List (List Key × V)} {k : List Key}
    (hu : A.units + 1 < cLine) (I : L2.Inv X pins σ H s) (e : H a = some (.dT kvs)) (eb : H b = some (.tup (k.map kV))) (l : kvs.length < sizeLine) (rv : L2.RelV v r)
    (h : ∀ s', L2.Inv X pins σ (upd H a (.dT (putK kvs k v))) s' → Q () s') : wpAny (model X.prog X.w) A (dictSet a (.ref b) r) Q E s := by
  obtain ⟨z, hd, xs, rel, dd⟩ := dt_of I.hok e
  have hz : xs.length ≤ sizeLine := by rw [← rel.length]; exact z
  have hl : (putK kvs k v).length ≤ sizeLine := by have := length_putK kvs k v; omega
  refine wpAny_dictSet_heap (knd := tupleKind (mixKind X.prog X.w)) (by show A.units < cLine; omega) (key_of I.hok eb) dd (fun h' dd' hs => h _ ?_) hz
  obtain ⟨q, es, ep, hq, h2, h3, h4, h5⟩ := dd'
  exact d_write I (by rw [e]; trivial) hs ⟨q, hq⟩ ⟨hl, hd, storedH xs k b r, KT.keeps (KT.put rel k eb rv) fun c ys ec => by rw [upd_ne (ne_of ec e fun z => nomatch z)]; exact ec, q, es, ep, hq, h2, h3, h4, h5.2⟩
def tDisp1T (tk tv : TE) : TE := fun σ H Q => ∀ p, H p = none → tk σ (upd H p (.dT [])) fun x H1 => tv σ H1 fun y H2 => ∃ (k : List Key) (b : Addr), H2 p = some (.dT []) ∧ x = .ref b ∧ H2 b = some (.tup (k.map kV)) ∧ Q (.ref p) (upd H2 p (.dT [(k, y)]))
theorem pe_disp1T {X : Cx} {pos : Pos} {k v : Expr} {tk tv : TE} (hu : X.A.units + 1 < cLine) (hk : PE X k tk) (hv : PE X v tv) : PE X (.Dict [some k] [v] pos) (tDisp1T tk tv) := by
  refine ⟨fun pins s σ H Q I q => ?_⟩
  have hn := HOk.fresh I.hok (Nat.le_refl s.heap.objs.size)
  have I1 := Inv.laid (t' := s.toks) I (fun x x_1 q => Heap.get?_push_of_some { cls := Value.type "dict", data := Data.dict #[] } q) (Nat.le_refl s.heap.objs.size) (dt_empty s.heap (Inv.big I))
  have h : PPs X pos [some k] [v] [(tk, tv)] := pps_cons hk hv pps_nil
  have hlen := pairTrees_length [some k] [v] X.env pos rfl rfl
  rw [arm_eval_Dict]
  rw [zip_pairTrees [some k] [v] X.env pos rfl rfl]
  rw [dictDisplay_pairs _ (by intro z; rw [z] at hlen; cases hlen) (by rw [hlen]; exact (show 1 < 17 by decide))]
  refine wpAny_bind (wpAny_standAt (wpAny_bind ?_))
  unfold subDict
  refine wpAny_bind (wpAny_alloc (wpAny_bind (wpAny_holding ?_)))
  rw [if_pos (by rw [hlen]; exact (show 1 ≤ 15 by decide))]
  refine wpAny_bind ?_
  refine thn (h.run pins _ σ _ (fun ps H2 => match ps with
    | [(x, y)] => ∃ (k : List Key) (b : Addr), H2 s.heap.objs.size = some (.dT []) ∧ x = .ref b ∧ H2 b = some (.tup (k.map kV)) ∧ Q (.ref s.heap.objs.size) (upd H2 s.heap.objs.size (.dT [(k, y)]))
    | _ => False) I1 (q _ hn)) fun ws s2 ⟨ps, H2, I2, rel, h2⟩ => ?_
  cases rel with
  | nil => exact h2.elim
  | @cons x0 w0 xs0 ws0 r rs =>
    cases rs with
    | cons _ _ => exact h2.elim
    | nil =>
      obtain ⟨x, y⟩ := x0
      obtain ⟨kk, b, e, ex, eb, q2⟩ := h2
      subst ex
      obtain ⟨wk, wv⟩ := w0
      obtain ⟨r1, r2⟩ := r
      obtain rfl : wk = .ref b := r1
      refine wpAny_holding ?_
      simp only [List.forIn_cons, List.forIn_nil]
      refine wpAny_bind (wpAny_bind (wpAny_bind (d_set hu I2 e eb (by decide) r2 fun s' I3 => wpAny_pure (wpAny_pure (wpAny_pure (wpAny_pure (wpAny_pure ?_)))))))
      exact ⟨V.ref s.heap.objs.size, _, I3, rfl, q2⟩
end LK


set_option Elab.async false
set_option linter.all false
set_option maxRecDepth 100000
set_option maxHeartbeats 4000000
set_option exponentiation.threshold 3000
namespace K88
open PySem PySem.Spec PyProof.Rows LK NdefX SupX SX
open L2 hiding spCell
def top (i : Nat) : Stmt := PySem.Challenge.pw_pyhold_k88_data_beyond_the_bounds.main.body.getD i (.Pass ⟨0, 0, 0, 0⟩)
structure Txt (K : PySem.W.Frag) (mg : Str → Option Value) : Prop where
  c_MOST_ENTRIES : GInt mg "MOST_ENTRIES" 1000
  c_MOST_LEVELS : GInt mg "MOST_LEVELS" 6
  c_MOST_SIZE : GInt mg "MOST_SIZE" 1000
  c_INTEGER_END : GInt mg "INTEGER_END" (2 ^ 256)
  c_CHARACTERS : GStr mg "CHARACTERS" chStr
  b_len : mg "len" = none
  b_int : mg "int" = none
  b_range : mg "range" = none
  b_list : mg "list" = none
  b_tuple : mg "tuple" = none
  b_str : mg "str" = none
  b_isinstance : mg "isinstance" = none
  b_all : mg "all" = none
  b_abs : mg "abs" = none
  b_bool : mg "bool" = none
  b_dict : mg "dict" = none
abbrev s_law_cell : Stmt := top 20
abbrev N_law_cell : List Str := ["script", "k"]
abbrev P_law_cell : List Str := ["script", "k"]
theorem sc_law_cell : FnScope N_law_cell P_law_cell (defScope s_law_cell) := ⟨rfl, rfl, rfl, by decide +kernel, rfl, by decide +kernel, by decide +kernel⟩
abbrev s_law_digits : Stmt := top 22
abbrev N_law_digits : List Str := ["script", "first", "last", "digits", "k", "cell", "turn", "seed"]
abbrev P_law_digits : List Str := ["script", "first", "last"]
theorem sc_law_digits : FnScope N_law_digits P_law_digits (defScope s_law_digits) := ⟨rfl, rfl, rfl, by decide +kernel, rfl, by decide +kernel, by decide +kernel⟩
abbrev s_law_draw : Stmt := top 23
abbrev N_law_draw : List Str := ["box", "many", "at"]
abbrev P_law_draw : List Str := ["box", "many"]
theorem sc_law_draw : FnScope N_law_draw P_law_draw (defScope s_law_draw) := ⟨rfl, rfl, rfl, by decide +kernel, rfl, by decide +kernel, by decide +kernel⟩
section
variable {P : Program} {w : World} {K : PySem.W.Frag} {mg : Str → Option Value} {base : Heap}
theorem ok_draw {f : Addr} {fd : FuncData} (F : Fun K "_law_draw" "_law_draw" s_law_draw f fd) (T : Txt K mg) : FnG P w K mg base CX0 1 f fd P_law_draw (spDraw K) := by
  refine okG0 F sc_law_draw (fun vs H Q E h => ?_) fun cdv A outer s H vs Q E hr hg h => ?_
  · obtain ⟨p, dl, m, rfl, _⟩ := h
    rfl
  · obtain ⟨p, dl, m, rfl, B, hm, k⟩ := h
    obtain ⟨ds, n, hp, hn, hd, hl, hds⟩ := id B
    refine ⟨_, (pss_cons (ps_set (i := 2) sc_law_draw.nd rfl (Or.inl rfl) (pe_ix ix_list (pv 0) pe_int (fun _ _ => rfl)))
  (pss_cons (ps_asg (pe_op op_add (pv 2) pe_int) (pg_sub (pv 0) pe_int set_list))
  (pss_cons (ps_if (pt_cmpR op_lt (pv 2) (pe_callB call_len (by rfl) T.b_len PySem.boot_len (pa_cons (pe_ix ix_list (pv 0) pe_int (fun _ _ => rfl)) pa_nil)) (nomark _))
   (pss_one (ps_ret (pe_op op_mod (pe_callTy call_int1 (by rfl) T.b_int (by decide +kernel) (pa_cons (pe_ix ix_list (pe_ix ix_list (pv 0) pe_int (fun _ _ => rfl)) (pv 2) (fun _ _ => rfl)) pa_nil)) (pv 1))))
   pss_nil)
  (pss_one (ps_ret (pe_op op_mod (pe_callTy call_int1 (by rfl) T.b_int (by decide +kernel) (pa_cons (pe_op op_add (pe_op op_mul (pv 2) pe_int) pe_int) pa_nil)) (pv 1))))))), ?_⟩
    -- at = box[1]; box[1] = at + 1
    refine ⟨_, rfl, p, _, _, _, rfl, rfl, SqL.of hp, rfl, ?_⟩
    refine ⟨_, rfl, _, _, rfl, rfl, _, rfl, p, _, _, _, rfl, rfl, hp, rfl, ?_⟩
    have npd : dl ≠ p := by
      intro e
      subst e
      rw [hp] at hd
      have e := HO.lst.inj (Option.some.inj hd)
      cases ds with
      | nil => cases e
      | cons d ds => cases (List.cons.inj e).1
    have B' : BoxAt (upd H p (.lst [.ref dl, .int (n + 1)])) p dl := ⟨ds, n + 1, upd_same, by omega, by rw [upd_ne npd]; exact hd, hl, hds⟩
    have kp : Keep p H (upd H p (.lst [.ref dl, .int (n + 1)])) := fun b o e hb => by rw [upd_ne hb]; exact e
    have hd' : upd H p (.lst [.ref dl, .int (n + 1)]) dl = some (.lst (ds.map V.int)) := by rw [upd_ne npd]; exact hd
    -- if at < len(box[0])
    refine ⟨_, rfl, _, rfl, p, _, _, _, rfl, rfl, SqL.of upd_same, rfl, _, _, rfl, .inl ⟨_, SqL.of hd', rfl⟩, ?_⟩
    refine ⟨_, _, rfl, rfl, _, rfl, ?_⟩
    refine ite2 (fun c => ?_) fun c => ?_
    · have c1 : n < (ds.length : Int) := by simpa using c
      have c2 : n.toNat < ds.length := by omega
      have mem := hds _ (List.getElem_mem c2)
      refine ⟨_, rfl, p, _, _, _, rfl, rfl, SqL.of upd_same, rfl, _, rfl, dl, _, _, .int ds[n.toNat], rfl, rfl, SqL.of hd', ?_, .inl ⟨_, rfl, ?_⟩⟩
      · have e : n = ((n.toNat : Nat) : Int) := by omega
        exact at_of e (by simp [c2])
      · refine ⟨_, rfl, _, _, rfl, rfl, hm, ?_⟩
        exact k _ _ (Int.emod_nonneg _ (by omega)) (Int.emod_lt_of_pos _ hm) B' kp
    · refine ⟨_, rfl, _, _, rfl, rfl, .inr ⟨by decide, by decide⟩, _, _, rfl, rfl, .inl ⟨_, rfl, _, rfl, _, _, rfl, rfl, hm, ?_⟩⟩
      exact k _ _ (Int.emod_nonneg _ (by omega)) (Int.emod_lt_of_pos _ hm) B' kp
theorem ok_cell {f : Addr} {fd : FuncData} (F : Fun K "_law_cell" "_law_cell" s_law_cell f fd) (T : Txt K mg) : FnG P w K mg base CX0 1 f fd P_law_cell (spCell K) := by
  refine okG0 F sc_law_cell (fun vs H Q E h => ?_) fun cdv A outer s H vs Q E hr hg h => ?_
  · obtain ⟨a, ns, i, rfl, _⟩ := h
    rfl
  · obtain ⟨a, ns, i, rfl, hs, hi, k⟩ := h
    refine ⟨_, (pss_cons (ps_if (pt_cmpR op_lt (pv 1) (pe_callB call_len (by rfl) T.b_len PySem.boot_len (pa_cons (pv 0) pa_nil)) (nomark _))
   (pss_one (ps_ret (pe_ix ix_list (pv 0) (pv 1) (fun _ _ => rfl))))
   pss_nil)
  (pss_one (ps_ret pe_int))), ?_⟩
    refine ⟨_, rfl, _, rfl, _, _, rfl, .inl ⟨_, hs, rfl⟩, _, _, rfl, rfl, _, rfl, ?_⟩
    refine ite3 (fun c => ?_) fun _ => k 0
    have c1 : i < (ns.length : Int) := by simpa using c
    have c2 : i.toNat < ns.length := by omega
    exact ⟨_, rfl, _, rfl, a, _, _, .int ns[i.toNat], rfl, rfl, hs, at_of (show i = ((i.toNat : Nat) : Int) by omega) (by simp [c2]), k _⟩
theorem ok_digits {f : Addr} {fd : FuncData} (F : Fun K "_law_digits" "_law_digits" s_law_digits f fd) (T : Txt K mg) (U_law_cell : Use P w K mg base CX0 "_law_cell" 1 P_law_cell (spCell K)) : FnG P w K mg base CX0 2 f fd P_law_digits (spDigits K) := by
  refine okG0 F sc_law_digits (fun vs H Q E h => ?_) fun cdv A outer s H vs Q E hr hg h => ?_
  · obtain ⟨a, ns, lo, hi, rfl, _⟩ := h
    rfl
  · obtain ⟨a, ns, lo, hi, rfl, hs, hlo, hhi, k⟩ := h
    refine ⟨_, (pss_cons (ps_set (i := 3) sc_law_digits.nd rfl (Or.inl rfl) (pe_lst pa_nil))
  (pss_cons (ps_for PassesOwn.never rfl (pi_range2 (by rfl) T.b_range (pa_cons (pv 1) (pa_cons (pv 2) pa_nil))) (pg_name (i := 4) sc_law_digits.nd rfl (Or.inl rfl))
   (pss_cons (ps_set (i := 5) sc_law_digits.nd rfl (Or.inl rfl) (pe_use U_law_cell (hr.mono (by decide)) hg rfl (pa_cons (pv 0) (pa_cons (pv 4) pa_nil))))
  (C8.pss_cut (ps_if (pt_cmpR op_lt (pv 5) pe_int (nomark _))
   (pss_one (ps_set (i := 5) sc_law_digits.nd rfl (Or.inl rfl) (pe_op op_sub pe_int (pe_op op_mul pe_int (pv 5)))))
   pss_nil)
  (pss_one (ps_if (pt_cmpR op_ge (pv 5) (pe_op op_pow pe_int pe_int) (nomark _))
   (pss_one (ps_for PassesOwn.never rfl (pi_range1 (by rfl) T.b_range (pa_cons pe_int pa_nil)) (pg_name (i := 6) sc_law_digits.nd rfl (Or.inl rfl))
   (pss_one (ps_if (pt_cmpR op_gt (pv 5) pe_int (nomark _))
   (pss_cons (ps_expr (pe_bm PySem.F.plainAttrs_list PySem.F.slot_list_append PySem.F.type_list_append mt_append (pv 3) (pa_cons (pe_op op_mod (pe_callTy call_int1 (by rfl) T.b_int (by decide +kernel) (pa_cons (pv 5) pa_nil)) pe_int) pa_nil)))
  (pss_one (ps_set (i := 5) sc_law_digits.nd rfl (Or.inl rfl) (pe_op op_fdiv (pv 5) pe_int))))
   pss_nil))))
   (pss_cons (ps_set (i := 7) sc_law_digits.nd rfl (Or.inl rfl) (pe_op op_mod (pe_callTy call_int1 (by rfl) T.b_int (by decide +kernel) (pa_cons (pe_op op_add (pe_op op_add (pe_op op_mul (pv 5) pe_int) (pe_op op_mul (pv 4) pe_int)) pe_int) pa_nil)) pe_int))
  (pss_one (ps_for PassesOwn.never rfl (pi_range1 (by rfl) T.b_range (pa_cons pe_int pa_nil)) (pg_name (i := 6) sc_law_digits.nd rfl (Or.inl rfl))
   (pss_cons (ps_set (i := 7) sc_law_digits.nd rfl (Or.inl rfl) (pe_op op_mod (pe_callTy call_int1 (by rfl) T.b_int (by decide +kernel) (pa_cons (pe_op op_add (pe_op op_add (pe_op op_mul (pv 7) pe_int) (pe_op op_mul pe_int (pv 6))) pe_int) pa_nil)) pe_int))
  (pss_one (ps_expr (pe_bm PySem.F.plainAttrs_list PySem.F.slot_list_append PySem.F.type_list_append mt_append (pv 3) (pa_cons (pe_op op_mod (pe_callTy call_int1 (by rfl) T.b_int (by decide +kernel) (pa_cons (pe_op op_fdiv (pv 7) pe_int) pa_nil)) pe_int) pa_nil)))))))))))))
  (pss_one (ps_ret (pv 3))))), ?_⟩
    refine ⟨by decide, fun dl nd => ?_⟩
    have sz : (4000 : Nat) < sizeLine := by decide
    -- for k in range(first, last)
    refine ⟨_, rfl, _, rfl, _, _, rfl, ⟨by omega, by omega, by omega, by omega⟩, ?_⟩
    refine for_range (lo := (lo : Int)) (n := ((hi : Int) - (lo : Int)).toNat) (fun i σ H1 => ∃ x5 x6 x7 x4, σ = [some (.ref a), some (.int lo), some (.int hi), some (.ref dl), x4, x5, x6, x7] ∧ DigAt H H1 dl (60 * i)) ?_ ?_ ?_
    · exact ⟨none, none, none, none, rfl, [], upd_same, by simp, by simp, Same.new nd⟩
    · rintro i σ H1 hi' ⟨x5, x6, x7, x4, rfl, D⟩
      have S1 : Same H H1 := let ⟨_, _, _, _, z⟩ := D; z
      -- cell = _law_cell(script, k)
      refine ⟨_, rfl, _, rfl, a, ns, _, rfl, S1.seq hs, by omega, fun cell => ?_⟩
      -- if cell < 0: cell = 1 - 2 * cell
      refine ⟨fun σ H2 => ∃ c : Int, σ = [some (.ref a), some (.int lo), some (.int hi), some (.ref dl), some (.int ((lo : Int) + i)), some (.int c), x6, x7] ∧ H2 = H1, ?_, ?_⟩
      · refine ⟨_, rfl, _, _, rfl, rfl, _, rfl, ?_⟩
        refine ite3 (fun _ => ?_) fun _ => ⟨cell, rfl, rfl⟩
        exact ⟨_, rfl, _, _, rfl, rfl, .inl ⟨by decide, by decide⟩, _, _, rfl, rfl, _, rfl, rfl⟩
      · rintro _ _ ⟨c, rfl, rfl⟩
        -- if cell >= 10 ** 18
        refine ⟨_, rfl, _, _, rfl, rfl, ⟨by decide, by decide, by decide⟩, _, _, rfl, rfl, _, rfl, ?_⟩
        refine ite3 (fun hc => ?_) fun hc => ?_
        · refine ⟨_, rfl, by decide, by decide, ?_⟩
          refine for_range (lo := 0) (n := 60) (fun j σ H1 => ∃ (c : Int) (y6 : Option V), σ = [some (.ref a), some (.int lo), some (.int hi), some (.ref dl), some (.int ((lo : Int) + i)), some (.int c), y6, x7] ∧ DigAt H H1 dl (60 * i + j)) ⟨c, x6, rfl, D⟩ ?_ ?_
          · rintro j σ H2 hj ⟨c, y6, rfl, D2⟩
            obtain ⟨ds, hd, hl, _⟩ := id D2
            refine ⟨_, rfl, _, _, rfl, rfl, _, rfl, ?_⟩
            refine ite3 (fun hp => ?_) fun _ => ⟨c, _, rfl, D2.mono (by omega)⟩
            have hp : 0 < c := by simpa using hp
            refine ⟨_, rfl, .inl ⟨rfl, _, SqL.of hd⟩, _, rfl, .inl ⟨_, rfl, _, _, rfl, rfl, (by show (0 : Int) < 1000; decide), dl, _, _, rfl, rfl, hd, (by simp; omega), ?_⟩⟩
            refine ⟨_, rfl, _, _, rfl, rfl, ⟨by decide, by decide⟩, ?_⟩
            exact ⟨_, _, rfl, D2.add hd nd (Int.emod_nonneg _ (by decide)) (Int.emod_lt_of_pos _ (by decide))⟩
          · rintro σ H2 ⟨c, y6, rfl, D2⟩
            exact ⟨_, _, _, _, rfl, D2.mono (by omega)⟩
        · refine ⟨_, rfl, _, _, rfl, rfl, .inr ⟨by decide, by decide⟩, _, rfl, _, _, rfl, rfl, .inr ⟨by decide, by decide⟩, _, _, rfl, rfl, _, _, rfl, rfl, .inl ⟨_, rfl, _, _, rfl, rfl, (by show (0 : Int) < 2147483647; decide), ?_⟩⟩
          refine ⟨_, rfl, by decide, by decide, ?_⟩
          refine for_range (lo := 0) (n := 12) (fun j σ H1 => ∃ (sd : Int) (y6 : Option V), σ = [some (.ref a), some (.int lo), some (.int hi), some (.ref dl), some (.int ((lo : Int) + i)), some (.int c), y6, some (.int sd)] ∧ DigAt H H1 dl (60 * i + j)) ⟨_, x6, rfl, D⟩ ?_ ?_
          · rintro j σ H2 hj ⟨sd, y6, rfl, D2⟩
            obtain ⟨ds, hd, hl, _⟩ := id D2
            refine ⟨_, rfl, _, _, rfl, rfl, .inr ⟨by decide, by decide⟩, _, rfl, _, _, rfl, rfl, .inl ⟨by decide, by decide⟩, _, _, rfl, rfl, _, _, rfl, rfl, .inl ⟨_, rfl, _, _, rfl, rfl, (by show (0 : Int) < 2147483647; decide), ?_⟩⟩
            refine ⟨_, rfl, .inl ⟨rfl, _, SqL.of hd⟩, _, rfl, _, _, rfl, rfl, ⟨by decide, by decide⟩, .inl ⟨_, rfl, _, _, rfl, rfl, (by show (0 : Int) < 1000; decide), dl, _, _, rfl, rfl, hd, (by simp; omega), ?_⟩⟩
            exact ⟨_, _, rfl, D2.add hd nd (Int.emod_nonneg _ (by decide)) (Int.emod_lt_of_pos _ (by decide))⟩
          · rintro σ H2 ⟨sd, y6, rfl, D2⟩
            exact ⟨_, _, _, _, rfl, D2.mono (by omega)⟩
    · rintro σ H1 ⟨x5, x6, x7, x4, rfl, D⟩
      exact ⟨_, rfl, k dl H1 nd (D.mono (by omega))⟩
end

section
/-! data whose texts are texts and that are not deep -/
def Shp (n : Nat) (d : PyData) : Prop := d.canLay0 = true ∧ d.depth ≤ n
theorem Shp.all {n : Nat} : ∀ {ds : List PyData}, (∀ d ∈ ds, Shp n d) → PyData.canLayAll0 ds = true ∧ PyData.depthAll ds ≤ n
  | [], _ => ⟨rfl, Nat.zero_le _⟩
  | d :: r, h => by
    obtain ⟨a, b⟩ := h d (by simp)
    obtain ⟨c, e⟩ := Shp.all (ds := r) fun x hx => h x (List.mem_cons_of_mem _ hx)
    exact ⟨by simp only [PyData.canLayAll0, a, c]; rfl, Nat.max_le.mpr ⟨b, e⟩⟩
theorem Shp.tup {n : Nat} {ds : List PyData} (h : ∀ d ∈ ds, Shp n d) : Shp (n + 1) (.tuple ds) := by
  obtain ⟨a, b⟩ := Shp.all h
  exact ⟨by simp only [PyData.canLay0]; exact a, show PyData.depthAll ds + 1 ≤ n + 1 by omega⟩
theorem Shp.lst {n : Nat} {ds : List PyData} (h : ∀ d ∈ ds, Shp n d) : Shp (n + 1) (.list ds) := by
  obtain ⟨a, b⟩ := Shp.all h
  exact ⟨by simp only [PyData.canLay0]; exact a, show PyData.depthAll ds + 1 ≤ n + 1 by omega⟩
theorem Shp.sh {n : Nat} {d : PyData} (h : Shp n d) (hn : n ≤ 64) : SeqAt.shaped d = true := by
  unfold SeqAt.shaped
  rw [h.1, decide_eq_true (Nat.le_trans h.2 hn)]; rfl
theorem Shp.mono {n m : Nat} {d : PyData} (h : Shp n d) (l : n ≤ m) : Shp m d := ⟨h.1, Nat.le_trans h.2 l⟩
theorem Shp.str {n : Nat} {x : Str} (h : PyData.canLay0 (.str x) = true) : Shp n (.str x) := ⟨h, Nat.zero_le _⟩
theorem Shp.int (n : Nat) (i : Int) : Shp n (.int i) := ⟨rfl, Nat.zero_le _⟩
theorem Shp.bool (n : Nat) (b : Bool) : Shp n (.bool b) := ⟨rfl, Nat.zero_le _⟩
theorem Shp.nil : Shp 1 (.tuple []) := Shp.tup (n := 0) fun _ h => by cases h
theorem Shp.cons2 {n : Nat} {d : PyData} {ds : List PyData} (h : Shp n d) (t : ∀ x ∈ ds, Shp n x) : ∀ x ∈ d :: ds, Shp n x := fun x hx => by
  rcases List.mem_cons.mp hx with rfl | hx
  · exact h
  · exact t x hx
theorem Shp.none2 {n : Nat} : ∀ x ∈ ([] : List PyData), Shp n x := fun _ h => by cases h
theorem Shp.strS {n : Nat} {a : List Nat} (h : ∀ c ∈ a, c < 128) : Shp n (.str (S a)) := by
  refine Shp.str ?_
  rw [PyData.canLay0]
  exact Array.all_eq_true_iff_forall_mem.mpr fun c hc => by
    have := h c (by simpa [S] using hc)
    exact decide_eq_true (by omega)
end

section
variable {P : Program} {w : World} {K : PySem.W.Frag} {mg : Str → Option Value} {base : Heap}
theorem strlen_cat (a b : Str) : (a ++ b).length = a.length + b.length := by
  show (a.cps ++ b.cps).size = _
  rw [Array.size_append]; rfl
theorem ss_le {n : Nat} (h : n ≤ 100000) : n ≤ sizeLine := Nat.le_trans h (by decide)
theorem js_lt {n : Nat} (h : n ≤ 5000) : n < sizeLine := Nat.lt_of_le_of_lt h (by decide)
theorem dtAll_rev {H : Hp} : ∀ {ds : List PyData} {vs : List V}, DtAll K H vs ds → DtAll K H vs.reverse ds.reverse
  | [], vs, h => by rw [h.nil_inv]; exact .nil
  | d :: ds, vs, h => by
    obtain ⟨v, ws, rfl, dv, hw⟩ := DtAll.cons_inv h
    rw [List.reverse_cons, List.reverse_cons]
    exact DtAll.app (dtAll_rev hw) (.cons dv .nil)
theorem same_none' {H H1 : Hp} {l : Addr} (S : Same H H1) (h : H1 l = none) : H l = none := by
  cases e : H l with
  | none => rfl
  | some o => have := S _ _ e; rw [h] at this; cases this
theorem dt_pr {H : Hp} {v : V} {a b : PyData} (h : Dt K H v (.tuple [a, b])) : ∃ q x y, v = .ref q ∧ SqT K H q [x, y] ∧ Dt K H x a ∧ Dt K H y b := by
  cases h with
  | tup hs ha =>
    cases ha with
    | cons h1 h2 =>
      cases h2 with
      | cons h3 h4 =>
        cases h4
        exact ⟨_, _, _, rfl, hs, h1, h3⟩
theorem dtAll_snoc {H : Hp} : ∀ {ds : List PyData} {d : PyData} {ws : List V}, DtAll K H ws (ds ++ [d]) → ∃ ws0 y, ws = ws0 ++ [y] ∧ DtAll K H ws0 ds ∧ Dt K H y d
  | [], d, ws, h => by
    cases h with
    | cons h1 h2 => cases h2; exact ⟨[], _, rfl, .nil, h1⟩
  | e :: ds, d, ws, h => by
    cases h with
    | cons h1 h2 =>
      obtain ⟨ws0, y, rfl, a, b⟩ := dtAll_snoc h2
      exact ⟨_ :: ws0, y, rfl, .cons h1 a, b⟩
theorem js_lt10 {n : Nat} (h : n ≤ 10000) : n < sizeLine := Nat.lt_of_le_of_lt h (by decide)
theorem inV_strs {x : Str} (ys : List Str) : inV (.str x) (ys.map V.str) = decide (x ∈ ys) := by
  unfold inV
  induction ys with
  | nil => rfl
  | cons y r ih =>
    rw [List.map_cons, List.any_cons, ih]
    have : eqV (.str y) (.str x) = decide (y = x) := by
      show (y == x) = _
      by_cases e : y = x
      · subst e; simp
      · simp [e]
    rw [this]
    by_cases e : y = x
    · subst e; simp
    · have : x ≠ y := fun h => e h.symm
      simp [e, this]
end

section
--SPLIT
end
abbrev s_kind : Stmt := top 15
abbrev N_kind : List Str := ["data"]
abbrev P_kind : List Str := ["data"]
theorem sc_kind : FnScope N_kind P_kind (defScope s_kind) := ⟨rfl, rfl, rfl, by decide +kernel, rfl, by decide +kernel, by decide +kernel⟩
section
variable {P : Program} {w : World} {K : PySem.W.Frag} {mg : Str → Option Value} {base : Heap}
/-- the kind of a host value, with what isinstance asks of it -/
inductive KiH (K : PySem.W.Frag) (H : Hp) : V → Str → Prop
  | non : KiH K H .non "none"
  | bl (b : Bool) : KiH K H (.bl b) "bool"
  | int (i : Int) : KiH K H (.int i) "int"
  | str (z : Str) : KiH K H (.str z) "text"
  | tup {a : Addr} : TyX K H (.ref a) (.type "tuple") → KiH K H (.ref a) "tuple"
  | lst {a : Addr} : TyX K H (.ref a) (.type "list") → KiH K H (.ref a) "list"
  | dct {a : Addr} : TyX K H (.ref a) (.type "dict") → KiH K H (.ref a) "dict"
def spKindH (K : PySem.W.Frag) : Sp := fun vs H Q _ => ∃ (v : V) (k : Str), vs = [v] ∧ KiH K H v k ∧ Q (.str k) H
theorem ok_kindH {f : Addr} {fd : FuncData} (F : Fun K "_kind" "_kind" s_kind f fd) (T : Txt K mg) : FnG P w K mg base CX0 1 f fd P_kind (spKindH K) := by
  refine okG0 F sc_kind (fun vs H Q E h => ?_) fun cdv A outer s H vs Q E hr hg h => ?_
  · obtain ⟨v, k, rfl, _⟩ := h
    rfl
  · obtain ⟨v, kd, rfl, hk, k⟩ := h
    refine ⟨_, (pss_cons (ps_if (pt_cmpR op_isN (pv 0) pe_non (nomark _))
   (pss_one (ps_ret pe_str))
   pss_nil)
  (pss_cons (ps_if (pt_val (pe_callB call_isi (by rfl) T.b_isinstance (by decide +kernel) (pa_cons (pv 0) (pa_cons (pe_bltn (v := .ty "bool") (by rfl) T.b_bool (by decide +kernel) rfl) pa_nil))))
   (pss_one (ps_ret pe_str))
   pss_nil)
  (pss_cons (ps_if (pt_val (pe_callB call_isi (by rfl) T.b_isinstance (by decide +kernel) (pa_cons (pv 0) (pa_cons (pe_bltn (v := .ty "int") (by rfl) T.b_int (by decide +kernel) rfl) pa_nil))))
   (pss_one (ps_ret pe_str))
   pss_nil)
  (pss_cons (ps_if (pt_val (pe_callB call_isi (by rfl) T.b_isinstance (by decide +kernel) (pa_cons (pv 0) (pa_cons (pe_bltn (v := .ty "str") (by rfl) T.b_str (by decide +kernel) rfl) pa_nil))))
   (pss_one (ps_ret pe_str))
   pss_nil)
  (pss_cons (ps_if (pt_val (pe_callB call_isi (by rfl) T.b_isinstance (by decide +kernel) (pa_cons (pv 0) (pa_cons (pe_bltn (v := .ty "tuple") (by rfl) T.b_tuple (by decide +kernel) rfl) pa_nil))))
   (pss_one (ps_ret pe_str))
   pss_nil)
  (pss_cons (ps_if (pt_val (pe_callB call_isi (by rfl) T.b_isinstance (by decide +kernel) (pa_cons (pv 0) (pa_cons (pe_bltn (v := .ty "list") (by rfl) T.b_list (by decide +kernel) rfl) pa_nil))))
   (pss_one (ps_ret pe_str))
   pss_nil)
  (pss_cons (ps_if (pt_val (pe_callB call_isi (by rfl) T.b_isinstance (by decide +kernel) (pa_cons (pv 0) (pa_cons (pe_bltn (v := .ty "dict") (by rfl) T.b_dict (by decide +kernel) rfl) pa_nil))))
   (pss_one (ps_ret pe_str))
   pss_nil)
  (pss_one (ps_ret pe_str))))))))), ?_⟩
    cases hk with
    | non => exact ⟨_, rfl, rfl, _, rfl, iteTb rfl k⟩
    | bl b => exact ⟨_, rfl, rfl, _, rfl, iteFb rfl ⟨_, rfl, _, _, _, _, true, rfl, .ty _, .base (.bl b), if_pos (beq_self_eq_true _), _, rfl, iteTb rfl k⟩⟩
    | int i => exact ⟨_, rfl, rfl, _, rfl, iteFb rfl ⟨_, rfl, _, _, _, _, false, rfl, .ty _, .base (.int i), kit_ty (by decide +kernel), _, rfl, iteFb rfl ⟨_, rfl, _, _, _, _, true, rfl, .ty _, .base (.int i), if_pos (beq_self_eq_true _), _, rfl, iteTb rfl k⟩⟩⟩
    | str z => exact ⟨_, rfl, rfl, _, rfl, iteFb rfl ⟨_, rfl, _, _, _, _, false, rfl, .ty _, .base (.str z), kit_ty (by decide +kernel), _, rfl, iteFb rfl ⟨_, rfl, _, _, _, _, false, rfl, .ty _, .base (.str z), kit_ty (by decide +kernel), _, rfl, iteFb rfl ⟨_, rfl, _, _, _, _, true, rfl, .ty _, .base (.str z), if_pos (beq_self_eq_true _), _, rfl, iteTb rfl k⟩⟩⟩⟩
    | tup h =>
      refine ⟨_, rfl, rfl, _, rfl, iteFb rfl ?_⟩
      refine ⟨_, rfl, _, _, _, _, false, rfl, .ty _, h, kit_ty (by decide +kernel), _, rfl, iteFb rfl ?_⟩
      refine ⟨_, rfl, _, _, _, _, false, rfl, .ty _, h, kit_ty (by decide +kernel), _, rfl, iteFb rfl ?_⟩
      refine ⟨_, rfl, _, _, _, _, false, rfl, .ty _, h, kit_ty (by decide +kernel), _, rfl, iteFb rfl ?_⟩
      exact ⟨_, rfl, _, _, _, _, true, rfl, .ty _, h, if_pos (beq_self_eq_true _), _, rfl, iteTb rfl k⟩
    | lst h =>
      refine ⟨_, rfl, rfl, _, rfl, iteFb rfl ?_⟩
      refine ⟨_, rfl, _, _, _, _, false, rfl, .ty _, h, kit_ty (by decide +kernel), _, rfl, iteFb rfl ?_⟩
      refine ⟨_, rfl, _, _, _, _, false, rfl, .ty _, h, kit_ty (by decide +kernel), _, rfl, iteFb rfl ?_⟩
      refine ⟨_, rfl, _, _, _, _, false, rfl, .ty _, h, kit_ty (by decide +kernel), _, rfl, iteFb rfl ?_⟩
      refine ⟨_, rfl, _, _, _, _, false, rfl, .ty _, h, kit_ty (by decide +kernel), _, rfl, iteFb rfl ?_⟩
      exact ⟨_, rfl, _, _, _, _, true, rfl, .ty _, h, if_pos (beq_self_eq_true _), _, rfl, iteTb rfl k⟩
    | dct h =>
      refine ⟨_, rfl, rfl, _, rfl, iteFb rfl ?_⟩
      refine ⟨_, rfl, _, _, _, _, false, rfl, .ty _, h, kit_ty (by decide +kernel), _, rfl, iteFb rfl ?_⟩
      refine ⟨_, rfl, _, _, _, _, false, rfl, .ty _, h, kit_ty (by decide +kernel), _, rfl, iteFb rfl ?_⟩
      refine ⟨_, rfl, _, _, _, _, false, rfl, .ty _, h, kit_ty (by decide +kernel), _, rfl, iteFb rfl ?_⟩
      refine ⟨_, rfl, _, _, _, _, false, rfl, .ty _, h, kit_ty (by decide +kernel), _, rfl, iteFb rfl ?_⟩
      refine ⟨_, rfl, _, _, _, _, false, rfl, .ty _, h, kit_ty (by decide +kernel), _, rfl, iteFb rfl ?_⟩
      exact ⟨_, rfl, _, _, _, _, true, rfl, .ty _, h, if_pos (beq_self_eq_true _), _, rfl, iteTb rfl k⟩
end

section
--SPLIT
end
section
/-! host data of any kinds; dicts with keys of ints and texts, or one key that is a tuple of such -/
inductive HD
  | non | bl (b : Bool) | int (i : Int) | str (z : Str) | lst (ts : List HD) | tup (ts : List HD) | dct (ks : List Key) (ts : List HD) | dtk (ks : List Key) (t : HD)
def keyHD : Key → HD
  | .inl i => .int i
  | .inr z => .str z
mutual
inductive Hd (K : PySem.W.Frag) (H : Hp) : (Addr → Prop) → V → HD → Prop
  | non {N : Addr → Prop} : Hd K H N .non .non
  | bl {N : Addr → Prop} (b : Bool) : Hd K H N (.bl b) (.bl b)
  | int {N : Addr → Prop} (i : Int) : Hd K H N (.int i) (.int i)
  | str {N : Addr → Prop} (z : Str) : Hd K H N (.str z) (.str z)
  | lst {N : Addr → Prop} {a : Addr} {xs : List V} {ts : List HD} : H a = some (.lst xs) → N a → HdAll K H N xs ts → Hd K H N (.ref a) (.lst ts)
  | tup {N : Addr → Prop} {a : Addr} {xs : List V} {ts : List HD} : SqT K H a xs → HdAll K H N xs ts → Hd K H N (.ref a) (.tup ts)
  | dct {N : Addr → Prop} {a : Addr} {kvs : List (Key × V)} {ks : List Key} {ts : List HD} : H a = some (.dK kvs) → N a → kvs.map (·.1) = ks → ks.Nodup → HdAll K H (fun b => N b ∧ b ≠ a) (kvs.map (·.2)) ts → Hd K H N (.ref a) (.dct ks ts)
  | dtk {N : Addr → Prop} {a : Addr} {ks : List Key} {v : V} {t : HD} : H a = some (.dT [(ks, v)]) → N a → Hd K H (fun b => N b ∧ b ≠ a) v t → Hd K H N (.ref a) (.dtk ks t)
inductive HdAll (K : PySem.W.Frag) (H : Hp) : (Addr → Prop) → List V → List HD → Prop
  | nil {N : Addr → Prop} : HdAll K H N [] []
  | cons {N : Addr → Prop} {v : V} {vs : List V} {t : HD} {ts : List HD} : Hd K H N v t → HdAll K H N vs ts → HdAll K H N (v :: vs) (t :: ts)
end
mutual
theorem Hd.up {K : PySem.W.Frag} {H H' : Hp} (kt : KeepT K H H') : ∀ {N N' : Addr → Prop} {v : V} {t : HD}, (∀ a u, N a → H a = some u → H' a = some u) → (∀ a u, N a → H a = some u → N' a) → Hd K H N v t → Hd K H' N' v t
  | _, _, _, _, _, _, .non => .non
  | _, _, _, _, _, _, .bl b => .bl b
  | _, _, _, _, _, _, .int i => .int i
  | _, _, _, _, _, _, .str z => .str z
  | _, _, _, _, kk, hn, .lst h1 h2 h3 => .lst (kk _ _ h2 h1) (hn _ _ h2 h1) (HdAll.up kt kk hn h3)
  | _, _, _, _, kk, hn, .tup h1 h3 => .tup (kt _ _ h1) (HdAll.up kt kk hn h3)
  | _, _, _, _, kk, hn, .dct h1 h2 h4 h5 h3 => .dct (kk _ _ h2 h1) (hn _ _ h2 h1) h4 h5 (HdAll.up kt (fun a u h e => kk a u h.1 e) (fun a u h e => ⟨hn a u h.1 e, h.2⟩) h3)
  | _, _, _, _, kk, hn, .dtk h1 h2 h3 => .dtk (kk _ _ h2 h1) (hn _ _ h2 h1) (Hd.up kt (fun a u h e => kk a u h.1 e) (fun a u h e => ⟨hn a u h.1 e, h.2⟩) h3)
theorem HdAll.up {K : PySem.W.Frag} {H H' : Hp} (kt : KeepT K H H') : ∀ {N N' : Addr → Prop} {vs : List V} {ts : List HD}, (∀ a u, N a → H a = some u → H' a = some u) → (∀ a u, N a → H a = some u → N' a) → HdAll K H N vs ts → HdAll K H' N' vs ts
  | _, _, _, _, _, _, .nil => .nil
  | _, _, _, _, kk, hn, .cons h1 h2 => .cons (Hd.up kt kk hn h1) (HdAll.up kt kk hn h2)
end
theorem Hd.mono {K : PySem.W.Frag} {H H' : Hp} {N : Addr → Prop} {v : V} {t : HD} (h : Hd K H N v t) (S : Same H H') : Hd K H' N v t := h.up (Same.keepT S) (fun a u _ e => S a u e) fun _ _ h _ => h
theorem HdAll.mono {K : PySem.W.Frag} {H H' : Hp} {N : Addr → Prop} {vs : List V} {ts : List HD} (h : HdAll K H N vs ts) (S : Same H H') : HdAll K H' N vs ts := h.up (Same.keepT S) (fun a u _ e => S a u e) fun _ _ h _ => h
theorem Hd.wk {K : PySem.W.Frag} {H : Hp} {N N' : Addr → Prop} {v : V} {t : HD} (h : Hd K H N v t) (hn : ∀ a u, N a → H a = some u → N' a) : Hd K H N' v t := h.up (KeepT.refl K H) (fun _ _ _ e => e) hn
theorem HdAll.wk {K : PySem.W.Frag} {H : Hp} {N N' : Addr → Prop} {v : List V} {t : List HD} (h : HdAll K H N v t) (hn : ∀ a u, N a → H a = some u → N' a) : HdAll K H N' v t := h.up (KeepT.refl K H) (fun _ _ _ e => e) hn
theorem HdAll.length {K : PySem.W.Frag} {H : Hp} {N : Addr → Prop} : ∀ {vs : List V} {ts : List HD}, HdAll K H N vs ts → vs.length = ts.length
  | _, _, .nil => rfl
  | _, _, .cons _ h => by rw [List.length_cons, List.length_cons, h.length]
theorem HdAll.app {K : PySem.W.Frag} {H : Hp} {N : Addr → Prop} {ws : List V} {us : List HD} (g : HdAll K H N ws us) : ∀ {vs : List V} {ts : List HD}, HdAll K H N vs ts → HdAll K H N (vs ++ ws) (ts ++ us)
  | _, _, .nil => g
  | _, _, .cons h1 h => .cons h1 (HdAll.app g h)
theorem HdAll.getV {K : PySem.W.Frag} {H : Hp} {N : Addr → Prop} : ∀ {vs : List V} {ts : List HD} {i : Nat} {v : V}, HdAll K H N vs ts → vs[i]? = some v → ∃ t, ts[i]? = some t ∧ Hd K H N v t
  | _, _, 0, _, .cons h1 _, e => by cases e; exact ⟨_, rfl, h1⟩
  | _, _, i + 1, _, .cons _ h, e => HdAll.getV (i := i) h e
theorem hd_key {K : PySem.W.Frag} {H : Hp} {N : Addr → Prop} : ∀ k : Key, Hd K H N (kV k) (keyHD k)
  | .inl i => .int i
  | .inr z => .str z
theorem hd_keys {K : PySem.W.Frag} {H : Hp} {N : Addr → Prop} : ∀ ks : List Key, HdAll K H N (ks.map kV) (ks.map keyHD)
  | [] => .nil
  | k :: ks => .cons (hd_key k) (hd_keys ks)
theorem keepT_dK {K : PySem.W.Frag} {p : Addr} {H : Hp} {o : HO} {kvs : List (Key × V)} (hp : H p = some (.dK kvs)) : KeepT K H (upd H p o) := fun a xs h => by
  rcases h with (h | ⟨o', h⟩) | h
  · exact .inl (.inl (by rw [upd_ne (ne_of h hp (by intro z; cases z))]; exact h))
  · exact .inl (.inr ⟨o', by rw [upd_ne (ne_of h hp (by intro z; cases z))]; exact h⟩)
  · exact .inr h
theorem valV_nd {κ : Type} [DecidableEq κ] {kvs : List (κ × V)} {i : Nat} {k : κ} {v : V} (h : (kvs.map (·.1)).Nodup) (e : kvs[i]? = some (k, v)) : valV kvs k = some v := by
  induction kvs generalizing i with
  | nil => cases e
  | cons x r ih =>
    rw [List.map_cons, List.nodup_cons] at h
    unfold valV
    rw [List.find?_cons]
    cases i with
    | zero =>
      cases e
      rw [decide_eq_true rfl]
      rfl
    | succ i =>
      have hm : k ∈ r.map (·.1) := List.mem_map.mpr ⟨(k, v), List.mem_of_getElem? e, rfl⟩
      have hne : x.1 ≠ k := fun h2 => h.1 (h2 ▸ hm)
      rw [decide_eq_false hne]
      exact ih h.2 e
/-! two lists, place by place -/
inductive P2 {α β : Type} (R : α → β → Prop) : List α → List β → Prop
  | nil : P2 R [] []
  | cons {a : α} {b : β} {as : List α} {bs : List β} : R a b → P2 R as bs → P2 R (a :: as) (b :: bs)
theorem P2.length {α β : Type} {R : α → β → Prop} : ∀ {as : List α} {bs : List β}, P2 R as bs → as.length = bs.length
  | _, _, .nil => rfl
  | _, _, .cons _ h => by rw [List.length_cons, List.length_cons, h.length]
theorem P2.imp {α β : Type} {R S : α → β → Prop} (f : ∀ a b, R a b → S a b) : ∀ {as : List α} {bs : List β}, P2 R as bs → P2 S as bs
  | _, _, .nil => .nil
  | _, _, .cons h r => .cons (f _ _ h) (P2.imp f r)
theorem P2.app {α β : Type} {R : α → β → Prop} {cs : List α} {ds : List β} (g : P2 R cs ds) : ∀ {as : List α} {bs : List β}, P2 R as bs → P2 R (as ++ cs) (bs ++ ds)
  | _, _, .nil => g
  | _, _, .cons h r => .cons h (P2.app g r)
theorem P2.snoc {α β : Type} {R : α → β → Prop} {b : β} : ∀ {as : List α} {bs : List β}, P2 R as (bs ++ [b]) → ∃ as0 a, as = as0 ++ [a] ∧ P2 R as0 bs ∧ R a b
  | _, [], .cons h .nil => ⟨[], _, rfl, .nil, h⟩
  | _, _ :: _, .cons h r => by
    obtain ⟨as0, a, rfl, h1, h2⟩ := P2.snoc r
    exact ⟨_ :: as0, a, rfl, .cons h h1, h2⟩
end

section
--SPLIT
end
abbrev s_is_data : Stmt := top 13
abbrev N_is_data : List Str := ["data", "size", "waiting", "part", "level", "in_key", "kind", "each", "key"]
abbrev P_is_data : List Str := ["data"]
theorem sc_is_data : FnScope N_is_data P_is_data (defScope s_is_data) := ⟨rfl, rfl, rfl, by decide +kernel, rfl, by decide +kernel, by decide +kernel⟩
abbrev s_is_leaf : Stmt := top 16
abbrev N_is_leaf : List Str := ["kind", "data", "character"]
abbrev P_is_leaf : List Str := ["kind", "data"]
theorem sc_is_leaf : FnScope N_is_leaf P_is_leaf (defScope s_is_leaf) := ⟨rfl, rfl, rfl, by decide +kernel, rfl, by decide +kernel, by decide +kernel⟩
section
variable {P : Program} {w : World} {K : PySem.W.Frag} {mg : Str → Option Value} {base : Heap}
theorem dec_ne {a b : Str} (h : a ≠ b) : decide (V.str a = V.str b) = false := decide_eq_false fun e => h (V.str.inj e)
theorem pi_or {X : Cx} {tg e : Expr} {t1 t2 : TI} (h1 : PI X tg e t1) (h2 : PI X tg e t2) : PI X tg e (fun σ H R => t1 σ H R ∨ t2 σ H R) :=
  ⟨fun pins s σ H R I h => h.elim (h1.run pins s σ H R I) (h2.run pins s σ H R I)⟩
theorem pi_seq {X : Cx} {tg l : Expr} {tl : TE} (h : PE X l tl) : PI X tg l (fun σ H R => iList X.K tl σ H R ∨ iTup X.K tl σ H R) := pi_or (pi_list h) (pi_tup h)
def leafT (z : Str) : Bool := decide (z.length ≤ 1000) && z.cps.toList.all fun c => decide (c ∈ chStr.cps.toList)
inductive LeafB : Str → V → Bool → Prop
  | text (z : Str) : z.length ≤ 1001 → LeafB "text" (.str z) (leafT z)
  | int (i : Int) : LeafB "int" (.int i) (decide (i.natAbs < 2 ^ 256))
  | oth (kd : Str) (v : V) : kd ≠ "text" → kd ≠ "int" → LeafB kd v (decide (kd ∈ (["none", "bool"] : List Str)))
def spLeafB (K : PySem.W.Frag) : Sp := fun vs H Q _ => ∃ (kd : Str) (v : V) (b : Bool), vs = [.str kd, v] ∧ LeafB kd v b ∧ ∀ H', Same H H' → Q (.bl b) H'
theorem ok_isleafB {f : Addr} {fd : FuncData} (F : Fun K "_is_leaf" "_is_leaf" s_is_leaf f fd) (T : Txt K mg) : FnG P w K mg base CX0 1 f fd P_is_leaf (spLeafB K) := by
  refine okG0 F sc_is_leaf (fun vs H Q E h => ?_) fun cdv A outer s H vs Q E hr hg h => ?_
  · obtain ⟨kd, v, b, rfl, _⟩ := h
    rfl
  · obtain ⟨kd, v, b, rfl, hl, k⟩ := h
    refine ⟨_, (C8.pss_cut (ps_if (pt_cmpR op_eq (pv 0) pe_str (nomark _))
   (pss_one (ps_ret (pe_and (pe_cmpR op_le (pe_callB call_len (by rfl) T.b_len PySem.boot_len (pa_cons (pv 1) pa_nil)) (pe_globI T.c_MOST_ENTRIES (by rfl)) (nomark _)) (pe_one (pe_callB (cr_all rfl) (by rfl) T.b_all (by decide +kernel) (pa_cons (pe_lc (own := [("character", 2)]) (g := (gName 2)) rfl sc_is_leaf.nd (pi_str (pv 1)) (blkOk_by (N := N_is_leaf) (sc := defScope s_is_leaf) (by decide +kernel)) (fun _ _ _ _ _ => (pg_name (i := 2) sc_is_leaf.nd rfl (Or.inl rfl))) (fun _ _ _ _ _ => pts_nil) (fun _ _ _ _ _ => (pe_cmpR op_in_sign (pv 2) (pe_globS T.c_CHARACTERS (by rfl)) (by rfl)))) pa_nil))))))
   pss_nil)
  (pss_cons (ps_if (pt_cmpR op_eq (pv 0) pe_str (nomark _))
   (pss_one (ps_ret (pe_cmpR op_lt (pe_callB call_abs (by rfl) T.b_abs (by decide +kernel) (pa_cons (pv 1) pa_nil)) (pe_globI T.c_INTEGER_END (by rfl)) (nomark _))))
   pss_nil)
  (pss_one (ps_ret (pe_cmpR op_in_seq (pv 0) (pe_tup (pa_cons pe_str (pa_cons pe_str pa_nil))) (by rfl)))))), ?_⟩
    cases hl with
    | text z h1 =>
      refine ⟨fun _ _ => False, ?_, fun _ _ h => h.elim⟩
      refine ⟨_, rfl, rfl, _, rfl, iteTb rfl ?_⟩
      refine ⟨_, rfl, _, _, rfl, ⟨ss_le (by omega), rfl⟩, _, _, rfl, rfl, _, rfl, ?_⟩
      by_cases hl : z.length ≤ 1000
      · refine iteTb (decide_eq_true (by omega)) ?_
        refine ⟨_, rfl, _, rfl, fun D hD => ?_⟩
        refine lc_it (walk_str (z := z)) (fun i H' => H' D = some (.lst (((z.cps.toList.take i).map fun c => decide (c ∈ chStr.cps.toList)).map V.bl)) ∧ Same H H') ⟨upd_same, Same.new hD⟩ (fun _ _ _ _ => trivial) ?_ ?_
        · rintro i x H4 H5 hi ⟨e4, S4⟩ ⟨rfl, c, hc, rfl⟩
          refine ⟨rfl, ?_⟩
          unfold tYes
          refine iteTb rfl ?_
          refine ⟨_, rfl, c, _, rfl, rfl, _, e4, ?_, ?_, ?_⟩
          · rw [List.length_map, List.length_map, List.length_take]
            exact Nat.lt_of_le_of_lt (show _ ≤ i from Nat.min_le_left _ _) (Nat.lt_of_lt_of_le (by have : z.length = z.cps.size := rfl; omega : i < 100000) (by decide))
          · rw [upd_same, List.take_succ, List.map_append, List.map_append, Array.getElem?_toList, hc]; rfl
          · exact fun b u e => by rw [upd_ne (ne_of_none e hD)]; exact S4 _ _ e
        · rintro H4 ⟨e4, S4⟩
          rw [List.take_of_length_le (by rw [Array.length_toList]; exact Nat.le_refl _)] at e4
          refine ⟨D, _, rfl, SqL.of e4, ?_⟩
          have := k H4 S4
          rw [leafT, decide_eq_true hl, Bool.true_and] at this
          rw [List.all_map]
          exact this
      · refine iteFb (decide_eq_false (by omega)) ?_
        have := k _ (Same.refl H)
        rw [leafT, decide_eq_false hl, Bool.false_and] at this
        exact this
    | int i =>
      refine ⟨fun σ H1 => σ = [some (.str "int"), some (.int i), none] ∧ H1 = H, ⟨_, rfl, rfl, _, rfl, iteFb (by decide +kernel) ⟨rfl, rfl⟩⟩, ?_⟩
      rintro _ H ⟨rfl, rfl⟩
      refine ⟨_, rfl, rfl, _, rfl, iteTb rfl ⟨_, rfl, _, rfl, _, _, rfl, rfl, ?_⟩⟩
      show Q (.bl (decide ((if i < 0 then -i else i) < 2 ^ 256))) _
      have e : decide ((if i < 0 then -i else i) < 2 ^ 256) = decide (i.natAbs < 2 ^ 256) := by
        apply decide_eq_decide.mpr
        split <;> constructor <;> intro _ <;> omega
      rw [e]
      exact k _ (Same.refl _)
    | oth kd v h1 h2 =>
      refine ⟨fun σ H1 => σ = [some (.str kd), some v, none] ∧ H1 = H, ⟨_, rfl, rfl, _, rfl, iteFb (dec_ne h1) ⟨rfl, rfl⟩⟩, ?_⟩
      rintro _ H ⟨rfl, rfl⟩
      refine ⟨_, rfl, rfl, _, rfl, iteFb (dec_ne h2) ⟨_, rfl, sz_2, fun u hu => ⟨u, _, rfl, .inr (SqT.of upd_same), rfl, rfl, ?_⟩⟩⟩
      rw [if_neg Bool.false_ne_true, show [V.str "none", V.str "bool"] = (["none", "bool"] : List Str).map V.str from rfl, inV_strs]
      exact k _ (Same.new hu)
end
section
variable {P : Program} {w : World} {K : PySem.W.Frag} {mg : Str → Option Value} {base : Heap}
def contD : Bool → HD → Bool
  | _, .tup _ => true
  | k, .lst _ => !k
  | k, .dct _ _ => !k
  | k, .dtk _ _ => !k
  | _, _ => false
def kidsD : Bool → HD → List (HD × Bool)
  | k, .tup ts => ts.map fun t => (t, k)
  | k, .lst ts => ts.map fun t => (t, k)
  | _, .dct ks ts => (ks.map fun x => (keyHD x, true)) ++ ts.map fun t => (t, false)
  | _, .dtk ks t => [(.tup (ks.map keyHD), true), (t, false)]
  | _, _ => []
def leafD : HD → Bool
  | .non => true
  | .bl _ => true
  | .int i => decide (i.natAbs < 2 ^ 256)
  | .str z => leafT z
  | _ => false
def kinD : HD → Str
  | .non => "none"
  | .bl _ => "bool"
  | .int _ => "int"
  | .str _ => "text"
  | .lst _ => "list"
  | .tup _ => "tuple"
  | .dct _ _ => "dict"
  | .dtk _ _ => "dict"
/-- n levels, in a key or not: good data -/
def okF : Nat → Bool → HD → Bool
  | 0, _, _ => false
  | n + 1, k, t => if contD k t = true then (kidsD k t).all fun p => okF n p.2 p.1 else leafD t
/-- how many parts are looked at -/
def cnF : Nat → Bool → HD → Nat
  | 0, _, _ => 1
  | n + 1, k, t => if contD k t = true then 1 + ((kidsD k t).map fun p => cnF n p.2 p.1).sum else 1
inductive Sz : HD → Prop
  | non : Sz .non
  | bl (b : Bool) : Sz (.bl b)
  | int (i : Int) : Sz (.int i)
  | str {z : Str} : z.length ≤ 1001 → Sz (.str z)
  | lst {ts : List HD} : ts.length ≤ 1000 → (∀ t ∈ ts, Sz t) → Sz (.lst ts)
  | tup {ts : List HD} : ts.length ≤ 1000 → (∀ t ∈ ts, Sz t) → Sz (.tup ts)
  | dct {ks : List Key} {ts : List HD} : ks.length ≤ 1000 → ts.length ≤ 1000 → (∀ k ∈ ks, Sz (keyHD k)) → (∀ t ∈ ts, Sz t) → Sz (.dct ks ts)
  | dtk {ks : List Key} {t : HD} : ks.length ≤ 1000 → (∀ k ∈ ks, Sz (keyHD k)) → Sz t → Sz (.dtk ks t)
theorem sz_keys {ks : List Key} (hl : ks.length ≤ 1000) (h : ∀ k ∈ ks, Sz (keyHD k)) : Sz (.tup (ks.map keyHD)) := .tup (by rw [List.length_map]; exact hl) fun t ht => by
  obtain ⟨k, hk, rfl⟩ := List.mem_map.mp ht
  exact h k hk
theorem Sz.kids {t : HD} (h : Sz t) (k : Bool) : (kidsD k t).length ≤ 2000 ∧ ∀ p ∈ kidsD k t, Sz p.1 := by
  cases h with
  | non => exact ⟨Nat.zero_le _, fun _ h => nomatch h⟩
  | bl _ => exact ⟨Nat.zero_le _, fun _ h => nomatch h⟩
  | int _ => exact ⟨Nat.zero_le _, fun _ h => nomatch h⟩
  | str _ => exact ⟨Nat.zero_le _, fun _ h => nomatch h⟩
  | lst hl h =>
    refine ⟨by simp only [kidsD, List.length_map]; omega, fun p hp => ?_⟩
    obtain ⟨t, ht, rfl⟩ := List.mem_map.mp hp
    exact h t ht
  | tup hl h =>
    refine ⟨by simp only [kidsD, List.length_map]; omega, fun p hp => ?_⟩
    obtain ⟨t, ht, rfl⟩ := List.mem_map.mp hp
    exact h t ht
  | dct hl hl2 h h2 =>
    refine ⟨by simp only [kidsD, List.length_append, List.length_map]; omega, fun p hp => ?_⟩
    rcases List.mem_append.mp hp with hp | hp
    · obtain ⟨t, ht, rfl⟩ := List.mem_map.mp hp
      exact h t ht
    · obtain ⟨t, ht, rfl⟩ := List.mem_map.mp hp
      exact h2 t ht
  | dtk hl h h2 =>
    refine ⟨by simp [kidsD], fun p hp => ?_⟩
    rcases List.mem_cons.mp hp with rfl | hp
    · exact sz_keys hl h
    · rcases List.mem_cons.mp hp with rfl | hp
      · exact h2
      · cases hp
theorem cnF_pos : ∀ (n : Nat) (k : Bool) (t : HD), 1 ≤ cnF n k t
  | 0, _, _ => Nat.le_refl _
  | n + 1, k, t => by
    unfold cnF
    split <;> omega
/-- what waits: a part, its level, whether it stands in a key -/
structure Wq where
  v : HD
  l : Nat
  k : Bool
def WqAt (K : PySem.W.Frag) (H : Hp) (N : Addr → Prop) (u : V) (x : Wq) : Prop := ∃ q v, u = .ref q ∧ SqT K H q [v, .int ((x.l : Nat) : Int), .bl x.k] ∧ Hd K H N v x.v
def Tri (K : PySem.W.Frag) (H : Hp) (l : Nat) (k : Bool) (u v : V) : Prop := ∃ q, u = .ref q ∧ SqT K H q [v, .int ((l : Nat) : Int), .bl k]
theorem tri_up {H : Hp} {N : Addr → Prop} {l : Nat} {k : Bool} : ∀ {us vs : List V} {ts : List HD}, P2 (Tri K H l k) us vs → HdAll K H N vs ts → P2 (WqAt K H N) us (ts.map fun t => ⟨t, l, k⟩)
  | _, _, _, .nil, .nil => .nil
  | _, _, _, .cons h r, .cons g s => by
    obtain ⟨q, e, hq⟩ := h
    exact .cons ⟨q, _, e, hq, g⟩ (tri_up r s)
def sonsD (y : Wq) : List Wq := (kidsD y.k y.v).map fun p => ⟨p.1, y.l + 1, p.2⟩
def okW (x : Wq) : Bool := okF (7 - x.l) x.k x.v
def cnW (x : Wq) : Nat := cnF (7 - x.l) x.k x.v
theorem okW_c {y : Wq} (hl : y.l ≤ 6) (h : contD y.k y.v = true) : okW y = (sonsD y).all okW := by
  unfold okW
  rw [show 7 - y.l = (6 - y.l) + 1 by omega, okF, if_pos h]
  show _ = ((kidsD y.k y.v).map _).all _
  rw [List.all_map]
  congr 1
  funext p
  show okF (6 - y.l) p.2 p.1 = okF (7 - (y.l + 1)) p.2 p.1
  rw [show 7 - (y.l + 1) = 6 - y.l by omega]
theorem cnW_c {y : Wq} (hl : y.l ≤ 6) (h : contD y.k y.v = true) : cnW y = 1 + ((sonsD y).map cnW).sum := by
  unfold cnW
  rw [show 7 - y.l = (6 - y.l) + 1 by omega, cnF, if_pos h]
  show _ = 1 + (((kidsD y.k y.v).map _).map _).sum
  rw [List.map_map]
  congr 3
  funext p
  show cnF (6 - y.l) p.2 p.1 = cnF (7 - (y.l + 1)) p.2 p.1
  rw [show 7 - (y.l + 1) = 6 - y.l by omega]
theorem okW_l {y : Wq} (hl : y.l ≤ 6) (h : contD y.k y.v = false) : okW y = leafD y.v := by
  unfold okW
  rw [show 7 - y.l = (6 - y.l) + 1 by omega, okF, h]
  rfl
theorem cnW_l {y : Wq} (hl : y.l ≤ 6) (h : contD y.k y.v = false) : cnW y = 1 := by
  unfold cnW
  rw [show 7 - y.l = (6 - y.l) + 1 by omega, cnF, h]
  rfl
theorem sum_ge_len : ∀ st : List Wq, st.length ≤ (st.map cnW).sum
  | [] => Nat.le_refl _
  | y :: st => by
    have h1 := cnF_pos (7 - y.l) y.k y.v
    have h2 := sum_ge_len st
    rw [List.map_cons, List.sum_cons, List.length_cons]
    show st.length + 1 ≤ cnF (7 - y.l) y.k y.v + _
    omega
theorem Hd.ki {H : Hp} {N : Addr → Prop} {v : V} {t : HD} (h : Hd K H N v t) : KiH K H v (kinD t) := by
  cases h with
  | non => exact .non
  | bl b => exact .bl b
  | int i => exact .int i
  | str z => exact .str z
  | lst h1 _ _ => exact .lst (.base (.lst h1))
  | tup h1 _ => exact .tup (SqT.tyX h1)
  | dct h1 _ _ _ _ => exact .dct (.base (.dK h1))
  | dtk h1 _ _ => exact .dct (.base (.dT h1))
def spIsData (K : PySem.W.Frag) : Sp := fun vs H Q _ => ∃ (v : V) (t : HD) (N : Addr → Prop), vs = [v] ∧ Hd K H N v t ∧ Sz t ∧ ∀ H', Same H H' → Q (.bl (okF 6 false t && decide (cnF 6 false t ≤ 1000))) H'
end

section
--SPLIT
end
section
variable {P : Program} {w : World} {K : PySem.W.Frag} {mg : Str → Option Value} {base : Heap}
theorem keepT_fz {K : PySem.W.Frag} {p : Addr} {H : Hp} {od : Obj} {u o : HO} (hp : H p = some (.frz od u)) (hu : ∀ z, u ≠ .tup z) : KeepT K H (upd H p o) := fun a xs h => by
  rcases h with (h | ⟨o', h⟩) | h
  · exact .inl (.inl (by rw [upd_ne (ne_of h hp (by intro z; cases z))]; exact h))
  · exact .inl (.inr ⟨o', by rw [upd_ne (ne_of h hp (by intro z; injection z with z1 z2; exact hu _ z2.symm))]; exact h⟩)
  · exact .inr h
theorem Tri.kt {H H' : Hp} {l : Nat} {k : Bool} {us vs : List V} (h : P2 (Tri K H l k) us vs) (kt : KeepT K H H') : P2 (Tri K H' l k) us vs := h.imp fun _ _ ⟨q, e, hq⟩ => ⟨q, e, kt _ _ hq⟩
theorem WqAt.up {H H' : Hp} {N : Addr → Prop} {zs : List V} {st : List Wq} (h : P2 (WqAt K H N) zs st) (kk : ∀ a u, N a → H a = some u → H' a = some u) (kt : KeepT K H H') : P2 (WqAt K H' N) zs st :=
  h.imp fun _ _ ⟨q, v, e, hq, hv⟩ => ⟨q, v, e, kt _ _ hq, hv.up kt kk fun _ _ h _ => h⟩
theorem WqAt.mono {H H' : Hp} {N : Addr → Prop} {zs : List V} {st : List Wq} (h : P2 (WqAt K H N) zs st) (S : Same H H') : P2 (WqAt K H' N) zs st := WqAt.up h (fun a u _ e => S a u e) (Same.keepT S)
theorem tri_step {H H1 : Hp} {D t : Addr} {l : Nat} {k : Bool} {acc vs : List V} {v : V} (a : P2 (Tri K H l k) acc vs) (eD : H D = some (.lst acc)) (ht : H t = none) (o : HO) (eo : o = .tup [v, .int ((l : Nat) : Int), .bl k]) :
    P2 (Tri K (upd (upd H t o) D (.lst (acc ++ [.ref t]))) l k) (acc ++ [.ref t]) (vs ++ [v]) := by
  subst eo
  have h1 : (upd H t (.tup [v, .int ((l : Nat) : Int), .bl k])) D = some (.lst acc) := by rw [upd_ne (ne_of_none eD ht)]; exact eD
  have kt : KeepT K (upd H t (.tup [v, .int ((l : Nat) : Int), .bl k])) (upd (upd H t (.tup [v, .int ((l : Nat) : Int), .bl k])) D (.lst (acc ++ [.ref t]))) := KeepT.upd h1
  exact P2.app (.cons ⟨t, rfl, kt _ _ (SqT.of upd_same)⟩ .nil) (Tri.kt (Tri.kt a (Same.keepT (Same.new ht))) kt)
/-- behind the lock -/
theorem lock_out {Hc H5 : Hp} {p D : Addr} {od : Obj} {u : HO} {l : Nat} {k : Bool} {acc vs : List V} (hp : Hc p = some u) (hu : ∀ z, u ≠ .tup z) (hD : (upd Hc p (.frz od u)) D = none) (S : Same (upd Hc p (.frz od u)) H5) (e5 : H5 D = some (.lst acc)) (a5 : P2 (Tri K H5 l k) acc vs) :
    H5 p = some (.frz od u) ∧ Same Hc (upd H5 p u) ∧ (upd H5 p u) D = some (.lst acc) ∧ P2 (Tri K (upd H5 p u) l k) acc vs := by
  have e := S _ _ (upd_same (H := Hc) (a := p) (o := HO.frz od u))
  have hDp : D ≠ p := fun h => by rw [h, upd_same] at hD; cases hD
  refine ⟨e, fun b o hb => ?_, by rw [upd_ne hDp]; exact e5, Tri.kt a5 (keepT_fz e hu)⟩
  by_cases c : b = p
  · subst c; rw [hp] at hb; rw [upd_same, hb]
  · rw [upd_ne c]; exact S _ _ (by rw [upd_ne c]; exact hb)
end
section
variable {P : Program} {w : World} {K : PySem.W.Frag} {mg : Str → Option Value} {base : Heap}
theorem ok_isdata {f : Addr} {fd : FuncData} (F : Fun K "is_data" "is_data" s_is_data f fd) (T : Txt K mg) (U_kind : Use P w K mg base CX0 "_kind" 1 P_kind (spKindH K)) (U_is_leaf : Use P w K mg base CX0 "_is_leaf" 1 P_is_leaf (spLeafB K)) : FnG P w K mg base CX0 2 f fd P_is_data (spIsData K) := by
  refine okG0 F sc_is_data (fun vs H Q E h => ?_) fun cdv A outer s H vs Q E hr hg h => ?_
  · obtain ⟨v, t, N, rfl, _⟩ := h
    rfl
  · obtain ⟨v, t, N, rfl, hv, hz, k⟩ := h
    have hu : (A.deeper (envOfC "is_data" (defScope s_is_data) s.heap.objs.size f cdv)).units + 1 < cLine := Nat.lt_of_le_of_lt (by omega) hr.units
    refine ⟨_, (pss_cons (ps_set (i := 1) sc_is_data.nd rfl (Or.inl rfl) pe_int)
  (pss_cons (ps_set (i := 2) sc_is_data.nd rfl (Or.inl rfl) (pe_lst (pa_cons (pe_tup (pa_cons (pv 0) (pa_cons pe_int (pa_cons pe_bl pa_nil)))) pa_nil)))
  (pss_cons (ps_while PassesOwn.never (pt_up (pt_truth (pv 2) (by intro _; rfl)))
   (pss_cons (ps_asg (pe_bm0 PySem.F.plainAttrs_list PySem.F.slot_list_pop PySem.F.type_list_pop mt_pop (pv 2)) (pg_tup (by rfl) (pgs_cons (pg_name (i := 3) sc_is_data.nd rfl (Or.inr rfl)) (pgs_cons (pg_name (i := 4) sc_is_data.nd rfl (Or.inr rfl)) (pgs_cons (pg_name (i := 5) sc_is_data.nd rfl (Or.inr rfl)) pgs_nil)))))
  (pss_cons (ps_aug (i := 1) sc_is_data.nd rfl (Or.inl rfl) pe_int ip_add)
  (pss_cons (ps_if (PW.pt (pw_or (pt_cmpR op_gt (pv 4) (pe_globI T.c_MOST_LEVELS (by rfl)) (nomark _)) (pw_or1 (pt_cmpR op_gt (pe_op op_add (pv 1) (pe_callB call_len (by rfl) T.b_len PySem.boot_len (pa_cons (pv 2) pa_nil))) (pe_globI T.c_MOST_SIZE (by rfl)) (nomark _)))))
   (pss_one (ps_ret pe_bl))
   pss_nil)
  (pss_cons (ps_set (i := 6) sc_is_data.nd rfl (Or.inl rfl) (pe_use U_kind (hr.mono (by decide)) hg rfl (pa_cons (pv 3) pa_nil)))
  (pss_one (ps_if (PW.pt (pw_or (pt_cmpR op_eq (pv 6) pe_str (nomark _)) (pw_or1 (PW.pt (pw_and (pt_cmpR op_eq (pv 6) pe_str (nomark _)) (pw_and1 (pt_not (pt_val (pv 5)))))))))
   (pss_one (ps_expr (pe_bm PySem.F.plainAttrs_list PySem.F.slot_list_extend PySem.F.type_list_extend mt_extend (pv 2) (pa_cons (pe_lc (own := [("each", 7)]) (g := (gName 7)) rfl sc_is_data.nd (pi_seq (pv 3)) (blkOk_by (N := N_is_data) (sc := defScope s_is_data) (by decide +kernel)) (fun _ _ _ _ _ => (pg_name (i := 7) sc_is_data.nd rfl (Or.inl rfl))) (fun _ _ _ _ _ => pts_nil) (fun _ _ _ _ _ => (pe_tup (pa_cons (pv 7) (pa_cons (pe_op op_add (pv 4) pe_int) (pa_cons (pv 5) pa_nil)))))) pa_nil))))
   (pss_one (ps_if (PW.pt (pw_and (pt_cmpR op_eq (pv 6) pe_str (nomark _)) (pw_and1 (pt_not (pt_val (pv 5))))))
   (pss_cons (ps_expr (pe_bm PySem.F.plainAttrs_list PySem.F.slot_list_extend PySem.F.type_list_extend mt_extend (pv 2) (pa_cons (pe_lock (pe_lc (own := [("key", 8)]) (g := (gName 8)) rfl sc_is_data.nd (pi_keys (pv 3)) (blkOk_by (N := N_is_data) (sc := defScope s_is_data) (by decide +kernel)) (fun _ _ _ _ _ => (pg_name (i := 8) sc_is_data.nd rfl (Or.inl rfl))) (fun _ _ _ _ _ => pts_nil) (fun _ _ _ _ _ => (pe_tup (pa_cons (pv 8) (pa_cons (pe_op op_add (pv 4) pe_int) (pa_cons pe_bl pa_nil))))))) pa_nil)))
  (pss_one (ps_expr (pe_bm PySem.F.plainAttrs_list PySem.F.slot_list_extend PySem.F.type_list_extend mt_extend (pv 2) (pa_cons (pe_lock (pe_lc (own := [("key", 8)]) (g := (gName 8)) rfl sc_is_data.nd (pi_keys (pv 3)) (blkOk_by (N := N_is_data) (sc := defScope s_is_data) (by decide +kernel)) (fun _ _ _ _ _ => (pg_name (i := 8) sc_is_data.nd rfl (Or.inl rfl))) (fun _ _ _ _ _ => pts_nil) (fun _ _ _ _ _ => (pe_tup (pa_cons (pe_dget hu (pv 3) (pv 8) (fun _ _ => rfl)) (pa_cons (pe_op op_add (pv 4) pe_int) (pa_cons pe_bl pa_nil))))))) pa_nil)))))
   (pss_one (ps_if (pt_not (pt_val (pe_use U_is_leaf (hr.mono (by decide)) hg rfl (pa_cons (pv 6) (pa_cons (pv 3) pa_nil)))))
   (pss_one (ps_ret pe_bl))
   pss_nil)))))))))))
  (pss_one (ps_ret pe_bl))))), ?_⟩
    refine ⟨_, rfl, sz_3, fun T0 hT0 => ?_⟩
    have S0 := Same.new (o := .tup [v, .int 1, .bl false]) hT0
    have eT := upd_same (H := H) (a := T0) (o := HO.tup [v, .int 1, .bl false])
    generalize upd H T0 (.tup [v, .int 1, .bl false]) = H1 at S0 eT
    refine ⟨sz_1, fun wl hwl => ?_⟩
    have S1 := S0.trans (Same.new (o := .lst [.ref T0]) hwl)
    have ew := upd_same (H := H1) (a := wl) (o := HO.lst [.ref T0])
    have eT1 : (upd H1 wl (.lst [.ref T0])) T0 = some (.tup [v, .int 1, .bl false]) := Same.new hwl _ _ eT
    have hwl0 : H wl = none := same_none' S0 hwl
    generalize upd H1 wl (.lst [.ref T0]) = H2 at S1 ew eT1
    clear S0 eT hwl hT0
    have hv2 : Hd K H2 (fun a => H a ≠ none) v t := hv.up (Same.keepT S1) (fun a u _ e => S1 a u e) fun a u _ e => by rw [e]; exact fun h => nomatch h
    refine while_upN (fun m σ H3 => ∃ (n : Nat) (x3 x4 x5 x6 : Option V) (zs : List V) (st : List Wq), σ = [some v, some (.int ((n : Nat) : Int)), some (.ref wl), x3, x4, x5, x6, none, none] ∧ Same H H3 ∧ H3 wl = some (.lst zs) ∧ P2 (WqAt K H3 (fun a => H a ≠ none)) zs st ∧ (∀ y ∈ st, Sz y.v ∧ 1 ≤ y.l ∧ y.l ≤ 7) ∧ okF 6 false t = st.all okW ∧ cnF 6 false t = n + (st.map cnW).sum ∧ n ≤ 1000 ∧ st.length ≤ 3010 ∧ m = (st.map cnW).sum)
      ⟨_, 0, none, none, none, none, [.ref T0], [⟨t, 1, false⟩], rfl, S1, ew, .cons ⟨T0, v, rfl, SqT.of eT1, hv2⟩ .nil, ?_, ?_, ?_, by omega, by simp, rfl⟩ ?_
    · intro y hy
      obtain rfl := List.mem_singleton.mp hy
      exact ⟨hz, Nat.le_refl 1, show 1 ≤ 7 by omega⟩
    · simp [okW]
    · simp [cnW]
    clear hv hv2 eT1 ew S1
    rintro m σ H3 ⟨n, x3, x4, x5, x6, zs, st, rfl, S3, e3, dz, hok, hall, hct, hn, hst, rfl⟩
    have lz := dz.length
    refine ⟨_, rfl, !zs.isEmpty, .inl ⟨zs, SqL.of e3, rfl⟩, ?_⟩
    rcases List.eq_nil_or_concat st with rfl | ⟨st, y, rfl⟩
    · obtain rfl : zs = [] := List.length_eq_zero_iff.mp lz
      refine iteFb rfl ?_
      have := k H3 S3
      rw [hall, hct, show decide (n + (List.map cnW []).sum ≤ 1000) = true from decide_eq_true (by simpa using hn)] at this
      exact this
    rw [List.concat_eq_append] at *
    obtain ⟨zs0, u, rfl, dz0, du⟩ := dz.snoc
    refine iteTb (by simp) ?_
    refine ⟨_, rfl, .inl ⟨rfl, _, SqL.of e3⟩, wl, _, u, rfl, rfl, e3, by simp, ?_⟩
    rw [List.dropLast_concat]
    have kt : KeepT K H3 (upd H3 wl (.lst zs0)) := KeepT.upd e3
    have kk : ∀ {H' : Hp} (ys : List V), ∀ a u, H a ≠ none → H' a = some u → (upd H' wl (.lst ys)) a = some u := fun ys a u hN e => by rw [upd_ne (show a ≠ wl from fun h => hN (by rw [h]; exact hwl0))]; exact e
    have S4 : Same H (upd H3 wl (.lst zs0)) := fun b o hb => by rw [upd_ne (ne_of_none hb hwl0)]; exact S3 b o hb
    have e4 := upd_same (H := H3) (a := wl) (o := HO.lst zs0)
    have dz4 := WqAt.up dz0 (kk zs0) kt
    obtain ⟨qu, v1, rfl, hqu, dv⟩ := du
    have hqu := kt _ _ hqu
    have dv1 := dv.up kt (kk zs0) fun _ _ h _ => h
    generalize upd H3 wl (.lst zs0) = H4 at S4 e4 dz4 hqu dv1
    clear kt S3 e3 dz dz0 dv
    obtain ⟨sy, hl1, hl7⟩ := hok y (List.mem_append_right _ (List.mem_singleton.mpr rfl))
    have hok0 : ∀ z ∈ st, Sz z.v ∧ 1 ≤ z.l ∧ z.l ≤ 7 := fun z hz => hok z (List.mem_append_left _ hz)
    rw [List.map_append, List.sum_append] at hct
    rw [List.all_append] at hall
    have e1 : ([y].map cnW).sum = cnW y := by simp
    have e2 : [y].all okW = okW y := by simp
    have e3 : ((st ++ [y]).map cnW).sum = (st.map cnW).sum + cnW y := by simp
    rw [e1] at hct
    rw [e2] at hall
    have hln : st.length ≤ 3009 := by rw [List.length_append] at hst; simp at hst; omega
    have lz0 : zs0.length = st.length := dz4.length
    refine ⟨_, _, rfl, hqu, rfl, _, _, rfl, _, _, rfl, _, _, rfl, rfl, ?_⟩
    refine ⟨_, rfl, _, _, rfl, rfl, ?_⟩
    have no : okW y = false → Q (.bl false) H4 := fun h => by
      have := k H4 S4
      rw [hall, h, Bool.and_false, Bool.false_and] at this
      exact this
    by_cases c1 : 6 < y.l
    · refine ⟨_, rfl, _, _, rfl, rfl, _, rfl, iteTb (decide_eq_true (by omega)) (iteTb rfl (no ?_))⟩
      show okF (7 - y.l) y.k y.v = false
      rw [show 7 - y.l = 0 by omega]
      rfl
    refine ⟨_, rfl, _, _, rfl, rfl, _, rfl, iteFb (decide_eq_false (by omega)) ?_⟩
    refine ⟨_, rfl, _, rfl, _, _, rfl, .inl ⟨_, SqL.of e4, rfl⟩, _, _, rfl, rfl, _, _, rfl, rfl, _, rfl, ?_⟩
    by_cases c2 : 1000 < n + 1 + st.length
    · refine iteTb (decide_eq_true (show (1000 : Int) < ((n : Nat) : Int) + 1 + ((zs0.length : Nat) : Int) by omega)) ?_
      have hf : decide (cnF 6 false t ≤ 1000) = false := decide_eq_false (by
        have h1 := sum_ge_len st
        have h2 : 1 ≤ cnW y := cnF_pos _ _ _
        omega)
      have := k H4 S4
      rw [hf, Bool.and_false] at this
      exact this
    refine iteFb (decide_eq_false (show ¬ (1000 : Int) < ((n : Nat) : Int) + 1 + ((zs0.length : Nat) : Int) by omega)) ?_
    refine ⟨_, rfl, v1, kinD y.v, rfl, dv1.ki, ?_⟩
    have hl6 : y.l ≤ 6 := by omega
    by_cases cc : contD y.k y.v = true
    · have hso : ∀ z ∈ sonsD y, Sz z.v ∧ 1 ≤ z.l ∧ z.l ≤ 7 := fun z hz => by
        obtain ⟨p, hp, rfl⟩ := List.mem_map.mp hz
        exact ⟨(sy.kids y.k).2 p hp, show 1 ≤ y.l + 1 by omega, show y.l + 1 ≤ 7 by omega⟩
      have hsl : (sonsD y).length ≤ 2000 := by show ((kidsD y.k y.v).map _).length ≤ 2000; rw [List.length_map]; exact (sy.kids y.k).1
      rw [okW_c hl6 cc] at hall
      rw [cnW_c hl6 cc] at hct e3
      have close : ∀ (σ : L2.St) (H6 : Hp) (acc : List V) (x5 x6 : Option V), σ = [some v, some (.int (((n + 1 : Nat)) : Int)), some (.ref wl), some v1, some (.int ((y.l : Nat) : Int)), x5, x6, none, none] → Same H H6 → H6 wl = some (.lst (zs0 ++ acc)) → P2 (WqAt K H6 (fun a => H a ≠ none)) zs0 st → P2 (WqAt K H6 (fun a => H a ≠ none)) acc (sonsD y) →
          ∃ m', m' < ((st ++ [y]).map cnW).sum ∧ ∃ (n : Nat) (x3 x4 x5 x6 : Option V) (zs : List V) (st : List Wq), σ = [some v, some (.int ((n : Nat) : Int)), some (.ref wl), x3, x4, x5, x6, none, none] ∧ Same H H6 ∧ H6 wl = some (.lst zs) ∧ P2 (WqAt K H6 (fun a => H a ≠ none)) zs st ∧ (∀ y ∈ st, Sz y.v ∧ 1 ≤ y.l ∧ y.l ≤ 7) ∧ okF 6 false t = st.all okW ∧ cnF 6 false t = n + (st.map cnW).sum ∧ n ≤ 1000 ∧ st.length ≤ 3010 ∧ m' = (st.map cnW).sum := by
        intro σ H6 acc x5 x6 e S6 ew6 d0 d1
        refine ⟨((st ++ sonsD y).map cnW).sum, ?_, n + 1, _, _, _, _, zs0 ++ acc, st ++ sonsD y, e, S6, ew6, P2.app d1 d0, fun z hz => ?_, by rw [hall, List.all_append], ?_, by omega, by rw [List.length_append]; omega, rfl⟩
        · rw [e3, List.map_append, List.sum_append]; omega
        · rcases List.mem_append.mp hz with h | h
          · exact hok0 z h
          · exact hso z h
        · rw [List.map_append, List.sum_append]; omega
      have hwlN : ∀ (H' : Hp) (ys : List V), Same H4 H' → P2 (WqAt K (upd H' wl (.lst ys)) (fun a => H a ≠ none)) zs0 st := fun H' ys S => WqAt.up (WqAt.mono dz4 S) (kk ys) (KeepT.upd (S _ _ e4))
      obtain ⟨yv, yl, yk⟩ := y
      cases dv1 with
      | non => cases cc
      | bl _ => cases cc
      | int _ => cases cc
      | str _ => cases cc
      | @tup _ p xs ts hs ha =>
        have la := ha.length
        have lts : ts.length ≤ 1000 := by cases sy; assumption
        refine ⟨_, rfl, rfl, _, rfl, iteTb rfl (iteTb rfl ?_)⟩
        refine ⟨_, rfl, .inl ⟨rfl, _, SqL.of e4⟩, .inr ⟨_, rfl, p, rfl, ⟨xs, hs⟩, fun D hD => ?_⟩⟩
        refine lc_it (walk_tup (xs := xs)) (fun i H' => ∃ acc, H' D = some (.lst acc) ∧ P2 (Tri K H' (yl + 1) yk) acc (xs.take i) ∧ Same H4 H') ⟨[], upd_same, .nil, Same.new hD⟩ (fun _ _ _ ⟨_, _, _, h⟩ => Same.tupl h hs) ?_ ?_
        · rintro i x H5 H6 hi ⟨acc, e5, a5, S5⟩ ⟨rfl, hx⟩
          refine ⟨rfl, ?_⟩
          unfold tYes
          refine iteTb rfl ?_
          refine ⟨_, rfl, _, rfl, _, _, rfl, rfl, _, rfl, sz_3, fun t ht => ?_⟩
          have l5 := a5.length
          rw [List.length_take] at l5
          refine ⟨acc, Same.new ht _ _ e5, Nat.lt_of_le_of_lt (show acc.length ≤ 1000 by omega) (by decide), _, upd_same, ?_, fun b u hb => by rw [upd_ne (ne_of_none hb hD)]; exact Same.new ht _ _ (S5 _ _ hb)⟩
          rw [List.take_succ, hx]
          exact tri_step (H1 := H4) a5 e5 ht _ rfl
        rintro H5 ⟨acc, e5, a5, S5⟩
        rw [List.take_length] at a5
        have l5 := a5.length
        refine ⟨wl, D, zs0, acc, rfl, rfl, S5 _ _ e4, e5, Nat.le_trans (show zs0.length + acc.length ≤ 5000000 by omega) (by decide), ?_⟩
        have kt : KeepT K H5 (upd H5 wl (.lst (zs0 ++ acc))) := KeepT.upd (S5 _ _ e4)
        refine close _ _ acc _ _ rfl (fun b o hb => by rw [upd_ne (ne_of_none hb hwl0)]; exact S5 _ _ (S4 b o hb)) upd_same (hwlN _ _ S5) ?_
        have := tri_up (Tri.kt a5 kt) ((ha.mono S5).up kt (kk _) fun _ _ h _ => h)
        show P2 _ acc ((ts.map _).map _)
        rw [List.map_map]
        exact this
      | @lst _ p xs ts h1 h2 ha =>
        have la := ha.length
        have lts : ts.length ≤ 1000 := by cases sy; assumption
        have ek : yk = false := by cases yk <;> first | rfl | exact absurd cc (by intro h; cases h)
        subst ek
        refine ⟨_, rfl, rfl, _, rfl, iteFb (dec_ne (show ("list" : Str) ≠ "tuple" by decide +kernel)) ⟨_, rfl, rfl, _, rfl, iteTb (decide_eq_true rfl) ⟨_, rfl, _, rfl, iteTb rfl ?_⟩⟩⟩
        refine ⟨_, rfl, .inl ⟨rfl, _, SqL.of e4⟩, .inl ⟨_, rfl, p, rfl, ⟨xs, SqL.of h1⟩, fun D hD => ?_⟩⟩
        refine lc_it (walk_list (xs := xs)) (fun i H' => ∃ acc, H' D = some (.lst acc) ∧ P2 (Tri K H' (yl + 1) false) acc (xs.take i) ∧ Same H4 H') ⟨[], upd_same, .nil, Same.new hD⟩ (fun _ _ _ ⟨_, _, _, h⟩ => SqL.of (h _ _ h1)) ?_ ?_
        · rintro i x H5 H6 hi ⟨acc, e5, a5, S5⟩ ⟨rfl, hx⟩
          refine ⟨rfl, ?_⟩
          unfold tYes
          refine iteTb rfl ?_
          refine ⟨_, rfl, _, rfl, _, _, rfl, rfl, _, rfl, sz_3, fun t ht => ?_⟩
          have l5 := a5.length
          rw [List.length_take] at l5
          refine ⟨acc, Same.new ht _ _ e5, Nat.lt_of_le_of_lt (show acc.length ≤ 1000 by omega) (by decide), _, upd_same, ?_, fun b u hb => by rw [upd_ne (ne_of_none hb hD)]; exact Same.new ht _ _ (S5 _ _ hb)⟩
          rw [List.take_succ, hx]
          exact tri_step (H1 := H4) a5 e5 ht _ rfl
        rintro H5 ⟨acc, e5, a5, S5⟩
        rw [List.take_length] at a5
        have l5 := a5.length
        refine ⟨wl, D, zs0, acc, rfl, rfl, S5 _ _ e4, e5, Nat.le_trans (show zs0.length + acc.length ≤ 5000000 by omega) (by decide), ?_⟩
        have kt : KeepT K H5 (upd H5 wl (.lst (zs0 ++ acc))) := KeepT.upd (S5 _ _ e4)
        refine close _ _ acc _ _ rfl (fun b o hb => by rw [upd_ne (ne_of_none hb hwl0)]; exact S5 _ _ (S4 b o hb)) upd_same (hwlN _ _ S5) ?_
        have := tri_up (Tri.kt a5 kt) ((ha.mono S5).up kt (kk _) fun _ _ h _ => h)
        show P2 _ acc ((ts.map _).map _)
        rw [List.map_map]
        exact this
      | @dct _ p kvs ks ts h1 h2 h3 h4 ha =>
        have ha := ha.wk (N' := fun a => H a ≠ none) fun _ _ h _ => h.1
        have la := ha.length
        rw [List.length_map] at la
        have lts : ts.length ≤ 1000 := by cases sy; assumption
        have lks : kvs.length = ks.length := by rw [← h3, List.length_map]
        have ek : yk = false := by cases yk <;> first | rfl | exact absurd cc (by intro h; cases h)
        subst ek
        refine ⟨_, rfl, rfl, _, rfl, iteFb (dec_ne (show ("dict" : Str) ≠ "tuple" by decide +kernel)) ⟨_, rfl, rfl, _, rfl, iteFb (dec_ne (show ("dict" : Str) ≠ "list" by decide +kernel)) (iteFb rfl ?_)⟩⟩
        refine ⟨_, rfl, rfl, _, rfl, iteTb (decide_eq_true rfl) ⟨_, rfl, _, rfl, iteTb rfl ?_⟩⟩
        have hnt : ∀ z, (.dK kvs : HO) ≠ .tup z := fun z h => nomatch h
        refine ⟨_, rfl, .inl ⟨rfl, _, SqL.of e4⟩, p, .dK kvs, h1, trivial, fun od => ?_⟩
        refine ⟨_, rfl, p, od, rfl, .inl ⟨kvs, upd_same, fun D hD => ?_⟩⟩
        refine lc_it (walk_keys (d := p) (o := od) (kvs := kvs)) (fun i H' => ∃ acc, H' D = some (.lst acc) ∧ P2 (Tri K H' (yl + 1) true) acc ((kvs.map fun e => kV e.1).take i) ∧ Same (upd H4 p (.frz od (.dK kvs))) H') ⟨[], upd_same, .nil, Same.new hD⟩ (fun _ _ _ ⟨_, _, _, h⟩ => h _ _ upd_same) ?_ ?_
        · rintro i x H5 H6 hi ⟨acc, e5, a5, S5⟩ ⟨rfl, key, val, hx, rfl⟩
          refine ⟨rfl, ?_⟩
          unfold tYes
          refine iteTb rfl ?_
          refine ⟨_, rfl, _, rfl, _, _, rfl, rfl, sz_3, fun t ht => ?_⟩
          have l5 := a5.length
          rw [List.length_take, List.length_map] at l5
          refine ⟨acc, Same.new ht _ _ e5, Nat.lt_of_le_of_lt (show acc.length ≤ 1000 by omega) (by decide), _, upd_same, ?_, fun b u hb => by rw [upd_ne (ne_of_none hb hD)]; exact Same.new ht _ _ (S5 _ _ hb)⟩
          rw [List.take_succ, List.getElem?_map, hx]
          exact tri_step (H1 := H4) a5 e5 ht _ rfl
        rintro H5 ⟨acc, e5, a5, S5⟩
        rw [List.take_of_length_le (by rw [List.length_map]; omega)] at a5
        obtain ⟨f1, f2, f3, f4⟩ := lock_out h1 hnt hD S5 e5 a5
        refine ⟨f1, ?_⟩
        generalize upd H5 p (.dK kvs) = H6 at f2 f3 f4
        clear f1 e5 a5 S5 hD od H5
        have l4 := f4.length
        rw [List.length_map] at l4
        refine ⟨wl, D, zs0, acc, rfl, rfl, f2 _ _ e4, f3, Nat.le_trans (show zs0.length + acc.length ≤ 5000000 by omega) (by decide), ?_⟩
        have kt : KeepT K H6 (upd H6 wl (.lst (zs0 ++ acc))) := KeepT.upd (f2 _ _ e4)
        have S7 : Same H (upd H6 wl (.lst (zs0 ++ acc))) := fun b o hb => by rw [upd_ne (ne_of_none hb hwl0)]; exact f2 _ _ (S4 b o hb)
        have e7 := upd_same (H := H6) (a := wl) (o := HO.lst (zs0 ++ acc))
        have d7 := hwlN _ (zs0 ++ acc) f2
        have a7 := Tri.kt f4 kt
        have h17 : (upd H6 wl (.lst (zs0 ++ acc))) p = some (.dK kvs) := by rw [upd_ne (fun h => by rw [h, e4] at h1; cases h1)]; exact f2 _ _ h1
        have hv7 := (ha.mono f2).up kt (kk (zs0 ++ acc)) fun _ _ h _ => h
        generalize upd H6 wl (.lst (zs0 ++ acc)) = H7 at S7 e7 d7 a7 h17 hv7
        clear kt f2 f3 f4 D
        refine ⟨_, rfl, .inl ⟨rfl, _, SqL.of e7⟩, p, .dK kvs, h17, trivial, fun od => ?_⟩
        refine ⟨_, rfl, p, od, rfl, .inl ⟨kvs, upd_same, fun D hD => ?_⟩⟩
        refine lc_it (walk_keys (d := p) (o := od) (kvs := kvs)) (fun i H' => ∃ acc, H' D = some (.lst acc) ∧ P2 (Tri K H' (yl + 1) false) acc ((kvs.map (·.2)).take i) ∧ Same (upd H7 p (.frz od (.dK kvs))) H') ⟨[], upd_same, .nil, Same.new hD⟩ (fun _ _ _ ⟨_, _, _, h⟩ => h _ _ upd_same) ?_ ?_
        · rintro i x H5 H6 hi ⟨acc, e5, a5, S5⟩ ⟨rfl, key, val, hx, rfl⟩
          refine ⟨rfl, ?_⟩
          unfold tYes
          refine iteTb rfl ?_
          refine ⟨_, rfl, _, rfl, p, val, rfl, .inl ⟨kvs, key, .inr ⟨od, S5 _ _ upd_same⟩, rfl, (valV_nd (h3 ▸ h4) hx).symm⟩, ?_⟩
          refine ⟨_, rfl, _, _, rfl, rfl, sz_3, fun t ht => ?_⟩
          have l5 := a5.length
          rw [List.length_take] at l5
          rw [List.length_map] at l5
          refine ⟨acc, Same.new ht _ _ e5, Nat.lt_of_le_of_lt (show acc.length ≤ 1000 by omega) (by decide), _, upd_same, ?_, fun b u hb => by rw [upd_ne (ne_of_none hb hD)]; exact Same.new ht _ _ (S5 _ _ hb)⟩
          rw [List.take_succ, List.getElem?_map, hx]
          exact tri_step (H1 := H4) a5 e5 ht _ rfl
        rintro H5 ⟨acc2, e5, a5, S5⟩
        rw [List.take_of_length_le (by rw [List.length_map]; omega)] at a5
        obtain ⟨f1, f2, f3, f4⟩ := lock_out h17 hnt hD S5 e5 a5
        refine ⟨f1, ?_⟩
        generalize upd H5 p (.dK kvs) = He at f2 f3 f4
        have l6 := f4.length
        rw [List.length_map] at l6
        refine ⟨wl, D, zs0 ++ acc, acc2, rfl, rfl, f2 _ _ e7, f3, Nat.le_trans (show (zs0 ++ acc).length + acc2.length ≤ 5000000 by rw [List.length_append]; omega) (by decide), ?_⟩
        have kt : KeepT K He (upd He wl (.lst ((zs0 ++ acc) ++ acc2))) := KeepT.upd (f2 _ _ e7)
        refine close _ _ (acc ++ acc2) _ _ rfl (fun b o hb => by rw [upd_ne (ne_of_none hb hwl0)]; exact f2 _ _ (S7 b o hb)) (by rw [upd_same, List.append_assoc]) (WqAt.up (WqAt.mono d7 f2) (kk _) kt) ?_
        have ek : ks.map kV = kvs.map fun e => kV e.1 := by rw [← h3, List.map_map]; rfl
        have hk := hd_keys (K := K) (H := upd He wl (.lst ((zs0 ++ acc) ++ acc2))) (N := fun a => H a ≠ none) ks
        rw [ek] at hk
        have g1 := tri_up (Tri.kt (Tri.kt a7 (Same.keepT f2)) kt) hk
        have g2 := tri_up (Tri.kt f4 kt) ((hv7.mono f2).up kt (kk _) fun _ _ h _ => h)
        show P2 _ _ ((ks.map _ ++ ts.map _).map _)
        rw [List.map_append, List.map_map, List.map_map]
        rw [List.map_map] at g1
        exact P2.app g2 g1
      | @dtk _ p ks wv tv h1 h2 hv =>
        have hv := hv.wk (N' := fun a => H a ≠ none) fun _ _ h _ => h.1
        have lks : ks.length ≤ 1000 := by cases sy; assumption
        have ek : yk = false := by cases yk <;> first | rfl | exact absurd cc (by intro h; cases h)
        subst ek
        refine ⟨_, rfl, rfl, _, rfl, iteFb (dec_ne (show ("dict" : Str) ≠ "tuple" by decide +kernel)) ⟨_, rfl, rfl, _, rfl, iteFb (dec_ne (show ("dict" : Str) ≠ "list" by decide +kernel)) (iteFb rfl ?_)⟩⟩
        refine ⟨_, rfl, rfl, _, rfl, iteTb (decide_eq_true rfl) ⟨_, rfl, _, rfl, iteTb rfl ?_⟩⟩
        have hnt : ∀ z, (.dT [(ks, wv)] : HO) ≠ .tup z := fun z h => nomatch h
        refine ⟨_, rfl, .inl ⟨rfl, _, SqL.of e4⟩, p, .dT [(ks, wv)], h1, trivial, fun od => ?_⟩
        refine ⟨_, rfl, p, od, rfl, .inr ⟨[(ks, wv)], upd_same, fun D hD => ?_⟩⟩
        refine lc_it (walk_keysT (d := p) (o := od) (kvs := [(ks, wv)])) (fun i H' => ∃ acc kl, H' D = some (.lst acc) ∧ P2 (Tri K H' (yl + 1) true) acc kl ∧ kl.length = i ∧ (∀ x ∈ kl, ∃ q, x = V.ref q ∧ SqT K H' q (ks.map kV)) ∧ Same (upd H4 p (.frz od (.dT [(ks, wv)]))) H') ⟨[], [], upd_same, .nil, rfl, (fun _ h => nomatch h), Same.new hD⟩ (fun _ _ _ ⟨_, _, _, _, _, _, h⟩ => h _ _ upd_same) ?_ ?_
        · rintro i x H5 H6 hi ⟨acc, kl, e5, a5, l5, q5, S5⟩ ⟨rfl, key, val, q, hx, rfl, hq⟩
          have hi0 : i < 1 := hi
          obtain rfl : i = 0 := by omega
          cases hx
          refine ⟨rfl, ?_⟩
          unfold tYes
          refine iteTb rfl ?_
          refine ⟨_, rfl, _, rfl, _, _, rfl, rfl, sz_3, fun t ht => ?_⟩
          have la5 := a5.length
          refine ⟨acc, Same.new ht _ _ e5, Nat.lt_of_le_of_lt (show acc.length ≤ 1000 by omega) (by decide), _, kl ++ [V.ref q], upd_same, tri_step (H1 := H4) a5 e5 ht _ rfl, by rw [List.length_append, l5]; rfl, ?_, fun b u hb => by rw [upd_ne (ne_of_none hb hD)]; exact Same.new ht _ _ (S5 _ _ hb)⟩
          obtain rfl := List.length_eq_zero_iff.mp l5
          intro x hx
          obtain rfl := List.mem_singleton.mp hx
          refine ⟨q, rfl, ?_⟩
          have hqD : q ≠ D := fun h => by rw [h, e5] at hq; cases hq
          exact SqT.of (by rw [upd_ne hqD]; exact Same.new ht _ _ hq)
        rintro H5 ⟨acc, kl, e5, a5, lkl, q5, S5⟩
        obtain ⟨kq, rfl⟩ : ∃ kq, kl = [kq] := by
          cases kl with
          | nil => cases lkl
          | cons x r => cases r with
            | nil => exact ⟨x, rfl⟩
            | cons _ _ => cases lkl
        obtain ⟨q, rfl, hq0⟩ := q5 kq (List.mem_singleton.mpr rfl)
        have S5p := S5 _ _ (upd_same (H := H4) (a := p))
        have hq := keepT_fz (o := .dT [(ks, wv)]) S5p hnt _ _ hq0
        obtain ⟨f1, f2, f3, f4⟩ := lock_out h1 hnt hD S5 e5 a5
        refine ⟨f1, ?_⟩
        generalize upd H5 p (.dT [(ks, wv)]) = H6 at f2 f3 f4 hq
        clear f1 e5 a5 S5 S5p q5 hq0 hD od H5
        have l4 := f4.length
        simp only [List.length_cons, List.length_nil] at l4
        refine ⟨wl, D, zs0, acc, rfl, rfl, f2 _ _ e4, f3, Nat.le_trans (show zs0.length + acc.length ≤ 5000000 by omega) (by decide), ?_⟩
        have kt : KeepT K H6 (upd H6 wl (.lst (zs0 ++ acc))) := KeepT.upd (f2 _ _ e4)
        have S7 : Same H (upd H6 wl (.lst (zs0 ++ acc))) := fun b o hb => by rw [upd_ne (ne_of_none hb hwl0)]; exact f2 _ _ (S4 b o hb)
        have e7 := upd_same (H := H6) (a := wl) (o := HO.lst (zs0 ++ acc))
        have d7 := hwlN _ (zs0 ++ acc) f2
        have a7 := Tri.kt f4 kt
        have h17 : (upd H6 wl (.lst (zs0 ++ acc))) p = some (.dT [(ks, wv)]) := by rw [upd_ne (fun h => by rw [h, e4] at h1; cases h1)]; exact f2 _ _ h1
        have hv7 := (hv.mono f2).up kt (kk (zs0 ++ acc)) fun _ _ h _ => h
        have hq7 := kt _ _ hq
        generalize upd H6 wl (.lst (zs0 ++ acc)) = H7 at S7 e7 d7 a7 h17 hv7 hq7
        clear kt f2 f3 f4 hq D
        refine ⟨_, rfl, .inl ⟨rfl, _, SqL.of e7⟩, p, .dT [(ks, wv)], h17, trivial, fun od => ?_⟩
        refine ⟨_, rfl, p, od, rfl, .inr ⟨[(ks, wv)], upd_same, fun D hD => ?_⟩⟩
        refine lc_it (walk_keysT (d := p) (o := od) (kvs := [(ks, wv)])) (fun i H' => ∃ acc, H' D = some (.lst acc) ∧ P2 (Tri K H' (yl + 1) false) acc ([wv].take i) ∧ Same (upd H7 p (.frz od (.dT [(ks, wv)]))) H') ⟨[], upd_same, .nil, Same.new hD⟩ (fun _ _ _ ⟨_, _, _, h⟩ => h _ _ upd_same) ?_ ?_
        · rintro i x H5 H6 hi ⟨acc, e5, a5, S5⟩ ⟨rfl, key, val, q, hx, rfl, hq⟩
          have hi0 : i < 1 := hi
          obtain rfl : i = 0 := by omega
          cases hx
          refine ⟨rfl, ?_⟩
          unfold tYes
          refine iteTb rfl ?_
          refine ⟨_, rfl, _, rfl, p, wv, rfl, .inr ⟨[(ks, wv)], ks, q, .inr ⟨od, S5 _ _ upd_same⟩, rfl, hq, by simp [valV]⟩, ?_⟩
          refine ⟨_, rfl, _, _, rfl, rfl, sz_3, fun t ht => ?_⟩
          have l5 := a5.length
          rw [List.length_take] at l5
          refine ⟨acc, Same.new ht _ _ e5, Nat.lt_of_le_of_lt (show acc.length ≤ 1000 by omega) (by decide), _, upd_same, tri_step (H1 := H4) a5 e5 ht _ rfl, fun b u hb => by rw [upd_ne (ne_of_none hb hD)]; exact Same.new ht _ _ (S5 _ _ hb)⟩
        rintro H5 ⟨acc2, e5, a5, S5⟩
        rw [List.take_of_length_le (by simp)] at a5
        obtain ⟨f1, f2, f3, f4⟩ := lock_out h17 hnt hD S5 e5 a5
        refine ⟨f1, ?_⟩
        generalize upd H5 p (.dT [(ks, wv)]) = He at f2 f3 f4
        have l6 := f4.length
        simp only [List.length_cons, List.length_nil] at l6
        refine ⟨wl, D, zs0 ++ acc, acc2, rfl, rfl, f2 _ _ e7, f3, Nat.le_trans (show (zs0 ++ acc).length + acc2.length ≤ 5000000 by rw [List.length_append]; omega) (by decide), ?_⟩
        have kt : KeepT K He (upd He wl (.lst ((zs0 ++ acc) ++ acc2))) := KeepT.upd (f2 _ _ e7)
        refine close _ _ (acc ++ acc2) _ _ rfl (fun b o hb => by rw [upd_ne (ne_of_none hb hwl0)]; exact f2 _ _ (S7 b o hb)) (by rw [upd_same, List.append_assoc]) (WqAt.up (WqAt.mono d7 f2) (kk _) kt) ?_
        have g1 := tri_up (Tri.kt (Tri.kt a7 (Same.keepT f2)) kt) (HdAll.cons (N := fun a => H a ≠ none) (Hd.tup (kt _ _ (Same.tupl f2 hq7)) (hd_keys ks)) .nil)
        have g2 := tri_up (Tri.kt f4 kt) (HdAll.cons ((hv7.mono f2).up kt (kk _) fun _ _ h _ => h) .nil)
        exact P2.app g2 g1
    · have ccf : contD y.k y.v = false := by cases h : contD y.k y.v <;> first | rfl | exact absurd h cc
      rw [okW_l hl6 ccf] at hall no
      rw [cnW_l hl6 ccf] at hct e3
      obtain ⟨hla, ht1, ht2, ht3⟩ : LeafB (kinD y.v) v1 (leafD y.v) ∧ kinD y.v ≠ "tuple" ∧ (kinD y.v = "list" → y.k = true) ∧ (kinD y.v = "dict" → y.k = true) := by
        have oth : ∀ (kd : Str) (u : V) (b : Bool), kd ≠ "text" → kd ≠ "int" → decide (kd ∈ (["none", "bool"] : List Str)) = b → LeafB kd u b := fun kd u b h1 h2 h3 => h3 ▸ .oth kd u h1 h2
        obtain ⟨yv, yl, yk⟩ := y
        cases dv1 with
        | non => exact ⟨oth "none" _ true (by decide +kernel) (by decide +kernel) (by decide +kernel), (show ("none" : Str) ≠ "tuple" by decide +kernel), fun h => absurd h (show ("none" : Str) ≠ "list" by decide +kernel), fun h => absurd h (show ("none" : Str) ≠ "dict" by decide +kernel)⟩
        | bl _ => exact ⟨oth "bool" _ true (by decide +kernel) (by decide +kernel) (by decide +kernel), (show ("bool" : Str) ≠ "tuple" by decide +kernel), fun h => absurd h (show ("bool" : Str) ≠ "list" by decide +kernel), fun h => absurd h (show ("bool" : Str) ≠ "dict" by decide +kernel)⟩
        | int i => exact ⟨.int i, (show ("int" : Str) ≠ "tuple" by decide +kernel), fun h => absurd h (show ("int" : Str) ≠ "list" by decide +kernel), fun h => absurd h (show ("int" : Str) ≠ "dict" by decide +kernel)⟩
        | str z => exact ⟨.text z (by cases sy; assumption), (show ("text" : Str) ≠ "tuple" by decide +kernel), fun h => absurd h (show ("text" : Str) ≠ "list" by decide +kernel), fun h => absurd h (show ("text" : Str) ≠ "dict" by decide +kernel)⟩
        | tup _ _ => cases ccf
        | lst _ _ _ => exact ⟨oth "list" _ false (by decide +kernel) (by decide +kernel) (by decide +kernel), (show ("list" : Str) ≠ "tuple" by decide +kernel), (fun _ => by cases yk <;> first | rfl | cases ccf), fun h => absurd h (show ("list" : Str) ≠ "dict" by decide +kernel)⟩
        | dct _ _ _ _ _ => exact ⟨oth "dict" _ false (by decide +kernel) (by decide +kernel) (by decide +kernel), (show ("dict" : Str) ≠ "tuple" by decide +kernel), fun h => absurd h (show ("dict" : Str) ≠ "list" by decide +kernel), (fun _ => by cases yk <;> first | rfl | cases ccf)⟩
        | dtk _ _ _ => exact ⟨oth "dict" _ false (by decide +kernel) (by decide +kernel) (by decide +kernel), (show ("dict" : Str) ≠ "tuple" by decide +kernel), fun h => absurd h (show ("dict" : Str) ≠ "list" by decide +kernel), (fun _ => by cases yk <;> first | rfl | cases ccf)⟩
      generalize kinD y.v = kd at hla ht1 ht2 ht3
      have fin : ∀ σ : L2.St, σ = [some v, some (.int (((n + 1 : Nat)) : Int)), some (.ref wl), some v1, some (.int ((y.l : Nat) : Int)), some (.bl y.k), some (.str kd), none, none] → ∀ H5, Same H4 H5 → leafD y.v = true →
          ∃ m', m' < ((st ++ [y]).map cnW).sum ∧ ∃ (n : Nat) (x3 x4 x5 x6 : Option V) (zs : List V) (st : List Wq), σ = [some v, some (.int ((n : Nat) : Int)), some (.ref wl), x3, x4, x5, x6, none, none] ∧ Same H H5 ∧ H5 wl = some (.lst zs) ∧ P2 (WqAt K H5 (fun a => H a ≠ none)) zs st ∧ (∀ y ∈ st, Sz y.v ∧ 1 ≤ y.l ∧ y.l ≤ 7) ∧ okF 6 false t = st.all okW ∧ cnF 6 false t = n + (st.map cnW).sum ∧ n ≤ 1000 ∧ st.length ≤ 3010 ∧ m' = (st.map cnW).sum := fun σ e H5 S5 hl =>
        ⟨_, by rw [e3]; omega, n + 1, _, _, _, _, zs0, st, e, S4.trans S5, S5 _ _ e4, WqAt.mono dz4 S5, hok0, by rw [hall, hl, Bool.and_true], by omega, by omega, by omega, rfl⟩
      refine ⟨_, rfl, rfl, _, rfl, iteFb (dec_ne ht1) ?_⟩
      by_cases hL : kd = "list"
      · have hD : kd ≠ "dict" := by rw [hL]; decide +kernel
        refine ⟨_, rfl, rfl, _, rfl, iteTb (decide_eq_true (by rw [hL])) ⟨_, rfl, _, rfl, iteFb (by rw [ht2 hL]; rfl) ?_⟩⟩
        refine ⟨_, rfl, rfl, _, rfl, iteFb (dec_ne hD) (iteFb rfl ?_)⟩
        refine ⟨_, rfl, _, rfl, kd, v1, leafD y.v, rfl, hla, fun H5 S5 => ?_⟩
        refine ⟨_, rfl, ?_⟩
        cases hlf : leafD y.v with
        | false =>
          refine iteTb rfl ?_
          have := k H5 (S4.trans S5)
          rw [hall, hlf, Bool.and_false, Bool.false_and] at this
          exact this
        | true => exact iteFb rfl (fin _ rfl H5 S5 hlf)
      · refine ⟨_, rfl, rfl, _, rfl, iteFb (dec_ne hL) (iteFb rfl ?_)⟩
        by_cases hD : kd = "dict"
        · refine ⟨_, rfl, rfl, _, rfl, iteTb (decide_eq_true (by rw [hD])) ⟨_, rfl, _, rfl, iteFb (by rw [ht3 hD]; rfl) ?_⟩⟩
          refine ⟨_, rfl, _, rfl, kd, v1, leafD y.v, rfl, hla, fun H5 S5 => ?_⟩
          refine ⟨_, rfl, ?_⟩
          cases hlf : leafD y.v with
          | false =>
            refine iteTb rfl ?_
            have := k H5 (S4.trans S5)
            rw [hall, hlf, Bool.and_false, Bool.false_and] at this
            exact this
          | true => exact iteFb rfl (fin _ rfl H5 S5 hlf)
        · refine ⟨_, rfl, rfl, _, rfl, iteFb (dec_ne hD) (iteFb rfl ?_)⟩
          refine ⟨_, rfl, _, rfl, kd, v1, leafD y.v, rfl, hla, fun H5 S5 => ?_⟩
          refine ⟨_, rfl, ?_⟩
          cases hlf : leafD y.v with
          | false =>
            refine iteTb rfl ?_
            have := k H5 (S4.trans S5)
            rw [hall, hlf, Bool.and_false, Bool.false_and] at this
            exact this
          | true => exact iteFb rfl (fin _ rfl H5 S5 hlf)
end

section
--SPLIT
end
abbrev s_put : Stmt := top 17
abbrev N_put : List Str := ["heap", "data", "kind", "parts", "key", "part"]
abbrev P_put : List Str := ["heap", "data"]
theorem sc_put : FnScope N_put P_put (defScope s_put) := ⟨rfl, rfl, rfl, by decide +kernel, rfl, by decide +kernel, by decide +kernel⟩
section
variable {P : Program} {w : World} {K : PySem.W.Frag} {mg : Str → Option Value} {base : Heap}
def hdS : HD → Str
  | .non => "none"
  | .bl _ => "bool"
  | .int _ => "int"
  | .str _ => "text"
  | _ => "ref"
def RowsP (ds : List PyData) : Prop := ∀ d ∈ ds, Shp 4 d
theorem RowsP.app {a b : List PyData} (h : RowsP a) (g : RowsP b) : RowsP (a ++ b) := fun d hd => (List.mem_append.mp hd).elim (h d) (g d)
/-- what a value of the new heap is -/
def ValP (t : HD) (d : PyData) : Prop := Shp 1 d ∧ ∃ r, d = .tuple (.str (hdS t) :: r)
def spPutH (K : PySem.W.Frag) (n : Nat) : Sp := fun vs H Q _ => ∃ (hp : Addr) (v : V) (ds : List PyData) (t : HD) (N : Addr → Prop) (kk : Bool), vs = [.ref hp, v] ∧ ListAt K H hp ds ∧ Hd K H N v t ∧ ¬ N hp ∧ okF n kk t = true ∧ Sz t ∧ ds.length + cnF n kk t ≤ 100000 ∧
  ∀ (v' : V) (H' : Hp) (ds' : List PyData) (dv : PyData), Keep hp H H' → ListAt K H' hp (ds ++ ds') → RowsP ds' → ds'.length ≤ cnF n kk t → Dt K H' v' dv → ValP t dv → Q v' H'
theorem put0 {vs : List V} {H : Hp} {Q : VK} {E : XK} (h : spPutH K 0 vs H Q E) : False := by
  obtain ⟨_, _, _, _, _, _, _, _, _, _, h, _⟩ := h
  cases h
theorem keepT_dT {K : PySem.W.Frag} {p : Addr} {H : Hp} {o : HO} {kvs : List (List Key × V)} (hp : H p = some (.dT kvs)) : KeepT K H (upd H p o) := fun a xs h => by
  rcases h with (h | ⟨o', h⟩) | h
  · exact .inl (.inl (by rw [upd_ne (ne_of h hp (by intro z; cases z))]; exact h))
  · exact .inl (.inr ⟨o', by rw [upd_ne (ne_of h hp (by intro z; cases z))]; exact h⟩)
  · exact .inr h
theorem take_sum_le {α : Type} (f : α → Nat) : ∀ (l : List α) (i : Nat), ((l.take i).map f).sum ≤ (l.map f).sum
  | [], i => by simp
  | a :: l, 0 => Nat.zero_le _
  | a :: l, i + 1 => by
    rw [List.take_succ_cons, List.map_cons, List.map_cons, List.sum_cons, List.sum_cons]
    have := take_sum_le f l i
    omega
theorem ok_put {n : Nat} {f : Addr} {fd : FuncData} (F : Fun K "_put" "_put" s_put f fd) (T : Txt K mg) (U_put : Use P w K mg base CX0 "_put" (1 + n) P_put (spPutH K n)) (U_kind : Use P w K mg base CX0 "_kind" 1 P_kind (spKindH K)) : FnG P w K mg base CX0 (1 + n + 1) f fd P_put (spPutH K (n + 1)) := by
  refine okG0 F sc_put (fun vs H Q E h => ?_) fun cdv A outer s H vs Q E hr hg h => ?_
  · obtain ⟨hp, v, ds, t, N, kk, rfl, _⟩ := h
    rfl
  · obtain ⟨hp, v, ds, t, N, kk, rfl, L, hv, hN, hok, hz, hb, k⟩ := h
    have hu : (A.deeper (envOfC "_put" (defScope s_put) s.heap.objs.size f cdv)).units + 1 < cLine := Nat.lt_of_le_of_lt (by omega) hr.units
    refine ⟨_, (pss_cons (ps_set (i := 2) sc_put.nd rfl (Or.inl rfl) (pe_use U_kind (hr.mono (by omega)) hg rfl (pa_cons (pv 1) pa_nil)))
  (pss_cons (ps_if (pt_cmpR op_eq (pv 2) pe_str (nomark _))
   (pss_one (ps_ret (pe_tup (pa_cons pe_str pa_nil))))
   pss_nil)
  (pss_cons (ps_if (pt_cmpR op_in_seq (pv 2) (pe_tup (pa_cons pe_str (pa_cons pe_str (pa_cons pe_str pa_nil)))) (by rfl))
   (pss_one (ps_ret (pe_tup (pa_cons (pv 2) (pa_cons (pv 1) pa_nil)))))
   pss_nil)
  (C8.pss_cut (ps_if (pt_cmpR op_eq (pv 2) pe_str (nomark _))
   (pss_one (ps_set (i := 3) sc_put.nd rfl (Or.inl rfl) (pe_callTy call_tuple_of (by rfl) T.b_tuple (by decide +kernel) (pa_cons (pe_lock (pe_lc (own := [("key", 4), ("part", 5)]) (g := (gTup K 2 (gCons (gName 4) (gCons (gName 5) gNil)))) rfl sc_put.nd (pi_or (pi_items (pv 1)) (pi_itemsT (pv 1))) (blkOk_by (N := N_put) (sc := defScope s_put) (by decide +kernel)) (fun _ _ _ _ _ => (pg_tup (by rfl) (pgs_cons (pg_name (i := 4) sc_put.nd rfl (Or.inl rfl)) (pgs_cons (pg_name (i := 5) sc_put.nd rfl (Or.inl rfl)) pgs_nil)))) (fun _ _ _ _ _ => pts_nil) (fun _ _ _ _ _ => (pe_tup (pa_cons (pe_use U_put (hr.mono (by omega)) hg rfl (pa_cons (pv 0) (pa_cons (pv 4) pa_nil))) (pa_cons (pe_use U_put (hr.mono (by omega)) hg rfl (pa_cons (pv 0) (pa_cons (pv 5) pa_nil))) pa_nil)))))) pa_nil))))
   (pss_one (ps_set (i := 3) sc_put.nd rfl (Or.inl rfl) (pe_callTy call_tuple_of (by rfl) T.b_tuple (by decide +kernel) (pa_cons (pe_lc (own := [("part", 5)]) (g := (gName 5)) rfl sc_put.nd (pi_seq (pv 1)) (blkOk_by (N := N_put) (sc := defScope s_put) (by decide +kernel)) (fun _ _ _ _ _ => (pg_name (i := 5) sc_put.nd rfl (Or.inl rfl))) (fun _ _ _ _ _ => pts_nil) (fun _ _ _ _ _ => (pe_use U_put (hr.mono (by omega)) hg rfl (pa_cons (pv 0) (pa_cons (pv 5) pa_nil))))) pa_nil)))))
  (pss_cons (ps_expr (pe_bm PySem.F.plainAttrs_list PySem.F.slot_list_append PySem.F.type_list_append mt_append (pv 0) (pa_cons (pe_tup (pa_cons (pv 2) (pa_cons (pv 3) pa_nil))) pa_nil)))
  (pss_one (ps_ret (pe_tup (pa_cons pe_str (pa_cons (pe_op op_sub (pe_callB call_len (by rfl) T.b_len PySem.boot_len (pa_cons (pv 0) pa_nil)) pe_int) pa_nil)))))))))), ?_⟩
    refine ⟨_, rfl, v, kinD t, rfl, hv.ki, ?_⟩
    obtain ⟨zsh, eh, ah⟩ := L
    have i3 : [V.str "bool", V.str "int", V.str "text"] = (["bool", "int", "text"] : List Str).map V.str := rfl
    by_cases cn : t = .non
    · subst cn
      refine ⟨_, rfl, rfl, _, rfl, iteTb rfl ⟨sz_1, fun u hu => ?_⟩⟩
      exact k (.ref u) _ [] (.tuple [.str "none"]) (Same.keep (Same.new hu)) (by rw [List.append_nil]; exact ⟨zsh, Same.new hu _ _ eh, DtAll.mono (Same.new hu) ah⟩) (fun _ h => nomatch h) (Nat.zero_le _) (Dt.made hu (.cons (.str _) .nil)) ⟨Shp.tup (n := 0) (Shp.cons2 (Shp.str (by decide +kernel)) Shp.none2), [], rfl⟩
    have hkn : kinD t ≠ "none" := by cases t <;> first | exact absurd rfl cn | (simp only [kinD]; decide +kernel)
    refine ⟨_, rfl, rfl, _, rfl, iteFb (dec_ne hkn) ?_⟩
    by_cases cl : ∃ d, Dt K H v d ∧ Shp 0 d ∧ kinD t ∈ (["bool", "int", "text"] : List Str) ∧ hdS t = kinD t ∧ Shp 0 (.str (kinD t))
    · obtain ⟨d, hd, sd, hin, eh2, sk⟩ := cl
      refine ⟨_, rfl, sz_3, fun u hu => ⟨u, _, rfl, .inr (SqT.of upd_same), rfl, rfl, _, rfl, ?_⟩⟩
      rw [if_neg Bool.false_ne_true, i3, inV_strs, decide_eq_true hin]
      have S1 := Same.new (o := HO.tup ((["bool", "int", "text"] : List Str).map V.str)) hu
      generalize upd H u (.tup ((["bool", "int", "text"] : List Str).map V.str)) = H1 at S1
      refine iteTb rfl ⟨_, rfl, _, rfl, sz_2, fun q hq => ?_⟩
      have S2 := S1.trans (Same.new (o := HO.tup [.str (kinD t), v]) hq)
      exact k (.ref q) _ [] (.tuple [.str (kinD t), d]) (Same.keep S2) (by rw [List.append_nil]; exact ⟨zsh, S2 _ _ eh, DtAll.mono S2 ah⟩) (fun _ h => nomatch h) (Nat.zero_le _) (Dt.made hq (.cons (.str _) (.cons (hd.mono S1) .nil))) ⟨Shp.tup (n := 0) (Shp.cons2 sk (Shp.cons2 sd Shp.none2)), [d], by rw [eh2]⟩
    have hcont : contD kk t = true := by
      rw [okF] at hok
      cases hc : contD kk t with
      | true => rfl
      | false =>
        exfalso
        rw [hc, if_neg Bool.false_ne_true] at hok
        cases hv with
        | non => exact cn rfl
        | bl b => exact cl ⟨.bool b, .bl b, Shp.bool _ _, by show ("bool" : Str) ∈ _; decide +kernel, rfl, by show Shp 0 (.str "bool"); exact Shp.str (by decide +kernel)⟩
        | int b => exact cl ⟨.int b, .int b, Shp.int _ _, by show ("int" : Str) ∈ _; decide +kernel, rfl, by show Shp 0 (.str "int"); exact Shp.str (by decide +kernel)⟩
        | str z =>
          refine cl ⟨.str z, .str z, Shp.str ?_, by show ("text" : Str) ∈ _; decide +kernel, rfl, by show Shp 0 (.str "text"); exact Shp.str (by decide +kernel)⟩
          have hl : leafT z = true := hok
          rw [leafT, Bool.and_eq_true, List.all_eq_true] at hl
          rw [PyData.canLay0]
          exact Array.all_eq_true_iff_forall_mem.mpr fun c hc => by
            have h1 := of_decide_eq_true (hl.2 c (by simpa using hc))
            have h2 : ∀ c ∈ chStr.cps.toList, c < 55296 := by decide +kernel
            have := h2 c h1
            exact decide_eq_true (by omega)
        | lst => cases hok
        | tup => cases hc
        | dct => cases hok
        | dtk => cases hok
    have hok1 := hok
    rw [okF, if_pos hcont, List.all_eq_true] at hok1
    rw [cnF, if_pos hcont] at hb k
    have hk3 : kinD t = "tuple" ∨ kinD t = "list" ∨ kinD t = "dict" := by
      cases t <;> first | exact .inl rfl | exact .inr (.inl rfl) | exact .inr (.inr rfl) | cases hcont
    have href : hdS t = "ref" := by cases t <;> first | rfl | cases hcont
    have hkS : Shp 0 (.str (kinD t)) := by rcases hk3 with h | h | h <;> rw [h] <;> exact Shp.str (by decide +kernel)
    refine ⟨_, rfl, sz_3, fun u hu => ⟨u, _, rfl, .inr (SqT.of upd_same), rfl, rfl, _, rfl, ?_⟩⟩
    have hin : decide (kinD t ∈ (["bool", "int", "text"] : List Str)) = false := by rcases hk3 with h | h | h <;> rw [h] <;> decide +kernel
    rw [if_neg Bool.false_ne_true, i3, inV_strs, hin]
    refine iteFb rfl ?_
    have S1 := Same.new (o := HO.tup ((["bool", "int", "text"] : List Str).map V.str)) hu
    generalize upd H u (.tup ((["bool", "int", "text"] : List Str).map V.str)) = H1 at S1
    have hv1 := hv.mono S1
    have eh1 := S1 _ _ eh
    have ah1 := DtAll.mono S1 ah
    refine ⟨fun σ H2 => ∃ pt xs ps ds1, σ = [some (.ref hp), some v, some (.str (kinD t)), some (.ref pt), none, none] ∧ SqT K H2 pt xs ∧ DtAll K H2 xs ps ∧ (∀ d ∈ ps, Shp 2 d) ∧ ListAt K H2 hp (ds ++ ds1) ∧ RowsP ds1 ∧ ds1.length ≤ ((kidsD kk t).map fun p => cnF n p.2 p.1).sum ∧ Keep hp H1 H2, ?_, ?_⟩
    case refine_2 =>
      rintro _ H2 ⟨pt, xs, ps, ds1, rfl, ht, ax, sp, ⟨zs2, e2, a2⟩, r2, l2, K2⟩
      have lz := a2.length
      rw [List.length_append] at lz
      refine ⟨_, rfl, .inl ⟨rfl, _, SqL.of e2⟩, _, rfl, _, rfl, sz_2, fun q hq => ?_⟩
      have hqp : hp ≠ q := fun h => by rw [← h, e2] at hq; cases hq
      have S3 := Same.new (o := HO.tup [.str (kinD t), .ref pt]) hq
      have dq : Dt K (upd H2 q (.tup [.str (kinD t), .ref pt])) (.ref q) (.tuple [.str (kinD t), .tuple ps]) := Dt.made hq (.cons (.str _) (.cons (.tup ht ax) .nil))
      have e3 := S3 _ _ e2
      have a3 := DtAll.mono S3 a2
      generalize upd H2 q (.tup [.str (kinD t), .ref pt]) = H3 at S3 dq e3 a3
      refine ⟨hp, zs2, .ref q, rfl, rfl, e3, Nat.lt_of_le_of_lt (show zs2.length ≤ 100000 by omega) (by decide), ?_⟩
      have kt : KeepT K H3 (upd H3 hp (.lst (zs2 ++ [.ref q]))) := KeepT.upd e3
      have e4 := upd_same (H := H3) (a := hp) (o := HO.lst (zs2 ++ [.ref q]))
      have a4 : DtAll K (upd H3 hp (.lst (zs2 ++ [.ref q]))) (zs2 ++ [.ref q]) ((ds ++ ds1) ++ [.tuple [.str (kinD t), .tuple ps]]) := DtAll.app (a3.keepT kt) (.cons (dq.keepT kt) .nil)
      have K4 : Keep hp H2 (upd H3 hp (.lst (zs2 ++ [.ref q]))) := fun b o hb hne => by rw [upd_ne hne]; exact S3 _ _ hb
      generalize upd H3 hp (.lst (zs2 ++ [.ref q])) = H4 at e4 a4 K4
      refine ⟨_, rfl, _, _, rfl, .inl ⟨_, SqL.of e4, rfl⟩, _, _, rfl, rfl, sz_2, fun r hr => ?_⟩
      have S5 := Same.new (o := HO.tup [.str "ref", .int (((zs2 ++ [V.ref q]).length : Nat) - 1 : Int)]) hr
      refine k (.ref r) _ (ds1 ++ [.tuple [.str (kinD t), .tuple ps]]) (.tuple [.str "ref", .int (((zs2 ++ [V.ref q]).length : Nat) - 1 : Int)]) (((Same.keep S1).trans (K2.trans K4)).trans (Same.keep S5)) (by rw [← List.append_assoc]; exact ⟨_, S5 _ _ e4, DtAll.mono S5 a4⟩) (r2.app fun d hd => ?_) (by rw [List.length_append]; simp only [List.length_singleton]; omega) (Dt.made hr (.cons (.str _) (.cons (.int _) .nil))) ⟨Shp.tup (n := 0) (Shp.cons2 (Shp.str (by decide +kernel)) (Shp.cons2 (Shp.int _ _) Shp.none2)), _, by rw [href]⟩
      obtain rfl := List.mem_singleton.mp hd
      exact Shp.tup (n := 3) (Shp.cons2 (hkS.mono (by omega)) (Shp.cons2 (Shp.tup (n := 2) sp) Shp.none2))
    case refine_1 =>
      cases hv1 with
      | non => cases hcont
      | bl _ => cases hcont
      | int _ => cases hcont
      | str _ => cases hcont
      | @tup _ p xs ts hs ha =>
        have la := ha.length
        have lts : ts.length ≤ 1000 := by cases hz; assumption
        have hsz : ∀ t ∈ ts, Sz t := by cases hz; assumption
        refine ⟨_, rfl, rfl, _, rfl, iteFb (dec_ne (show ("tuple" : Str) ≠ "dict" by decide +kernel)) ?_⟩
        refine .inr ⟨_, rfl, p, rfl, ⟨xs, hs⟩, fun D hD => ?_⟩
        have hDh : D ≠ hp := fun h => by rw [h, eh1] at hD; cases hD
        refine lc_it (walk_tup (xs := xs)) (fun i H' => ∃ acc ps ds1, H' D = some (.lst acc) ∧ DtAll K H' acc ps ∧ ps.length = i ∧ (∀ d ∈ ps, Shp 2 d) ∧ ListAt K H' hp (ds ++ ds1) ∧ RowsP ds1 ∧ ds1.length ≤ ((ts.take i).map fun t => cnF n kk t).sum ∧ Keep hp H1 H') ⟨[], [], [], upd_same, .nil, rfl, (fun _ h => nomatch h), by rw [List.append_nil]; exact ⟨zsh, Same.new hD _ _ eh1, DtAll.mono (Same.new hD) ah1⟩, (fun _ h => nomatch h), Nat.zero_le _, Same.keep (Same.new hD)⟩ (fun _ _ _ ⟨_, _, _, _, _, _, _, _, _, _, h⟩ => Keep.keepT h ⟨_, eh1⟩ _ _ hs) ?_ ?_
        · rintro i x H4 H5 hi ⟨acc, ps, ds1, e4, a4, l4, s4, L4, r4, n4, K4⟩ ⟨rfl, hx⟩
          refine ⟨rfl, ?_⟩
          unfold tYes
          refine iteTb rfl ?_
          have kt4 := Keep.keepT (K := K) K4 ⟨_, eh1⟩
          obtain ⟨tx, htx, hdx⟩ := ha.getV hx
          have hmx := List.mem_of_getElem? htx
          have hin : (tx, kk) ∈ kidsD kk (HD.tup ts) := List.mem_map_of_mem (f := fun t => (t, kk)) hmx
          have hsum : ((ts.take (i + 1)).map fun t => cnF n kk t).sum = ((ts.take i).map fun t => cnF n kk t).sum + cnF n kk tx := by rw [List.take_succ, htx]; simp
          have htot : ((ts.take (i + 1)).map fun t => cnF n kk t).sum ≤ ((kidsD kk (HD.tup ts)).map fun p => cnF n p.2 p.1).sum := by
            show _ ≤ ((ts.map _).map _).sum
            rw [List.map_map]
            exact take_sum_le _ _ _
          refine ⟨_, rfl, _, rfl, hp, x, ds ++ ds1, tx, N, kk, rfl, L4, hdx.up kt4 (fun a u ha e => K4 _ _ e fun h => hN (h ▸ ha)) (fun _ _ h _ => h), hN, hok1 _ hin, hsz _ hmx, by rw [List.length_append]; omega, fun v' H6 ds' dv K6 L6 R6 l6 d6 p6 => ?_⟩
          have kt6 := Keep.keepT (K := K) K6 ⟨_, L4.choose_spec.1⟩
          have e6 := K6 _ _ e4 hDh
          have l4' := a4.length
          refine ⟨acc, e6, Nat.lt_of_le_of_lt (show acc.length ≤ 1000 by omega) (by decide), acc ++ [v'], ps ++ [dv], ds1 ++ ds', upd_same, ?_, by rw [List.length_append, l4]; rfl, ?_, ?_, r4.app R6, by rw [List.length_append, hsum]; omega, fun b o hb hne => by rw [upd_ne (ne_of_none hb hD)]; exact K6 _ _ (K4 _ _ hb hne) hne⟩
          · exact DtAll.keepT (KeepT.upd e6) (DtAll.app (a4.keepT kt6) (.cons d6 .nil))
          · intro d hd
            rcases List.mem_append.mp hd with hd | hd
            · exact s4 d hd
            · obtain rfl := List.mem_singleton.mp hd
              exact p6.1.mono (by omega)
          · rw [← List.append_assoc]
            obtain ⟨ys, ey, ay⟩ := L6
            exact ⟨ys, by rw [upd_ne hDh.symm]; exact ey, ay.keepT (KeepT.upd e6)⟩
        · rintro H4 ⟨acc, ps, ds1, e4, a4, l4, s4, L4, r4, n4, K4⟩
          refine ⟨D, _, rfl, .inl ⟨SqL.of e4, fun l hl => ?_⟩⟩
          refine ⟨l, acc, ps, ds1, rfl, SqT.of upd_same, DtAll.mono (Same.new hl) a4, s4, listAt_mono L4 (Same.new hl), r4, ?_, K4.trans (Same.keep (Same.new hl))⟩
          refine Nat.le_trans n4 ?_
          show _ ≤ ((ts.map _).map _).sum
          rw [List.map_map]
          exact take_sum_le _ _ _
      | @lst _ p xs ts h1 h2 ha =>
        have la := ha.length
        have lts : ts.length ≤ 1000 := by cases hz; assumption
        have hsz : ∀ t ∈ ts, Sz t := by cases hz; assumption
        have hph : p ≠ hp := fun h => hN (h ▸ h2)
        refine ⟨_, rfl, rfl, _, rfl, iteFb (dec_ne (show ("list" : Str) ≠ "dict" by decide +kernel)) ?_⟩
        refine .inl ⟨_, rfl, p, rfl, ⟨xs, SqL.of h1⟩, fun D hD => ?_⟩
        have hDh : D ≠ hp := fun h => by rw [h, eh1] at hD; cases hD
        refine lc_it (walk_list (xs := xs)) (fun i H' => ∃ acc ps ds1, H' D = some (.lst acc) ∧ DtAll K H' acc ps ∧ ps.length = i ∧ (∀ d ∈ ps, Shp 2 d) ∧ ListAt K H' hp (ds ++ ds1) ∧ RowsP ds1 ∧ ds1.length ≤ ((ts.take i).map fun t => cnF n kk t).sum ∧ Keep hp H1 H') ⟨[], [], [], upd_same, .nil, rfl, (fun _ h => nomatch h), by rw [List.append_nil]; exact ⟨zsh, Same.new hD _ _ eh1, DtAll.mono (Same.new hD) ah1⟩, (fun _ h => nomatch h), Nat.zero_le _, Same.keep (Same.new hD)⟩ (fun _ _ _ ⟨_, _, _, _, _, _, _, _, _, _, h⟩ => SqL.of (h _ _ h1 hph)) ?_ ?_
        · rintro i x H4 H5 hi ⟨acc, ps, ds1, e4, a4, l4, s4, L4, r4, n4, K4⟩ ⟨rfl, hx⟩
          refine ⟨rfl, ?_⟩
          unfold tYes
          refine iteTb rfl ?_
          have kt4 := Keep.keepT (K := K) K4 ⟨_, eh1⟩
          obtain ⟨tx, htx, hdx⟩ := ha.getV hx
          have hmx := List.mem_of_getElem? htx
          have hin : (tx, kk) ∈ kidsD kk (HD.lst ts) := List.mem_map_of_mem (f := fun t => (t, kk)) hmx
          have hsum : ((ts.take (i + 1)).map fun t => cnF n kk t).sum = ((ts.take i).map fun t => cnF n kk t).sum + cnF n kk tx := by rw [List.take_succ, htx]; simp
          have htot : ((ts.take (i + 1)).map fun t => cnF n kk t).sum ≤ ((kidsD kk (HD.lst ts)).map fun p => cnF n p.2 p.1).sum := by
            show _ ≤ ((ts.map _).map _).sum
            rw [List.map_map]
            exact take_sum_le _ _ _
          refine ⟨_, rfl, _, rfl, hp, x, ds ++ ds1, tx, N, kk, rfl, L4, hdx.up kt4 (fun a u ha e => K4 _ _ e fun h => hN (h ▸ ha)) (fun _ _ h _ => h), hN, hok1 _ hin, hsz _ hmx, by rw [List.length_append]; omega, fun v' H6 ds' dv K6 L6 R6 l6 d6 p6 => ?_⟩
          have kt6 := Keep.keepT (K := K) K6 ⟨_, L4.choose_spec.1⟩
          have e6 := K6 _ _ e4 hDh
          have l4' := a4.length
          refine ⟨acc, e6, Nat.lt_of_le_of_lt (show acc.length ≤ 1000 by omega) (by decide), acc ++ [v'], ps ++ [dv], ds1 ++ ds', upd_same, ?_, by rw [List.length_append, l4]; rfl, ?_, ?_, r4.app R6, by rw [List.length_append, hsum]; omega, fun b o hb hne => by rw [upd_ne (ne_of_none hb hD)]; exact K6 _ _ (K4 _ _ hb hne) hne⟩
          · exact DtAll.keepT (KeepT.upd e6) (DtAll.app (a4.keepT kt6) (.cons d6 .nil))
          · intro d hd
            rcases List.mem_append.mp hd with hd | hd
            · exact s4 d hd
            · obtain rfl := List.mem_singleton.mp hd
              exact p6.1.mono (by omega)
          · rw [← List.append_assoc]
            obtain ⟨ys, ey, ay⟩ := L6
            exact ⟨ys, by rw [upd_ne hDh.symm]; exact ey, ay.keepT (KeepT.upd e6)⟩
        · rintro H4 ⟨acc, ps, ds1, e4, a4, l4, s4, L4, r4, n4, K4⟩
          refine ⟨D, _, rfl, .inl ⟨SqL.of e4, fun l hl => ?_⟩⟩
          refine ⟨l, acc, ps, ds1, rfl, SqT.of upd_same, DtAll.mono (Same.new hl) a4, s4, listAt_mono L4 (Same.new hl), r4, ?_, K4.trans (Same.keep (Same.new hl))⟩
          refine Nat.le_trans n4 ?_
          show _ ≤ ((ts.map _).map _).sum
          rw [List.map_map]
          exact take_sum_le _ _ _
      | @dct _ p kvs ks ts h1 h2 h3 h4 ha =>
        have la := ha.length
        rw [List.length_map] at la
        have lts : ts.length ≤ 1000 := by cases hz; assumption
        have hszk : ∀ k ∈ ks, Sz (keyHD k) := by cases hz; assumption
        have hszv : ∀ t ∈ ts, Sz t := by cases hz; assumption
        have lks : kvs.length = ks.length := by rw [← h3, List.length_map]
        have htotE : ((kidsD kk (HD.dct ks ts)).map fun p => cnF n p.2 p.1).sum = (ks.map fun k => cnF n true (keyHD k)).sum + (ts.map fun t => cnF n false t).sum := by
          show ((ks.map _ ++ ts.map _).map _).sum = _
          rw [List.map_append, List.sum_append, List.map_map, List.map_map]
          rfl
        rw [htotE] at hb
        have hph : p ≠ hp := fun h => hN (h ▸ h2)
        refine ⟨_, rfl, rfl, _, rfl, iteTb (decide_eq_true rfl) ?_⟩
        refine ⟨p, .dK kvs, h1, trivial, fun od => ?_⟩
        refine .inl ⟨_, rfl, p, od, kvs, rfl, upd_same, fun D hD => ?_⟩
        have ktL : KeepT K H1 (upd H1 p (.frz od (.dK kvs))) := keepT_dK h1
        have LL : ListAt K (upd H1 p (.frz od (.dK kvs))) hp ds := ⟨zsh, by rw [upd_ne hph.symm]; exact eh1, ah1.keepT ktL⟩
        have hdl : ∀ b o, b ≠ p → H1 b = some o → (upd H1 p (.frz od (.dK kvs))) b = some o := fun b o hb h => by rw [upd_ne hb]; exact h
        have hLp := upd_same (H := H1) (a := p) (o := HO.frz od (.dK kvs))
        generalize hHL : upd H1 p (.frz od (.dK kvs)) = HL at ktL LL hD hdl hLp
        have hDh : D ≠ hp := fun h => by rw [h, LL.choose_spec.1] at hD; cases hD
        have hDp : D ≠ p := fun h => by rw [h, hLp] at hD; cases hD
        refine lc_it (walk_items (d := p) (o := od) (kvs := kvs)) (fun i H' => ∃ acc ps ds1, H' D = some (.lst acc) ∧ DtAll K H' acc ps ∧ ps.length = i ∧ (∀ d ∈ ps, Shp 2 d) ∧ ListAt K H' hp (ds ++ ds1) ∧ RowsP ds1 ∧ ds1.length ≤ ((ks.take i).map fun k => cnF n true (keyHD k)).sum + ((ts.take i).map fun t => cnF n false t).sum ∧ Keep hp HL H') ⟨[], [], [], upd_same, .nil, rfl, (fun _ h => nomatch h), by rw [List.append_nil]; exact listAt_mono LL (Same.new hD), (fun _ h => nomatch h), Nat.zero_le _, Same.keep (Same.new hD)⟩ (fun _ _ _ ⟨_, _, _, _, _, _, _, _, _, _, h⟩ => h _ _ hLp hph) ?_ ?_
        · rintro i x H4 H5 hi ⟨acc, ps, ds1, e4, a4, l4, s4, L4, r4, n4, K4⟩ ⟨T, xk, xv, rfl, hT, rfl, gk, gv⟩
          obtain ⟨⟨key, val⟩, hx, rfl⟩ := Option.map_eq_some_iff.mp gk
          have gv : Option.map Prod.snd kvs[i]? = some xv := gv
          rw [hx] at gv
          cases gv
          have S5 := Same.new (o := HO.tup [kV key, val]) hT
          have eT := upd_same (H := H4) (a := T) (o := HO.tup [kV key, val])
          refine ⟨T, _, rfl, SqT.of eT, rfl, _, _, rfl, _, _, rfl, rfl, rfl, ?_⟩
          unfold tYes
          refine iteTb rfl ?_
          generalize upd H4 T (.tup [kV key, val]) = H5 at S5 eT
          have hkey : Hd K H5 (fun _ => False) (kV key) (keyHD key) := hd_key key
          have hks : ks[i]? = some key := by rw [← h3, List.getElem?_map, hx]; rfl
          obtain ⟨tx, htx, hdx⟩ := ha.getV (i := i) (v := val) (by rw [List.getElem?_map, hx]; rfl)
          have hin1 : (keyHD key, true) ∈ kidsD kk (HD.dct ks ts) := List.mem_append_left _ (List.mem_map_of_mem (f := fun x => (keyHD x, true)) (List.mem_of_getElem? hks))
          have hin2 : (tx, false) ∈ kidsD kk (HD.dct ks ts) := List.mem_append_right _ (List.mem_map_of_mem (f := fun t => (t, false)) (List.mem_of_getElem? htx))
          have szk := hszk _ (List.mem_of_getElem? hks)
          have szv := hszv _ (List.mem_of_getElem? htx)
          have hs1 : ((ks.take (i + 1)).map fun k => cnF n true (keyHD k)).sum = ((ks.take i).map fun k => cnF n true (keyHD k)).sum + cnF n true (keyHD key) := by rw [List.take_succ, hks]; simp
          have hs2 : ((ts.take (i + 1)).map fun t => cnF n false t).sum = ((ts.take i).map fun t => cnF n false t).sum + cnF n false tx := by rw [List.take_succ, htx]; simp
          have ht1 := take_sum_le (fun k => cnF n true (keyHD k)) ks (i + 1)
          have ht2 := take_sum_le (fun t => cnF n false t) ts (i + 1)
          refine ⟨_, rfl, _, rfl, hp, (kV key), ds ++ ds1, (keyHD key), fun _ => False, true, rfl, listAt_mono L4 S5, hkey, fun h => h, hok1 _ hin1, szk, by rw [List.length_append]; omega, fun v1 H6 ds2 dv1 K6 L6 R6 l6 d6 p6 => ?_⟩
          have K46 : Keep hp HL H6 := (K4.trans (Same.keep S5)).trans K6
          have ktH6 : KeepT K H1 H6 := ktL.trans (Keep.keepT K46 ⟨_, LL.choose_spec.1⟩)
          refine ⟨_, rfl, _, rfl, hp, val, (ds ++ ds1) ++ ds2, tx, fun b => N b ∧ b ≠ p, false, rfl, L6, hdx.up ktH6 (fun a u ha e => K46 _ _ (hdl _ _ ha.2 e) fun h => hN (h ▸ ha.1)) (fun _ _ h _ => h), fun h => hN h.1, hok1 _ hin2, szv, by rw [List.length_append, List.length_append]; omega, fun v2 H7 ds3 dv2 K7 L7 R7 l7 d7 p7 => ?_⟩
          have kt6 := Keep.keepT (K := K) (K6) ⟨_, S5 _ _ L4.choose_spec.1⟩
          have kt7 := Keep.keepT (K := K) K7 ⟨_, L6.choose_spec.1⟩
          have e7 := K7 _ _ (K6 _ _ (S5 _ _ e4) hDh) hDh
          have a7 := ((DtAll.mono S5 a4).keepT kt6).keepT kt7
          have d67 := d6.keepT kt7
          refine ⟨sz_2, fun q2 hq2 => ?_⟩
          have S8 := Same.new (o := HO.tup [v1, v2]) hq2
          have d8 : Dt K (upd H7 q2 (.tup [v1, v2])) (.ref q2) (.tuple [dv1, dv2]) := Dt.made hq2 (.cons d67 (.cons d7 .nil))
          have e8 := S8 _ _ e7
          have a8 := DtAll.mono S8 a7
          have L8 := listAt_mono L7 S8
          have K8 : Keep hp HL (upd H7 q2 (.tup [v1, v2])) := (K46.trans K7).trans (Same.keep S8)
          generalize upd H7 q2 (.tup [v1, v2]) = H8 at S8 d8 e8 a8 L8 K8
          have l4' := a4.length
          refine ⟨acc, e8, Nat.lt_of_le_of_lt (show acc.length ≤ 1000 by omega) (by decide), acc ++ [.ref q2], ps ++ [.tuple [dv1, dv2]], ds1 ++ (ds2 ++ ds3), upd_same, ?_, by rw [List.length_append, l4]; rfl, ?_, ?_, r4.app (R6.app R7), by rw [List.length_append, List.length_append, hs1, hs2]; omega, fun b o hb hne => by rw [upd_ne (ne_of_none hb hD)]; exact K8 _ _ hb hne⟩
          · exact DtAll.keepT (KeepT.upd e8) (DtAll.app a8 (.cons d8 .nil))
          · intro d hd
            rcases List.mem_append.mp hd with hd | hd
            · exact s4 d hd
            · obtain rfl := List.mem_singleton.mp hd
              exact Shp.tup (n := 1) (Shp.cons2 p6.1 (Shp.cons2 p7.1 Shp.none2))
          · rw [← List.append_assoc, ← List.append_assoc]
            obtain ⟨ys, ey, ay⟩ := L8
            exact ⟨ys, by rw [upd_ne hDh.symm]; exact ey, ay.keepT (KeepT.upd e8)⟩
        · rintro H4 ⟨acc, ps, ds1, e4, a4, l4, s4, L4, r4, n4, K4⟩
          have e := K4 _ _ hLp hph
          refine ⟨e, ?_⟩
          have ktO : KeepT K H4 (upd H4 p (.dK kvs)) := keepT_fz e fun z h => nomatch h
          have KO : Keep hp H1 (upd H4 p (.dK kvs)) := fun b o hb hne => by
            by_cases c : b = p
            · subst c; rw [h1] at hb; rw [upd_same, hb]
            · rw [upd_ne c]; exact K4 _ _ (hdl _ _ c hb) hne
          have eD : (upd H4 p (.dK kvs)) D = some (.lst acc) := by rw [upd_ne hDp]; exact e4
          have aD := a4.keepT ktO
          have LO : ListAt K (upd H4 p (.dK kvs)) hp (ds ++ ds1) := by
            obtain ⟨ys, ey, ay⟩ := L4
            exact ⟨ys, by rw [upd_ne hph.symm]; exact ey, ay.keepT ktO⟩
          generalize upd H4 p (.dK kvs) = H5 at KO eD aD LO
          refine ⟨D, _, rfl, .inl ⟨SqL.of eD, fun l hl => ?_⟩⟩
          refine ⟨l, acc, ps, ds1, rfl, SqT.of upd_same, DtAll.mono (Same.new hl) aD, s4, listAt_mono LO (Same.new hl), r4, ?_, KO.trans (Same.keep (Same.new hl))⟩
          rw [htotE]
          have ht1 := take_sum_le (fun k => cnF n true (keyHD k)) ks kvs.length
          have ht2 := take_sum_le (fun t => cnF n false t) ts kvs.length
          omega
      | @dtk _ p ks wv tv h1 h2 hw =>
        have lks : ks.length ≤ 1000 := by cases hz; assumption
        have hszk : ∀ k ∈ ks, Sz (keyHD k) := by cases hz; assumption
        have hszv : Sz tv := by cases hz; assumption
        have htotE : ((kidsD kk (HD.dtk ks tv)).map fun p => cnF n p.2 p.1).sum = cnF n true (.tup (ks.map keyHD)) + cnF n false tv := by simp [kidsD]
        rw [htotE] at hb
        have hph : p ≠ hp := fun h => hN (h ▸ h2)
        refine ⟨_, rfl, rfl, _, rfl, iteTb (decide_eq_true rfl) ?_⟩
        refine ⟨p, .dT [(ks, wv)], h1, trivial, fun od => ?_⟩
        refine .inr ⟨_, rfl, p, od, [(ks, wv)], rfl, upd_same, fun D hD => ?_⟩
        have ktL : KeepT K H1 (upd H1 p (.frz od (.dT [(ks, wv)]))) := keepT_dT h1
        have LL : ListAt K (upd H1 p (.frz od (.dT [(ks, wv)]))) hp ds := ⟨zsh, by rw [upd_ne hph.symm]; exact eh1, ah1.keepT ktL⟩
        have hdl : ∀ b o, b ≠ p → H1 b = some o → (upd H1 p (.frz od (.dT [(ks, wv)]))) b = some o := fun b o hb h => by rw [upd_ne hb]; exact h
        have hLp := upd_same (H := H1) (a := p) (o := HO.frz od (.dT [(ks, wv)]))
        generalize hHL : upd H1 p (.frz od (.dT [(ks, wv)])) = HL at ktL LL hD hdl hLp
        have hDh : D ≠ hp := fun h => by rw [h, LL.choose_spec.1] at hD; cases hD
        have hDp : D ≠ p := fun h => by rw [h, hLp] at hD; cases hD
        refine lc_it (walk_itemsT (d := p) (o := od) (kvs := [(ks, wv)])) (fun i H' => ∃ acc ps ds1, H' D = some (.lst acc) ∧ DtAll K H' acc ps ∧ ps.length = i ∧ (∀ d ∈ ps, Shp 2 d) ∧ ListAt K H' hp (ds ++ ds1) ∧ RowsP ds1 ∧ ds1.length ≤ i * (cnF n true (.tup (ks.map keyHD)) + cnF n false tv) ∧ Keep hp HL H') ⟨[], [], [], upd_same, .nil, rfl, (fun _ h => nomatch h), by rw [List.append_nil]; exact listAt_mono LL (Same.new hD), (fun _ h => nomatch h), Nat.zero_le _, Same.keep (Same.new hD)⟩ (fun _ _ _ ⟨_, _, _, _, _, _, _, _, _, _, h⟩ => h _ _ hLp hph) ?_ ?_
        · rintro i x H4 H5 hi ⟨acc, ps, ds1, e4, a4, l4, s4, L4, r4, n4, K4⟩ ⟨T, k0, q, v0, hx, rfl, hT, hq, rfl⟩
          have hi0 : i < 1 := hi
          obtain rfl : i = 0 := by omega
          cases hx
          have S5 := Same.new (o := HO.tup [.ref q, wv]) hT
          have eT := upd_same (H := H4) (a := T) (o := HO.tup [.ref q, wv])
          refine ⟨T, _, rfl, SqT.of eT, rfl, _, _, rfl, _, _, rfl, rfl, rfl, ?_⟩
          unfold tYes
          refine iteTb rfl ?_
          have hq5 := S5 _ _ hq
          generalize upd H4 T (.tup [.ref q, wv]) = H5 at S5 eT hq5
          have hkey : Hd K H5 (fun _ => False) (.ref q) (.tup (ks.map keyHD)) := .tup (SqT.of hq5) (hd_keys ks)
          have hin1 : (HD.tup (ks.map keyHD), true) ∈ kidsD kk (HD.dtk ks tv) := List.mem_cons_self ..
          have hin2 : (tv, false) ∈ kidsD kk (HD.dtk ks tv) := List.mem_cons_of_mem _ (List.mem_cons_self ..)
          have hdx := hw
          have szk : Sz (.tup (ks.map keyHD)) := sz_keys lks hszk
          have szv := hszv
          refine ⟨_, rfl, _, rfl, hp, (.ref q), ds ++ ds1, (HD.tup (ks.map keyHD)), fun _ => False, true, rfl, listAt_mono L4 S5, hkey, fun h => h, hok1 _ hin1, szk, by rw [List.length_append]; omega, fun v1 H6 ds2 dv1 K6 L6 R6 l6 d6 p6 => ?_⟩
          have K46 : Keep hp HL H6 := (K4.trans (Same.keep S5)).trans K6
          have ktH6 : KeepT K H1 H6 := ktL.trans (Keep.keepT K46 ⟨_, LL.choose_spec.1⟩)
          refine ⟨_, rfl, _, rfl, hp, wv, (ds ++ ds1) ++ ds2, tv, fun b => N b ∧ b ≠ p, false, rfl, L6, hdx.up ktH6 (fun a u ha e => K46 _ _ (hdl _ _ ha.2 e) fun h => hN (h ▸ ha.1)) (fun _ _ h _ => h), fun h => hN h.1, hok1 _ hin2, szv, by rw [List.length_append, List.length_append]; omega, fun v2 H7 ds3 dv2 K7 L7 R7 l7 d7 p7 => ?_⟩
          have kt6 := Keep.keepT (K := K) (K6) ⟨_, S5 _ _ L4.choose_spec.1⟩
          have kt7 := Keep.keepT (K := K) K7 ⟨_, L6.choose_spec.1⟩
          have e7 := K7 _ _ (K6 _ _ (S5 _ _ e4) hDh) hDh
          have a7 := ((DtAll.mono S5 a4).keepT kt6).keepT kt7
          have d67 := d6.keepT kt7
          refine ⟨sz_2, fun q2 hq2 => ?_⟩
          have S8 := Same.new (o := HO.tup [v1, v2]) hq2
          have d8 : Dt K (upd H7 q2 (.tup [v1, v2])) (.ref q2) (.tuple [dv1, dv2]) := Dt.made hq2 (.cons d67 (.cons d7 .nil))
          have e8 := S8 _ _ e7
          have a8 := DtAll.mono S8 a7
          have L8 := listAt_mono L7 S8
          have K8 : Keep hp HL (upd H7 q2 (.tup [v1, v2])) := (K46.trans K7).trans (Same.keep S8)
          generalize upd H7 q2 (.tup [v1, v2]) = H8 at S8 d8 e8 a8 L8 K8
          have l4' := a4.length
          refine ⟨acc, e8, Nat.lt_of_le_of_lt (show acc.length ≤ 1000 by omega) (by decide), acc ++ [.ref q2], ps ++ [.tuple [dv1, dv2]], ds1 ++ (ds2 ++ ds3), upd_same, ?_, by rw [List.length_append, l4]; rfl, ?_, ?_, r4.app (R6.app R7), by rw [List.length_append, List.length_append]; omega, fun b o hb hne => by rw [upd_ne (ne_of_none hb hD)]; exact K8 _ _ hb hne⟩
          · exact DtAll.keepT (KeepT.upd e8) (DtAll.app a8 (.cons d8 .nil))
          · intro d hd
            rcases List.mem_append.mp hd with hd | hd
            · exact s4 d hd
            · obtain rfl := List.mem_singleton.mp hd
              exact Shp.tup (n := 1) (Shp.cons2 p6.1 (Shp.cons2 p7.1 Shp.none2))
          · rw [← List.append_assoc, ← List.append_assoc]
            obtain ⟨ys, ey, ay⟩ := L8
            exact ⟨ys, by rw [upd_ne hDh.symm]; exact ey, ay.keepT (KeepT.upd e8)⟩
        · rintro H4 ⟨acc, ps, ds1, e4, a4, l4, s4, L4, r4, n4, K4⟩
          have e := K4 _ _ hLp hph
          refine ⟨e, ?_⟩
          have ktO : KeepT K H4 (upd H4 p (.dT [(ks, wv)])) := keepT_fz e fun z h => nomatch h
          have KO : Keep hp H1 (upd H4 p (.dT [(ks, wv)])) := fun b o hb hne => by
            by_cases c : b = p
            · subst c; rw [h1] at hb; rw [upd_same, hb]
            · rw [upd_ne c]; exact K4 _ _ (hdl _ _ c hb) hne
          have eD : (upd H4 p (.dT [(ks, wv)])) D = some (.lst acc) := by rw [upd_ne hDp]; exact e4
          have aD := a4.keepT ktO
          have LO : ListAt K (upd H4 p (.dT [(ks, wv)])) hp (ds ++ ds1) := by
            obtain ⟨ys, ey, ay⟩ := L4
            exact ⟨ys, by rw [upd_ne hph.symm]; exact ey, ay.keepT ktO⟩
          generalize upd H4 p (.dT [(ks, wv)]) = H5 at KO eD aD LO
          refine ⟨D, _, rfl, .inl ⟨SqL.of eD, fun l hl => ?_⟩⟩
          refine ⟨l, acc, ps, ds1, rfl, SqT.of upd_same, DtAll.mono (Same.new hl) aD, s4, listAt_mono LO (Same.new hl), r4, ?_, KO.trans (Same.keep (Same.new hl))⟩
          rw [htotE]
          have n5 : ds1.length ≤ 1 * (cnF n true (.tup (ks.map keyHD)) + cnF n false tv) := n4
          omega
end

section
--SPLIT
end
abbrev s_put_data : Stmt := top 14
abbrev N_put_data : List Str := ["heap", "data"]
abbrev P_put_data : List Str := ["heap", "data"]
theorem sc_put_data : FnScope N_put_data P_put_data (defScope s_put_data) := ⟨rfl, rfl, rfl, by decide +kernel, rfl, by decide +kernel, by decide +kernel⟩
abbrev s_law_refused : Stmt := top 26
abbrev N_law_refused : List Str := ["heap", "data", "e"]
abbrev P_law_refused : List Str := ["heap", "data"]
theorem sc_law_refused : FnScope N_law_refused P_law_refused (defScope s_law_refused) := ⟨rfl, rfl, rfl, by decide +kernel, rfl, by decide +kernel, by decide +kernel⟩
section
variable {P : Program} {w : World} {K : PySem.W.Frag} {mg : Str → Option Value} {base : Heap}
def gdD (t : HD) : Bool := okF 6 false t && decide (cnF 6 false t ≤ 1000)
def spPutD (K : PySem.W.Frag) (C : Addr) : Sp := fun vs H Q E => ∃ (hp : Addr) (v : V) (ds : List PyData) (t : HD) (N : Addr → Prop), vs = [.ref hp, v] ∧ ListAt K H hp ds ∧ Hd K H N v t ∧ ¬ N hp ∧ Sz t ∧ ds.length ≤ 50000 ∧
  (gdD t = true → ∀ (v' : V) (H' : Hp) (ds' : List PyData) (dv : PyData), Keep hp H H' → ListAt K H' hp (ds ++ ds') → RowsP ds' → ds'.length ≤ 1000 → Dt K H' v' dv → ValP t dv → Q v' H') ∧ (gdD t = false → ∀ H', Same H H' → E (.ref C) none H')
theorem ok_putD {CB B : Addr} {f : Addr} {fd : FuncData} (F : Fun K "put_data" "put_data" s_put_data f fd) (T : Txt K mg) (U_BadData : UseD0 K mg CB B) (U_is_data : Use P w K mg base CX0 "is_data" 2 P_is_data (spIsData K)) (U_put : Use P w K mg base CX0 "_put" 7 P_put (spPutH K 6)) : FnG P w K mg base (L2.CX P w) 8 f fd P_put_data (spPutD K CB) := by
  refine okG F sc_put_data (fun vs H Q E h => ?_) fun cdv A outer s H vs Q E hr hg h => ?_
  · obtain ⟨hp, v, ds, t, N, rfl, _⟩ := h
    rfl
  · obtain ⟨hp, v, ds, t, N, rfl, L, hv, hN, hz, hl, k, e⟩ := h
    refine ⟨_, (pss_cons (ps_if (pt_not (pt_val (pe_use U_is_data (hr.mono (by decide)) hg rfl (pa_cons (pv 1) pa_nil))))
   (pss_one (ps_raise0 U_BadData rfl (takes_of rfl rfl rfl rfl) rfl))
   pss_nil)
  (pss_one (ps_ret (pe_use U_put (hr.mono (by decide)) hg rfl (pa_cons (pv 0) (pa_cons (pv 1) pa_nil)))))), ?_⟩
    refine ⟨_, rfl, v, t, N, rfl, hv, hz, fun H1 S1 => ?_⟩
    refine ⟨_, rfl, ?_⟩
    show (if (!gdD t) = true then _ else _)
    cases hgd : gdD t with
    | false => exact iteTb rfl (e hgd H1 S1)
    | true =>
      have hg2 := hgd
      unfold gdD at hg2
      rw [Bool.and_eq_true] at hg2
      have hc := of_decide_eq_true hg2.2
      refine iteFb rfl ?_
      refine ⟨_, rfl, _, rfl, hp, v, ds, t, N, false, rfl, listAt_mono L S1, hv.mono S1, hN, hg2.1, hz, by omega, fun v' H' ds' dv K' L' R' l' d' p' => ?_⟩
      exact k hgd v' H' ds' dv ((Same.keep S1).trans K') L' R' (by omega) d' p'
def spLRef (K : PySem.W.Frag) : Sp := fun vs H Q _ => ∃ (hp : Addr) (v : V) (ds : List PyData) (t : HD) (N : Addr → Prop), vs = [.ref hp, v] ∧ ListAt K H hp ds ∧ Hd K H N v t ∧ ¬ N hp ∧ Sz t ∧ ds.length ≤ 50000 ∧ gdD t = false ∧ ∀ H', Same H H' → Q (.bl true) H'
theorem ok_lref {CB B : Addr} {f : Addr} {fd : FuncData} (F : Fun K "_law_refused" "_law_refused" s_law_refused f fd) (T : Txt K mg) (U_BadData : UseD0 K mg CB B) (U_BadNumbers : UseKin K mg "BadNumbers" CB false) (U_BadState : UseKin K mg "BadState" CB false) (U_Fault : UseKin K mg "Fault" CB false) (U_TooLong : UseKin K mg "TooLong" CB false)
    (U_put_data : Use P w K mg base (L2.CX P w) "put_data" 8 P_put_data (spPutD K CB)) : FnG P w K mg base CX0 9 f fd P_law_refused (spLRef K) := by
  refine okG0 F sc_law_refused (fun vs H Q E h => ?_) fun cdv A outer s H vs Q E hr hg h => ?_
  · obtain ⟨hp, v, ds, t, N, rfl, _⟩ := h
    rfl
  · obtain ⟨hp, v, ds, t, N, rfl, L, hv, hN, hz, hl, hgd, k⟩ := h
    obtain ⟨D_BadNumbers, m_BadNumbers, k_BadNumbers⟩ := U_BadNumbers.ex
    obtain ⟨D_BadState, m_BadState, k_BadState⟩ := U_BadState.ex
    obtain ⟨D_Fault, m_Fault, k_Fault⟩ := U_Fault.ex
    obtain ⟨D_TooLong, m_TooLong, k_TooLong⟩ := U_TooLong.ex
    refine ⟨_, (pss_cons (ps_try_as (i := 2) rfl rfl sc_law_refused.nd rfl rfl ⟨rfl, by decide, .inl U_BadData.mB⟩ takes0 (fun W pn xe tk po => (pss_one (ps_expr (pe_useS U_put_data (fun σ => passAt tk σ) (hr.mono (by decide)) hg rfl (pa_cons (pv 0) (pa_cons (pv 1) pa_nil)))))) (fun a oe cls d pn hz hf => (pss_cons (ps_if (PW.pt (pw_or (pt_val (pe_callB (call_isN U_BadData.isc hz hf : CallR _ _ (rIsN K CB a cls d)) (by rfl) T.b_isinstance (by decide +kernel) (pa_cons (pv 2) (pa_cons (pe_glob (v := .ref D_BadNumbers) (by rfl) m_BadNumbers rfl) pa_nil)))) (pw_or (pt_val (pe_callB (call_isN U_BadData.isc hz hf : CallR _ _ (rIsN K CB a cls d)) (by rfl) T.b_isinstance (by decide +kernel) (pa_cons (pv 2) (pa_cons (pe_glob (v := .ref D_BadState) (by rfl) m_BadState rfl) pa_nil)))) (pw_or (pt_val (pe_callB (call_isN U_BadData.isc hz hf : CallR _ _ (rIsN K CB a cls d)) (by rfl) T.b_isinstance (by decide +kernel) (pa_cons (pv 2) (pa_cons (pe_glob (v := .ref D_Fault) (by rfl) m_Fault rfl) pa_nil)))) (pw_or1 (pt_val (pe_callB (call_isN U_BadData.isc hz hf : CallR _ _ (rIsN K CB a cls d)) (by rfl) T.b_isinstance (by decide +kernel) (pa_cons (pv 2) (pa_cons (pe_glob (v := .ref D_TooLong) (by rfl) m_TooLong rfl) pa_nil)))))))))
   (pss_one (ps_ret pe_bl))
   pss_nil)
  (pss_one (ps_ret (pe_callB (call_isN U_BadData.isc hz hf : CallR _ _ (rIsN K CB a cls d)) (by rfl) T.b_isinstance (by decide +kernel) (pa_cons (pv 2) (pa_cons (pe_glob (v := .ref CB) (by rfl) U_BadData.mC rfl) pa_nil))))))))
  (pss_one (ps_ret pe_bl))), ?_⟩
    refine ⟨_, rfl, _, rfl, hp, v, ds, t, N, rfl, L, hv, hN, hz, hl, (fun h => by rw [hgd] at h; cases h), fun _ H1 S1 => ?_⟩
    refine ⟨true, U_BadData.exm, fun _ x hx => ?_, fun h => Bool.noConfusion h⟩
    refine ⟨_, rfl, rfl, rfl, _, .ref D_BadNumbers, false, rfl, fun u hu => hu, k_BadNumbers, _, rfl, iteFb rfl ?_⟩
    refine ⟨_, rfl, rfl, rfl, _, .ref D_BadState, false, rfl, fun u hu => hu, k_BadState, _, rfl, iteFb rfl ?_⟩
    refine ⟨_, rfl, rfl, rfl, _, .ref D_Fault, false, rfl, fun u hu => hu, k_Fault, _, rfl, iteFb rfl ?_⟩
    refine ⟨_, rfl, rfl, rfl, _, .ref D_TooLong, false, rfl, fun u hu => hu, k_TooLong, _, rfl, iteFb rfl ?_⟩
    exact ⟨_, rfl, rfl, rfl, _, .ref CB, true, rfl, fun u hu => hu, U_BadData.kit, k H1 S1⟩
end

section
--SPLIT
end
abbrev s_law_wrap : Stmt := top 24
abbrev N_law_wrap : List Str := ["box", "thing", "times", "k", "kind"]
abbrev P_law_wrap : List Str := ["box", "thing", "times"]
theorem sc_law_wrap : FnScope N_law_wrap P_law_wrap (defScope s_law_wrap) := ⟨rfl, rfl, rfl, by decide +kernel, rfl, by decide +kernel, by decide +kernel⟩
section
variable {P : Program} {w : World} {K : PySem.W.Frag} {mg : Str → Option Value} {base : Heap}
def wrap1 (k : Nat) (t : HD) : HD :=
  if k = 0 then .lst [t] else if k = 1 then .tup [.int 1, t] else if k = 2 then .dct [.inr "a", .inr "b"] [.int 1, t] else if k = 3 then .lst [.int 2, t, .non] else .dct [.inl 1] [t]
def wraps : List Nat → HD → HD
  | [], t => t
  | k :: r, t => wrap1 k (wraps r t)
theorem wrap1_c (k : Nat) (t : HD) : contD false (wrap1 k t) = true := by
  unfold wrap1; repeat' (split <;> try rfl)
theorem leaf_ab : leafT "a" = true ∧ leafT "b" = true := by decide +kernel
theorem ok_wrap1 {n : Nat} (k : Nat) (t : HD) : okF (n + 2) false (wrap1 k t) = okF (n + 1) false t := by
  have h1 : ∀ b i, i.natAbs < 2 ^ 256 → okF (n + 1) b (.int i) = true := fun b i h => by rw [okF, if_neg (by simp [contD])]; exact decide_eq_true h
  have h2 : ∀ b, okF (n + 1) b .non = true := fun b => by rw [okF, if_neg (by simp [contD])]; rfl
  have h3 : ∀ b z, leafT z = true → okF (n + 1) b (.str z) = true := fun b z h => by rw [okF, if_neg (by simp [contD])]; exact h
  have i1 := h1 true 1 (by decide +kernel)
  have i1' := h1 false 1 (by decide +kernel)
  have i2 := h1 false 2 (by decide +kernel)
  have sa := h3 true "a" leaf_ab.1
  have sb := h3 true "b" leaf_ab.2
  rw [okF, if_pos (wrap1_c k t)]
  unfold wrap1
  split
  · simp [kidsD]
  split
  · simp [kidsD, i1']
  split
  · simp [kidsD, keyHD, sa, sb, i1']
  split
  · simp [kidsD, i2, h2]
  · simp [kidsD, keyHD, i1]
theorem cn_wrap1 {n : Nat} (k : Nat) (t : HD) : cnF (n + 2) false (wrap1 k t) ≤ 4 + cnF (n + 1) false t := by
  have h1 : ∀ b i, cnF (n + 1) b (.int i) = 1 := fun b i => by rw [cnF, if_neg (by simp [contD])]
  have h2 : ∀ b, cnF (n + 1) b .non = 1 := fun b => by rw [cnF, if_neg (by simp [contD])]
  have h3 : ∀ b z, cnF (n + 1) b (.str z) = 1 := fun b z => by rw [cnF, if_neg (by simp [contD])]
  rw [cnF, if_pos (wrap1_c k t)]
  unfold wrap1
  split
  · simp [kidsD] <;> omega
  split
  · simp [kidsD, h1] <;> omega
  split
  · simp [kidsD, keyHD, h1, h3] <;> omega
  split
  · simp [kidsD, h1, h2] <;> omega
  · simp [kidsD, keyHD, h1] <;> omega
theorem ok_wraps {n : Nat} (t : HD) : ∀ ks : List Nat, okF (ks.length + (n + 1)) false (wraps ks t) = okF (n + 1) false t
  | [] => by rw [List.length_nil, Nat.zero_add]; rfl
  | k :: r => by
    rw [wraps, List.length_cons, show r.length + 1 + (n + 1) = (r.length + n) + 2 by omega, ok_wrap1, show r.length + n + 1 = r.length + (n + 1) by omega]
    exact ok_wraps t r
theorem cn_wraps {n : Nat} (t : HD) : ∀ ks : List Nat, cnF (ks.length + (n + 1)) false (wraps ks t) ≤ 4 * ks.length + cnF (n + 1) false t
  | [] => by rw [List.length_nil, Nat.zero_add]; show cnF (n + 1) false t ≤ _; omega
  | k :: r => by
    rw [wraps, List.length_cons, show r.length + 1 + (n + 1) = (r.length + n) + 2 by omega]
    have h1 := cn_wrap1 (n := r.length + n) k (wraps r t)
    have h2 := cn_wraps (n := n) t r
    rw [show r.length + (n + 1) = r.length + n + 1 by omega] at h2
    omega
theorem sz_wrap1 {k : Nat} {t : HD} (h : Sz t) : Sz (wrap1 k t) := by
  have hl : ∀ ts : List HD, ts.length ≤ 1000 → (∀ t ∈ ts, Sz t) → Sz (.lst ts) := fun _ a b => .lst a b
  have c : ∀ {t : HD} {ts : List HD}, Sz t → (∀ u ∈ ts, Sz u) → ∀ u ∈ t :: ts, Sz u := fun a b => List.forall_mem_cons.mpr ⟨a, b⟩
  have e : ∀ u ∈ ([] : List HD), Sz u := fun _ h => nomatch h
  unfold wrap1
  split
  · exact .lst (by simp) (c h e)
  split
  · exact .tup (by simp) (c (.int _) (c h e))
  split
  · refine .dct (by simp) (by simp) (fun k hk => ?_) (c (.int _) (c h e))
    rcases List.mem_cons.mp hk with rfl | hk
    · exact .str (by decide +kernel)
    · obtain rfl := List.mem_singleton.mp hk
      exact .str (by decide +kernel)
  split
  · exact .lst (by simp) (c (.int _) (c h (c .non e)))
  · refine .dct (by simp) (by simp) (fun k hk => ?_) (c h e)
    obtain rfl := List.mem_singleton.mp hk
    exact .int _
theorem sz_wraps {t : HD} (h : Sz t) : ∀ ks : List Nat, Sz (wraps ks t)
  | [] => h
  | _ :: r => sz_wrap1 (sz_wraps h r)
theorem hd_wrap1 (k : Nat) (t : HD) : hdS (wrap1 k t) = "ref" := by
  unfold wrap1; repeat' (split <;> try rfl)
def spWrap (K : PySem.W.Frag) : Sp := fun vs H Q _ => ∃ (bx dl : Addr) (v : V) (t : HD) (m : Nat), vs = [.ref bx, v, .int ((m : Nat) : Int)] ∧ BoxAt H bx dl ∧ Hd K H (fun a => a ≠ bx ∧ a ≠ dl) v t ∧ m ≤ 5 ∧
  ∀ (v' : V) (H' : Hp) (ks : List Nat), ks.length = m → BoxAt H' bx dl → Keep bx H H' → Hd K H' (fun a => a ≠ bx ∧ a ≠ dl) v' (wraps ks t) → Q v' H'
theorem ok_wrap {f : Addr} {fd : FuncData} (F : Fun K "_law_wrap" "_law_wrap" s_law_wrap f fd) (T : Txt K mg) (U_law_draw : Use P w K mg base CX0 "_law_draw" 1 P_law_draw (spDraw K)) : FnG P w K mg base CX0 2 f fd P_law_wrap (spWrap K) := by
  refine okG0 F sc_law_wrap (fun vs H Q E h => ?_) fun cdv A outer s H vs Q E hr hg h => ?_
  · obtain ⟨bx, dl, v, t, m, rfl, _⟩ := h
    rfl
  · obtain ⟨bx, dl, v, t, m, rfl, B, hv, hm, k⟩ := h
    refine ⟨_, (pss_cons (ps_for PassesOwn.never rfl (pi_range1 (by rfl) T.b_range (pa_cons (pv 2) pa_nil)) (pg_name (i := 3) sc_law_wrap.nd rfl (Or.inl rfl))
   (pss_cons (ps_set (i := 4) sc_law_wrap.nd rfl (Or.inl rfl) (pe_use U_law_draw (hr.mono (by decide)) hg rfl (pa_cons (pv 0) (pa_cons pe_int pa_nil))))
  (pss_one (ps_if (pt_cmpR op_eq (pv 4) pe_int (nomark _))
   (pss_one (ps_set (i := 1) sc_law_wrap.nd rfl (Or.inl rfl) (pe_lst (pa_cons (pv 1) pa_nil))))
   (pss_one (ps_if (pt_cmpR op_eq (pv 4) pe_int (nomark _))
   (pss_one (ps_set (i := 1) sc_law_wrap.nd rfl (Or.inl rfl) (pe_tup (pa_cons pe_int (pa_cons (pv 1) pa_nil)))))
   (pss_one (ps_if (pt_cmpR op_eq (pv 4) pe_int (nomark _))
   (pss_one (ps_set (i := 1) sc_law_wrap.nd rfl (Or.inl rfl) (pe_disp (pps_cons pe_str pe_int (pps_cons pe_str (pv 1) pps_nil)) rfl rfl (by intro z; cases z) (by decide))))
   (pss_one (ps_if (pt_cmpR op_eq (pv 4) pe_int (nomark _))
   (pss_one (ps_set (i := 1) sc_law_wrap.nd rfl (Or.inl rfl) (pe_lst (pa_cons pe_int (pa_cons (pv 1) (pa_cons pe_non pa_nil))))))
   (pss_one (ps_set (i := 1) sc_law_wrap.nd rfl (Or.inl rfl) (pe_disp (pps_cons pe_int (pv 1) pps_nil) rfl rfl (by intro z; cases z) (by decide))))))))))))))
  (pss_one (ps_ret (pv 1)))), ?_⟩
    refine ⟨_, rfl, m, rfl, by omega, by omega, ?_⟩
    rw [Int.toNat_natCast]
    refine for_range (lo := 0) (n := m) (fun i σ H4 => ∃ v4 x4 x5 ks, σ = [some (.ref bx), some v4, some (.int ((m : Nat) : Int)), x4, x5] ∧ ks.length = i ∧ BoxAt H4 bx dl ∧ Keep bx H H4 ∧ Hd K H4 (fun a => a ≠ bx ∧ a ≠ dl) v4 (wraps ks t)) ⟨v, none, none, [], rfl, rfl, B, Keep.refl _ _, hv⟩ ?_ ?_
    · rintro i σ H4 hi ⟨v4, x4, x5, ks, rfl, l4, B4, K4, h4⟩
      refine ⟨_, rfl, bx, dl, 5, rfl, B4, by decide, fun r H5 r0 r1 B5 K5 => ?_⟩
      obtain ⟨kd, rfl⟩ := Int.eq_ofNat_of_zero_le r0
      have h5 := h4.up (Keep.keepT (K := K) K5 B4.at_) (fun a u ha e => K5 _ _ e ha.1) (fun _ _ h _ => h)
      have K45 := K4.trans K5
      clear h4 B4 K5 K4
      have wk : ∀ {p : Addr}, H5 p = none → Hd K H5 (fun b => (b ≠ bx ∧ b ≠ dl) ∧ b ≠ p) v4 (wraps ks t) := fun hp => h5.wk fun a u h e => ⟨h, ne_of_none e hp⟩
      have fin : ∀ (σ : L2.St) (p : Addr) (o : HO) (x4 x5 : Option V), H5 p = none → σ = [some (.ref bx), some (.ref p), some (.int ((m : Nat) : Int)), x4, x5] → Hd K (upd H5 p o) (fun a => a ≠ bx ∧ a ≠ dl) (.ref p) (wrap1 kd (wraps ks t)) →
          ∃ v4 x4 x5 ks, σ = [some (.ref bx), some v4, some (.int ((m : Nat) : Int)), x4, x5] ∧ ks.length = i + 1 ∧ BoxAt (upd H5 p o) bx dl ∧ Keep bx H (upd H5 p o) ∧ Hd K (upd H5 p o) (fun a => a ≠ bx ∧ a ≠ dl) v4 (wraps ks t) := fun σ p o x4 x5 hp e h =>
        ⟨.ref p, x4, x5, kd :: ks, e, by rw [List.length_cons, l4], B5.same (Same.new hp), K45.trans (Same.keep (Same.new hp)), h⟩
      have upS : ∀ {N : Addr → Prop} {p : Addr} {o : HO}, H5 p = none → Hd K H5 N v4 (wraps ks t) → Hd K (upd H5 p o) N v4 (wraps ks t) := fun hp h => h.mono (Same.new hp)
      refine ⟨_, rfl, rfl, _, rfl, ?_⟩
      refine ite3 (fun c => ?_) fun c => ?_
      · have hk : (kd : Int) = 0 := V.int.inj (of_decide_eq_true c)
        obtain rfl : kd = 0 := by omega
        refine ⟨_, rfl, sz_1, fun p hp => fin _ p _ _ _ hp rfl ?_⟩
        exact .lst upd_same (B5.ne_new hp) (.cons (upS hp h5) .nil)
      have n0 : kd ≠ 0 := fun h => of_decide_eq_false c (by rw [h]; rfl)
      refine ⟨_, rfl, rfl, _, rfl, ?_⟩
      refine ite3 (fun c => ?_) fun c => ?_
      · have hk : (kd : Int) = 1 := V.int.inj (of_decide_eq_true c)
        obtain rfl : kd = 1 := by omega
        refine ⟨_, rfl, sz_2, fun p hp => fin _ p _ _ _ hp rfl ?_⟩
        exact .tup (SqT.of upd_same) (.cons (.int 1) (.cons (upS hp h5) .nil))
      have n1 : kd ≠ 1 := fun h => of_decide_eq_false c (by rw [h]; rfl)
      refine ⟨_, rfl, rfl, _, rfl, ?_⟩
      refine ite3 (fun c => ?_) fun c => ?_
      · have hk : (kd : Int) = 2 := V.int.inj (of_decide_eq_true c)
        obtain rfl : kd = 2 := by omega
        refine fun p hp => ⟨_, rfl, upd_same, [(.inr "a", .int 1), (.inr "b", v4)], rfl, by simp, ?_⟩
        have em : mergeK [] [((.inr "a" : Key), V.int 1), (.inr "b", v4)] = [(.inr "a", V.int 1), (.inr "b", v4)] := by
          simp [mergeK, putK, valV]
          decide +kernel
        rw [em]
        rw [upd_upd]
        refine fin _ p _ _ _ hp rfl ?_
        exact .dct upd_same (B5.ne_new hp) rfl (by decide +kernel) (.cons (.int 1) (.cons (upS hp (wk hp)) .nil))
      have n2 : kd ≠ 2 := fun h => of_decide_eq_false c (by rw [h]; rfl)
      refine ⟨_, rfl, rfl, _, rfl, ?_⟩
      refine ite3 (fun c => ?_) fun c => ?_
      · have hk : (kd : Int) = 3 := V.int.inj (of_decide_eq_true c)
        obtain rfl : kd = 3 := by omega
        refine ⟨_, rfl, sz_3, fun p hp => fin _ p _ _ _ hp rfl ?_⟩
        exact .lst upd_same (B5.ne_new hp) (.cons (.int 2) (.cons (upS hp h5) (.cons .non .nil)))
      have n3 : kd ≠ 3 := fun h => of_decide_eq_false c (by rw [h]; rfl)
      have ew : wrap1 kd (wraps ks t) = .dct [.inl 1] [wraps ks t] := by unfold wrap1; rw [if_neg n0, if_neg n1, if_neg n2, if_neg n3]
      refine fun p hp => ⟨_, rfl, upd_same, [(.inl 1, v4)], rfl, by simp, ?_⟩
      have em : mergeK [] [((.inl 1 : Key), v4)] = [(.inl 1, v4)] := rfl
      rw [em, upd_upd]
      refine fin _ p _ _ _ hp rfl ?_
      rw [ew]
      exact .dct upd_same (B5.ne_new hp) rfl (by decide +kernel) (.cons (upS hp (wk hp)) .nil)
    · rintro σ H4 ⟨v4, x4, x5, ks, rfl, l4, B4, K4, h4⟩
      exact ⟨_, rfl, k v4 H4 ks l4 B4 K4 h4⟩
end

section
--SPLIT
end
abbrev s_law_pair : Stmt := top 25
abbrev N_law_pair : List Str := ["script", "box", "kind", "bound", "times", "sign", "pair", "place", "state", "good"]
abbrev P_law_pair : List Str := ["script"]
theorem sc_law_pair : FnScope N_law_pair P_law_pair (defScope s_law_pair) := ⟨rfl, rfl, rfl, by decide +kernel, rfl, by decide +kernel, by decide +kernel⟩
section
variable {P : Program} {w : World} {K : PySem.W.Frag} {mg : Str → Option Value} {base : Heap}
def bd88 : Int := (2 ^ (64 : Int).toNat) ^ (4 : Int).toNat
theorem bd88_eq : bd88 = 2 ^ 256 := by decide +kernel
structure PairOk (m : Nat) (t0 t1 : HD) : Prop where
  m5 : m ≤ 5
  g : okF (6 - m) false t0 = true
  c : 4 * m + cnF (6 - m) false t0 ≤ 1000
  b : okF (6 - m) false t1 = false ∨ m = 0 ∧ 1000 < cnF 6 false t1
  s0 : Sz t0
  s1 : Sz t1
  h : hdS t0 ∈ (["ref", "int", "text"] : List Str)
theorem PairOk.good {m : Nat} {t0 t1 : HD} (p : PairOk m t0 t1) {ks : List Nat} (hk : ks.length = m) : gdD (wraps ks t0) = true := by
  have h5 := p.m5
  have e1 := ok_wraps (n := 5 - m) t0 ks
  have e2 := cn_wraps (n := 5 - m) t0 ks
  have g := p.g
  have c := p.c
  rw [show 6 - m = 5 - m + 1 by omega] at g c
  rw [hk, show m + (5 - m + 1) = 6 by omega] at e1 e2
  unfold gdD
  rw [e1, g, decide_eq_true (by omega)]
  rfl
theorem PairOk.bad {m : Nat} {t0 t1 : HD} (p : PairOk m t0 t1) {ks : List Nat} (hk : ks.length = m) : gdD (wraps ks t1) = false := by
  have h5 := p.m5
  unfold gdD
  rcases p.b with b | ⟨rfl, b⟩
  · have e1 := ok_wraps (n := 5 - m) t1 ks
    rw [show 6 - m = 5 - m + 1 by omega] at b
    rw [hk, show m + (5 - m + 1) = 6 by omega] at e1
    rw [e1, b]
    rfl
  · obtain rfl := List.length_eq_zero_iff.mp hk
    show (_ && decide (cnF 6 false t1 ≤ 1000)) = false
    rw [decide_eq_false (by omega), Bool.and_false]
theorem PairOk.hd {m : Nat} {t0 t1 : HD} (p : PairOk m t0 t1) : ∀ ks : List Nat, hdS (wraps ks t0) ∈ (["ref", "int", "text"] : List Str)
  | [] => p.h
  | k :: r => by rw [wraps, hd_wrap1]; decide +kernel
theorem okF_leaf {n : Nat} {b : Bool} {t : HD} (h : contD b t = false) : okF (n + 1) b t = leafD t ∧ cnF (n + 1) b t = 1 := by
  constructor
  · rw [okF, h]; rfl
  · rw [cnF, h]; rfl
/-- two leaves, up to five times wrapped -/
theorem pair_leaf {m : Nat} {t0 t1 : HD} (h5 : m ≤ 5) (c0 : contD false t0 = false) (c1 : contD false t1 = false) (g : leafD t0 = true) (b : leafD t1 = false) (s0 : Sz t0) (s1 : Sz t1) (h : hdS t0 ∈ (["ref", "int", "text"] : List Str)) : PairOk m t0 t1 where
  m5 := h5
  g := by rw [show 6 - m = 5 - m + 1 by omega, (okF_leaf c0).1, g]
  c := by rw [show 6 - m = 5 - m + 1 by omega, (okF_leaf c0).2]; omega
  b := by left; rw [show 6 - m = 5 - m + 1 by omega, (okF_leaf c1).1, b]
  s0 := s0
  s1 := s1
  h := h
theorem zeros {H : Hp} {N : Addr → Prop} : ∀ n : Nat, HdAll K H N (List.replicate n [V.int 0]).flatten (List.replicate n (HD.int 0))
  | 0 => .nil
  | n + 1 => by
    rw [List.replicate_succ, List.replicate_succ, List.flatten_cons]
    exact .cons (.int 0) (zeros n)
theorem disp_at {H : Hp} {d k : Addr} {ks : List Key} {v : V} (hd : H d = none) (hk : (upd H d (.dT [])) k = none) : (upd (upd (upd H d (.dT [])) k (.tup (ks.map kV))) d (.dT [(ks, v)])) d = some (.dT [(ks, v)]) ∧ Same H (upd (upd (upd H d (.dT [])) k (.tup (ks.map kV))) d (.dT [(ks, v)])) ∧
    (upd (upd H d (.dT [])) k (.tup (ks.map kV))) d = some (.dT []) ∧ (upd (upd H d (.dT [])) k (.tup (ks.map kV))) k = some (.tup (ks.map kV)) := by
  have hkd : d ≠ k := fun h => by rw [← h, upd_same] at hk; cases hk
  refine ⟨upd_same, fun b o hb => ?_, by rw [upd_ne hkd]; exact upd_same, upd_same⟩
  have h1 : b ≠ d := ne_of_none hb hd
  have h2 : b ≠ k := fun h => by rw [← h, upd_ne h1, hb] at hk; cases hk
  rw [upd_ne h1, upd_ne h2, upd_ne h1]; exact hb
def spPair (K : PySem.W.Frag) : Sp := fun vs H Q _ => ∃ (a : Addr) (ns : List Int), vs = [.ref a] ∧ SqL K H a (ns.map V.int) ∧ ns.length ≤ 63 ∧
  ∀ (q : Addr) (v0 v1 : V) (t0 t1 : HD) (H' : Hp), H' q = some (.lst [v0, v1]) → Hd K H' (fun _ => True) v0 t0 → Hd K H' (fun _ => True) v1 t1 → gdD t0 = true → gdD t1 = false → Sz t0 → Sz t1 → hdS t0 ∈ (["ref", "int", "text"] : List Str) → Q (.ref q) H'
theorem ok_lpair {f : Addr} {fd : FuncData} (F : Fun K "_law_pair" "_law_pair" s_law_pair f fd) (T : Txt K mg) (U_law_digits : Use P w K mg base CX0 "_law_digits" 2 P_law_digits (spDigits K)) (U_law_draw : Use P w K mg base CX0 "_law_draw" 1 P_law_draw (spDraw K)) (U_law_wrap : Use P w K mg base CX0 "_law_wrap" 2 P_law_wrap (spWrap K)) : FnG P w K mg base CX0 3 f fd P_law_pair (spPair K) := by
  refine okG0 F sc_law_pair (fun vs H Q E h => ?_) fun cdv A outer s H vs Q E hr hg h => ?_
  · obtain ⟨a, ns, rfl, _⟩ := h
    rfl
  · obtain ⟨a, ns, rfl, hs, hn, k⟩ := h
    have hu : (A.deeper (envOfC "_law_pair" (defScope s_law_pair) s.heap.objs.size f cdv)).units + 1 < cLine := Nat.lt_of_le_of_lt (by omega) hr.units
    refine ⟨_, (pss_cons (ps_set (i := 1) sc_law_pair.nd rfl (Or.inl rfl) (pe_lst (pa_cons (pe_use U_law_digits (hr.mono (by decide)) hg rfl (pa_cons (pv 0) (pa_cons pe_int (pa_cons pe_int pa_nil)))) (pa_cons pe_int pa_nil))))
  (pss_cons (ps_set (i := 2) sc_law_pair.nd rfl (Or.inl rfl) (pe_use U_law_draw (hr.mono (by decide)) hg rfl (pa_cons (pv 1) (pa_cons pe_int pa_nil))))
  (pss_cons (ps_set (i := 3) sc_law_pair.nd rfl (Or.inl rfl) (pe_op op_powW (pe_op op_powW pe_int pe_int) pe_int))
  (pss_cons (ps_set (i := 4) sc_law_pair.nd rfl (Or.inl rfl) (pe_use U_law_draw (hr.mono (by decide)) hg rfl (pa_cons (pv 1) (pa_cons pe_int pa_nil))))
  (C8.pss_cut (ps_if (pt_cmpR op_eq (pv 2) pe_int (nomark _))
   (pss_cons (ps_set (i := 5) sc_law_pair.nd rfl (Or.inl rfl) (pe_op op_sub pe_int (pe_op op_mul pe_int (pe_use U_law_draw (hr.mono (by decide)) hg rfl (pa_cons (pv 1) (pa_cons pe_int pa_nil))))))
  (pss_one (ps_set (i := 6) sc_law_pair.nd rfl (Or.inl rfl) (pe_lst (pa_cons (pe_op op_mulW (pv 5) (pe_op op_sub (pv 3) pe_int)) (pa_cons (pe_op op_mulW (pv 5) (pe_op op_add (pv 3) (pe_use U_law_draw (hr.mono (by decide)) hg rfl (pa_cons (pv 1) (pa_cons pe_int pa_nil))))) pa_nil))))))
   (pss_one (ps_if (pt_cmpR op_eq (pv 2) pe_int (nomark _))
   (pss_one (ps_set (i := 6) sc_law_pair.nd rfl (Or.inl rfl) (pe_lst (pa_cons (pe_op op_rep_str pe_str pe_int) (pa_cons (pe_op op_add_str (pe_op op_rep_str pe_str pe_int) pe_str) pa_nil)))))
   (pss_one (ps_if (pt_cmpR op_eq (pv 2) pe_int (nomark _))
   (pss_cons (ps_set (i := 7) sc_law_pair.nd rfl (Or.inl rfl) (pe_use U_law_draw (hr.mono (by decide)) hg rfl (pa_cons (pv 1) (pa_cons pe_int pa_nil))))
  (pss_one (ps_set (i := 6) sc_law_pair.nd rfl (Or.inl rfl) (pe_lst (pa_cons pe_str (pa_cons (pe_op op_add_str (pe_op op_add_str (pe_slice sl_str pe_str po_none (po_some (pv 7))) pe_str) (pe_slice sl_str pe_str (po_some (pv 7)) po_none)) pa_nil))))))
   (pss_one (ps_if (pt_cmpR op_eq (pv 2) pe_int (nomark _))
   (pss_cons (ps_set (i := 6) sc_law_pair.nd rfl (Or.inl rfl) (pe_lst (pa_cons pe_int (pa_cons (pe_lst (pa_cons pe_int pa_nil)) pa_nil))))
  (pss_one (ps_set (i := 4) sc_law_pair.nd rfl (Or.inl rfl) pe_int)))
   (pss_one (ps_if (pt_cmpR op_eq (pv 2) pe_int (nomark _))
   (pss_cons (ps_set (i := 6) sc_law_pair.nd rfl (Or.inl rfl) (pe_lst (pa_cons (pe_op op_rep (pe_lst (pa_cons pe_int pa_nil)) pe_int) (pa_cons (pe_op op_rep (pe_lst (pa_cons pe_int pa_nil)) pe_int) pa_nil))))
  (pss_one (ps_set (i := 4) sc_law_pair.nd rfl (Or.inl rfl) pe_int)))
   (pss_cons (ps_set (i := 6) sc_law_pair.nd rfl (Or.inl rfl) (pe_lst (pa_cons (pe_disp1T hu (pe_tup (pa_cons pe_int (pa_cons (pe_op op_sub (pv 3) pe_int) pa_nil))) pe_int) (pa_cons (pe_disp1T hu (pe_tup (pa_cons pe_int (pa_cons (pv 3) pa_nil))) pe_int) pa_nil))))
  (pss_one (ps_set (i := 4) sc_law_pair.nd rfl (Or.inl rfl) (pe_use U_law_draw (hr.mono (by decide)) hg rfl (pa_cons (pv 1) (pa_cons pe_int pa_nil)))))))))))))))
  (pss_cons (ps_set (i := 8) sc_law_pair.nd rfl (Or.inl rfl) (pe_ix ix_list (pv 1) pe_int (fun _ _ => rfl)))
  (pss_cons (ps_set (i := 9) sc_law_pair.nd rfl (Or.inl rfl) (pe_use U_law_wrap (hr.mono (by decide)) hg rfl (pa_cons (pv 1) (pa_cons (pe_ix ix_list (pv 6) pe_int (fun _ _ => rfl)) (pa_cons (pv 4) pa_nil)))))
  (pss_cons (ps_asg (pv 8) (pg_sub (pv 1) pe_int set_list))
  (pss_one (ps_ret (pe_lst (pa_cons (pv 9) (pa_cons (pe_use U_law_wrap (hr.mono (by decide)) hg rfl (pa_cons (pv 1) (pa_cons (pe_ix ix_list (pv 6) pe_int (fun _ _ => rfl)) (pa_cons (pv 4) pa_nil)))) pa_nil))))))))))))), ?_⟩
    refine ⟨_, rfl, a, ns, 0, 20, rfl, hs, by decide, by decide, fun dl H1 nd D => ?_⟩
    obtain ⟨ds, hd, hl, hds, S1⟩ := D
    refine ⟨sz_2, fun p hp0 => ?_⟩
    have B0 : BoxAt (upd H1 p (.lst [.ref dl, .int 0])) p dl := ⟨ds, 0, upd_same, by decide, by rw [upd_ne (ne_of_none hd hp0)]; exact hd, hl, hds⟩
    generalize upd H1 p (.lst [.ref dl, .int 0]) = H2 at B0
    clear hd hds S1 hp0
    refine ⟨_, rfl, p, dl, 6, rfl, B0, by decide, fun kd H3 q0 q1 B3 K3 => ?_⟩
    refine ⟨_, _, rfl, rfl, ⟨by decide, by decide⟩, _, _, rfl, rfl, ⟨by decide, by decide +kernel⟩, ?_⟩
    refine ⟨_, rfl, p, dl, 4, rfl, B3, by decide, fun tm H4 t0 t1 B4 K4 => ?_⟩
    obtain ⟨m, rfl⟩ := Int.eq_ofNat_of_zero_le t0
    have hm : m ≤ 3 := by omega
    refine ⟨fun σ H' => ∃ pq v0 v1 t0 t1 x5 x7 m, σ = [some (.ref a), some (.ref p), some (.int kd), some (.int bd88), some (.int ((m : Nat) : Int)), x5, some (.ref pq), x7, none, none] ∧ H' pq = some (.lst [v0, v1]) ∧ pq ≠ p ∧ BoxAt H' p dl ∧ Hd K H' (fun a => a ≠ p ∧ a ≠ dl) v0 t0 ∧ Hd K H' (fun a => a ≠ p ∧ a ≠ dl) v1 t1 ∧ PairOk m t0 t1, ?_, ?_⟩
    case refine_2 =>
      rintro _ H5 ⟨pq, v0, v1, t0, t1, x5, x7, m, rfl, eq, hq, B5, h0, h1, ok⟩
      have B5' := B5
      obtain ⟨dds, kst, eb, hk0, ed, hdl, hdr⟩ := B5'
      refine ⟨_, rfl, p, _, _, .int kst, rfl, rfl, SqL.of eb, at1, ?_⟩
      refine ⟨_, rfl, _, rfl, pq, _, _, v0, rfl, rfl, SqL.of eq, at0, _, rfl, p, dl, v0, t0, m, rfl, B5, h0, ok.m5, fun v2 H6 ks0 l0 B6 K6 w0 => ?_⟩
      have eq6 := K6 _ _ eq hq
      have h16 := h1.up (Keep.keepT (K := K) K6 B5.at_) (fun a u ha e => K6 _ _ e ha.1) (fun _ _ h _ => h)
      obtain ⟨dds6, kst6, eb6, _, ed6, hdl6, hdr6⟩ := B6
      have hdp : dl ≠ p := fun h => by
        rw [h, eb6] at ed6
        have := HO.lst.inj (Option.some.inj ed6)
        cases dds6 <;> simp at this
      refine ⟨_, rfl, _, rfl, p, _, 1, 1, rfl, rfl, eb6, rfl, ?_⟩
      have B7 : BoxAt (upd H6 p (.lst ([V.ref dl, .int kst6].set 1 (.int kst)))) p dl := ⟨dds6, kst, upd_same, hk0, by rw [upd_ne hdp]; exact ed6, hdl6, hdr6⟩
      have kt7 : KeepT K H6 (upd H6 p (.lst ([V.ref dl, .int kst6].set 1 (.int kst)))) := KeepT.upd eb6
      have eq7 : (upd H6 p (.lst ([V.ref dl, .int kst6].set 1 (.int kst)))) pq = some (.lst [v0, v1]) := by rw [upd_ne hq]; exact eq6
      have h17 := h16.up kt7 (fun a u ha e => by rw [upd_ne ha.1]; exact e) (fun _ _ h _ => h)
      have w07 := w0.up kt7 (fun a u ha e => by rw [upd_ne ha.1]; exact e) (fun _ _ h _ => h)
      generalize upd H6 p (.lst ([V.ref dl, .int kst6].set 1 (.int kst))) = H7 at B7 eq7 h17 w07
      refine ⟨_, rfl, _, rfl, _, rfl, pq, _, _, v1, rfl, rfl, SqL.of eq7, at1, _, rfl, p, dl, v1, t1, m, rfl, B7, h17, ok.m5, fun v3 H8 ks1 l1 B8 K8 w1 => ⟨sz_2, fun q hq2 => ?_⟩⟩
      have w08 := w07.up (Keep.keepT (K := K) K8 B7.at_) (fun a u ha e => K8 _ _ e ha.1) (fun _ _ h _ => h)
      exact k q v2 v3 _ _ _ upd_same ((w08.mono (Same.new hq2)).wk fun _ _ _ _ => trivial) ((w1.mono (Same.new hq2)).wk fun _ _ _ _ => trivial) (ok.good l0) (ok.bad l1) (sz_wraps ok.s0 _) (sz_wraps ok.s1 _) (ok.hd _)
    case refine_1 =>
      refine ⟨_, rfl, rfl, _, rfl, ?_⟩
      refine ite3 (fun c => ?_) fun c => ?_
      · refine ⟨_, rfl, p, dl, 2, rfl, B4, by decide, fun r H5 r0 r1 B5 K5 => ?_⟩
        rcases (show r = 0 ∨ r = 1 by omega) with rfl | rfl
        all_goals
          refine ⟨_, _, rfl, rfl, by unfold CMul; decide, _, _, rfl, rfl, ?_⟩
          refine ⟨_, rfl, _, rfl, _, _, rfl, rfl, _, _, rfl, rfl, by unfold CMulW; decide +kernel, _, rfl, _, rfl, _, rfl, p, dl, 3, rfl, B5, by decide, fun r2 H6 u0 u1 B6 K6 => ?_⟩
          rcases (show r2 = 0 ∨ r2 = 1 ∨ r2 = 2 by omega) with rfl | rfl | rfl
          all_goals
            refine ⟨_, _, rfl, rfl, _, _, rfl, rfl, by unfold CMulW; decide +kernel, sz_2, fun pq hpq => ?_⟩
            refine ⟨pq, _, _, .int _, .int _, _, _, m, rfl, upd_same, (B6.ne_new hpq).1, B6.same (Same.new hpq), .int _, .int _, ?_⟩
            exact pair_leaf (by omega) rfl rfl (by decide +kernel) (by decide +kernel) (.int _) (.int _) (by show ("int" : Str) ∈ _; decide +kernel)
      refine ⟨_, rfl, rfl, _, rfl, ?_⟩
      refine ite3 (fun c => ?_) fun c => ?_
      · refine ⟨_, _, rfl, rfl, by decide, by decide, by decide +kernel, _, _, rfl, rfl, by decide, by decide, by decide +kernel, _, _, rfl, rfl, by decide +kernel, sz_2, fun pq hpq => ?_⟩
        refine ⟨pq, _, _, .str _, .str _, _, _, m, rfl, upd_same, (B4.ne_new hpq).1, B4.same (Same.new hpq), .str _, .str _, ?_⟩
        exact pair_leaf (by omega) rfl rfl (by decide +kernel) (by decide +kernel) (.str (by decide +kernel)) (.str (by decide +kernel)) (by show ("text" : Str) ∈ _; decide +kernel)
      refine ⟨_, rfl, rfl, _, rfl, ?_⟩
      refine ite3 (fun c => ?_) fun c => ?_
      · refine ⟨_, rfl, p, dl, 9, rfl, B4, by decide, fun r H5 r0 r1 B5 K5 => ?_⟩
        rcases (show r = 0 ∨ r = 1 ∨ r = 2 ∨ r = 3 ∨ r = 4 ∨ r = 5 ∨ r = 6 ∨ r = 7 ∨ r = 8 by omega) with rfl | rfl | rfl | rfl | rfl | rfl | rfl | rfl | rfl
        all_goals
          refine ⟨_, rfl, _, rfl, _, rfl, by decide +kernel, _, _, rfl, rfl, by decide +kernel, _, rfl, _, rfl, _, rfl, by decide +kernel, _, _, rfl, rfl, by decide +kernel, sz_2, fun pq hpq => ?_⟩
          refine ⟨pq, _, _, .str _, .str _, _, _, m, rfl, upd_same, (B5.ne_new hpq).1, B5.same (Same.new hpq), .str _, .str _, ?_⟩
          exact pair_leaf (by omega) rfl rfl (by decide +kernel) (by decide +kernel) (.str (by decide +kernel)) (.str (by decide +kernel)) (by show ("text" : Str) ∈ _; decide +kernel)
      refine ⟨_, rfl, rfl, _, rfl, ?_⟩
      refine ite3 (fun c => ?_) fun c => ?_
      · refine ⟨sz_1, fun l1 hl1 => ⟨sz_2, fun pq hpq => ?_⟩⟩
        have hne : l1 ≠ pq := fun h => by rw [← h, upd_same] at hpq; cases hpq
        have n1 := B4.ne_new hl1
        have B5 := B4.same (Same.new (o := .lst [V.int 7]) hl1)
        refine ⟨pq, _, _, .int 7, .lst [.int 7], _, _, 5, rfl, upd_same, (B5.ne_new hpq).1, B5.same (Same.new hpq), .int 7, .lst (by rw [upd_ne hne]; exact upd_same) n1 (.cons (.int 7) .nil), ?_⟩
        exact ⟨by omega, by decide +kernel, by decide +kernel, .inl (by decide +kernel), .int _, .lst (by simp) (fun t ht => by rw [List.mem_singleton.mp ht]; exact .int _), by show ("int" : Str) ∈ _; decide +kernel⟩
      refine ⟨_, rfl, rfl, _, rfl, ?_⟩
      refine ite3 (fun c => ?_) fun c => ?_
      · refine ⟨sz_1, fun z0 hz0 => ⟨_, _, _, rfl, rfl, upd_same, by decide, by decide, by decide, fun z1 hz1 => ⟨sz_1, fun z2 hz2 => ⟨_, _, _, rfl, rfl, upd_same, by decide, by decide, by decide, fun z3 hz3 => ⟨sz_2, fun pq hpq => ?_⟩⟩⟩⟩⟩
        have B5 := B4.same (Same.new (o := .lst [V.int 0]) hz0)
        have S1 := Same.new (o := .lst (List.replicate (999 : Int).toNat [V.int 0]).flatten) hz1
        have e1 : (upd (upd H4 z0 (.lst [V.int 0])) z1 (.lst (List.replicate (999 : Int).toNat [V.int 0]).flatten)) z1 = some (.lst (List.replicate (999 : Int).toNat [V.int 0]).flatten) := upd_same
        have B6 := B5.same S1
        have n1 := B5.ne_new hz1
        generalize upd (upd H4 z0 (.lst [V.int 0])) z1 (.lst (List.replicate (999 : Int).toNat [V.int 0]).flatten) = H6 at *
        have S2 := Same.new (o := .lst [V.int 0]) hz2
        have B7 := B6.same S2
        have e2 := S2 _ _ e1
        have S3 := Same.new (o := .lst (List.replicate (1000 : Int).toNat [V.int 0]).flatten) hz3
        have e3 := S3 _ _ e2
        have e4 : (upd (upd H6 z2 (.lst [V.int 0])) z3 (.lst (List.replicate (1000 : Int).toNat [V.int 0]).flatten)) z3 = some (.lst (List.replicate (1000 : Int).toNat [V.int 0]).flatten) := upd_same
        have B8 := B7.same S3
        have n3 := B7.ne_new hz3
        generalize upd (upd H6 z2 (.lst [V.int 0])) z3 (.lst (List.replicate (1000 : Int).toNat [V.int 0]).flatten) = H8 at *
        have S4 := Same.new (o := .lst [V.ref z1, V.ref z3]) hpq
        refine ⟨pq, _, _, .lst (List.replicate 999 (.int 0)), .lst (List.replicate 1000 (.int 0)), _, _, 0, rfl, upd_same, (B8.ne_new hpq).1, B8.same S4, .lst (S4 _ _ e3) n1 (zeros 999), .lst (S4 _ _ e4) n3 (zeros 1000), ?_⟩
        have hs : ∀ n, ∀ t ∈ List.replicate n (HD.int 0), Sz t := fun n t ht => by rw [List.eq_of_mem_replicate ht]; exact .int _
        exact ⟨by omega, by decide +kernel, by decide +kernel, .inr ⟨rfl, by decide +kernel⟩, .lst (by simp) (hs _), .lst (by simp) (hs _), by show ("ref" : Str) ∈ _; decide +kernel⟩
      · refine fun d0 hd0 => ⟨_, rfl, _, _, rfl, rfl, sz_2, fun k0 hk0 => ?_⟩
        obtain ⟨f1, f2, f3, f4⟩ := disp_at (ks := [.inl 1, .inl (bd88 - 1)]) (v := .int 2) hd0 hk0
        refine ⟨[.inl 1, .inl (bd88 - 1)], k0, f3, rfl, f4, ?_⟩
        dsimp only
        have eH : upd (upd (upd H4 d0 (.dT [])) k0 (.tup [.int 1, .int ((2 ^ (64 : Int).toNat) ^ (4 : Int).toNat - 1)])) d0 (.dT [([.inl 1, .inl (bd88 - 1)], .int 2)]) = upd (upd (upd H4 d0 (.dT [])) k0 (.tup (([.inl 1, .inl (bd88 - 1)] : List Key).map kV))) d0 (.dT [([.inl 1, .inl (bd88 - 1)], .int 2)]) := rfl
        rw [eH]
        generalize upd (upd (upd H4 d0 (.dT [])) k0 (.tup (([.inl 1, .inl (bd88 - 1)] : List Key).map kV))) d0 (.dT [([.inl 1, .inl (bd88 - 1)], .int 2)]) = HA at f1 f2
        clear f3 f4 eH hk0
        have B5 := B4.same f2
        have n0 := B4.ne_new hd0
        refine fun d1 hd1 => ⟨_, rfl, sz_2, fun k1 hk1 => ?_⟩
        obtain ⟨g1, g2, g3, g4⟩ := disp_at (ks := [.inl 1, .inl bd88]) (v := .int 2) hd1 hk1
        refine ⟨[.inl 1, .inl bd88], k1, g3, rfl, g4, ?_⟩
        dsimp only
        have eH : upd (upd (upd HA d1 (.dT [])) k1 (.tup [.int 1, .int ((2 ^ (64 : Int).toNat) ^ (4 : Int).toNat)])) d1 (.dT [([.inl 1, .inl bd88], .int 2)]) = upd (upd (upd HA d1 (.dT [])) k1 (.tup (([.inl 1, .inl bd88] : List Key).map kV))) d1 (.dT [([.inl 1, .inl bd88], .int 2)]) := rfl
        rw [eH]
        generalize upd (upd (upd HA d1 (.dT [])) k1 (.tup (([.inl 1, .inl bd88] : List Key).map kV))) d1 (.dT [([.inl 1, .inl bd88], .int 2)]) = HB at g1 g2
        clear g3 g4 eH hk1
        have B6 := B5.same g2
        have n1 := B5.ne_new hd1
        refine ⟨sz_2, fun pq hpq => ?_⟩
        have S7 := Same.new (o := .lst [V.ref d0, V.ref d1]) hpq
        have B7 := B6.same S7
        have e0 := S7 _ _ (g2 _ _ f1)
        have e1 := S7 _ _ g1
        have npq := B6.ne_new hpq
        have epq := upd_same (H := HB) (a := pq) (o := HO.lst [V.ref d0, V.ref d1])
        generalize upd HB pq (.lst [V.ref d0, V.ref d1]) = HC at B7 e0 e1 epq S7
        refine ⟨_, rfl, p, dl, 3, rfl, B7, by decide, fun r H8 r0 r1 B8 K8 => ?_⟩
        obtain ⟨m, rfl⟩ := Int.eq_ofNat_of_zero_le r0
        have hm : m ≤ 2 := by omega
        refine ⟨pq, _, _, .dtk [.inl 1, .inl (bd88 - 1)] (.int 2), .dtk [.inl 1, .inl bd88] (.int 2), _, _, m, rfl, K8 _ _ epq npq.1, npq.1, B8, .dtk (K8 _ _ e0 n0.1) n0 (.int 2), .dtk (K8 _ _ e1 n1.1) n1 (.int 2), ?_⟩
        have hs : ∀ k ∈ ([.inl 1, .inl (bd88 - 1)] : List Key), Sz (keyHD k) := fun k hk => by
          rcases List.mem_cons.mp hk with rfl | hk
          · exact .int _
          · rw [List.mem_singleton.mp hk]; exact .int _
        have hs2 : ∀ k ∈ ([.inl 1, .inl bd88] : List Key), Sz (keyHD k) := fun k hk => by
          rcases List.mem_cons.mp hk with rfl | hk
          · exact .int _
          · rw [List.mem_singleton.mp hk]; exact .int _
        have hr : ("ref" : Str) ∈ (["ref", "int", "text"] : List Str) := by decide +kernel
        rcases (show m = 0 ∨ m = 1 ∨ m = 2 by omega) with rfl | rfl | rfl
        all_goals exact ⟨by omega, by decide +kernel, by decide +kernel, .inl (by decide +kernel), .dtk (by simp) hs (.int _), .dtk (by simp) hs2 (.int _), hr⟩
end

section
--SPLIT
end
abbrev s_law : Stmt := top 27
abbrev N_law : List Str := ["script", "pair", "heap", "turn", "kept", "value"]
abbrev P_law : List Str := ["script"]
theorem sc_law : FnScope N_law P_law (defScope s_law) := ⟨rfl, rfl, rfl, by decide +kernel, rfl, by decide +kernel, by decide +kernel⟩
section
variable {P : Program} {w : World} {K : PySem.W.Frag} {mg : Str → Option Value} {base : Heap}
def spPutC (K : PySem.W.Frag) : Sp := fun vs H Q _ => ∃ (hp : Addr) (v : V) (ds : List PyData) (t : HD) (N : Addr → Prop), vs = [.ref hp, v] ∧ ListAt K H hp ds ∧ Hd K H N v t ∧ ¬ N hp ∧ Sz t ∧ ds.length ≤ 50000 ∧ gdD t = true ∧
  ∀ (v' : V) (H' : Hp) (ds' : List PyData) (dv : PyData), Keep hp H H' → ListAt K H' hp (ds ++ ds') → RowsP ds' → ds'.length ≤ 1000 → Dt K H' v' dv → ValP t dv → Q v' H'
theorem use_putC {C : Addr} (U : Use P w K mg base (L2.CX P w) "put_data" 8 P_put_data (spPutD K C)) : Use P w K mg base CX0 "put_data" 8 P_put_data (spPutC K) := by
  obtain ⟨f, fd, F, a, b, c⟩ := U
  refine ⟨f, fd, FnG.calm (F.imp (sp' := spPutC K) fun vs H Q E h => ?_) (fun _ _ _ _ _ h => h), a, b, c⟩
  obtain ⟨hp, v, ds, t, N, e, L, hv, hN, hz, hl, hg, k⟩ := h
  exact ⟨hp, v, ds, t, N, e, L, hv, hN, hz, hl, fun _ => k, fun h => by rw [hg] at h; cases h⟩
def spLaw (K : PySem.W.Frag) : Sp := fun vs H Q _ => ∃ (a : Addr) (ns : List Int), vs = [.ref a] ∧ SqL K H a (ns.map V.int) ∧ ns.length ≤ 63 ∧ ∀ H', Q (.bl true) H'
theorem ok_law {CB : Addr} {f : Addr} {fd : FuncData} (F : Fun K "law" "law" s_law f fd) (T : Txt K mg) (U_law_pair : Use P w K mg base CX0 "_law_pair" 3 P_law_pair (spPair K)) (U_is_data : Use P w K mg base CX0 "is_data" 2 P_is_data (spIsData K)) (U_law_refused : Use P w K mg base CX0 "_law_refused" 9 P_law_refused (spLRef K)) (U_put_data : Use P w K mg base (L2.CX P w) "put_data" 8 P_put_data (spPutD K CB)) : FnG P w K mg base CX0 10 f fd P_law (spLaw K) := by
  have U_put_data := use_putC U_put_data
  refine okG0 F sc_law (fun vs H Q E h => ?_) fun cdv A outer s H vs Q E hr hg h => ?_
  · obtain ⟨a, ns, rfl, _⟩ := h
    rfl
  · obtain ⟨a, ns, rfl, hs, hn, k⟩ := h
    refine ⟨_, (pss_cons (ps_set (i := 1) sc_law.nd rfl (Or.inl rfl) (pe_use U_law_pair (hr.mono (by decide)) hg rfl (pa_cons (pv 0) pa_nil)))
  (pss_cons (ps_set (i := 2) sc_law.nd rfl (Or.inl rfl) (pe_lst (pa_cons (pe_tup (pa_cons pe_str (pa_cons (pe_tup (pa_cons (pe_tup (pa_cons pe_str (pa_cons pe_int pa_nil))) pa_nil)) pa_nil))) pa_nil)))
  (pss_cons (ps_for PassesOwn.never rfl (pi_range1 (by rfl) T.b_range (pa_cons pe_int pa_nil)) (pg_name (i := 3) sc_law.nd rfl (Or.inl rfl))
   (pss_cons (ps_if (PW.pt (pw_or (pt_cmpR op_notBl (pe_use U_is_data (hr.mono (by decide)) hg rfl (pa_cons (pe_ix ix_list (pv 1) pe_int (fun _ _ => rfl)) pa_nil)) pe_bl (nomark _)) (pw_or1 (pt_cmpR op_notBl (pe_use U_is_data (hr.mono (by decide)) hg rfl (pa_cons (pe_ix ix_list (pv 1) pe_int (fun _ _ => rfl)) pa_nil)) pe_bl (nomark _)))))
   (pss_one (ps_ret pe_bl))
   pss_nil)
  (pss_cons (ps_set (i := 4) sc_law.nd rfl (Or.inl rfl) (pe_callTy call_list_of (by rfl) T.b_list (by decide +kernel) (pa_cons (pv 2) pa_nil)))
  (pss_cons (ps_if (PW.pt (pw_or (pt_not (pt_val (pe_use U_law_refused (hr.mono (by decide)) hg rfl (pa_cons (pv 2) (pa_cons (pe_ix ix_list (pv 1) pe_int (fun _ _ => rfl)) pa_nil))))) (pw_or1 (pt_cmpR (op_neD hr.units) (pv 2) (pv 4) (nomark _)))))
   (pss_one (ps_ret pe_bl))
   pss_nil)
  (pss_cons (ps_set (i := 5) sc_law.nd rfl (Or.inl rfl) (pe_use U_put_data (hr.mono (by decide)) hg rfl (pa_cons (pv 2) (pa_cons (pe_ix ix_list (pv 1) pe_int (fun _ _ => rfl)) pa_nil))))
  (pss_one (ps_if (PW.pt (pw_or (pt_not (pt_val (pe_callB call_isi (by rfl) T.b_isinstance (by decide +kernel) (pa_cons (pv 5) (pa_cons (pe_bltn (v := .ty "tuple") (by rfl) T.b_tuple (by decide +kernel) rfl) pa_nil))))) (pw_or1 (pt_cmpR op_notIn_seq (pe_ix ix_tup (pv 5) pe_int (fun _ _ => rfl)) (pe_tup (pa_cons pe_str (pa_cons pe_str (pa_cons pe_str pa_nil)))) (by rfl)))))
   (pss_one (ps_ret pe_bl))
   pss_nil)))))))
  (pss_one (ps_ret pe_bl))))), ?_⟩
    refine ⟨_, rfl, a, ns, rfl, hs, hn, fun pq v0 v1 t0 t1 H1 epq h0 h1 g0 g1 s0 s1 hd0 => ?_⟩
    refine ⟨sz_2, fun a1 ha1 => ⟨sz_1, fun a2 ha2 => ⟨sz_2, fun a3 ha3 => ⟨sz_1, fun hp hhp => ?_⟩⟩⟩⟩
    have d1 : Dt K (upd H1 a1 (.tup [.str "int", .int 3])) (.ref a1) (.tuple [.str "int", .int 3]) := Dt.made ha1 (.cons (.str _) (.cons (.int _) .nil))
    have S1 := Same.new (o := .tup [V.str "int", .int 3]) ha1
    generalize upd H1 a1 (.tup [.str "int", .int 3]) = H2 at d1 S1 ha2 ha3 hhp
    have d2 : Dt K (upd H2 a2 (.tup [.ref a1])) (.ref a2) (.tuple [.tuple [.str "int", .int 3]]) := Dt.made ha2 (.cons d1 .nil)
    have S2 := S1.trans (Same.new (o := .tup [V.ref a1]) ha2)
    generalize upd H2 a2 (.tup [.ref a1]) = H3 at d2 S2 ha3 hhp
    have d3 : Dt K (upd H3 a3 (.tup [.str "list", .ref a2])) (.ref a3) (.tuple [.str "list", .tuple [.tuple [.str "int", .int 3]]]) := Dt.made ha3 (.cons (.str _) (.cons d2 .nil))
    have S3 := S2.trans (Same.new (o := .tup [V.str "list", .ref a2]) ha3)
    generalize upd H3 a3 (.tup [.str "list", .ref a2]) = H4 at d3 S3 hhp
    have L0 := listAt_made hhp (.cons d3 .nil)
    have S4 := S3.trans (Same.new (o := .lst [V.ref a3]) hhp)
    have hp0 : H1 hp = none := same_none' S3 hhp
    generalize upd H4 hp (.lst [.ref a3]) = H5 at L0 S4
    clear d1 d2 d3 S1 S2 S3 ha1 ha2 ha3 hhp
    have hpq : pq ≠ hp := ne_of_none epq hp0
    have k0 := h0.up (N' := fun b => b ≠ hp) (Same.keepT (K := K) S4) (fun b u _ e => S4 _ _ e) (fun b u _ e => ne_of_none e hp0)
    have k1 := h1.up (N' := fun b => b ≠ hp) (Same.keepT (K := K) S4) (fun b u _ e => S4 _ _ e) (fun b u _ e => ne_of_none e hp0)
    have e5 := S4 _ _ epq
    have R0 : RowsP [.tuple [.str "list", .tuple [.tuple [.str "int", .int 3]]]] := fun d hd => by
      obtain rfl := List.mem_singleton.mp hd
      exact ⟨by decide +kernel, by decide +kernel⟩
    clear S4 epq h0 h1 hp0
    refine ⟨2, rfl, by decide, by decide, ?_⟩
    refine for_range (lo := 0) (n := 2) (fun i σ H6 => ∃ x3 x4 x5 ds, σ = [some (.ref a), some (.ref pq), some (.ref hp), x3, x4, x5] ∧ H6 pq = some (.lst [v0, v1]) ∧ Hd K H6 (fun b => b ≠ hp) v0 t0 ∧ Hd K H6 (fun b => b ≠ hp) v1 t1 ∧ ListAt K H6 hp ds ∧ RowsP ds ∧ ds.length ≤ 1 + 1000 * i) ⟨none, none, none, _, rfl, e5, k0, k1, L0, R0, by simp⟩ ?_ ?_
    · rintro i σ H6 hi ⟨x3, x4, x5, ds, rfl, e6, k0, k1, L6, R6, n6⟩
      clear e5 L0 R0
      refine ⟨_, rfl, pq, _, _, v0, rfl, rfl, SqL.of e6, at0, v0, t0, _, rfl, k0, s0, fun H7 S7 => ?_⟩
      refine ⟨_, true, rfl, rfl, _, rfl, iteFb (show (!decide (gdD t0 = true)) = false by rw [g0]; rfl) ?_⟩
      have e7 := S7 _ _ e6
      refine ⟨_, rfl, pq, _, _, v1, rfl, rfl, SqL.of e7, at1, v1, t1, _, rfl, k1.mono S7, s1, fun H8 S8 => ⟨_, false, rfl, rfl, _, rfl, iteFb (show (!decide (gdD t1 = false)) = false by rw [g1]; rfl) ?_⟩⟩
      have S78 := S7.trans S8
      have L8 := listAt_mono L6 S78
      have k08 := k0.mono S78
      have k18 := k1.mono S78
      have e8 := S8 _ _ e7
      clear S7 S8 S78 L6 k0 k1 e6 e7
      obtain ⟨zs, ez, az⟩ := L8
      refine ⟨_, rfl, hp, zs, rfl, .inl (SqL.of ez), fun kp hkp => ?_⟩
      have S9 := Same.new (o := .lst zs) hkp
      have ek := upd_same (H := H8) (a := kp) (o := HO.lst zs)
      generalize upd H8 kp (.lst zs) = H9 at S9 ek
      refine ⟨_, rfl, _, rfl, pq, _, _, v1, rfl, rfl, SqL.of (S9 _ _ e8), at1, hp, v1, ds, t1, fun b => b ≠ hp, rfl, ⟨zs, S9 _ _ ez, DtAll.mono S9 az⟩, k18.mono S9, fun h => h rfl, s1, by omega, g1, fun H10 S10 => ⟨_, rfl, iteFb rfl ?_⟩⟩
      have S910 := S9.trans S10
      have e10 := S910 _ _ e8
      have ez10 := S910 _ _ ez
      have ek10 := S10 _ _ ek
      have az10 := DtAll.mono S910 az
      have sh : SeqAt.shaped (.list ds) = true := Shp.sh (Shp.lst (n := 4) R6) (by omega)
      refine ⟨_, rfl, _, rfl, .list ds, .list ds, .lst (SqL.of ez10) az10.dp, .lst (SqL.of ek10) az10.dp, sh, sh, _, rfl, iteFb (by rw [eqv_self (SeqAt.canLay_of_shaped sh)]; rfl) ?_⟩
      refine ⟨_, rfl, _, rfl, pq, _, _, v0, rfl, rfl, SqL.of e10, at0, hp, v0, ds, t0, fun b => b ≠ hp, rfl, ⟨zs, ez10, az10⟩, k08.mono S910, fun h => h rfl, s0, by omega, g0, fun v' H11 ds' dv K11 L11 R11 n11 d11 p11 => ?_⟩
      obtain ⟨pv, r, rfl⟩ := p11
      obtain ⟨q, ws, rfl, hq, _⟩ := d11.head
      refine ⟨_, rfl, _, _, _, _, true, rfl, .ty _, SqT.tyX hq, if_pos (beq_self_eq_true _), _, rfl, iteFb rfl ?_⟩
      have i3 : [V.str "ref", V.str "int", V.str "text"] = (["ref", "int", "text"] : List Str).map V.str := rfl
      refine ⟨_, rfl, q, _, _, .str (hdS t0), rfl, rfl, hq, at0, sz_3, fun u hu => ⟨u, _, rfl, .inr (SqT.of upd_same), rfl, rfl, _, rfl, ?_⟩⟩
      rw [if_pos rfl, i3, inV_strs, decide_eq_true hd0]
      refine iteFb rfl ?_
      have S12 := Same.new (o := HO.tup ((["ref", "int", "text"] : List Str).map V.str)) hu
      have kt11 : KeepT K H10 H11 := Keep.keepT K11 ⟨_, ez10⟩
      refine ⟨_, _, _, ds ++ ds', rfl, S12 _ _ (K11 _ _ e10 hpq), ((k08.mono S910).up kt11 (fun b u hb e => K11 _ _ e hb) (fun _ _ h _ => h)).mono S12, ((k18.mono S910).up kt11 (fun b u hb e => K11 _ _ e hb) (fun _ _ h _ => h)).mono S12, listAt_mono L11 S12, R6.app R11, by rw [List.length_append]; omega⟩
    · rintro σ H6 ⟨x3, x4, x5, ds, rfl, e6, k0, k1, L6, R6, n6⟩
      exact k _
end

theorem walk_mk {l : PySem.W.OpenLaw} {w : World} {K : PySem.W.Frag} {h : Heap} {mg : Str → Option Value} {fa : Addr} (X : K.In h) (G : h.Ns mainGlobals mg) (hfa : mg "law" = some (.ref fa))
    (f0 : HasFn K "_law_cell" s_law_cell)
    (f1 : HasFn K "_law_digits" s_law_digits)
    (f2 : HasFn K "_law_draw" s_law_draw)
    (f3 : HasFn K "_law_wrap" s_law_wrap)
    (f4 : HasFn K "_law_pair" s_law_pair)
    (f5 : HasFn K "_kind" s_kind)
    (f6 : HasFn K "_is_leaf" s_is_leaf)
    (f7 : HasFn K "is_data" s_is_data)
    (f8 : HasFn K "_put" s_put)
    (f9 : HasFn K "put_data" s_put_data)
    (f10 : HasFn K "_law_refused" s_law_refused)
    (f11 : HasFn K "law" s_law)
    (c0 : HasInt K "MOST_ENTRIES" 1000)
    (c1 : HasInt K "MOST_LEVELS" 6)
    (c2 : HasInt K "MOST_SIZE" 1000)
    (c3 : HasInt K "INTEGER_END" (2 ^ 256))
    (c4 : HasStr K "CHARACTERS" (fun z => z = LK.chStr))
    (b_len : PySem.W.nsIn K mainGlobals "len" = some none)
    (b_int : PySem.W.nsIn K mainGlobals "int" = some none)
    (b_range : PySem.W.nsIn K mainGlobals "range" = some none)
    (b_list : PySem.W.nsIn K mainGlobals "list" = some none)
    (b_tuple : PySem.W.nsIn K mainGlobals "tuple" = some none)
    (b_str : PySem.W.nsIn K mainGlobals "str" = some none)
    (b_isinstance : PySem.W.nsIn K mainGlobals "isinstance" = some none)
    (b_all : PySem.W.nsIn K mainGlobals "all" = some none)
    (b_abs : PySem.W.nsIn K mainGlobals "abs" = some none)
    (b_bool : PySem.W.nsIn K mainGlobals "bool" = some none)
    (b_dict : PySem.W.nsIn K mainGlobals "dict" = some none)
    {C_BadData : Addr} (bdd : HasBd K C_BadData)
    (kin_BadNumbers : HasKin K "BadNumbers" C_BadData false)
    (kin_BadState : HasKin K "BadState" C_BadData false)
    (kin_Fault : HasKin K "Fault" C_BadData false)
    (kin_TooLong : HasKin K "TooLong" C_BadData false) :
    ∃ fd : FuncData, (∀ (s : Shared) (v : Value), BindsTo s fd ⟨[v], []⟩ [("script", v)]) ∧ ∀ base : Heap, K.In base → base.Ns mainGlobals mg → FnG l.prog w K mg base CX0 10 fa fd ["script"] (spLaw K) := by
  have T : Txt K mg := ⟨c0.g X G, c1.g X G, c2.g X G, c3.g X G, (by obtain ⟨z, g, e⟩ := c4.g X G; subst e; exact g), PySem.W.mg_none_of X G b_len, PySem.W.mg_none_of X G b_int, PySem.W.mg_none_of X G b_range, PySem.W.mg_none_of X G b_list, PySem.W.mg_none_of X G b_tuple, PySem.W.mg_none_of X G b_str, PySem.W.mg_none_of X G b_isinstance, PySem.W.mg_none_of X G b_all, PySem.W.mg_none_of X G b_abs, PySem.W.mg_none_of X G b_bool, PySem.W.mg_none_of X G b_dict⟩
  refine law_use f11 X G hfa (fun _ _ _ _ _ _ _ => rfl) fun base X' G' fd F => ?_
  obtain ⟨B_BadData, U_BadData⟩ := bdd.g X G
  have U_BadNumbers := kin_BadNumbers.g X G
  have U_BadState := kin_BadState.g X G
  have U_Fault := kin_Fault.g X G
  have U_TooLong := kin_TooLong.g X G
  have U_law_cell := mk_use (P := l.prog) (w := w) (mg := mg) (base := base) f0 X G (fun _ _ _ _ _ _ us hl => match us, hl with | [_, _], _ => rfl) fun f fd F => ok_cell F T
  have U_law_digits := mk_use (P := l.prog) (w := w) (mg := mg) (base := base) f1 X G (fun _ _ _ _ _ _ us hl => match us, hl with | [_, _, _], _ => rfl) fun f fd F => ok_digits F T (Use.up U_law_cell (by omega))
  have U_law_draw := mk_use (P := l.prog) (w := w) (mg := mg) (base := base) f2 X G (fun _ _ _ _ _ _ us hl => match us, hl with | [_, _], _ => rfl) fun f fd F => ok_draw F T
  have U_law_wrap := mk_use (P := l.prog) (w := w) (mg := mg) (base := base) f3 X G (fun _ _ _ _ _ _ us hl => match us, hl with | [_, _, _], _ => rfl) fun f fd F => ok_wrap F T (Use.up U_law_draw (by omega))
  have U_law_pair := mk_use (P := l.prog) (w := w) (mg := mg) (base := base) f4 X G (fun _ _ _ _ _ _ us hl => match us, hl with | [_], _ => rfl) fun f fd F => ok_lpair F T (Use.up U_law_digits (by omega)) (Use.up U_law_draw (by omega)) (Use.up U_law_wrap (by omega))
  have U_kind := mk_use (P := l.prog) (w := w) (mg := mg) (base := base) f5 X G (fun _ _ _ _ _ _ us hl => match us, hl with | [_], _ => rfl) fun f fd F => ok_kindH F T
  have U_is_leaf := mk_use (P := l.prog) (w := w) (mg := mg) (base := base) f6 X G (fun _ _ _ _ _ _ us hl => match us, hl with | [_, _], _ => rfl) fun f fd F => ok_isleafB F T
  have U_is_data := mk_use (P := l.prog) (w := w) (mg := mg) (base := base) f7 X G (fun _ _ _ _ _ _ us hl => match us, hl with | [_], _ => rfl) fun f fd F => ok_isdata F T (Use.up U_kind (by omega)) (Use.up U_is_leaf (by omega))
  have U_put : Use l.prog w K mg base CX0 "_put" 7 P_put (spPutH K 6) := mk_useG (P := l.prog) (w := w) (mg := mg) (base := base) (fun n => spPutH K n) 1 1 f8.n X G (fun _ _ _ _ _ _ us hl => match us, hl with | [_, _], _ => rfl) (fun _ _ _ _ h => (put0 h)) (fun n U_put f fd F => by
      have h := ok_put (n := n) F T (Use.up U_put (by omega)) (Use.up U_kind (by omega))
      have e : 1 + 1 * n + 1 = 1 + 1 * (n + 1) := by omega
      first | exact h | (rw [← e]; exact h) | (rw [Nat.one_mul]; exact h)) 6
  have U_put_data := mk_use (P := l.prog) (w := w) (mg := mg) (base := base) f9 X G (fun _ _ _ _ _ _ us hl => match us, hl with | [_, _], _ => rfl) fun f fd F => ok_putD F T U_BadData (Use.up U_is_data (by omega)) (Use.up U_put (by omega))
  have U_law_refused := mk_use (P := l.prog) (w := w) (mg := mg) (base := base) f10 X G (fun _ _ _ _ _ _ us hl => match us, hl with | [_, _], _ => rfl) fun f fd F => ok_lref F T U_BadData U_BadNumbers U_BadState U_Fault U_TooLong (Use.up U_put_data (by omega))
  exact ok_law F T (Use.up U_law_pair (by omega)) (Use.up U_is_data (by omega)) (Use.up U_law_refused (by omega)) (Use.up U_put_data (by omega))
end K88
open PySem PySem.W PyProof.Rows
set_option maxRecDepth 100000 in
set_option maxHeartbeats 0 in
theorem PySem.Challenge.cw_pyhold_k88_data_beyond_the_bounds_holds : PySem.Challenge.rw_pyhold_k88_data_beyond_the_bounds.Holds := by
  w_on; o_law; k_head; (case hw => w_witness2)
  k_fill
  refine LK.walkG (l := PySem.Challenge.rw_pyhold_k88_data_beyond_the_bounds) (n := 63) (k := 10) (x := "script") (CX := L2.CX0) (sp := K88.spLaw) rfl (by decide) rfl ⟨rfl, by decide, by decide⟩ (fun w h Y => PySem.W.kIn_of Y) ?F (fun K H a ns hl _ hS => ⟨a, ns, rfl, hS, hl, fun _ => rfl⟩) (fun _ _ _ _ z => z)
  case F =>
    intro w mg fa h KX G hmg
    refine' K88.walk_mk KX G hmg ?f0 ?f1 ?f2 ?f3 ?f4 ?f5 ?f6 ?f7 ?f8 ?f9 ?f10 ?f11 ?c0 ?c1 ?c2 ?c3 ?c4 ?b_len ?b_int ?b_range ?b_list ?b_tuple ?b_str ?b_isinstance ?b_all ?b_abs ?b_bool ?b_dict ?bdd ?kin_BadNumbers ?kin_BadState ?kin_Fault ?kin_TooLong
    case f0 => refine' LK.HasFn.mk' ?a ?b ?c ?d; (case a => k_is); (case b => k_is); (case c => k_is); (case d => k_is)
    case f1 => refine' LK.HasFn.mk' ?a ?b ?c ?d; (case a => k_is); (case b => k_is); (case c => k_is); (case d => k_is)
    case f2 => refine' LK.HasFn.mk' ?a ?b ?c ?d; (case a => k_is); (case b => k_is); (case c => k_is); (case d => k_is)
    case f3 => refine' LK.HasFn.mk' ?a ?b ?c ?d; (case a => k_is); (case b => k_is); (case c => k_is); (case d => k_is)
    case f4 => refine' LK.HasFn.mk' ?a ?b ?c ?d; (case a => k_is); (case b => k_is); (case c => k_is); (case d => k_is)
    case f5 => refine' LK.HasFn.mk' ?a ?b ?c ?d; (case a => k_is); (case b => k_is); (case c => k_is); (case d => k_is)
    case f6 => refine' LK.HasFn.mk' ?a ?b ?c ?d; (case a => k_is); (case b => k_is); (case c => k_is); (case d => k_is)
    case f7 => refine' LK.HasFn.mk' ?a ?b ?c ?d; (case a => k_is); (case b => k_is); (case c => k_is); (case d => k_is)
    case f8 => refine' LK.HasFn.mk' ?a ?b ?c ?d; (case a => k_is); (case b => k_is); (case c => k_is); (case d => k_is)
    case f9 => refine' LK.HasFn.mk' ?a ?b ?c ?d; (case a => k_is); (case b => k_is); (case c => k_is); (case d => k_is)
    case f10 => refine' LK.HasFn.mk' ?a ?b ?c ?d; (case a => k_is); (case b => k_is); (case c => k_is); (case d => k_is)
    case f11 => refine' LK.HasFn.mk' ?a ?b ?c ?d; (case a => k_is); (case b => k_is); (case c => k_is); (case d => k_is)
    case c0 => refine' LK.HasInt.mk' ?a ?b; (case a => k_is); (case b => decide +kernel)
    case c1 => refine' LK.HasInt.mk' ?a ?b; (case a => k_is); (case b => decide +kernel)
    case c2 => refine' LK.HasInt.mk' ?a ?b; (case a => k_is); (case b => decide +kernel)
    case c3 => refine' LK.HasInt.mk' ?a ?b; (case a => k_is); (case b => decide +kernel)
    case c4 => refine' LK.HasStr.mk' ?a ?b; (case a => k_is); (case b => decide +kernel)
    case b_len => k_is
    case b_int => k_is
    case b_range => k_is
    case b_list => k_is
    case b_tuple => k_is
    case b_str => k_is
    case b_isinstance => k_is
    case b_all => k_is
    case b_abs => k_is
    case b_bool => k_is
    case b_dict => k_is
    case bdd => refine' LK.HasBd.mk' ?a1 ?a2 ?a3 ?a4 ?a5 ?a6 ?d1 ?d2 ?d3 ?d4 ?d5 ?d6 ?d7 ?e3 ?e4 ?e5 ?e6; (case a1 => k_is); (case a2 => k_is); (case a3 => k_exc); (case a4 => k_is); (case a5 => k_is); (case a6 => k_is); (case d1 => k_is); (case d2 => k_is); (case d3 => k_is); (case d4 => k_is); (case d5 => k_is); (case d6 => k_is); (case d7 => k_is); (case e3 => k_is); (case e4 => k_is); (case e5 => k_is); (case e6 => k_is)
    case kin_BadNumbers => refine' LK.HasKin.mk' ?a ?b ?c ?d ?e; (case a => k_is); (case b => decide); (case c => k_is); (case d => k_is); (case e => k_is)
    case kin_BadState => refine' LK.HasKin.mk' ?a ?b ?c ?d ?e; (case a => k_is); (case b => decide); (case c => k_is); (case d => k_is); (case e => k_is)
    case kin_Fault => refine' LK.HasKin.mk' ?a ?b ?c ?d ?e; (case a => k_is); (case b => decide); (case c => k_is); (case d => k_is); (case e => k_is)
    case kin_TooLong => refine' LK.HasKin.mk' ?a ?b ?c ?d ?e; (case a => k_is); (case b => decide); (case c => k_is); (case d => k_is); (case e => k_is)


