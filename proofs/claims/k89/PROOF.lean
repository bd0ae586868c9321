import PyProof.Rows.All
import Wide.All
import OpenK.AllK
import Wide.FinOn
import HandS.ForMost
import HandS.Wide
import HandS.WideMore
import HandS.TupAny
import HandS.TupLen
import HandS.Evl
import HandS.Codes
import PyProof.ReprLen
import PyProof.StrLawsRepr
import HandS.Walk
import HandS.Zip
import KE.GoesMore
import HandS.Style
import HandS.TupMul
import PyProof.StrOps2
import HandS.IsInst
import HandS.StrMore
import HandS.Dict
import HandS.Text
import HandS.Replace
import PyProof.Rows.RuleB_pow
import HandS.ExcInit
import HandS.Nested
import HandS.ClsMeth
import HandS.FStr
import KE.KExcSuper
import HandS.ExcField
import HandS.ExcIs
import HandS.ExcOwn
import HandS.WordsExc
import KE.KExcIs
import PyProof.ExcBaseAll.ValueError
import HandS.Rev
import HandS.RevTup
import KE.KDictList
import HandS.DictComp
import HandS.MapJoin
import HandS.Conv
import HandS.Iter
import HandS.More
import PySem.Challenge.RW_pyhold_k89_what_goes_out
set_option Elab.async false
set_option linter.all false
set_option maxRecDepth 100000
set_option maxHeartbeats 4000000
/-! A layer of one's own over the hand layer: defs by name, data, the helpers that the laws share. -/
namespace LK
open PySem PySem.Spec PyProof.Rows L2

/-! ### a def's promise where nothing is being shown (repr asks who is) -/
structure FnG (P : Program) (w : World) (K : PySem.W.Frag) (mg : Str → Option Value) (base : Heap) (CX : CXT) (k : Nat) (f : Addr) (fd : FuncData) (ps : List Str) (sp : Sp) : Prop where
  len : ∀ vs H Q E, sp vs H Q E → vs.length = ps.length
  run : ∀ (A : Around) (outer : List Env) (s : Shared) (H : Hp) (args : Args) (us : List Value) (vs : List V) (Q : VK) (E : XK), Room k A → A.guards = some [] →
    Env0 P w K mg base A outer s H → BindsTo s fd args (ps.zip us) → Vals vs us → sp vs H Q E → codeAny (model P w) A (.call (.ref f) args) (CR CX outer P w H s Q E) s
section
variable {P : Program} {w : World} {K : PySem.W.Frag} {mg : Str → Option Value} {base : Heap} {CX : CXT}
theorem FnG.imp {k : Nat} {f : Addr} {fd : FuncData} {ps : List Str} {sp sp' : Sp} (F : FnG P w K mg base CX k f fd ps sp) (h : ∀ vs H Q E, sp' vs H Q E → sp vs H Q E) : FnG P w K mg base CX k f fd ps sp' where
  len := fun vs H Q E q => F.len vs H Q E (h vs H Q E q)
  run := fun A outer s H args us vs Q E hr hg he hb hv hs => F.run A outer s H args us vs Q E hr hg he hb hv (h vs H Q E hs)
/-- the rule for a def: its body as a term of rules, and the reading of that term -/
theorem okG {x qual : Str} {st : Stmt} {f : Addr} {fd : FuncData} {N ps : List Str} {k : Nat} {sp : Sp} (F : Fun K x qual st f fd) (S : FnScope N ps (defScope st)) (len : ∀ vs H Q E, sp vs H Q E → vs.length = ps.length)
    (body : ∀ (cdv : Value) (A : Around) (outer : List Env) (s : Shared) (H : Hp) (vs : List V) (Q : VK) (E : XK), Room k (A.deeper (envOfC qual (defScope st) s.heap.objs.size f cdv)) →
      (A.deeper (envOfC qual (defScope st) s.heap.objs.size f cdv)).guards = some [] → sp vs H Q E →
      ∃ t, PSs (cxOf CX P w K mg base N qual (defScope st) f cdv A outer s H E) (defBody st) t ∧ t { nx := fun _ H' => Q .non H', rt := Q } (start N vs) H) :
    FnG P w K mg base CX (k + 1) f fd ps sp := by
  obtain ⟨oc, od, kV, doc, pm, an, cdv, ct, osl, rfl, lk, hcd⟩ := F.ex
  refine ⟨len, fun A outer s H args us vs Q E hr hgd e0 hb r hsp => ?_⟩
  have inn : K.In s.heap := e0.mod.kin.keeps fun b o e => (e0.bs b o e).1
  refine codeAny_call_function hr.depth (inn _ _ lk) rfl S.co S.gen rfl (PySem.W.codeRec_of inn hcd) (hb _ _ _ _ ?_)
  refine wpAny_newFunctionEnv_cells S.kind (fun y hy => ?_) fun env he s1 made => ?_
  · obtain ⟨n, v⟩ := y
    exact (S.par n (List.of_mem_zip hy).1).elim .inl fun q => .inr ⟨q, PySem.W.cellsFrom_some _ _ _ (.inl q)⟩
  · subst he
    have lim : s.heap.NoLimit := e0.mod.nolimit.keeps fun b o e => (e0.bs b o e).1
    refine ⟨lim.keeps made.toInCall.keep, codeAny_func ?_⟩
    obtain ⟨t, ht, hq⟩ := body cdv A outer s H vs Q E (hr.deeper _) hgd hsp
    refine wpAny_mono (ht.run [] s1 (start N vs) H _ (inv_start S hr.hd e0 (len _ _ _ _ hsp) r made) hq) (fun fl s' hs => ?_) fun e s' hs => hs
    cases fl with
    | ret u => exact let ⟨v, _, H', J, rv, q⟩ := hs; ⟨v, H', J.os, J.bare, J.base, J.hok, rv, q⟩
    | next => exact let ⟨_, H', J, q⟩ := hs; ⟨V.non, H', J.os, J.bare, J.base, J.hok, rfl, q⟩
    | brk => exact let ⟨_, _, _, q⟩ := hs; q.elim
    | cont => exact let ⟨_, _, _, q⟩ := hs; q.elim
/-- .. whose body lets no exception out -/
theorem okG0 {x qual : Str} {st : Stmt} {f : Addr} {fd : FuncData} {N ps : List Str} {k : Nat} {sp : Sp} (F : Fun K x qual st f fd) (S : FnScope N ps (defScope st)) (len : ∀ vs H Q E, sp vs H Q E → vs.length = ps.length)
    (body : ∀ (cdv : Value) (A : Around) (outer : List Env) (s : Shared) (H : Hp) (vs : List V) (Q : VK) (E : XK), Room k (A.deeper (envOfC qual (defScope st) s.heap.objs.size f cdv)) →
      (A.deeper (envOfC qual (defScope st) s.heap.objs.size f cdv)).guards = some [] → sp vs H Q E →
      ∃ t, PSs (cxOf CX0 P w K mg base N qual (defScope st) f cdv A outer s H E).nox (defBody st) t ∧ t { nx := fun _ H' => Q .non H', rt := Q } (start N vs) H) :
    FnG P w K mg base CX0 (k + 1) f fd ps sp :=
  okG F S len fun cdv A outer s H vs Q E hr hg hs => let ⟨t, ht, q⟩ := body cdv A outer s H vs Q E hr hg hs; ⟨t, ht.nox, q⟩
end
section
variable {X : Cx} {CX : CXT} {k : Nat} {f : Addr} {fd : FuncData} {ps : List Str} {sp : Sp} {E : XK} {x : Str} {p pos : Pos} {e : Expr} {es : List Expr} {t : TA}
theorem run_fnG {pins : List (Addr × Obj)} {σ : L2.St} {H : Hp} {s : Shared} {Q : VK} {us : List Value} {vs : List V} (F : FnG X.prog X.w X.K X.mg X.base CX k f fd ps sp) (hr : Room k X.A) (hg : X.A.guards = some []) (hb : Binds X.K fd ps [])
    (hx : Passes CX X E) (I : Inv X pins σ H s) (r : Vals vs us) (h : sp vs H Q E) : wpAny (model X.prog X.w) X.A (call (.ref f) us) (EP X pins σ Q) X.xe s := by
  have hl : (us ++ []).length = ps.length := by rw [List.append_nil, ← r.length, F.len _ _ _ _ h]
  have hbs := hb s us I.kIn hl
  rw [List.append_nil] at hbs
  refine wpAny_call (codeAny_mono (F.run X.A X.stack s H ⟨us, []⟩ us vs Q E hr hg I.env0 hbs r h) fun res s' hq => ?_)
  match res, hq with
  | .error e, hq => exact hx pins σ H s e s' I hq
  | .ok (.ret u), hq => exact I.after hq
  | .ok .next, hq => exact hq.elim
  | .ok .brk, hq => exact hq.elim
  | .ok .cont, hq => exact hq.elim
end

/-! ### defs of the text, by name -/
/-- what the top has left of the def x, whose statement is st -/
def HasFn (K : PySem.W.Frag) (x : Str) (st : Stmt) : Prop := ∃ (f : Addr) (oc : Value) (od an : Option Addr) (kV doc pm cdv ct : Value) (osl : Array (Option Value)),
  PySem.W.nsIn K mainGlobals x = some (some (.ref f)) ∧ K.lookup f = some ⟨oc, od, .func (PySem.W.fnOf x x (defArgs st) (defBody st) (defScope st) .none kV doc pm an cdv ct), osl⟩ ∧
  PySem.W.codeIn K cdv x = true ∧ PySem.W.keepIn K (.ref f) = true
/-- the def x may be called: its promise sp, by level k -/
structure Use (P : Program) (w : World) (K : PySem.W.Frag) (mg : Str → Option Value) (base : Heap) (CX : CXT) (x : Str) (k : Nat) (ps : List Str) (sp : Sp) : Prop where
  ex : ∃ (f : Addr) (fd : FuncData), FnG P w K mg base CX k f fd ps sp ∧ mg x = some (.ref f) ∧ PySem.W.keepIn K (.ref f) = true ∧ Binds K fd ps []
section
variable {P : Program} {w : World} {K : PySem.W.Frag} {mg : Str → Option Value} {base h : Heap} {CX : CXT}
theorem mk_use {x : Str} {st : Stmt} {k : Nat} {ps : List Str} {sp : Sp} (F : HasFn K x st) (X : K.In h) (G : h.Ns mainGlobals mg)
    (hb : ∀ (kV doc pm : Value) (an : Option Addr) (cdv ct : Value) (us : List Value), us.length = ps.length → bindArgs (PySem.W.fnOf x x (defArgs st) (defBody st) (defScope st) .none kV doc pm an cdv ct) ⟨us, []⟩ = pure (ps.zip us))
    (ok : ∀ (f : Addr) (fd : FuncData), Fun K x x st f fd → FnG P w K mg base CX k f fd ps sp) : Use P w K mg base CX x k ps sp := by
  obtain ⟨f, oc, od, an, kV, doc, pm, cdv, ct, osl, e, l, c, kp⟩ := F
  have Fn := fun_mk (st := st) l c kp
  exact ⟨f, _, ok f _ Fn, PySem.W.mg_of X G e, kp, Fn.binds hb⟩
theorem Use.imp {x : Str} {k : Nat} {ps : List Str} {sp sp' : Sp} (U : Use P w K mg base CX x k ps sp) (h : ∀ vs H Q E, sp' vs H Q E → sp vs H Q E) : Use P w K mg base CX x k ps sp' := by
  obtain ⟨f, fd, ok, r⟩ := U.ex
  exact ⟨f, fd, ok.imp h, r⟩
end
section
variable {X : Cx} {CX : CXT} {E : XK} {k : Nat} {x : Str} {ps : List Str} {sp : Sp} {p pos : Pos} {e : Expr} {es : List Expr} {t : TA}
theorem pe_useX (U : Use X.prog X.w X.K X.mg X.base CX x k ps sp) (hx : Passes CX X E) (hr : Room k X.A) (gd : X.A.guards = some []) (hg : Gl X x) (ha : PA X (e :: es) t) (hdb : (x == ("__debug__" : Str)) = false := by decide)
    (he : starEach (e :: es) X.env = (false, eval e X.env) :: starEach es X.env := by rfl) (hpl : (backTo pos (starEach es X.env)).any (·.1) = false := by rfl) : PE X (.Call (.Name x p) (e :: es) [] pos) (fun σ H Q => t σ H fun vs H1 => sp vs H1 Q E) := by
  obtain ⟨f, fd, ok, hm, kp, hb⟩ := U.ex
  refine ⟨fun pins s σ H Q I h => wpAny_Call_Name_kw (ld_glob I hg hm ?_ hdb)⟩
  exact PySem.W.callWith_K (h₀ := X.base) I.ok.mod.kin kp (thn (ha.run pos pins s σ H _ I h) fun us s1 ⟨vs, H1, I1, r, q⟩ => ⟨I1.kIn, run_fnG ok hr gd hb hx I1 r q⟩) he hpl
def tUse (sp : Sp) (E : XK) (t : TA) : TE := fun σ H Q => t σ H fun vs H1 => sp vs H1 Q E
theorem pe_use (U : Use X.prog X.w X.K X.mg X.base CX0 x k ps sp) (hr : Room k X.A) (gd : X.A.guards = some []) (hg : Gl X x) (ha : PA X (e :: es) t) (hdb : (x == ("__debug__" : Str)) = false := by decide)
    (he : starEach (e :: es) X.env = (false, eval e X.env) :: starEach es X.env := by rfl) (hpl : (backTo pos (starEach es X.env)).any (·.1) = false := by rfl) : PE X (.Call (.Name x p) (e :: es) [] pos) (tUse sp E0 t) := pe_useX U pass0 hr gd hg ha hdb he hpl
theorem pe_use0 (U : Use X.prog X.w X.K X.mg X.base CX0 x k ps sp) (hr : Room k X.A) (gd : X.A.guards = some []) (hg : Gl X x) (hdb : (x == ("__debug__" : Str)) = false := by decide) : PE X (.Call (.Name x p) [] [] pos) (tUse sp E0 tNil) := by
  obtain ⟨f, fd, ok, hm, kp, hb⟩ := U.ex
  exact ⟨fun pins s σ H Q I h => wpAny_Call_Name_kw (ld_glob I hg hm (PySem.W.callWith_K0 I.kIn kp (run_fnG (us := []) ok hr gd hb pass0 I .nil h)) hdb)⟩
end

/-! ### what stays -/
theorem Same.new {H : Hp} {p : Addr} {o : HO} (h : H p = none) : Same H (upd H p o) := fun b u e => by
  rw [upd_ne (ne_of_none e h)]; exact e
theorem Same.rd {H H' : Hp} {a : Addr} {u : HO} (e : Same H H') (h : Rd H a u) : Rd H' a u := by
  rcases h with h | ⟨o, h⟩
  · exact .inl (e _ _ h)
  · exact .inr ⟨o, e _ _ h⟩
theorem Same.tupl {K : PySem.W.Frag} {H H' : Hp} {a : Addr} {xs : List V} (e : Same H H') (h : SqT K H a xs) : SqT K H' a xs := by
  rcases h with h | h
  · exact .inl (Same.rd e h)
  · exact .inr h
theorem SqT.mono {K : PySem.W.Frag} {H H' : Hp} {a : Addr} {xs : List V} (h : SqT K H a xs) (e : Same H H') : SqT K H' a xs := Same.tupl e h
theorem SqL.mono {K : PySem.W.Frag} {H H' : Hp} {a : Addr} {xs : List V} (h : SqL K H a xs) (e : Same H H') : SqL K H' a xs := e.seq h

/-! ### data: none, bools, ints, texts, tuples (and lists that stand still) -/
mutual
theorem Dp.mono {K : PySem.W.Frag} {H H' : Hp} (e : Same H H') : ∀ {v : V} {d : PyData}, Dp K H v d → Dp K H' v d
  | _, _, .non => .non
  | _, _, .bl b => .bl b
  | _, _, .int i => .int i
  | _, _, .str x => .str x
  | _, _, .lst h a => .lst (e.seq h) (DpAll.mono e a)
  | _, _, .tup h a => .tup (Same.tupl e h) (DpAll.mono e a)
theorem DpAll.mono {K : PySem.W.Frag} {H H' : Hp} (e : Same H H') : ∀ {vs : List V} {ds : List PyData}, DpAll K H vs ds → DpAll K H' vs ds
  | _, _, .nil => .nil
  | _, _, .cons h a => .cons (Dp.mono e h) (DpAll.mono e a)
end
/-- a tuple just made -/
theorem Dp.made {K : PySem.W.Frag} {H : Hp} {p : Addr} {xs : List V} {ds : List PyData} (hp : H p = none) (h : DpAll K H xs ds) : Dp K (upd H p (.tup xs)) (.ref p) (.tuple ds) :=
  .tup (SqT.of upd_same) (DpAll.mono (Same.new hp) h)
theorem DpAll.length {K : PySem.W.Frag} {H : Hp} : ∀ {vs : List V} {ds : List PyData}, DpAll K H vs ds → vs.length = ds.length
  | _, _, .nil => rfl
  | _, _, .cons _ t => by simp [DpAll.length t]
theorem DpAll.app {K : PySem.W.Frag} {H : Hp} : ∀ {vs ws : List V} {ds es : List PyData}, DpAll K H vs ds → DpAll K H ws es → DpAll K H (vs ++ ws) (ds ++ es)
  | _, _, _, _, .nil, t => t
  | _, _, _, _, .cons h a, t => .cons h (DpAll.app a t)

/-! ### repr of data -/
mutual
theorem Dp.noDict {K : PySem.W.Frag} {H : Hp} : ∀ {v : V} {d : PyData}, Dp K H v d → d.hasDict = false
  | _, _, .non => rfl
  | _, _, .bl _ => rfl
  | _, _, .int _ => rfl
  | _, _, .str _ => rfl
  | _, _, .lst _ a => by simp only [PyData.hasDict]; exact DpAll.noDict a
  | _, _, .tup _ a => by simp only [PyData.hasDict]; exact DpAll.noDict a
theorem DpAll.noDict {K : PySem.W.Frag} {H : Hp} : ∀ {vs : List V} {ds : List PyData}, DpAll K H vs ds → PyData.hasDictAll ds = false
  | _, _, .nil => rfl
  | _, _, .cons h a => by simp only [PyData.hasDictAll, Dp.noDict h, DpAll.noDict a, Bool.or_self]
end
/-- what repr asks of data -/
structure ShowOk (d : PyData) : Prop where
  ok : d.showable = true
  dp : d.depth ≤ 60
  sz : d.shown.length ≤ sizeLine
def rRepr (K : PySem.W.Frag) : List V → Hp → VK → Prop := fun xs H Q => ∃ v d, xs = [v] ∧ Dp K H v d ∧ ShowOk d ∧ Q (.str d.shown) H
section
variable {X : Cx}
theorem call_repr_data (hg : X.A.guards = some []) (hu : X.A.units + 64 < cLine) : CallR X (.builtin "repr") (rRepr X.K) := by
  intro pins s σ H xs us Q I r h
  obtain ⟨v, d, rfl, hd, ⟨hs, hdp, hsz⟩, q⟩ := h
  obtain ⟨u, rfl, rv⟩ := vals1 r
  obtain ⟨as, rr⟩ := Dp.reads I d v u hd rv
  have nd := Dp.noDict hd
  cases d with
  | none => cases rr; exact PySem.P.repr_of_none ⟨.str _, H, I.tok _, ⟨_, rfl⟩, q⟩
  | bool b => cases rr; exact PySem.P.repr_of_bool ⟨.str _, H, I.tok _, ⟨_, rfl⟩, by simpa [PyData.shown] using q⟩
  | int i => cases rr; exact PySem.P.repr_of_int (of_decide_eq_true (by simpa [PyData.showable] using hs)) ⟨.str _, H, I.tok _, ⟨_, rfl⟩, by simpa [PyData.shown] using q⟩
  | str x => cases rr; exact PySem.P.repr_of_str (hsz := by simpa [PyData.shown] using hsz) ⟨.str _, H, I.tok _, ⟨_, rfl⟩, by simpa [PyData.shown] using q⟩
  | list ds =>
    obtain ⟨a, rfl⟩ := PyProof.Rows.isRef_of_reads rr rfl
    exact repr_of_reads' rr hs (PyData.noDict_hsm nd) hg (by omega) (fun _ _ e => e) (fun h' u tk hk => ⟨.str _, H, I.kept hk, ⟨_, rfl⟩, q⟩) hsz
  | tuple ds =>
    obtain ⟨a, rfl⟩ := PyProof.Rows.isRef_of_reads rr rfl
    exact repr_of_reads' rr hs (PyData.noDict_hsm nd) hg (by omega) (fun _ _ e => e) (fun h' u tk hk => ⟨.str _, H, I.kept hk, ⟨_, rfl⟩, q⟩) hsz
  | dict kv => cases hd
end

/-! ### the law's own call -/
/-- the heap behind the top, seen with the script at a locked, or with nothing tracked -/
theorem law_callG {P : Program} {w : World} {K : PySem.W.Frag} {mg mb : Str → Option Value} {CX : CXT} {k : Nat} {fa a : Addr} {fd : FuncData} {x : Str} {sp : Sp} {s₁ : Shared} {vs : List Value} {ns : List Int}
    (inn : K.In s₁.heap) (hns : s₁.heap.Ns mainGlobals mg) (hb : s₁.heap.Ns builtinsNs mb) (hbb : ∀ x : Str, x ≠ "__name__" → mb x = bootBuiltins x) (hlim : s₁.heap.NoLimit) (hgens : s₁.gens = #[])
    (ha : s₁.heap.get? a = some { cls := .type "list", data := .seq vs.toArray }) (hi : IntsAre vs ns) (hl : ns.length ≤ sizeLine) (hr : Room k callerA)
    (F : ∀ base : Heap, K.In base → base.Ns mainGlobals mg → FnG P w K mg base CX k fa fd [x] sp) (hbind : ∀ (s : Shared) (u : Value), BindsTo s fd ⟨[u], []⟩ [(x, u)])
    (hsp : ∀ H : Hp, Only H → SqL K H a (ns.map V.int) → sp [.ref a] H (fun v _ => v = .bl true) fun _ _ _ => False)
    (hCX : ∀ H e s', CX [] H s₁ (fun _ _ _ => False) e s' → False) :
    codeAny (model P w) callerA (.call (.ref fa) ⟨[.ref a], []⟩) (fun r s' => r = .ok (.ret (.bool true)) ∧ OldK s₁.heap s'.heap ∧ s'.os = s₁.os ∧ AllBare s'.gens) s₁ := by
  have rv := vals_ints hi
  have run : ∀ H : Hp, Only H → SqL K H a (ns.map V.int) → HOk P w H s₁.heap → (∀ b u, H b = some u → b = a ∧ K.lookup a = none) →
      codeAny (model P w) callerA (.call (.ref fa) ⟨[.ref a], []⟩) (fun r s' => r = .ok (.ret (.bool true)) ∧ OldK s₁.heap s'.heap ∧ s'.os = s₁.os ∧ AllBare s'.gens) s₁ := by
    intro H only hS hok at_a
    -- what is no list stays in the base
    have free : ∀ {b : Addr} {o : Obj}, s₁.heap.get? b = some o → (∀ its n, o.data ≠ .seq its n) → H b = none := fun {b o} e hd => by
      cases q : H b with
      | none => rfl
      | some u =>
        obtain ⟨rfl, _⟩ := at_a b u q
        rw [ha] at e; cases e
        exact absurd rfl (hd _ _)
    have names : ∀ {b : Addr} {m : Str → Option Value}, s₁.heap.Ns b m → (hidT s₁.heap H).Ns b m := fun {b m} hn => by
      obtain ⟨o, es, ep, e, d, r⟩ := hn
      exact ⟨o, es, ep, hidT_get e (free e fun its n z => by rw [d] at z; cases z), d, r⟩
    have inb : K.In (hidT s₁.heap H) := fun b o e => by
      refine hidT_get (inn b o e) ?_
      cases q : H b with
      | none => rfl
      | some u =>
        obtain ⟨rfl, hk⟩ := at_a b u q
        rw [e] at hk; cases hk
    have md : Mod K mg (hidT s₁.heap H) := by
      obtain ⟨mc, h1, h2⟩ := hlim
      exact ⟨inb, names hns, ⟨mb, names hb, hbb⟩, ⟨mc, names h1, h2⟩⟩
    have none_in : ∀ b : Addr, b ∉ ([] : List Addr) := fun b z => nomatch z
    have e0 : Env0 P w K mg (hidT s₁.heap H) callerA [] s₁ H := ⟨rfl, md, fun b o e => of_hidT e, Nat.le_of_eq (hidT_size _ _), trivial, fun b z => absurd z (none_in b), hok, .of_eq hgens⟩
    refine codeAny_mono ((F _ inb (names hns)).run callerA [] s₁ H ⟨[.ref a], []⟩ [.ref a] [.ref a] _ _ hr rfl e0 (hbind s₁ (.ref a)) (.cons rfl .nil) (hsp H only hS)) fun r s' h => ?_
    match r, h with
    | .error e, h => exact (hCX H e s' h).elim
    | .ok .next, h => exact False.elim h
    | .ok .brk, h => exact False.elim h
    | .ok .cont, h => exact False.elim h
    | .ok (.ret u), h =>
      obtain ⟨v, H', os, bare, un, hok', r', q⟩ := h
      obtain rfl : v = V.bl true := q
      obtain rfl : u = Value.bool true := r'
      refine ⟨rfl, OldK.of_keep fun b o e => ?_, os, bare⟩
      cases q : H b with
      | none => exact un.keep b o e q (none_in b) (none_in b)
      | some u =>
        rcases only b with z | ⟨ob, xs, z⟩
        · rw [q] at z; cases z
        · have e1 : s₁.heap.get? b = some ob := (hok b _ z).1
          rw [e] at e1; cases e1
          exact (hok' b _ (un.frzs b o _ z)).1
  cases hk : K.lookup a with
  | some o =>
    have e := inn a o hk
    rw [ha] at e; cases e
    have sz : vs.toArray.size ≤ sizeLine := by rw [List.size_toArray, hi.length]; exact hl
    exact run (fun _ => none) (fun _ => .inl rfl) (.inr ⟨_, vs.toArray, _, hk, rfl, rfl, rfl, sz, by simpa using rv⟩) (fun b u z => nomatch (show (none : Option HO) = some u from z)) fun b u z => nomatch (show (none : Option HO) = some u from z)
  | none =>
    let u0 : HO := .frz { cls := .type "list", data := .seq vs.toArray } (.lst (ns.map V.int))
    have at1 : ∀ b u, upd (fun _ => none) a u0 b = some u → b = a ∧ u = u0 := fun b u z => by
      by_cases hb : b = a
      · subst hb; rw [upd_same] at z; exact ⟨rfl, (Option.some.inj z).symm⟩
      · rw [upd_ne hb] at z; cases z
    refine run (upd (fun _ => none) a u0) (fun b => ?_) (.inl (.inr ⟨_, upd_same⟩)) (fun b u z => ?_) fun b u z => ⟨(at1 b u z).1, hk⟩
    · by_cases hb : b = a
      · subst hb; exact .inr ⟨_, _, upd_same⟩
      · exact .inl (by rw [upd_ne hb])
    · obtain ⟨rfl, rfl⟩ := at1 b u z
      exact ⟨ha, by rw [List.length_map]; exact hl, vs, _, rv, ha⟩
theorem walkG {l : PySem.W.OpenLaw} {n k : Nat} {q : Program} {loose : List Str} {XP : (Str → Option Value) → Heap → Prop} {YP : World → Heap → Prop} {d : DefRec} {K : Params → PySem.W.Frag} {CX : CXT} {sp : PySem.W.Frag → Sp} {x : Str}
    (hn : l.most = some n) (hn2 : n ≤ sizeLine) (hdf : d.params.defaults = []) (hr : Room k callerA)
    (hY : ∀ (w : World) (h : Heap), YP w h → (K w.params).In h)
    (F : ∀ (w : World) (mg : Str → Option Value) (fa : Addr) (h : Heap), (K w.params).In h → h.Ns mainGlobals mg → mg d.name = some (.ref fa) →
      ∃ fd : FuncData, (∀ (s : Shared) (u : Value), BindsTo s fd ⟨[u], []⟩ [(x, u)]) ∧
        ∀ base : Heap, (K w.params).In base → base.Ns mainGlobals mg → FnG l.prog w (K w.params) mg base CX k fa fd [x] (sp (K w.params)))
    (hsp : ∀ (K : PySem.W.Frag) (H : Hp) (a : Addr) (ns : List Int), ns.length ≤ n → Only H → SqL K H a (ns.map V.int) → sp K [.ref a] H (fun v _ => v = .bl true) fun _ _ _ => False)
    (hCX : ∀ (H : Hp) (s : Shared) (e : Value) (s' : Shared), CX [] H s (fun _ _ _ => False) e s' → False) :
    PySem.W.WalkO q loose XP YP l.row.toRowW d [] (fun f vs => PySem.call f vs) :=
  Att.attach_call hn hdf fun w s₀ s₁ mg mb fa o pm cd doc a vs ns G Y ho hd hcd hmg hobj hints hlen hg =>
    let ⟨fd, hb, hF⟩ := F w mg fa _ (hY w _ Y) G.T.g hmg
    law_callG (hY w _ Y) G.T.g G.T.b G.T.builtins G.T.nolimit hg hobj hints (Nat.le_trans hlen hn2) hr hF hb (fun H hO hS => hsp (K w.params) H a ns hlen hO hS) fun H e s' => hCX H s₁ e s'
/-- from the top's facts: the law's def and its arguments -/
theorem law_use {P : Program} {w : World} {K : PySem.W.Frag} {mg : Str → Option Value} {h : Heap} {CX : CXT} {k : Nat} {fa : Addr} {st : Stmt} {x : Str} {sp : Sp} (L : HasFn K "law" st) (X : K.In h) (G : h.Ns mainGlobals mg) (hfa : mg "law" = some (.ref fa))
    (hb : ∀ (kV doc pm : Value) (an : Option Addr) (cdv ct v : Value), bindArgs (PySem.W.fnOf "law" "law" (defArgs st) (defBody st) (defScope st) .none kV doc pm an cdv ct) ⟨[v], []⟩ = pure [(x, v)])
    (ok : ∀ base : Heap, K.In base → base.Ns mainGlobals mg → ∀ fd, Fun K "law" "law" st fa fd → FnG P w K mg base CX k fa fd [x] sp) :
    ∃ fd : FuncData, (∀ (s : Shared) (v : Value), BindsTo s fd ⟨[v], []⟩ [(x, v)]) ∧ ∀ base : Heap, K.In base → base.Ns mainGlobals mg → FnG P w K mg base CX k fa fd [x] sp := by
  obtain ⟨f, oc, od, an, kV, doc, pm, cdv, ct, osl, e, l, c, kp⟩ := L
  have z := hfa.symm.trans (PySem.W.mg_of X G e)
  cases z
  have Fn := fun_mk (st := st) l c kp
  exact ⟨_, fun s v => .of_eq (hb ..), fun base h1 h2 => ok base h1 h2 _ Fn⟩

/-! ### tests whose answer is known -/
theorem iteFb {c : Bool} {A B : Prop} (h : c = false) (b : B) : if c = true then A else B := by rw [h]; exact iteF b
theorem iteTb {c : Bool} {A B : Prop} (h : c = true) (a : A) : if c = true then A else B := by rw [h]; exact iteT a
theorem ite3 {c : Bool} {A B : Prop} (h1 : c = true → A) (h2 : c = false → B) : if c = true then A else B := by
  cases c with
  | true => exact iteT (h1 rfl)
  | false => exact iteF (h2 rfl)

/-! ### constants of the top -/
def HasInt (K : PySem.W.Frag) (x : Str) (n : Int) : Prop := ∃ (t : Tok) (m : Int), PySem.W.nsIn K mainGlobals x = some (some (.int m t)) ∧ m = n
def KTup (K : PySem.W.Frag) (a : Addr) (xs : List V) : Prop := ∃ (od : Option Addr) (its : Array Value) (n : Nat) (sl : Array (Option Value)), K.lookup a = some ⟨.type "tuple", od, .seq its n, sl⟩ ∧ its.size ≤ sizeLine ∧ Vals xs its.toList
def HasTup (K : PySem.W.Frag) (x : Str) (xs : List V) : Prop := ∃ a, PySem.W.nsIn K mainGlobals x = some (some (.ref a)) ∧ KTup K a xs
theorem KTup.sq {K : PySem.W.Frag} {a : Addr} {xs : List V} (h : KTup K a xs) (H : Hp) : SqT K H a xs := by
  obtain ⟨od, its, n, sl, e, z, v⟩ := h
  exact .inr ⟨_, its, n, e, rfl, rfl, z, v⟩
/-- the module's names, as the defs see them -/
def GInt (mg : Str → Option Value) (x : Str) (n : Int) : Prop := ∃ t, mg x = some (.int n t)
def GTup (K : PySem.W.Frag) (mg : Str → Option Value) (x : Str) (xs : List V) : Prop := ∃ a, mg x = some (.ref a) ∧ KTup K a xs
theorem HasInt.g {K : PySem.W.Frag} {mg : Str → Option Value} {h : Heap} {x : Str} {n : Int} (i : HasInt K x n) (X : K.In h) (G : h.Ns mainGlobals mg) : GInt mg x n := by
  obtain ⟨t, m, e, rfl⟩ := i
  exact ⟨t, PySem.W.mg_of X G e⟩
theorem HasTup.g {K : PySem.W.Frag} {mg : Str → Option Value} {h : Heap} {x : Str} {xs : List V} (i : HasTup K x xs) (X : K.In h) (G : h.Ns mainGlobals mg) : GTup K mg x xs := by
  obtain ⟨a, e, k⟩ := i
  exact ⟨a, PySem.W.mg_of X G e, k⟩
section
variable {X : Cx} {x : Str} {pos : Pos}
theorem pe_globI {n : Int} (h : GInt X.mg x n) (hg : Gl X x) (hd : (x == ("__debug__" : Str)) = false := by decide) : PE X (.Name x pos) (tC (.int n)) := by
  obtain ⟨t, e⟩ := h
  exact pe_glob hg e ⟨t, rfl⟩ hd
/-- a tuple of the top: it is read as xs, wherever it stands -/
def tGT (K : PySem.W.Frag) (xs : List V) : TE := fun _ H Q => ∀ a, KTup K a xs → Q (.ref a) H
theorem pe_globT {xs : List V} (h : GTup X.K X.mg x xs) (hg : Gl X x) (hd : (x == ("__debug__" : Str)) = false := by decide) : PE X (.Name x pos) (tGT X.K xs) := by
  obtain ⟨a, e, k⟩ := h
  exact ⟨fun pins s σ H Q I q => (pe_glob (v := .ref a) hg e rfl hd).run pins s σ H Q I (q a k)⟩
end

/-! ### // by any divisor but 0 -/
def CDivX (_ j : Int) : Prop := j ≠ 0 ∧ j.natAbs.log2 < 9000
theorem op_fdivX {X : Cx} : OpR X (binaryOp .FloorDiv) (rI CDivX fun i j => .int (i.fdiv j)) := opI fun _ _ _ _ _ _ _ hc q => floordiv_int hc.1 q (.inl (PyProof.noPylong_of_log2 hc.2))
theorem fdiv_le_pos (i : Int) {j : Int} (hj : 0 < j) : (i.fdiv j).natAbs ≤ i.natAbs + 1 := by
  have e := Int.mul_fdiv_add_fmod i j
  have h0 := Int.fmod_nonneg_of_pos i hj
  have h1 := Int.fmod_lt_of_pos i hj
  have a : (i.fdiv j).natAbs ≤ (j * i.fdiv j).natAbs := by
    rw [Int.natAbs_mul]; exact Nat.le_mul_of_pos_left _ (by omega)
  by_cases hi : 0 ≤ i
  · have : 0 ≤ i.fdiv j := Int.fdiv_nonneg hi (by omega)
    have : 0 ≤ j * i.fdiv j := Int.mul_nonneg (by omega) this
    omega
  · have q : i.fdiv j ≤ -1 := by
      by_cases z : 0 ≤ i.fdiv j
      · have := Int.mul_nonneg (show 0 ≤ j by omega) z
        omega
      · omega
    have r : -1 + i ≤ i.fdiv j := by
      have : i.fdiv j * (j - 1) ≤ (-1) * (j - 1) := Int.mul_le_mul_of_nonneg_right q (by omega)
      have e2 : j * i.fdiv j = i.fdiv j * (j - 1) + i.fdiv j := by rw [Int.mul_sub, Int.mul_one, Int.mul_comm]; omega
      omega
    omega
theorem fdiv_le (i j : Int) : (i.fdiv j).natAbs ≤ i.natAbs + 1 := by
  by_cases h : 0 < j
  · exact fdiv_le_pos i h
  · by_cases h2 : j = 0
    · subst h2; rw [Int.fdiv_zero]; omega
    · have e : i.fdiv j = (-i).fdiv (-j) := by rw [Int.neg_fdiv_neg]
      have := fdiv_le_pos (-i) (show 0 < -j by omega)
      rw [e]; omega

/-! ### how long a shown thing is at most -/
structure Sm (d : PyData) (dp N : Nat) : Prop where
  ok : d.showable = true
  dp : d.depth ≤ dp
  sz : d.shown.length ≤ N
structure SmAll (ds : List PyData) (dp n N : Nat) : Prop where
  ok : PyData.showableAll ds = true
  dp : PyData.depthAll ds ≤ dp
  len : ds.length ≤ n
  sz : ((PyData.shownAll ds).map (·.length)).sum ≤ N
theorem Sm.show {d : PyData} {dp N : Nat} (h : Sm d dp N) (h1 : dp ≤ 60) (h2 : N ≤ sizeLine) : ShowOk d := ⟨h.ok, Nat.le_trans h.dp h1, Nat.le_trans h.sz h2⟩
theorem Sm.mono {d : PyData} {dp N dp' N' : Nat} (h : Sm d dp N) (h1 : dp ≤ dp') (h2 : N ≤ N') : Sm d dp' N' := ⟨h.ok, Nat.le_trans h.dp h1, Nat.le_trans h.sz h2⟩
theorem shownAll_length : ∀ ds : List PyData, (PyData.shownAll ds).length = ds.length
  | [] => rfl
  | d :: ds => by simp [PyData.shownAll, shownAll_length ds]
theorem Sm.int {i : Int} (h : i.natAbs < 2 ^ 1900) : Sm (.int i) 0 2000 := by
  have hl : i.natAbs.log2 < 1900 := PySem.Flt.log2_lt_of (by decide) h
  refine ⟨?_, Nat.le_refl 0, ?_⟩
  · simp only [PyData.showable, decide_eq_true_eq]; omega
  · have e := int_text_length_le (k := 1900) (by decide) hl
    show (Str.ofString (toString i)).length ≤ 2000
    rw [PySem.ofString_length]; omega
theorem Sm.bool (b : Bool) : Sm (.bool b) 0 10 := ⟨rfl, Nat.le_refl 0, by cases b <;> decide +kernel⟩
theorem Sm.none : Sm .none 0 10 := ⟨rfl, Nat.le_refl 0, by decide +kernel⟩
theorem Sm.str {x : Str} {n : Nat} (h : x.length ≤ n) (hc : ∀ c ∈ x.cps.toList, c < 16 ^ 8) : Sm (.str x) 0 (10 * n + 2) := ⟨rfl, Nat.le_refl 0, by
  have e := PySem.StrLaws.reprText_len x hc
  show (reprText x).length ≤ _
  omega⟩
theorem SmAll.nil : SmAll [] 0 0 0 := ⟨rfl, Nat.le_refl 0, Nat.le_refl 0, Nat.le_refl 0⟩
theorem SmAll.cons {d : PyData} {ds : List PyData} {dp dp' n N M : Nat} (h : Sm d dp N) (t : SmAll ds dp' n M) : SmAll (d :: ds) (max dp dp') (n + 1) (N + M) := by
  have h1 := h.dp
  have h2 := t.dp
  refine ⟨by simp [PyData.showableAll, h.ok, t.ok], ?_, by have := t.len; simp; omega, ?_⟩
  · simp only [PyData.depthAll]; omega
  · have := h.sz
    have := t.sz
    simp only [PyData.shownAll, List.map_cons, List.sum_cons]; omega
theorem Sm.tup {ds : List PyData} {dp n N : Nat} (h : SmAll ds dp n N) : Sm (.tuple ds) (dp + 1) (N + 2 * n + 3) := by
  refine ⟨by simpa [PyData.showable] using h.ok, by simp only [PyData.depth]; have := h.dp; omega, ?_⟩
  have e := tupleText_len_le (PyData.shownAll ds)
  have := h.sz
  have := h.len
  rw [shownAll_length] at e
  show (tupleText (PyData.shownAll ds)).length ≤ _
  omega
theorem Sm.lst {ds : List PyData} {dp n N : Nat} (h : SmAll ds dp n N) : Sm (.list ds) (dp + 1) (N + 2 * n + 3) := by
  refine ⟨by simpa [PyData.showable] using h.ok, by simp only [PyData.depth]; have := h.dp; omega, ?_⟩
  have e := listText_len_le (PyData.shownAll ds)
  have := h.sz
  have := h.len
  rw [shownAll_length] at e
  show (listText (PyData.shownAll ds)).length ≤ _
  omega
theorem SmAll.many {dp N : Nat} : ∀ {ds : List PyData}, (∀ d ∈ ds, Sm d dp N) → SmAll ds dp ds.length (N * ds.length)
  | [], _ => ⟨rfl, Nat.zero_le _, Nat.le_refl 0, Nat.zero_le _⟩
  | d :: ds, h => by
    have t := SmAll.cons (h d (by simp)) (SmAll.many (fun e he => h e (List.mem_cons_of_mem _ he)))
    rw [Nat.max_self] at t
    refine ⟨t.ok, t.dp, t.len, Nat.le_trans t.sz ?_⟩
    rw [List.length_cons, Nat.mul_succ]; omega
theorem sz_0 : (0 : Nat) ≤ sizeLine := by decide
theorem sz_1 : (1 : Nat) ≤ sizeLine := by decide
theorem sz_2 : (2 : Nat) ≤ sizeLine := by decide
theorem sz_3 : (3 : Nat) ≤ sizeLine := by decide
theorem sz_4 : (4 : Nat) ≤ sizeLine := by decide
theorem sz_5 : (5 : Nat) ≤ sizeLine := by decide
/-! ### the ends: each premise a fact that k_is finds -/
theorem HasFn.mk' {K : PySem.W.Frag} {x : Str} {st : Stmt} {f : Addr} {oc : Value} {od an : Option Addr} {kV doc pm cdv ct : Value} {osl : Array (Option Value)} (a : PySem.W.nsIn K mainGlobals x = some (some (.ref f)))
    (b : K.lookup f = some ⟨oc, od, .func (PySem.W.fnOf x x (defArgs st) (defBody st) (defScope st) .none kV doc pm an cdv ct), osl⟩) (c : PySem.W.codeIn K cdv x = true) (d : PySem.W.keepIn K (.ref f) = true) : HasFn K x st :=
  ⟨f, oc, od, an, kV, doc, pm, cdv, ct, osl, a, b, c, d⟩
theorem HasInt.mk' {K : PySem.W.Frag} {x : Str} {n m : Int} {t : Tok} (a : PySem.W.nsIn K mainGlobals x = some (some (.int m t))) (e : m = n) : HasInt K x n := ⟨t, m, a, e⟩
theorem HasTup.mk' {K : PySem.W.Frag} {x : Str} {xs : List V} {a : Addr} {od : Option Addr} {its : Array Value} {n : Nat} {sl : Array (Option Value)} (h : PySem.W.nsIn K mainGlobals x = some (some (.ref a)))
    (b : K.lookup a = some ⟨.type "tuple", od, .seq its n, sl⟩) (z : its.size ≤ sizeLine) (v : Vals xs its.toList) : HasTup K x xs := ⟨a, h, od, its, n, sl, b, z, v⟩
/-! ### what the laws' helpers promise -/
/-! the digits and the place -/
def BoxAt (H : Hp) (p dl : Addr) : Prop := ∃ (ds : List Int) (k : Int), H p = some (.lst [.ref dl, .int k]) ∧ 0 ≤ k ∧ H dl = some (.lst (ds.map V.int)) ∧ ds.length ≤ 4000 ∧ ∀ d ∈ ds, 0 ≤ d ∧ d < 1000
theorem BoxAt.at_ {H : Hp} {p dl : Addr} (h : BoxAt H p dl) : ∃ xs, H p = some (.lst xs) := let ⟨_, _, a, _⟩ := h; ⟨_, a⟩
theorem BoxAt.dg {H : Hp} {p dl : Addr} (h : BoxAt H p dl) : ∃ xs, H dl = some (.lst xs) := let ⟨_, _, _, _, c, _⟩ := h; ⟨_, c⟩
def Keep (p : Addr) (H H' : Hp) : Prop := ∀ b o, H b = some o → b ≠ p → H' b = some o
def spDraw (K : PySem.W.Frag) : Sp := fun vs H Q _ => ∃ (p dl : Addr) (m : Int), vs = [.ref p, .int m] ∧ BoxAt H p dl ∧ 0 < m ∧ ∀ r H', 0 ≤ r → r < m → BoxAt H' p dl → Keep p H H' → Q (.int r) H'
def spCell (K : PySem.W.Frag) : Sp := fun vs H Q _ => ∃ (a : Addr) (ns : List Int) (i : Int), vs = [.ref a, .int i] ∧ SqL K H a (ns.map V.int) ∧ 0 ≤ i ∧ ∀ r, Q (.int r) H
def DigAt (H0 H : Hp) (dl : Addr) (n : Nat) : Prop := ∃ ds : List Int, H dl = some (.lst (ds.map V.int)) ∧ ds.length ≤ n ∧ (∀ d ∈ ds, 0 ≤ d ∧ d < 1000) ∧ Same H0 H
theorem DigAt.mono {H0 H : Hp} {dl : Addr} {n m : Nat} (h : DigAt H0 H dl n) (l : n ≤ m) : DigAt H0 H dl m := let ⟨ds, a, b, c, d⟩ := h; ⟨ds, a, by omega, c, d⟩
theorem DigAt.add {H0 H : Hp} {dl : Addr} {n : Nat} {r : Int} {xs : List V} (h : DigAt H0 H dl n) (hx : H dl = some (.lst xs)) (nd : H0 dl = none) (h0 : 0 ≤ r) (h1 : r < 1000) : DigAt H0 (upd H dl (.lst (xs ++ [.int r]))) dl (n + 1) := by
  obtain ⟨ds, a, b, c, d⟩ := h
  rw [hx] at a
  obtain rfl := HO.lst.inj (Option.some.inj a)
  refine ⟨ds ++ [r], by rw [upd_same, List.map_append]; rfl, by simp; omega, fun z hz => ?_, fun q o e => by rw [upd_ne (ne_of_none e nd)]; exact d q o e⟩
  rcases List.mem_append.mp hz with hz | hz
  · exact c z hz
  · have : z = r := by simpa using hz
    omega
def spDigits (K : PySem.W.Frag) : Sp := fun vs H Q _ => ∃ (a : Addr) (ns : List Int) (lo hi : Nat), vs = [.ref a, .int lo, .int hi] ∧ SqL K H a (ns.map V.int) ∧ lo ≤ hi ∧ hi ≤ 64 ∧
  ∀ (p : Addr) (H' : Hp), H p = none → DigAt H H' p 4000 → Q (.ref p) H'
def spBound : Sp := fun vs H Q _ => vs = [] ∧ Q (.int (2 ^ 256)) H
theorem Keep.trans {p : Addr} {H H1 H2 : Hp} (a : Keep p H H1) (b : Keep p H1 H2) : Keep p H H2 := fun c o h ne => b c o (a c o h ne) ne
theorem Keep.refl (p : Addr) (H : Hp) : Keep p H H := fun _ _ h _ => h
def Sgn (z : Int) : Prop := z = 1 ∨ z = -1
theorem Sgn.mul {z n : Int} (h : Sgn z) : (z * n).natAbs = n.natAbs := by
  rcases h with rfl | rfl <;> omega
theorem Sgn.wide {z n : Int} (h : Sgn z) (hn : n.natAbs < 2 ^ 300) : CMulW z n := wide_mul (a := 2) (b := 300) (by rcases h with rfl | rfl <;> decide) hn (by decide) (by decide) (by decide)
def spNumber (K : PySem.W.Frag) : Sp := fun vs H Q _ => ∃ (p dl : Addr), vs = [.ref p] ∧ BoxAt H p dl ∧ ∀ (n : Int) H', n.natAbs < 2 ^ 260 → BoxAt H' p dl → Keep p H H' → Q (.int n) H'
def spSame (K : PySem.W.Frag) : Sp := fun vs H Q _ => ∃ (x y : V) (d : PyData), vs = [x, y] ∧ Dp K H x d ∧ Dp K H y d ∧ ShowOk d ∧ Q (.bl true) H
theorem Same.keep {p : Addr} {H H' : Hp} (e : Same H H') : Keep p H H' := fun b o h _ => e b o h
theorem BoxAt.same {p dl : Addr} {H H' : Hp} (h : BoxAt H p dl) (e : Same H H') : BoxAt H' p dl := by
  obtain ⟨ds, k, a, b, c, d⟩ := h
  exact ⟨ds, k, e _ _ a, b, e _ _ c, d⟩
theorem BoxAt.upd {p dl l : Addr} {H : Hp} {o : HO} (h : BoxAt H p dl) (h1 : l ≠ p) (h2 : l ≠ dl) : BoxAt (L2.upd H l o) p dl := by
  obtain ⟨ds, k, a, b, c, d⟩ := h
  exact ⟨ds, k, by rw [upd_ne (Ne.symm h1)]; exact a, b, by rw [upd_ne (Ne.symm h2)]; exact c, d⟩
theorem strOk (s : Str) (h : s.cps.toList.all (fun c => decide (c < 16 ^ 8)) = true) : ∀ c ∈ s.cps.toList, c < 16 ^ 8 := fun c hc => of_decide_eq_true (List.all_eq_true.mp h c hc)

/-! ### data without lists: what no change of a list can reach -/
mutual
inductive Dt (K : PySem.W.Frag) (H : Hp) : V → PyData → Prop
  | non : Dt K H .non .none
  | bl (b : Bool) : Dt K H (.bl b) (.bool b)
  | int (i : Int) : Dt K H (.int i) (.int i)
  | str (x : Str) : Dt K H (.str x) (.str x)
  | tup {a : Addr} {xs : List V} {ds : List PyData} : SqT K H a xs → DtAll K H xs ds → Dt K H (.ref a) (.tuple ds)
inductive DtAll (K : PySem.W.Frag) (H : Hp) : List V → List PyData → Prop
  | nil : DtAll K H [] []
  | cons {v : V} {vs : List V} {d : PyData} {ds : List PyData} : Dt K H v d → DtAll K H vs ds → DtAll K H (v :: vs) (d :: ds)
end
mutual
theorem Dt.dp {K : PySem.W.Frag} {H : Hp} : ∀ {v : V} {d : PyData}, Dt K H v d → Dp K H v d
  | _, _, .non => .non
  | _, _, .bl b => .bl b
  | _, _, .int i => .int i
  | _, _, .str x => .str x
  | _, _, .tup h a => .tup h (DtAll.dp a)
theorem DtAll.dp {K : PySem.W.Frag} {H : Hp} : ∀ {vs : List V} {ds : List PyData}, DtAll K H vs ds → DpAll K H vs ds
  | _, _, .nil => .nil
  | _, _, .cons h a => .cons (Dt.dp h) (DtAll.dp a)
end
/-- every tuple that H reads H' reads as well -/
def KeepT (K : PySem.W.Frag) (H H' : Hp) : Prop := ∀ a xs, SqT K H a xs → SqT K H' a xs
mutual
theorem Dt.keepT {K : PySem.W.Frag} {H H' : Hp} (e : KeepT K H H') : ∀ {v : V} {d : PyData}, Dt K H v d → Dt K H' v d
  | _, _, .non => .non
  | _, _, .bl b => .bl b
  | _, _, .int i => .int i
  | _, _, .str x => .str x
  | _, _, .tup h a => .tup (e _ _ h) (DtAll.keepT e a)
theorem DtAll.keepT {K : PySem.W.Frag} {H H' : Hp} (e : KeepT K H H') : ∀ {vs : List V} {ds : List PyData}, DtAll K H vs ds → DtAll K H' vs ds
  | _, _, .nil => .nil
  | _, _, .cons h a => .cons (Dt.keepT e h) (DtAll.keepT e a)
end
theorem KeepT.refl (K : PySem.W.Frag) (H : Hp) : KeepT K H H := fun _ _ h => h
theorem KeepT.trans {K : PySem.W.Frag} {H H1 H2 : Hp} (a : KeepT K H H1) (b : KeepT K H1 H2) : KeepT K H H2 := fun c xs h => b c xs (a c xs h)
theorem Same.keepT {K : PySem.W.Frag} {H H' : Hp} (e : Same H H') : KeepT K H H' := fun _ _ h => Same.tupl e h
theorem Keep.keepT {K : PySem.W.Frag} {p : Addr} {H H' : Hp} (e : Keep p H H') (hp : ∃ xs, H p = some (.lst xs)) : KeepT K H H' := fun a xs h => by
  obtain ⟨ys, hp⟩ := hp
  rcases h with (h | ⟨o, h⟩) | h
  · exact .inl (.inl (e _ _ h (ne_of h hp (by intro z; cases z))))
  · exact .inl (.inr ⟨o, e _ _ h (ne_of h hp (by intro z; cases z))⟩)
  · exact .inr h
theorem KeepT.upd {K : PySem.W.Frag} {p : Addr} {H : Hp} {o : HO} {xs : List V} (hp : H p = some (.lst xs)) : KeepT K H (upd H p o) :=
  Keep.keepT (p := p) (fun b u e hb => by rw [upd_ne hb]; exact e) ⟨xs, hp⟩
theorem Dt.mono {K : PySem.W.Frag} {H H' : Hp} {v : V} {d : PyData} (e : Same H H') (h : Dt K H v d) : Dt K H' v d := h.keepT (Same.keepT e)
theorem DtAll.mono {K : PySem.W.Frag} {H H' : Hp} {v : List V} {d : List PyData} (e : Same H H') (h : DtAll K H v d) : DtAll K H' v d := h.keepT (Same.keepT e)
theorem Dt.made {K : PySem.W.Frag} {H : Hp} {p : Addr} {xs : List V} {ds : List PyData} (hp : H p = none) (h : DtAll K H xs ds) : Dt K (L2.upd H p (.tup xs)) (.ref p) (.tuple ds) := .tup (SqT.of upd_same) (DtAll.mono (Same.new hp) h)
theorem DtAll.length {K : PySem.W.Frag} {H : Hp} {vs : List V} {ds : List PyData} (h : DtAll K H vs ds) : vs.length = ds.length := LK.DpAll.length h.dp
theorem DtAll.app {K : PySem.W.Frag} {H : Hp} : ∀ {vs ws : List V} {ds es : List PyData}, DtAll K H vs ds → DtAll K H ws es → DtAll K H (vs ++ ws) (ds ++ es)
  | _, _, _, _, .nil, t => t
  | _, _, _, _, .cons h a, t => .cons h (DtAll.app a t)
theorem DtAll.get {K : PySem.W.Frag} {H : Hp} : ∀ {vs : List V} {ds : List PyData} {i : Nat} {d : PyData}, DtAll K H vs ds → ds[i]? = some d → ∃ v, vs[i]? = some v ∧ Dt K H v d
  | _, _, 0, _, .cons h _, e => ⟨_, rfl, Option.some.inj e ▸ h⟩
  | _, _, i + 1, _, .cons _ a, e => DtAll.get (i := i) a e
theorem DtAll.getV {K : PySem.W.Frag} {H : Hp} : ∀ {vs : List V} {ds : List PyData} {i : Nat} {v : V}, DtAll K H vs ds → vs[i]? = some v → ∃ d, ds[i]? = some d ∧ Dt K H v d
  | _, _, 0, _, .cons h _, e => ⟨_, rfl, Option.some.inj e ▸ h⟩
  | _, _, i + 1, _, .cons _ a, e => DtAll.getV (i := i) a e
theorem Dt.tuple_inv {K : PySem.W.Frag} {H : Hp} {v : V} {ds : List PyData} (h : Dt K H v (.tuple ds)) : ∃ a xs, v = .ref a ∧ SqT K H a xs ∧ DtAll K H xs ds := by
  cases h with
  | tup h a => exact ⟨_, _, rfl, h, a⟩
theorem DtAll.cons_inv {K : PySem.W.Frag} {H : Hp} {vs : List V} {d : PyData} {ds : List PyData} (h : DtAll K H vs (d :: ds)) : ∃ v ws, vs = v :: ws ∧ Dt K H v d ∧ DtAll K H ws ds := by
  cases h with
  | cons h a => exact ⟨_, _, rfl, h, a⟩
theorem DtAll.nil_inv {K : PySem.W.Frag} {H : Hp} {vs : List V} (h : DtAll K H vs []) : vs = [] := by cases h; rfl
theorem Dt.int_inv {K : PySem.W.Frag} {H : Hp} {v : V} {i : Int} (h : Dt K H v (.int i)) : v = .int i := by cases h; rfl
theorem Dt.str_inv {K : PySem.W.Frag} {H : Hp} {v : V} {x : Str} (h : Dt K H v (.str x)) : v = .str x := by cases h; rfl
theorem Dt.bool_inv {K : PySem.W.Frag} {H : Hp} {v : V} {b : Bool} (h : Dt K H v (.bool b)) : v = .bl b := by cases h; rfl
theorem dtStrs {K : PySem.W.Frag} {H : Hp} : ∀ xs : List Str, DtAll K H (xs.map V.str) (xs.map PyData.str)
  | [] => .nil
  | x :: xs => .cons (.str x) (dtStrs xs)
end LK

set_option Elab.async false
set_option linter.all false
set_option maxRecDepth 100000
set_option maxHeartbeats 4000000
/-! enumerate of a tuple. -/
namespace LK
open PySem PySem.Spec PyProof.Rows L2
open AutoSeq1 (wpAny_loadPart')
open Sem (wp)
def enumObj (it : Addr) : Obj := { cls := .type "enumerate", data := .fields #[.none, .bool false, .ref it, rawInt 0, .none, .none] }
def tupIt (t : Addr) : Obj := { cls := .type "tuple_iterator", data := .fields #[.ref t, .int 0 0] }
theorem meets_enumT (t : Addr) (items : Array Value) (n : Nat) (dct : Option Addr) (sl : Array (Option Value)) :
    Meets (Builtin.«enumerate.__new__» ⟨[.type "enumerate", .ref t], []⟩) (fun _ R s => s.heap.get? t = some { cls := .type "tuple", dict := dct, data := .seq items n, slots := sl } ∧
      R (.ok (.ret (.ref (s.heap.push (tupIt t)).objs.size))) { s with heap := (s.heap.push (tupIt t)).push (enumObj s.heap.objs.size) }) :=
  .of_wp fun prog w A R s h => by
    obtain ⟨hp, g, d, tk, os⟩ := s
    obtain ⟨hl, h⟩ := h
    have hsub := sub_enumerate
    have hT : Heap.IsTuple (Shared.heap ⟨hp, g, d, tk, os⟩) t items := ⟨_, hl, rfl, n, rfl⟩
    wp_walk using wpAny_loadPart' hl
    refine wpAny_stack_any fun st => wpAny_pure ?_
    split
    · rename_i c _ _ _ _ _
      cases (c == Value.type "enumerate") <;> (wp_walk using wpAny_loadPart' hl, wpAny_pyIter_tuple hT; exact ⟨_, rfl, h⟩)
    · wp_walk using wpAny_loadPart' hl, wpAny_pyIter_tuple hT
      exact ⟨_, rfl, h⟩
section
variable {prog : Program} {w : World} {A : Around} {E : Value → Shared → Prop} {s : Shared}
theorem call_enumT {t : Addr} {items : Array Value} {Q : Value → Shared → Prop} (hT : s.heap.IsTuple t items)
    (h : ∀ h', IsEnum h' (s.heap.objs.size + 1) s.heap.objs.size 0 .none → h'.IsTupleIter s.heap.objs.size t 0 → (∀ b o, s.heap.get? b = some o → h'.get? b = some o) → Q (.ref (s.heap.objs.size + 1)) { s with heap := h' }) :
    wpAny (model prog w) A (call (.type "enumerate") [.ref t]) Q E s := by
  obtain ⟨⟨c, dct, dt, sl⟩, hl, hc, n, hd⟩ := hT
  obtain rfl : c = .type "tuple" := hc
  obtain rfl : dt = .seq items n := hd
  refine callType_new F.called_enumerate (by decide) (F.typeCall_enumerate_1 _) (F.newCall_enumerate_1 _) (fun obj => F.args_object_init_2 obj _) F.entry_enumerate_new (meets_enumT t items n dct sl) ⟨hl, ?_⟩
  have hz : (s.heap.push (tupIt t)).objs.size = s.heap.objs.size + 1 := Heap.size_push ..
  have he : IsEnum ((s.heap.push (tupIt t)).push (enumObj s.heap.objs.size)) (s.heap.objs.size + 1) s.heap.objs.size 0 .none := by
    have q := Heap.get?_push_size (s.heap.push (tupIt t)) (o := enumObj s.heap.objs.size) rfl
    rw [hz] at q
    exact q
  show _ ∧ _
  rw [hz]
  exact ⟨⟨_, he, rfl⟩, h _ he (Heap.get?_push_of_some _ (Heap.get?_push_size _ rfl) |> fun q => ⟨_, q, rfl, rfl⟩) fun b o x => Heap.get?_push_of_some _ (Heap.get?_push_of_some _ x)⟩
end
/-- the tuple at a, each item in a new pair with its place -/
def IteT (K : PySem.W.Frag) (a : Addr) : It where
  go := fun i H => ∃ (xs : List V) (x : V), SqT K H a xs ∧ xs[i]? = some x
  yld := fun i H v H' => ∃ T x, v = .ref T ∧ H T = none ∧ H' = upd H T (.tup [.int (i : Nat), x]) ∧ ∀ xs, SqT K H a xs → xs[i]? = some x
  stop := fun i H => ∃ xs : List V, SqT K H a xs ∧ xs.length = i
theorem turn_enumT {P : Program} {w : World} {K : PySem.W.Frag} {elts : List Expr} {kk : Nat} {tpos : Pos} (a e it : Addr) :
    Turn P w K (.Tuple elts kk tpos) (IteT K a) [e, it] e (fun i h => (∃ old, IsEnum h e it ((i : Nat) : Int) old) ∧ h.IsTupleIter it a i ∧ e ≠ it) where
  mem := List.mem_cons_self
  obj := fun i h st b hb => by
    obtain ⟨⟨old, he⟩, ⟨o, ho, hc, hd⟩, _⟩ := st
    have hb : b = e ∨ b = it := by simpa using hb
    rcases hb with rfl | rfl
    · exact ⟨_, he, fun v q => nomatch q⟩
    · exact ⟨o, ho, fun v q => by rw [hd] at q; cases q⟩
  keep := fun i h h' st k => by
    obtain ⟨⟨old, he⟩, hi, hne⟩ := st
    exact ⟨⟨old, k e (by simp) _ he⟩, hi.at fun o q => k it (by simp) o q, hne⟩
  item := by
    intro X hP hw hK hc i pins s σ H E I hf st hg
    subst hP hw hK
    obtain ⟨⟨old, he⟩, hit, hne⟩ := st
    obtain ⟨xs, x, hq, hx⟩ := hg
    obtain ⟨its, rv, p, hz⟩ := I.tuple hq
    obtain ⟨u, hu, ru⟩ := rv.get hx
    have hel : e < s.heap.objs.size := Heap.lt_size he
    have hil : it < s.heap.objs.size := by obtain ⟨_, q, _⟩ := hit; exact Heap.lt_size q
    have hat : a ≠ it := by
      intro z
      subst z
      obtain ⟨o, q1, c1, _⟩ := hit
      obtain ⟨o', q2, c2, _⟩ := p
      rw [q1] at q2; cases q2
      exact absurd (Value.type.inj (c1.symm.trans c2)) (by decide)
    have D := Draws.tuple (prog := X.prog) (w := X.w) (A := X.A.in1) (I.ok.hd hc) it a hat its.toArray
    have Dst : (fun i (h : Heap) => h.IsTupleIter it a i ∧ h.IsTuple a its.toArray) i s.heap := ⟨hit, p⟩
    have eat : e ≠ a := by
      intro z
      subst z
      obtain ⟨o', q2, c2, _⟩ := p
      rw [he] at q2; cases q2
      exact absurd (Value.type.inj c2) (by decide)
    have hi : i < its.toArray.size := by
      have := (List.getElem?_eq_some_iff.mp hu).1
      simpa using this
    refine wpAny_pyNext_enum_itemD D he Dst hi hne (by simp [hne, eat]) fun v h' tk hv ho hst hT hsz hk => ?_
    obtain rfl : v = u := by
      have hv : its.toArray[i]? = some v := hv
      rw [show its.toArray[i]? = some u by simpa using hu] at hv
      exact (Option.some.inj hv).symm
    refine ⟨_, rfl, wpAny_letOwnedTupleGo_enum (s := { s with heap := h', toks := tk + 1 }) ho fun h'' he' sb => ?_⟩
    have hT2 := (sb.2 _ (Nat.ne_of_gt hel)).trans hT
    have new : ObjOk X.prog X.w (upd H s.heap.objs.size (.tup [.int (i : Nat), x])) h'' s.heap.objs.size (.tup [.int (i : Nat), x]) :=
      ⟨by show 2 ≤ sizeLine; decide, [.int i tk, v], .cons ⟨_, rfl⟩ (.cons ru .nil), ⟨_, hT2, rfl, _, rfl⟩⟩
    have I1 : Inv X pins σ (upd H s.heap.objs.size (.tup [.int (i : Nat), x])) { s with heap := h'', toks := tk + 1 } :=
      I.turnedNew (ch := [e, it]) (fun b ob hb q => (sb.2 b (fun z => hb (by simp [z]))).trans (hk b ob (fun z => hb (by simp [z])) (fun z => hb (by simp [z])) q)) hf (Nat.le_refl _) new
    refine ⟨.ref s.heap.objs.size, _, I1, rfl, ⟨_, x, rfl, I.hok.fresh (Nat.le_refl _), rfl, fun ys hy => by rw [I.tuple_inj hy hq]; exact hx⟩, ⟨⟨v, ?_⟩, hst.1.at fun o q => (sb.2 it (Ne.symm hne)).trans q, hne⟩, fun b hb => ?_⟩
    · rw [show ((i + 1 : Nat) : Int) = (i : Int) + 1 by omega]
      exact he'
    · have hb' : b < s.heap.objs.size := by
        have z : b = e ∨ b = it := by simpa using hb
        rcases z with rfl | rfl <;> assumption
      rw [upd_ne (Nat.ne_of_lt hb')]
      exact (hf b hb).1
  done := by
    intro X hP hw hK hc i pins s σ H E I hf st hg
    subst hP hw hK
    obtain ⟨⟨old, he⟩, hit, hne⟩ := st
    obtain ⟨xs, hq, hx⟩ := hg
    obtain ⟨its, rv, p, hz⟩ := I.tuple hq
    obtain ⟨f0, f1, f2, f3, f4, f5⟩ := hf it (by simp)
    have hl := rv.length
    have hat : a ≠ it := by
      intro z
      subst z
      obtain ⟨o, q1, c1, _⟩ := hit
      obtain ⟨o', q2, c2, _⟩ := p
      rw [q1] at q2; cases q2
      exact absurd (Value.type.inj (c1.symm.trans c2)) (by decide)
    have D := Draws.tuple (prog := X.prog) (w := X.w) (A := X.A.in1) (I.ok.hd hc) it a hat its.toArray
    have hn : i = its.toArray.size := by simp; omega
    subst hn
    exact wpAny_pyNext_enum_endD D he ⟨hit, p⟩ fun h' eb => ⟨rfl, I.turned (t' := s.toks) (fun b o hb q => eb b o hb q) f0 f1 f3 f4 f5⟩
  self := fun A i s Q E st h => let ⟨⟨_, he⟩, _⟩ := st; wpAny_pyIter_enum he h
def iEnumT (K : PySem.W.Frag) (ta : TA) : TI := fun σ H R => ta σ H fun vs H1 => ∃ a xs, vs = [.ref a] ∧ SqT K H1 a xs ∧ R (IteT K a) H1
theorem pi_enumT {X : Cx} {e : Expr} {ta : TA} {p pos tpos : Pos} {elts : List Expr} {kk : Nat} (hg : Gl X "enumerate") (hm : X.mg "enumerate" = none) (ha : PA X [e] ta) (hs : starEach [e] X.env = [(false, eval e X.env)] := by rfl) :
    PI X (.Tuple elts kk tpos) (.Call (.Name "enumerate" p) [e] [] pos) (iEnumT X.K ta) := by
  refine ⟨fun pins s σ H R I h => ?_⟩
  refine Call_ (ld_blt I hg hm boot_enumerate (PyProof.Rows.callWith_type1 (thn (ha.run pos pins s σ H _ I h) fun us s1 ⟨vs, H1, I1, r1, q1⟩ => ?_) hs rfl))
  obtain ⟨a, xs, rfl, hq, q⟩ := q1
  cases r1 with
  | cons r rr =>
    cases rr
    cases r
    obtain ⟨its, rv, p', hz⟩ := I1.tuple hq
    refine call_enumT (show s1.heap.IsTuple a its.toArray from p') fun h' he hit hk => wpAny_pyIter_enum he ?_
    refine ⟨s1.heap.objs.size + 1, [s1.heap.objs.size + 1, s1.heap.objs.size], _, _, H1, rfl, I1.kept (t' := s1.toks) hk, turn_enumT a (s1.heap.objs.size + 1) s1.heap.objs.size, ⟨⟨.none, he⟩, hit, Nat.succ_ne_self _⟩, fun b hb => ?_, q⟩
    have hle : s1.heap.objs.size ≤ b := by
      have z : b = s1.heap.objs.size + 1 ∨ b = s1.heap.objs.size := by simpa using hb
      rcases z with rfl | rfl <;> omega
    exact I1.fpOk hle (I1.hok.fresh hle)
theorem walk_enumT {K : PySem.W.Frag} {a : Addr} {xs : List V} : Walk (IteT K a) xs.length (fun H => SqT K H a xs) (YPair (fun i => some (.int (i : Nat))) (fun i => xs[i]?)) := by
  refine ⟨fun i _ hi q => ⟨xs, xs[i], q, by simp [hi]⟩, fun _ q => ⟨xs, q, rfl⟩, fun i H v H' _ q y => ?_⟩
  obtain ⟨T, x, h1, h2, h3, h4⟩ := y
  exact ⟨T, .int (i : Nat), x, h1, h2, h3, rfl, h4 xs q⟩

/-! ### comprehensions whose items are data -/
theorem tYes_of {σ : L2.St} {H : Hp} {P R : Hp → Prop} (h : P H) : tYes σ H fun b H3 => if b = true then P H3 else R H3 := by
  show (if true = true then P H else R H)
  rw [if_pos rfl]
  exact h
/-- each turn gives data and leaves what stood; no test -/
theorem lc_dt {K : PySem.W.Frag} {J : It} {n : Nat} {G : Hp → Prop} {Y : Nat → Hp → V → Hp → Prop} (w : Walk J n G Y) {g : TG} {te : TE} {vs : List Nat} {σ : L2.St} {H : Hp} {D : Addr} {Qd : Hp → Prop} (hD : H D = none) (ds : List PyData) (hn : ds.length = n) (hz : n < sizeLine)
    (hG : ∀ H', Same H H' → G H')
    (hs : ∀ i x H1 H2 d (Nx : V → Hp → Prop), i < n → ds[i]? = some d → Same H H1 → (∃ acc, H1 D = some (.lst acc)) → Y i H1 x H2 → (∀ y H5, Same H1 H5 → Dt K H5 y d → Nx y H5) →
      g x (wipe σ vs) H2 fun σ2 H3 => wipe σ2 vs = wipe σ vs ∧ te σ2 H3 Nx)
    (hd : ∀ H' acc, Same H H' → H' D = some (.lst acc) → DtAll K H' acc ds → Qd H')
    (mono : ∀ x σ H Q Q', (∀ σ' H', Q σ' H' → Q' σ' H') → g x σ H Q → g x σ H Q') :
    ∃ W : Nat → Nat → Hp → Prop, (∃ m, W 0 m (upd H D (.lst []))) ∧ ∀ i m H, W i m H →
      (J.stop i H ∧ Qd H) ∨ (J.go i H ∧ ∃ Nx : Hp → Prop, (∀ H', Nx H' → ∃ m', m' < m ∧ W (i + 1) m' H') ∧ ∀ x H', J.yld i H x H' → g x (wipe σ vs) H' fun σ2 H2 => wipe σ2 vs = wipe σ vs ∧ tYes σ2 H2 fun b H3 =>
        if b = true then te σ2 H3 fun y H4 => ∃ acc, H4 D = some (.lst acc) ∧ acc.length < sizeLine ∧ Nx (upd H4 D (.lst (acc ++ [y]))) else Nx H3) := by
  refine lc_it w (fun i H' => ∃ acc, H' D = some (.lst acc) ∧ DtAll K H' acc (ds.take i) ∧ Same H H') ⟨[], upd_same, .nil, Same.new hD⟩ (fun i H' _ h => let ⟨_, _, _, s⟩ := h; hG H' s) (fun i x H1 H2 hi h y => ?_) fun H' h => ?_
  · obtain ⟨acc, a1, a2, a3⟩ := h
    have hi' : i < ds.length := by omega
    have hg := hs i x H1 H2 ds[i] (fun y H4 => ∃ acc, H4 D = some (.lst acc) ∧ acc.length < sizeLine ∧ ∃ acc', upd H4 D (.lst (acc ++ [y])) D = some (.lst acc') ∧ DtAll K (upd H4 D (.lst (acc ++ [y]))) acc' (ds.take (i + 1)) ∧ Same H (upd H4 D (.lst (acc ++ [y]))))
      hi (List.getElem?_eq_getElem hi') a3 ⟨acc, a1⟩ y fun y H5 s hy => ?_
    · exact mono _ _ _ _ _ (fun σ2 H3 q => ⟨q.1, tYes_of q.2⟩) hg
    · have b1 := s _ _ a1
      have kt : KeepT K H5 (upd H5 D (.lst (acc ++ [y]))) := KeepT.upd b1
      refine ⟨acc, b1, ?_, _, upd_same, ?_, fun b o e => ?_⟩
      · rw [a2.length, List.length_take]; omega
      · rw [List.take_succ, List.getElem?_eq_getElem hi']
        exact DtAll.app (DtAll.keepT (KeepT.trans (Same.keepT s) kt) a2) (.cons (Dt.keepT kt hy) .nil)
      · rw [upd_ne (ne_of_none e hD)]
        exact s _ _ (a3 _ _ e)
  · obtain ⟨acc, a1, a2, a3⟩ := h
    rw [← hn, List.take_length] at a2
    exact hd H' acc a3 a1 a2
theorem mono_name {i : Nat} : ∀ x (σ : L2.St) (H : Hp) (Q Q' : L2.St → Hp → Prop), (∀ σ' H', Q σ' H' → Q' σ' H') → gName i x σ H Q → gName i x σ H Q' := fun _ _ _ _ _ h q => h _ _ q
theorem mono_tup2 {K : PySem.W.Frag} {i j n : Nat} : ∀ x (σ : L2.St) (H : Hp) (Q Q' : L2.St → Hp → Prop), (∀ σ' H', Q σ' H' → Q' σ' H') → gTup K n (gCons (gName i) (gCons (gName j) gNil)) x σ H Q → gTup K n (gCons (gName i) (gCons (gName j) gNil)) x σ H Q' := by
  rintro x σ H Q Q' h ⟨a, xs, e1, e2, e3, v, r, e4, v', r', e5, e6, q⟩
  exact ⟨a, xs, e1, e2, e3, v, r, e4, v', r', e5, e6, h _ _ q⟩
end LK

set_option Elab.async false
set_option linter.all false
set_option maxRecDepth 100000
set_option maxHeartbeats 4000000
set_option exponentiation.threshold 3000
/-! More rules: text * int, two rules at one place, what == says of data. -/
namespace LK
open PySem PySem.Spec PyProof.Rows L2
theorem at_of' {α : Type} {xs : List α} {z : Int} {j : Nat} {v : α} (e : z = (j : Int)) (h : xs[j]? = some v) : atI xs z = some v := by
  rw [e]
  exact atI_nat h
/-- z repeated k times, by its codes -/
def repC (z : List Nat) (k : Int) : List Nat := (List.replicate k.toNat z).flatten
def repS (z : Str) (k : Int) : Str := ⟨(repC z.cps.toList k).toArray⟩
theorem repC_length (z : List Nat) (k : Int) : (repC z k).length = k.toNat * z.length := by simp [repC]
theorem foldl_arr (z : Array Nat) : ∀ (n : Nat) (acc : Array Nat), (List.replicate n z).foldl (· ++ ·) acc = acc ++ (List.replicate n z.toList).flatten.toArray
  | 0, acc => by simp
  | n + 1, acc => by
    rw [List.replicate_succ, List.foldl_cons, foldl_arr z n, List.replicate_succ, List.flatten_cons]
    apply Array.ext'
    simp
def rRepS : R2 := fun x y H Q => ∃ (z : Str) (k : Int), x = .str z ∧ y = .int k ∧ -1000000000000 ≤ k ∧ k < 1000000000000 ∧ z.length * k.toNat ≤ 1000000 ∧ Q (.str (repS z k)) H
theorem repS_arr (z : Str) (k : Int) : (⟨(List.replicate k.toNat z.cps).foldl (· ++ ·) #[]⟩ : Str) = repS z k := by
  rw [foldl_arr]
  simp [repS, repC]
theorem op_rep_str {X : Cx} : OpR X (binaryOp .Mult) rRepS := by
  intro pins s σ H x y v u Q I rx ry h
  obtain ⟨z, k, rfl, rfl, h1, h2, h3, q⟩ := h
  obtain ⟨t, rfl⟩ := rx
  obtain ⟨t', rfl⟩ := ry
  have szl : (1000000 : Nat) ≤ sizeLine := by decide
  have e1 : ¬ k < 1 → k = (k.toNat : Int) := fun h => by omega
  refine PySem.P.mul_str ?_ (fun hk hz => ?_) (fun hk hz => ?_) ?_
  · rw [decide_eq_false (by omega), decide_eq_false (by omega)]; rfl
  · have e0 : z.length ≠ 0 := fun e => by rw [e] at hz; simp at hz
    have hd : (9223372036854775807 : Int) / k ≥ 1000000 := by
      apply Int.le_ediv_of_mul_le (by omega)
      have hlen : k.toNat ≤ 1000000 := Nat.le_trans (Nat.le_mul_of_pos_left _ (by omega)) h3
      omega
    have hl : z.length ≤ 1000000 := Nat.le_trans (Nat.le_mul_of_pos_right _ (by omega)) h3
    show ¬ ((z.length : Int) > 9223372036854775807 / k)
    omega
  · unfold Builtin.Str.tooLong
    simp
    omega
  · split
    · rename_i hk
      have e : repS z k = Str.empty := by
        have : k.toNat = 0 := by omega
        simp [repS, repC, this]; rfl
      refine ⟨by decide, .str _, H, I.tok _, ⟨_, rfl⟩, ?_⟩
      rw [← e]; exact q
    · rename_i hk
      split
      · rename_i hz
        have e : repS z k = z := by
          rcases Bool.or_eq_true_iff.mp hz with h | h
          · have : k = 1 := by simpa using h
            subst this
            simp [repS, repC]
          · have : z.cps.toList = [] := by
              have : z.cps.size = 0 := by simpa [Str.length] using h
              exact List.eq_nil_of_length_eq_zero (by simpa using this)
            have e2 : (List.replicate k.toNat ([] : List Nat)).flatten = [] := by simp
            unfold repS repC
            rw [this, e2]
            cases z with
            | mk c =>
              have : c = #[] := Array.toList_inj.mp (by simpa using this)
              subst this; rfl
        refine ⟨.str _, H, I, ⟨t, rfl⟩, ?_⟩
        rw [← e]; exact q
      · rw [repS_arr]
        refine ⟨?_, .str _, H, I.tok _, ⟨_, rfl⟩, q⟩
        show (repC z.cps.toList k).toArray.size ≤ sizeLine
        rw [List.size_toArray, repC_length]
        have : z.cps.toList.length = z.length := by simp [Str.length]
        rw [this, Nat.mul_comm]; omega
/-! ### the objects at the beginning -/
def clsNames : List Str := ["Exception", "ArithmeticError", "ZeroDivisionError", "OverflowError", "LookupError", "IndexError", "KeyError", "NameError", "AttributeError", "TypeError", "ValueError", "StopIteration", "RuntimeError", "RecursionError", "MemoryError", "HostError"]
def clsBases : List Int := [-1, 1, 2, 2, 1, 5, 5, 1, 1, 1, 1, 1, 1, 13, 1, 1]
def builtNames : List Str := ["print", "len", "range", "repr", "str", "int", "list", "tuple", "dict", "iter", "next", "isinstance", "abs"]
def clsVar (i : Nat) (n : Str) : PyData := .tuple [.str n, .tuple [.str "ref", .int ((i : Int) + 1)]]
def nameVar (k n : Str) : PyData := .tuple [.str n, .tuple [.str k, .str n]]
def clsObj (n : Str) (b : Int) : PyData := .tuple [.str "class", .str n, .int b, .tuple []]
def clsVars : List PyData := clsNames.mapIdx clsVar
def startVars (hs : List Str) : List PyData := clsVars ++ builtNames.map (nameVar "built") ++ hs.map (nameVar "host")
def startD (hs : List Str) : List PyData := .tuple [.str "scope", .tuple (startVars hs), .tuple [], .tuple [], .int (-1), .bool false] :: List.zipWith clsObj clsNames clsBases
/-- a list at p, of the data ds -/
def ListAt (K : PySem.W.Frag) (H : Hp) (p : Addr) (ds : List PyData) : Prop := ∃ xs, H p = some (.lst xs) ∧ DtAll K H xs ds
def spStart (K : PySem.W.Frag) : Sp := fun vs H Q _ => ∃ (t : Addr) (hs : List Str), vs = [.ref t] ∧ SqT K H t (hs.map V.str) ∧ hs.length ≤ 1000 ∧
  ∀ (p : Addr) (H' : Hp), H p = none → Same H H' → ListAt K H' p (startD hs) → Q (.ref p) H'
theorem at0 {α : Type} {x : α} {ws : List α} : atI (x :: ws) 0 = some x := at_of' (j := 0) rfl rfl
theorem at1 {α : Type} {x y : α} {ws : List α} : atI (x :: y :: ws) 1 = some y := at_of' (j := 1) rfl rfl
theorem at2 {α : Type} {x y z : α} {ws : List α} : atI (x :: y :: z :: ws) 2 = some z := at_of' (j := 2) rfl rfl
/-- a written pair, triple as it is read -/
theorem Dt.head {K : PySem.W.Frag} {H : Hp} {v : V} {z : Str} {rest : List PyData} (h : Dt K H v (.tuple (.str z :: rest))) : ∃ a ws, v = .ref a ∧ SqT K H a (.str z :: ws) ∧ DtAll K H ws rest := by
  obtain ⟨q, xs, rfl, hs, ha⟩ := h.tuple_inv
  obtain ⟨x, ws, rfl, h1, hw⟩ := ha.cons_inv
  cases h1.str_inv
  exact ⟨q, ws, rfl, hs, hw⟩
theorem Dt.pair {K : PySem.W.Frag} {H : Hp} {v : V} {z : Str} {d : PyData} (h : Dt K H v (.tuple [.str z, d])) : ∃ a x, v = .ref a ∧ SqT K H a [.str z, x] ∧ Dt K H x d := by
  obtain ⟨a, ws, rfl, hs, hw⟩ := h.head
  obtain ⟨x, ws', rfl, h1, hn⟩ := hw.cons_inv
  cases hn.nil_inv
  exact ⟨a, x, rfl, hs, h1⟩
theorem Dt.triple {K : PySem.W.Frag} {H : Hp} {v : V} {z : Str} {d e : PyData} (h : Dt K H v (.tuple [.str z, d, e])) : ∃ a x y, v = .ref a ∧ SqT K H a [.str z, x, y] ∧ Dt K H x d ∧ Dt K H y e := by
  obtain ⟨a, ws, rfl, hs, hw⟩ := h.head
  obtain ⟨x, ws', rfl, h1, hn⟩ := hw.cons_inv
  obtain ⟨y, ws'', rfl, h2, hn2⟩ := hn.cons_inv
  cases hn2.nil_inv
  exact ⟨a, x, y, rfl, hs, h1, h2⟩
theorem listAt_mono {K : PySem.W.Frag} {H H' : Hp} {p : Addr} {ds : List PyData} (h : ListAt K H p ds) (e : Same H H') : ListAt K H' p ds := by
  obtain ⟨xs, hx, ax⟩ := h
  exact ⟨xs, e _ _ hx, DtAll.mono e ax⟩
theorem eqv_nil (ds : List PyData) : PyData.eqv (.tuple ds) (.tuple []) = ds.isEmpty := by
  cases ds <;> simp [PyData.eqv, PyData.eqvAll]
theorem listAt_upd {K : PySem.W.Frag} {H : Hp} {l l' : Addr} {ds : List PyData} {xs : List V} {o : HO} (h : ListAt K H l ds) (ne : l ≠ l') (hl : H l' = some (.lst xs)) : ListAt K (upd H l' o) l ds := by
  obtain ⟨ys, hy, ay⟩ := h
  exact ⟨ys, by rw [upd_ne ne]; exact hy, DtAll.keepT (KeepT.upd hl) ay⟩
theorem listAt_app {K : PySem.W.Frag} {H : Hp} {l : Addr} {ds : List PyData} {xs : List V} {v : V} {d : PyData} (h : ListAt K H l ds) (hl : H l = some (.lst xs)) (hd : Dt K H v d) : ListAt K (upd H l (.lst (xs ++ [v]))) l (ds ++ [d]) := by
  obtain ⟨ys, hy, ay⟩ := h
  rw [hl] at hy
  obtain rfl := HO.lst.inj (Option.some.inj hy)
  exact ⟨_, upd_same, DtAll.app (DtAll.keepT (KeepT.upd hl) ay) (.cons (Dt.keepT (KeepT.upd hl) hd) .nil)⟩
theorem listAt_keep {K : PySem.W.Frag} {H H' : Hp} {l p : Addr} {ds : List PyData} (h : ListAt K H l ds) (e : Keep p H H') (ne : l ≠ p) (hp : ∃ xs, H p = some (.lst xs)) : ListAt K H' l ds := by
  obtain ⟨ys, hy, ay⟩ := h
  exact ⟨ys, e _ _ hy ne, DtAll.keepT (Keep.keepT e hp) ay⟩
theorem listAt_made {K : PySem.W.Frag} {H : Hp} {l : Addr} {xs : List V} {ds : List PyData} (hl : H l = none) (h : DtAll K H xs ds) : ListAt K (upd H l (.lst xs)) l ds := ⟨xs, upd_same, DtAll.mono (Same.new hl) h⟩
/-! how long the objects at the beginning are, shown -/
def shortS (n : Str) : Bool := decide (n.length ≤ 40) && n.cps.toList.all (fun c => decide (c < 16 ^ 8))
theorem Sm.short {n : Str} (h : shortS n = true) : Sm (.str n) 0 500 := by
  obtain ⟨h1, h2⟩ := Bool.and_eq_true_iff.mp h
  exact (Sm.str (of_decide_eq_true h1) (strOk n h2)).mono (by decide) (by decide)
theorem cls_short : ∀ n ∈ clsNames, shortS n = true := by decide +kernel
theorem built_short : ∀ n ∈ builtNames, shortS n = true := by decide +kernel
theorem Sm.nm {k n : Str} (hk : shortS k = true) (hn : shortS n = true) : Sm (nameVar k n) 3 4000 :=
  (Sm.tup (.cons (Sm.short hn) (.cons (Sm.tup (.cons (Sm.short hk) (.cons (Sm.short hn) .nil))) .nil))).mono (by decide) (by decide)
theorem Sm.cv {i : Nat} {n : Str} (hi : i < 1000) (hn : shortS n = true) : Sm (clsVar i n) 3 4000 :=
  (Sm.tup (.cons (Sm.short hn) (.cons (Sm.tup (.cons (Sm.short (n := "ref") (by decide +kernel)) (.cons (Sm.int (Nat.lt_of_lt_of_le (show ((i : Int) + 1).natAbs < 2 ^ 20 by omega) (Nat.pow_le_pow_right (by decide) (by decide)))) .nil))) .nil))).mono (by decide) (by decide)
theorem Sm.co {b : Int} {n : Str} (hb : b.natAbs < 1000) (hn : shortS n = true) : Sm (clsObj n b) 3 4000 :=
  (Sm.tup (.cons (Sm.short (n := "class") (by decide +kernel)) (.cons (Sm.short hn) (.cons (Sm.int (Nat.lt_of_lt_of_le (show b.natAbs < 2 ^ 20 by omega) (Nat.pow_le_pow_right (by decide) (by decide)))) (.cons (Sm.tup .nil) .nil))))).mono (by decide) (by decide)
theorem SmAll.mem {ds : List PyData} {dp n N m M : Nat} (h : SmAll ds dp n N) (h1 : n ≤ m) (h2 : N ≤ M) : SmAll ds dp m M := ⟨h.ok, h.dp, Nat.le_trans h.len h1, Nat.le_trans h.sz h2⟩
theorem sm_vars {hs : List Str} {L : Nat} (h : ∀ n ∈ hs, shortS n = true) (hl : hs.length ≤ L) : SmAll (startVars hs) 3 (29 + L) (4000 * (29 + L)) := by
  have h1 : ∀ d ∈ startVars hs, Sm d 3 4000 := fun d hd => by
    rcases List.mem_append.mp hd with hd | hd
    · rcases List.mem_append.mp hd with hd | hd
      · obtain ⟨i, hi, rfl⟩ := List.mem_mapIdx.mp hd
        exact Sm.cv (Nat.lt_trans hi (by decide)) (cls_short _ (List.getElem_mem hi))
      · obtain ⟨n, hn, rfl⟩ := List.mem_map.mp hd
        exact Sm.nm (by decide +kernel) (built_short n hn)
    · obtain ⟨n, hn, rfl⟩ := List.mem_map.mp hd
      exact Sm.nm (by decide +kernel) (h n hn)
  have hlen : (startVars hs).length = 29 + hs.length := by
    simp only [startVars, List.length_append, List.length_map]
    have : clsVars.length = 16 := by decide
    have : builtNames.length = 13 := by decide
    omega
  exact (SmAll.many h1).mem (by omega) (by omega)
theorem sm_start {hs : List Str} {L : Nat} (h : ∀ n ∈ hs, shortS n = true) (hl : hs.length ≤ L) : ∀ d ∈ startD hs, Sm d 5 (5000 * (30 + L)) := fun d hd => by
  rcases List.mem_cons.mp hd with rfl | hd
  · exact (Sm.tup (.cons (Sm.short (n := "scope") (by decide +kernel)) (.cons (Sm.tup (sm_vars h hl)) (.cons (Sm.tup .nil) (.cons (Sm.tup .nil) (.cons (Sm.int (by decide)) (.cons (Sm.bool false) .nil))))))).mono (by decide) (by omega)
  · have : ∃ n b, d = clsObj n b ∧ n ∈ clsNames ∧ b.natAbs < 1000 := by
      have key : ∀ q ∈ List.zip clsNames clsBases, q.1 ∈ clsNames ∧ q.2.natAbs < 1000 := by decide +kernel
      rw [← List.map_uncurry_zip_eq_zipWith] at hd
      obtain ⟨q, hq, rfl⟩ := List.mem_map.mp hd
      exact ⟨q.1, q.2, rfl, key q hq⟩
    obtain ⟨n, b, rfl, hn, hb⟩ := this
    exact (Sm.co hb (cls_short n hn)).mono (by decide) (by omega)
theorem start_cls {hs : List Str} {k : Nat} (h1 : 1 ≤ k) (h2 : k ≤ 16) : ∃ rest, (startD hs)[k]? = some (.tuple (.str "class" :: rest)) := by
  obtain ⟨j, rfl⟩ : ∃ j, k = j + 1 := ⟨k - 1, by omega⟩
  have l1 : clsNames.length = 16 := by decide
  have l2 : clsBases.length = 16 := by decide
  refine ⟨[.str clsNames[j]!, .int clsBases[j]!, .tuple []], ?_⟩
  have e1 : clsNames[j]? = some clsNames[j]! := by rw [List.getElem!_eq_getElem?_getD]; rw [List.getElem?_eq_getElem (by omega)]; rfl
  have e2 : clsBases[j]? = some clsBases[j]! := by rw [List.getElem!_eq_getElem?_getD]; rw [List.getElem?_eq_getElem (by omega)]; rfl
  show (List.zipWith clsObj clsNames clsBases)[j]? = _
  rw [List.getElem?_zipWith, e1, e2]
  rfl
end LK

set_option Elab.async false
set_option linter.all false
set_option maxRecDepth 100000
set_option maxHeartbeats 4000000
set_option exponentiation.threshold 3000
/-! tuple * 1; rows: texts or tuples at one place; the type of what is read as a tuple; data equal to itself. -/
namespace LK
open PySem PySem.Spec PyProof.Rows L2
theorem tuple_mul1 (l : Addr) (items : Array Value) (n : Nat) (dd : Option Addr) (sl : Array (Option Value)) (u : Tok) :
    Meets (Builtin.«tuple.__mul__» ⟨[.ref l, .int 1 u], []⟩) (fun _ R s => s.heap.get? l = some { cls := .type "tuple", dict := dd, data := .seq items n, slots := sl } ∧ R (.ok (.ret (Value.ref l))) s) :=
  .of_wp fun prog w A R s h => by
    obtain ⟨hp, g, d, tk, os⟩ := s
    obtain ⟨hl, h⟩ := h
    have f1 := AutoSeq1.idx_int
    have c0 : (decide ((1 : Int) < -(2 ^ 63)) || decide ((1 : Int) ≥ 2 ^ 63)) = false := by decide
    have c1 : (items.isEmpty || (1 : Int) == 1) = true := by simp
    wp_walk using wpAny_loadPart' hl
    exact ⟨_, rfl, h⟩
/-- a tuple times an int from 1 to 1000 -/
def rRepTA (K : PySem.W.Frag) : R2 := fun x y H Q => ∃ l k xs, x = .ref l ∧ y = .int k ∧ SqT K H l xs ∧ xs ≠ [] ∧ 1 ≤ k ∧ k ≤ 1000 ∧ xs.length ≤ 1000 ∧ (k = 1 → Q (.ref l) H) ∧ (k ≠ 1 → ∀ p, H p = none → Q (.ref p) (upd H p (.tup (List.replicate k.toNat xs).flatten)))
section
variable {X : Cx}
theorem op_repTA : OpR X (binaryOp .Mult) (rRepTA X.K) := by
  intro pins s σ H x y v u Q I rx ry h
  obtain ⟨l, k, xs, rfl, rfl, hT, hne, h1, h2, hz, q1, q2⟩ := h
  by_cases hk : k = 1
  · subst hk
    cases rx
    obtain ⟨t, rfl⟩ := ry
    obtain ⟨its, r, ⟨⟨cls, dd, data, sl⟩, ho, hc, n, hd⟩, hs⟩ := I.tuple hT
    simp only at hc hd
    subst hc hd
    refine wpAny_binaryOp_repeat_ref (T := "tuple") (U := "int") (by decide) ⟨_, ho, rfl⟩ (fun s' => typeIs_int s' 1 t) noFill_tuple_mul F.fills_int_mul F.slot_int_rmul repeat_tuple F.slot_int_index.lookup
      (call_meets F.slot_int_rmul (typeIs_int s 1 t) F.entry_int_rmul (F.args_int_rmul_2 _ _) (int_rmul_tuple 1 t l its.toArray n dd sl)
        ⟨ho, rfl, ⟨_, ho, rfl⟩, call_meets F.slot_tuple_mul ⟨_, ho, rfl⟩ F.entry_tuple_mul (F.args_tuple_mul_2 _ _) (tuple_mul1 l its.toArray n dd sl t) ⟨ho, ?_⟩⟩)
    exact ⟨.ref l, H, I, rfl, q1 rfl⟩
  · exact op_repT pins s σ H _ _ v u Q I rx ry ⟨l, k, xs, rfl, rfl, hT, hne, by omega, h2, hz, q2 hk⟩
end
theorem SqT.tyX {K : PySem.W.Frag} {H : Hp} {a : Addr} {xs : List V} (h : SqT K H a xs) : TyX K H (.ref a) (.type "tuple") := by
  rcases h with (h | ⟨o, h⟩) | ⟨o, its, n, e, c, _⟩
  · exact .base (.tup h)
  · exact .fTuple h
  · exact .kTuple e c
/-! ### data equal to itself -/
mutual
theorem eqv_self : ∀ {d : PyData}, d.canLay0 = true → PyData.eqv d d = true
  | .none, _ => by simp [PyData.eqv]
  | .bool _, _ => by simp [PyData.eqv]
  | .int _, _ => by simp [PyData.eqv]
  | .str _, _ => by simp [PyData.eqv]
  | .list xs, h => by rw [PyData.eqv]; exact eqvAll_self (by simpa [PyData.canLay0] using h)
  | .tuple xs, h => by rw [PyData.eqv]; exact eqvAll_self (by simpa [PyData.canLay0] using h)
  | .dict _, h => absurd h (by simp [PyData.canLay0])
theorem eqvAll_self : ∀ {xs : List PyData}, PyData.canLayAll0 xs = true → PyData.eqvAll xs xs = true
  | [], _ => by simp [PyData.eqvAll]
  | x :: xs, h => by
    rw [PyData.canLayAll0, Bool.and_eq_true] at h
    rw [PyData.eqvAll, eqv_self h.1, eqvAll_self h.2]; rfl
end
theorem canLayAll0_of {ds : List PyData} (h : ∀ d ∈ ds, d.canLay0 = true) : PyData.canLayAll0 ds = true := by
  induction ds with
  | nil => rfl
  | cons d ds ih => rw [PyData.canLayAll0, h d (by simp), ih fun e he => h e (List.mem_cons_of_mem _ he)]; rfl
theorem depthAll_of {ds : List PyData} {n : Nat} (h : ∀ d ∈ ds, d.depth ≤ n) : PyData.depthAll ds ≤ n := by
  induction ds with
  | nil => exact Nat.zero_le _
  | cons d ds ih => rw [PyData.depthAll]; exact Nat.max_le.mpr ⟨h d (by simp), ih fun e he => h e (List.mem_cons_of_mem _ he)⟩
/-! ### rows: a text, or a tuple of small ints -/
def Item (d : PyData) : Prop := ∃ i : Int, d = .tuple [.str "int", .int i] ∧ 0 ≤ i ∧ i < 11
def Low (z : Str) : Prop := ∀ c ∈ z.cps.toList, c < 128
inductive Row : Bool → PyData → Nat → Prop
  | txt {z : Str} {n : Nat} : z.length = n → Low z → Row true (.str z) n
  | tup {ds : List PyData} {n : Nat} : ds.length = n → (∀ d ∈ ds, Item d) → Row false (.tuple ds) n
def catD : PyData → PyData → PyData
  | .str a, .str b => .str (a ++ b)
  | .tuple a, .tuple b => .tuple (a ++ b)
  | a, _ => a
def repD (d : PyData) (k : Int) : PyData := match d with
  | .str a => .str (repS a k)
  | .tuple a => .tuple (List.replicate k.toNat a).flatten
  | a => a
def noneD : PyData → PyData
  | .str a => .str (cutS a none (some 0))
  | .tuple _ => .tuple []
  | a => a
theorem len_app (a b : Str) : (a ++ b).length = a.length + b.length := strLen_append a b
theorem len_rep (z : Str) (k : Int) : (repS z k).length = z.length * k.toNat := by
  show (repC z.cps.toList k).toArray.size = _
  rw [List.size_toArray, repC_length, Nat.mul_comm]
  simp [Str.length]
theorem Low.app {a b : Str} (h : Low a) (g : Low b) : Low (a ++ b) := by
  intro c hc
  have e : (a ++ b).cps.toList = a.cps.toList ++ b.cps.toList := by
    show (a.cps ++ b.cps).toList = _
    simp
  rw [e] at hc
  rcases List.mem_append.mp hc with hc | hc
  · exact h c hc
  · exact g c hc
theorem Low.rep {a : Str} (h : Low a) (k : Int) : Low (repS a k) := by
  intro c hc
  have hc : c ∈ (List.replicate k.toNat a.cps.toList).flatten := by simpa [repS, repC] using hc
  obtain ⟨l, hl, hcl⟩ := List.mem_flatten.mp hc
  exact h c (List.eq_of_mem_replicate hl ▸ hcl)
theorem Low.cut {a : Str} (h : Low a) (lo hi : Option Int) : Low (cutS a lo hi) := by
  intro c hc
  have hc : c ∈ (a.cps.toList.drop (HT.sIx a.length 0 lo)).take (HT.sIx a.length a.length hi - HT.sIx a.length 0 lo) := hc
  exact h c (List.mem_of_mem_drop (List.mem_of_mem_take hc))
theorem cut_to (a : Str) (m : Nat) : (cutS a none (some (m : Int))).length ≤ m := by
  show ((a.cps.toList.drop (HT.sIx a.length 0 none)).take (HT.sIx a.length a.length (some (m : Int)) - HT.sIx a.length 0 none)).toArray.size ≤ m
  rw [List.size_toArray, List.length_take, HT.sIx_nat]
  omega
theorem Row.cat {t : Bool} {a b : PyData} {n m : Nat} (h : Row t a n) (g : Row t b m) : Row t (catD a b) (n + m) := by
  cases h with
  | txt e l =>
    cases g with
    | txt e2 l2 => exact .txt (by rw [len_app, e, e2]) (l.app l2)
  | tup e l =>
    cases g with
    | tup e2 l2 => exact .tup (by rw [List.length_append, e, e2]) fun d hd => (List.mem_append.mp hd).elim (l d) (l2 d)
theorem Row.rep {t : Bool} {a : PyData} {n : Nat} (h : Row t a n) (k : Int) : Row t (repD a k) (n * k.toNat) := by
  cases h with
  | txt e l => exact .txt (by rw [len_rep, e]) (l.rep k)
  | tup e l =>
    refine .tup (by rw [PyProof.Rows.lm_len_rep_flat, e, Nat.mul_comm]) fun d hd => ?_
    obtain ⟨x, hx, hdx⟩ := List.mem_flatten.mp hd
    exact l d (List.eq_of_mem_replicate hx ▸ hdx)
theorem Row.none {t : Bool} {a : PyData} {n : Nat} (h : Row t a n) : Row t (noneD a) 0 := by
  cases h with
  | @txt z _ e l => exact .txt (Nat.le_zero.mp (cut_to z 0)) (l.cut _ _)
  | tup e l => exact .tup rfl fun d hd => by cases hd
theorem Item.sm {d : PyData} (h : Item d) : Sm d 1 3000 := by
  obtain ⟨i, rfl, h0, h1⟩ := h
  exact (Sm.tup (.cons (Sm.short (n := "int") (by decide +kernel)) (.cons (Sm.int (Nat.lt_of_lt_of_le (show i.natAbs < 2 ^ 20 by omega) (Nat.pow_le_pow_right (by decide) (by decide)))) .nil))).mono (by decide) (by decide)
theorem Row.sm {t : Bool} {d : PyData} {n : Nat} (h : Row t d n) (hn : n ≤ 1000) : Sm d 2 3100000 := by
  cases h with
  | txt e l => exact (Sm.str (n := 1000) (by omega) fun c hc => Nat.lt_of_lt_of_le (l c hc) (by decide)).mono (by decide) (by decide)
  | tup e l => exact (Sm.tup ((SmAll.many fun d hd => (l d hd).sm).mem (m := 1000) (M := 3000000) (by omega) (by omega))).mono (by decide) (by decide)
theorem Row.lay {t : Bool} {d : PyData} {n : Nat} (h : Row t d n) : d.canLay0 = true := by
  cases h with
  | @txt z _ e l =>
    rw [PyData.canLay0]
    exact Array.all_eq_true_iff_forall_mem.mpr fun c hc => by
      have := l c (Array.mem_toList_iff.mpr hc)
      exact decide_eq_true (by omega)
  | tup e l =>
    rw [PyData.canLay0]
    exact canLayAll0_of fun d hd => by obtain ⟨i, rfl, _⟩ := l d hd; simp only [PyData.canLay0, PyData.canLayAll0, Bool.and_true]; decide +kernel
section
variable {X : Cx}
/-- a + b, two rows -/
def rCatD (K : PySem.W.Frag) : R2 := fun x y H Q => ∃ (t : Bool) (a b : PyData) (n m : Nat), Row t a n ∧ Row t b m ∧ Dt K H x a ∧ Dt K H y b ∧ n + m ≤ 2000 ∧ ∀ v H', Same H H' → Dt K H' v (catD a b) → Q v H'
theorem op_catD : OpR X (binaryOp .Add) (rCatD X.K) := by
  intro pins s σ H x y v u Q I rx ry h
  obtain ⟨t, a, b, n, m, ha, hb, da, db, hz, q⟩ := h
  cases ha with
  | txt e l =>
    cases hb with
    | txt e2 l2 =>
      cases da.str_inv; cases db.str_inv
      exact op_add_str pins s σ H _ _ v u Q I rx ry ⟨_, _, rfl, rfl, by rw [e, e2]; exact Nat.le_trans hz (by decide), q _ _ (Same.refl _) (.str _)⟩
  | @tup ds _ e l =>
    cases hb with
    | @tup es _ e2 l2 =>
      obtain ⟨p, xs, rfl, hs, ax⟩ := da.tuple_inv
      obtain ⟨p2, ys, rfl, hs2, ay⟩ := db.tuple_inv
      have lx := ax.length
      have ly := ay.length
      refine op_catA pins s σ H _ _ v u Q I rx ry ⟨p, p2, xs, ys, rfl, rfl, hs, hs2, by rw [lx, ly, e, e2]; exact Nat.le_trans hz (by decide), fun h0 => ?_, fun _ h0 => ?_, fun _ _ z hz => ?_⟩
      · subst h0
        have : ds = [] := List.eq_nil_of_length_eq_zero (by rw [← lx]; rfl)
        subst this
        exact q _ _ (Same.refl _) db
      · subst h0
        have : es = [] := List.eq_nil_of_length_eq_zero (by rw [← ly]; rfl)
        subst this
        refine q _ _ (Same.refl _) ?_
        show Dt X.K H (.ref p) (.tuple (ds ++ []))
        rw [List.append_nil]; exact da
      · exact q _ _ (Same.new hz) (Dt.made hz (DtAll.app ax ay))
/-- a * k, a row and an int -/
def rRepD (K : PySem.W.Frag) : R2 := fun x y H Q => ∃ (t : Bool) (a : PyData) (n : Nat) (k : Int), Row t a n ∧ Dt K H x a ∧ y = .int k ∧ 1 ≤ n ∧ 1 ≤ k ∧ n * k ≤ 1000 ∧ ∀ v H', Same H H' → Dt K H' v (repD a k) → Q v H'
theorem dtRep {K : PySem.W.Frag} {H : Hp} {xs : List V} {ds : List PyData} (h : DtAll K H xs ds) : ∀ m : Nat, DtAll K H (List.replicate m xs).flatten (List.replicate m ds).flatten
  | 0 => .nil
  | m + 1 => by
    rw [List.replicate_succ, List.flatten_cons, List.replicate_succ, List.flatten_cons]
    exact DtAll.app h (dtRep h m)
theorem op_repD : OpR X (binaryOp .Mult) (rRepD X.K) := by
  intro pins s σ H x y v u Q I rx ry h
  obtain ⟨t, a, n, k, ha, da, rfl, hn, hk, hz, q⟩ := h
  have k1 : k ≤ 1000 := by
    have : 1 * k ≤ n * k := Int.mul_le_mul_of_nonneg_right (by omega) (by omega)
    omega
  have n1 : n ≤ 1000 := by
    have : (n : Int) * 1 ≤ n * k := Int.mul_le_mul_of_nonneg_left hk (by omega)
    omega
  cases ha with
  | txt e l =>
    cases da.str_inv
    refine op_rep_str pins s σ H _ _ v u Q I rx ry ⟨_, k, rfl, rfl, by omega, by omega, ?_, q _ _ (Same.refl _) (.str _)⟩
    rw [e]
    exact Nat.le_trans (Nat.mul_le_mul n1 (show k.toNat ≤ 1000 by omega)) (by decide)
  | @tup ds _ e l =>
    obtain ⟨p, xs, rfl, hs, ax⟩ := da.tuple_inv
    have lx := ax.length
    refine op_repTA pins s σ H _ _ v u Q I rx ry ⟨p, k, xs, rfl, rfl, hs, fun z => ?_, hk, k1, by omega, fun h1 => ?_, fun h1 z hz => ?_⟩
    · subst z
      rw [List.length_nil] at lx
      omega
    · subst h1
      refine q _ _ (Same.refl _) ?_
      show Dt X.K H (.ref p) (.tuple (List.replicate 1 ds).flatten)
      rw [show (List.replicate 1 ds).flatten = ds by simp]
      exact da
    · exact q _ _ (Same.new hz) (Dt.made hz (dtRep ax _))
/-- a[:0], a row -/
def rNoneD (K : PySem.W.Frag) : V → Option Int → Option Int → Hp → VK → Prop := fun x lo hi H Q => ∃ (t : Bool) (a : PyData) (n : Nat), Row t a n ∧ Dt K H x a ∧ n ≤ 2000 ∧ lo = none ∧ hi = some 0 ∧ ∀ v H', Same H H' → Dt K H' v (noneD a) → Q v H'
theorem sl_noneD : SlR X (rNoneD X.K) := by
  intro pins s σ H x v vl vu lo hi sl Q I rx hs pl pu h
  obtain ⟨t, a, n, ha, da, hn, rfl, rfl, q⟩ := h
  cases ha with
  | txt e l =>
    cases da.str_inv
    exact sl_str pins s σ H _ v vl vu _ _ sl Q I rx hs pl pu ⟨_, rfl, by rw [e]; exact Nat.le_trans hn (by decide), q _ _ (Same.refl _) (.str _)⟩
  | @tup ds _ e l =>
    obtain ⟨p, xs, rfl, hq, ax⟩ := da.tuple_inv
    have lx := ax.length
    refine sl_tupA pins s σ H _ v vl vu _ _ sl Q I rx hs pl pu ⟨p, xs, rfl, hq, fun hw => ?_, fun _ z hz => ?_⟩
    · have h0 : ds.length = 0 := by
        have := hw.2
        rw [show (some (0 : Int)) = some ((0 : Nat) : Int) from rfl, HT.sIx_nat] at this
        omega
      have := List.eq_nil_of_length_eq_zero h0
      subst this
      exact q _ _ (Same.refl _) da
    · refine q _ _ (Same.new hz) (Dt.made hz ?_)
      have : cutV xs none (some 0) = [] := by
        apply List.eq_nil_of_length_eq_zero
        unfold cutV
        rw [List.length_take, show (some (0 : Int)) = some ((0 : Nat) : Int) from rfl, HT.sIx_nat]
        omega
      rw [this]
      exact .nil
/-- len(a), a row -/
def rLenD (K : PySem.W.Frag) : List V → Hp → VK → Prop := fun vs H Q => ∃ (v : V) (t : Bool) (a : PyData) (n : Nat), vs = [v] ∧ Row t a n ∧ Dt K H v a ∧ n ≤ 2000 ∧ Q (.int (n : Int)) H
theorem call_lenD' : CallR X (.builtin "len") (rLenD X.K) := by
  intro pins s σ H xs us Q I r h
  obtain ⟨v, t, a, n, rfl, ha, da, hn, q⟩ := h
  cases ha with
  | txt e l =>
    cases da.str_inv
    exact call_len pins s σ H _ us Q I r ⟨_, n, rfl, ⟨by rw [e]; exact Nat.le_trans hn (by decide), e.symm⟩, q⟩
  | @tup ds _ e l =>
    obtain ⟨p, ys, rfl, hq, ax⟩ := da.tuple_inv
    exact call_len pins s σ H _ us Q I r ⟨_, n, rfl, .inr ⟨_, hq, by rw [ax.length, e]⟩, q⟩
end
end LK

set_option Elab.async false
set_option linter.all false
set_option maxRecDepth 100000
set_option maxHeartbeats 4000000
set_option exponentiation.threshold 3000
/-! Letters, digits, underscores; texts of the top. -/
namespace LK
open PySem PySem.Spec PyProof.Rows L2 SX
def isD (c : Nat) : Bool := decide (48 ≤ c) && decide (c ≤ 57)
def isL (c : Nat) : Bool := (decide (65 ≤ c) && decide (c ≤ 90)) || (decide (97 ≤ c) && decide (c ≤ 122)) || c == 95
def isW (c : Nat) : Bool := isD c || isL c
theorem isW_lt {c : Nat} (h : isW c = true) : c < 128 := by
  simp [isW, isD, isL] at h; omega
theorem uni_alpha : ∀ c < 128, Unicode.isAlpha c = (isL c && c != 95) := by decide +kernel
theorem uni_digit : ∀ c < 128, Unicode.isDigit c = isD c := by decide +kernel
theorem uni_alnum : ∀ c < 128, Unicode.isAlnum c = (isW c && c != 95) := by decide +kernel
theorem alpha1 {c : Nat} (h : c < 128) : Txt.isalpha (S [c]) = (isL c && c != 95) := by
  show (decide ((S [c]).length > 0) && (S [c]).cps.all Unicode.isAlpha) = _
  rw [S_len]; simp [S, uni_alpha c h]
theorem digit1 {c : Nat} (h : c < 128) : Txt.isdigit (S [c]) = isD c := by
  show (decide ((S [c]).length > 0) && (S [c]).cps.all Unicode.isDigit) = _
  rw [S_len]; simp [S, uni_digit c h]
theorem alnum1 {c : Nat} (h : c < 128) : Txt.isalnum (S [c]) = (isW c && c != 95) := by
  show (decide ((S [c]).length > 0) && (S [c]).cps.all Unicode.isAlnum) = _
  rw [S_len]; simp [S, uni_alnum c h]
theorem digitS {a : List Nat} (h : ∀ c ∈ a, c < 128) (hne : a ≠ []) : Txt.isdigit (S a) = a.all isD := by
  show (decide ((S a).length > 0) && (S a).cps.all Unicode.isDigit) = _
  have : 0 < a.length := List.length_pos_iff.mpr hne
  rw [S_len, decide_eq_true this, Bool.true_and]
  show a.toArray.all Unicode.isDigit = _
  rw [List.all_toArray]
  apply Bool.eq_iff_iff.mpr
  rw [List.all_eq_true, List.all_eq_true]
  exact ⟨fun g c hc => uni_digit c (h c hc) ▸ g c hc, fun g c hc => (uni_digit c (h c hc)).symm ▸ g c hc⟩
/-! texts of the top -/
def GStr (mg : Str → Option Value) (x : Str) (z : Str) : Prop := ∃ t, mg x = some (.str z t)
def HasStr (K : PySem.W.Frag) (x : Str) (p : Str → Prop) : Prop := ∃ (z : Str) (t : Tok), PySem.W.nsIn K mainGlobals x = some (some (.str z t)) ∧ p z
theorem HasStr.mk' {K : PySem.W.Frag} {x : Str} {p : Str → Prop} {z : Str} {t : Tok} (a : PySem.W.nsIn K mainGlobals x = some (some (.str z t))) (b : p z) : HasStr K x p := ⟨z, t, a, b⟩
theorem HasStr.g {K : PySem.W.Frag} {mg : Str → Option Value} {h : Heap} {x : Str} {p : Str → Prop} (i : HasStr K x p) (X : K.In h) (G : h.Ns mainGlobals mg) : ∃ z, GStr mg x z ∧ p z := by
  obtain ⟨z, t, e, hp⟩ := i
  exact ⟨z, ⟨t, PySem.W.mg_of X G e⟩, hp⟩
theorem pe_globS {X : Cx} {x z : Str} {pos : Pos} (h : GStr X.mg x z) (hg : Gl X x) (hd : (x == ("__debug__" : Str)) = false := by decide) : PE X (.Name x pos) (tC (.str z)) := by
  obtain ⟨t, e⟩ := h
  exact pe_glob hg e ⟨t, rfl⟩ hd
theorem split1 {a : List Nat} {c : Nat} (h : c ∉ a) (hc : c < 256) : Txt.split (S a) (S [c]) = [S a] := by
  rw [split_S (by simp) (by simpa using hc)]
  have := SX.spl_join (c := c) (sep := []) (parts := [a]) (by simp) (by simpa using h)
  have e : TL.joinL [c] [a] = a := by simp [TL.joinL]
  rw [e] at this
  rw [this]; rfl
theorem lstrip1 {a : List Nat} {b : List Nat} (h : ∀ c, a.head? = some c → c ∉ b) : Txt.lstripChars (S a) (S b) = S a := by
  have e1 : (S a).cps.toList.takeWhile (S b).cps.contains = [] := tw0 a fun c hc => by
    have := h c hc
    show b.toArray.contains c = false
    rw [List.contains_toArray]
    simpa using this
  have e0 : stripLo (S b).cps.contains true (S a) = 0 := by
    unfold stripLo
    rw [if_pos rfl, e1] <;> rfl
  have e3 : stripHi (S b).cps.contains false (S a) 0 = (S a).length := by
    unfold stripHi
    rw [if_neg Bool.false_ne_true]
  unfold Txt.lstripChars Txt.stripBy stripSame
  rw [e0, e3]
  exact if_pos (by simp)
/-! while, its test's reading made monotone -/
def tUp (c : TT) : TT := fun σ H Q => ∃ P : Bool → Hp → Prop, c σ H P ∧ ∀ b H1, P b H1 → Q b H1
theorem pt_up {X : Cx} {e : Expr} {c : TT} (h : PT X e c) : PT X e (tUp c) :=
  ⟨fun pins s σ H Q I ⟨P, hP, k⟩ => thn (h.run pins s σ H P I hP) fun b s1 ⟨H1, I1, q⟩ => ⟨H1, I1, k _ _ q⟩⟩
theorem while_up {c : TT} {tb : TS} {D : Ends} {σ : L2.St} {H : Hp} (Pv : L2.St → Hp → Prop) (μ : L2.St → Hp → Nat) (h0 : Pv σ H)
    (hs : ∀ σ H, Pv σ H → c σ H fun b H1 => if b = true then tb { D with nx := fun σ' H' => Pv σ' H' ∧ μ σ' H' < μ σ H, ct := fun σ' H' => Pv σ' H' ∧ μ σ' H' < μ σ H, bk := D.nx } σ H1 else D.nx σ H1) : tWhile (tUp c) tb D σ H :=
  while_by Pv μ h0 (fun σ H p => ⟨_, hs σ H p, fun _ _ h => h⟩) (fun σ H Q Q' hq ⟨P, hP, k⟩ => ⟨P, hP, fun b H1 h => hq b H1 (k b H1 h)⟩)
theorem nl_S : ("\n" : Str) = S [10] := by decide +kernel
theorem us_S : ("_" : Str) = S [95] := by decide +kernel
theorem sp_S : (" " : Str) = S [32] := by decide +kernel
theorem hash_S : ("#" : Str) = S [35] := by decide +kernel
theorem sign_eq {c d : Nat} : decide (V.str ⟨#[c]⟩ = V.str (S [d])) = decide (c = d) := by
  by_cases h : c = d
  · subst h; rw [decide_eq_true rfl, decide_eq_true rfl]
  · rw [decide_eq_false h, decide_eq_false]
    intro e
    have := S_inj (a := [c]) (b := [d]) (V.str.inj e)
    exact h (by simpa using this)
theorem str_eq {a b : List Nat} : decide (V.str (S a) = V.str (S b)) = decide (a = b) := by
  by_cases h : a = b
  · subst h; rw [decide_eq_true rfl, decide_eq_true rfl]
  · rw [decide_eq_false h, decide_eq_false]
    intro e
    exact h (S_inj (V.str.inj e))
theorem starts1 {c d : Nat} {r : List Nat} : Txt.startswith (S (c :: r)) (S [d]) = decide (c = d) := by
  show (decide (0 + (S [d]).length ≤ (S (c :: r)).length) && ((c :: r).toArray.extract 0 (0 + (S [d]).length) == [d].toArray)) = _
  rw [S_len, S_len]
  have e : (c :: r).toArray.extract 0 (0 + [d].length) = #[c] := by simp
  rw [e]
  by_cases h : c = d
  · subst h; simp
  · simp [h]
theorem at_S {a : List Nat} {j c : Nat} (h : a[j]? = some c) : atI (S a).cps.toList (j : Int) = some c := atI_nat h
theorem cut_all {a : List Nat} : cutS (S a) (some 0) (some ((a.length : Nat) : Int)) = S a := by
  unfold cutS
  rw [S_len, show (some (0 : Int)) = some ((0 : Nat) : Int) from rfl, HT.sIx_nat, HT.sIx_nat]
  show (⟨((a.drop (min 0 a.length)).take (min a.length a.length - min 0 a.length)).toArray⟩ : Str) = ⟨a.toArray⟩
  rw [Nat.zero_min, List.drop_zero, Nat.min_self, Nat.sub_zero, List.take_length]
/-! a promise at a higher level -/
theorem FnG.mono {P : Program} {w : World} {K : PySem.W.Frag} {mg : Str → Option Value} {base : Heap} {CX : CXT} {j k : Nat} {f : Addr} {fd : FuncData} {ps : List Str} {sp : Sp} (F : FnG P w K mg base CX j f fd ps sp) (h : j ≤ k) : FnG P w K mg base CX k f fd ps sp :=
  ⟨F.len, fun A outer s H args us vs Q E hr => F.run A outer s H args us vs Q E (hr.mono h)⟩
theorem Use.mono {P : Program} {w : World} {K : PySem.W.Frag} {mg : Str → Option Value} {base : Heap} {CX : CXT} {x : Str} {j k : Nat} {ps : List Str} {sp : Sp} (U : Use P w K mg base CX x j ps sp) (h : j ≤ k) : Use P w K mg base CX x k ps sp := by
  obtain ⟨f, fd, ok, r⟩ := U.ex
  exact ⟨f, fd, ok.mono h, r⟩
/-! the signs that a program may hold -/
def okC (c : Nat) : Bool := c == 10 || (decide (32 ≤ c) && decide (c ≤ 126) && c != 37)
theorem okC_lt {c : Nat} (h : okC c = true) : c < 128 := by
  simp [okC] at h; omega
theorem lstrip_sp (a : List Nat) : Txt.lstripChars (S a) (S [32]) = S (a.dropWhile (· == 32)) := by
  have e1 : (S a).cps.toList.takeWhile (S [32]).cps.contains = a.takeWhile (· == 32) := by
    show a.takeWhile _ = _
    congr 1
    funext c
    show #[32].contains c = _
    simp [Array.contains, BEq.comm]
  have el : (a.takeWhile (· == 32)).length ≤ a.length := (List.takeWhile_prefix _).length_le
  have ed : a.drop (a.takeWhile (· == 32)).length = a.dropWhile (· == 32) := by
    have h := List.takeWhile_append_dropWhile (p := (· == 32)) (l := a)
    have : (a.takeWhile (· == 32) ++ a.dropWhile (· == 32)).drop (a.takeWhile (· == 32)).length = a.dropWhile (· == 32) := List.drop_left
    rwa [h] at this
  have e0 : stripLo (S [32]).cps.contains true (S a) = (a.takeWhile (· == 32)).length := by
    unfold stripLo
    rw [if_pos rfl, e1] <;> rfl
  have e3 : stripHi (S [32]).cps.contains false (S a) (a.takeWhile (· == 32)).length = (S a).length := by
    unfold stripHi
    rw [if_neg Bool.false_ne_true]
  unfold Txt.lstripChars Txt.stripBy stripSame stripped
  rw [e0, e3]
  split
  · rename_i h
    simp at h
    have : (a.takeWhile (· == 32)).length = 0 := by simpa using h
    rw [this, List.drop_zero] at ed
    rw [← ed]
  · show (⟨a.toArray.extract (a.takeWhile (· == 32)).length (S a).length⟩ : Str) = _
    rw [S_len, ← ed]
    congr 1
    apply Array.toList_inj.mp
    simp only [Array.toList_extract, List.extract_eq_drop_take]
    exact List.take_of_length_le (by rw [List.length_drop]; omega)
/-- z[i:j] by codes -/
theorem cut_S {a : List Nat} {i j : Nat} (hi : i ≤ a.length) (hj : j ≤ a.length) : cutS (S a) (some ((i : Nat) : Int)) (some ((j : Nat) : Int)) = S ((a.drop i).take (j - i)) := by
  unfold cutS
  rw [S_len, HT.sIx_nat, HT.sIx_nat, Nat.min_eq_left hi, Nat.min_eq_left hj]
/-- a line: so many spaces, and perhaps a word -/
def lnT (s : Nat) (w : List Nat) : List Nat := List.replicate s 32 ++ w
theorem lnT_len (s : Nat) (w : List Nat) : (lnT s w).length = s + w.length := by simp [lnT]
theorem lnT_sp {s : Nat} {w : List Nat} {i : Nat} (h : i < s) : (lnT s w)[i]? = some 32 := by
  unfold lnT
  rw [List.getElem?_append_left (by simpa using h), List.getElem?_replicate, if_pos h]
theorem lnT_w {s : Nat} {w : List Nat} {i : Nat} : (lnT s w)[s + i]? = w[i]? := by
  unfold lnT
  rw [List.getElem?_append_right (by simp), List.length_replicate, Nat.add_sub_cancel_left]
theorem lnT_drop (s : Nat) (w : List Nat) : (lnT s w).drop s = w := by
  unfold lnT
  rw [List.drop_append_of_le_length (by simp)]
  simp
/-- a while by an invariant that carries its measure -/
theorem while_upN {c : TT} {tb : TS} {D : Ends} {σ : L2.St} {H : Hp} (W : Nat → L2.St → Hp → Prop) (h0 : ∃ m, W m σ H)
    (hs : ∀ m σ H, W m σ H → c σ H fun b H1 => if b = true then tb { D with nx := fun σ' H' => ∃ m', m' < m ∧ W m' σ' H', ct := fun σ' H' => ∃ m', m' < m ∧ W m' σ' H', bk := D.nx } σ H1 else D.nx σ H1) : tWhile (tUp c) tb D σ H := by
  refine ⟨W, h0, fun m σ H w => ⟨_, hs m σ H w, fun b H1 h => ?_⟩⟩
  cases b with
  | false => exact h
  | true => exact ⟨_, fun σ' H' q => q, h⟩
end LK

set_option Elab.async false
set_option linter.all false
set_option maxRecDepth 100000
set_option maxHeartbeats 4000000
set_option exponentiation.threshold 3000
/-! What several laws share: boxes and lists beside changes of other objects. -/
namespace LK
open PySem PySem.Spec PyProof.Rows L2
section
variable {K : PySem.W.Frag}
theorem BoxAt.ne_new {H : Hp} {p dl b : Addr} (B : BoxAt H p dl) (h : H b = none) : b ≠ p ∧ b ≠ dl := by
  obtain ⟨xs, g⟩ := B.at_
  obtain ⟨ys, g2⟩ := B.dg
  exact ⟨fun e => (by subst e; rw [h] at g; cases g), fun e => (by subst e; rw [h] at g2; cases g2)⟩
theorem BoxAt.kp {H H' : Hp} {p dl : Addr} (B : BoxAt H p dl) (h : ∀ b o, b = p ∨ b = dl → H b = some o → H' b = some o) : BoxAt H' p dl := by
  obtain ⟨ds, k, a, b, c, d⟩ := B
  exact ⟨ds, k, h _ _ (.inl rfl) a, b, h _ _ (.inr rfl) c, d⟩
theorem BoxAt.keep' {H H' : Hp} {p dl l : Addr} (B : BoxAt H p dl) (k : Keep l H H') (h1 : l ≠ p) (h2 : l ≠ dl) : BoxAt H' p dl :=
  B.kp fun b o hb e => k b o e (by
    rcases hb with rfl | rfl
    · exact Ne.symm h1
    · exact Ne.symm h2)
theorem BoxAt.keep2 {H H' : Hp} {p dl l m : Addr} (B : BoxAt H p dl) (k : ∀ b o, H b = some o → b ≠ l → b ≠ m → H' b = some o) (h1 : l ≠ p) (h2 : l ≠ dl) (h3 : m ≠ p) (h4 : m ≠ dl) : BoxAt H' p dl :=
  B.kp fun b o hb e => by
    rcases hb with rfl | rfl
    · exact k _ _ e (Ne.symm h1) (Ne.symm h3)
    · exact k _ _ e (Ne.symm h2) (Ne.symm h4)
theorem KeepT.ins {p C dx : Addr} {H : Hp} {o : HO} {fs : List (Str × V)} (hp : H p = some (.ins C dx fs)) : KeepT K H (L2.upd H p o) := fun a xs h => by
  rcases h with (h | ⟨o', h⟩) | h
  · exact .inl (.inl (by rw [upd_ne (ne_of h hp (by intro z; cases z))]; exact h))
  · exact .inl (.inr ⟨o', by rw [upd_ne (ne_of h hp (by intro z; cases z))]; exact h⟩)
  · exact .inr h
theorem listAt_ins {p C dx l : Addr} {H : Hp} {o : HO} {fs : List (Str × V)} {ds : List PyData} (h : ListAt K H l ds) (hp : H p = some (.ins C dx fs)) : ListAt K (upd H p o) l ds := by
  obtain ⟨xs, e, a⟩ := h
  exact ⟨xs, by rw [upd_ne (ne_of e hp (by intro z; cases z))]; exact e, DtAll.keepT (KeepT.ins hp) a⟩
theorem Low.zero : Low "" := fun c hc => by
  have e : ("" : Str).cps.toList = [] := by decide +kernel
  rw [e] at hc; cases hc
theorem DtAll.take {H : Hp} : ∀ (n : Nat) {vs : List V} {ds : List PyData}, DtAll K H vs ds → DtAll K H (vs.take n) (ds.take n)
  | 0, _, _, _ => .nil
  | _ + 1, _, _, .nil => .nil
  | n + 1, _, _, .cons h a => .cons h (DtAll.take n a)
theorem len_start0 : (startD []).length = 17 := by decide
theorem sm_start0 : ∀ d ∈ startD [], Sm d 5 150000 := fun d hd => sm_start (hs := []) (L := 0) (by simp) (by simp) d hd
theorem sm_heap {ds : List PyData} (h : ds.length ≤ 30) (sm : ∀ d ∈ ds, Sm d 5 150000) : ShowOk (.list ds) := (Sm.lst ((SmAll.many sm).mem (m := 30) (M := 4500000) h (by omega))).show (by decide) (by decide)
theorem ListAt.dp {H : Hp} {l : Addr} {ds : List PyData} (h : ListAt K H l ds) : Dp K H (.ref l) (.list ds) := let ⟨_, e, a⟩ := h; .lst (SqL.of e) a.dp
end
theorem FnG.or {P : Program} {w : World} {K : PySem.W.Frag} {mg : Str → Option Value} {base : Heap} {CX : CXT} {k : Nat} {f : Addr} {fd : FuncData} {ps : List Str} {sp sp' : Sp} (A : FnG P w K mg base CX k f fd ps sp) (B : FnG P w K mg base CX k f fd ps sp') :
    FnG P w K mg base CX k f fd ps (fun vs H Q E => sp vs H Q E ∨ sp' vs H Q E) where
  len := fun vs H Q E h => h.elim (A.len vs H Q E) (B.len vs H Q E)
  run := fun A' outer s H args us vs Q E hr hg he hb hv h => h.elim (A.run A' outer s H args us vs Q E hr hg he hb hv) (B.run A' outer s H args us vs Q E hr hg he hb hv)
/-- start_heap of a list of names -/
def spStartL (K : PySem.W.Frag) : Sp := fun vs H Q _ => ∃ (t : Addr) (hs : List Str), vs = [.ref t] ∧ SqL K H t (hs.map V.str) ∧ hs.length ≤ 1000 ∧
  ∀ (p : Addr) (H' : Hp), H p = none → Same H H' → ListAt K H' p (startD hs) → Q (.ref p) H'
def spStart2 (K : PySem.W.Frag) : Sp := fun vs H Q E => spStart K vs H Q E ∨ spStartL K vs H Q E
theorem ip_fdiv {X : Cx} : PIp X .FloorDiv (rI CDiv fun i j => .int (i / j)) := fun pins s σ H x y v u Q I r1 r2 h => iop_fdiv pins s σ H x y v u Q I r1 r2 h
theorem none_back0 {p np : Addr} {H H' : Hp} (K1 : Keep p H H') (B : ∃ xs, H' p = some (.lst xs)) (h : H' np = none) : H np = none := by
  cases e : H np with
  | none => rfl
  | some o =>
    by_cases ep : np = p
    · subst ep
      obtain ⟨xs, g⟩ := B
      rw [g] at h; cases h
    · rw [K1 _ _ e ep] at h; cases h
end LK

set_option Elab.async false
set_option linter.all false
set_option maxRecDepth 100000
set_option maxHeartbeats 4000000
/-! dicts of the top: what a literal dict of the program gives, read where it stands. -/
namespace LK
open PySem PySem.Spec PyProof.Rows L2
/-- at a lies a dict of the top with these entries -/
def KDct (P : Program) (w : World) (K : PySem.W.Frag) (a : Addr) (kvs : List (Key × V)) : Prop := (a == sysModules) = false ∧ ∃ vs, KV kvs vs ∧ ∀ h : Heap, K.In h → h.DictOf (mixKind P w) a vs
def tDGetK (P : Program) (w : World) (K : PySem.W.Frag) (td ty : TE) : TE := fun σ H Q => td σ H fun x H1 => ty σ H1 fun y H2 => ∃ a kvs k v, x = .ref a ∧ KDct P w K a kvs ∧ y = kV k ∧ valV kvs k = some v ∧ Q v H2
def tDInK (P : Program) (w : World) (K : PySem.W.Frag) (ty td : TE) : TE := fun σ H Q => ty σ H fun y H1 => td σ H1 fun x H2 => ∃ a kvs k, x = .ref a ∧ KDct P w K a kvs ∧ y = kV k ∧ Q (.bl (valV kvs k).isSome) H2
section
variable {X : Cx} {o i : Expr} {pos : Pos} {td ty : TE}
theorem pe_dgetK (ho : PE X o td) (hi : PE X i ty) (hs : NoSl i) : PE X (.Subscript o i pos) (tDGetK X.prog X.w X.K td ty) := by
  refine ⟨fun pins s σ H Q I h => ?_⟩
  refine subD_of PySem.F.slot_dict_getitem.lookup hs (thn (ho.run pins s σ H _ I h) fun u s1 ⟨x, H1, I1, rx, q1⟩ => thn (hi.run pins s1 σ H1 _ I1 q1) fun iv s2 ⟨y, H2, I2, ry, a, kvs, k, v, ex, ⟨hsys, vs, rel, dd⟩, ey, l, q2⟩ => ?_)
  subst ex ey
  obtain rfl : u = Value.ref a := rx
  have dd := dd _ I2.kIn
  refine ⟨dd.typeIs, ?_⟩
  obtain ⟨w', hw, rw'⟩ := RelO.some_of (v := v) (o := valueAt vs k) (by rw [← l]; exact rel.val k)
  exact wpAny_getItem_of (kV_is ry) dd.mapOf hw ⟨v, H2, I2.tok _, rw', q2⟩
theorem pc_dinK (hi : PE X i ty) (ho : PE X o td) : PC X .In i o (tDInK X.prog X.w X.K ty td) := by
  refine ⟨fun pins s σ H Q I h => ?_⟩
  refine thn (hi.run pins s σ H _ I h) fun iv s1 ⟨y, H1, I1, ry, q1⟩ => thn (ho.run pins s1 σ H1 _ I1 q1) fun u s2 ⟨x, H2, I2, rx, a, kvs, k, ex, ⟨hsys, vs, rel, dd⟩, ey, q2⟩ => ?_
  subst ex ey
  obtain rfl : u = Value.ref a := rx
  have dd := dd _ I2.kIn
  refine wpAny_in_of (kV_is ry) hsys dd.mapOf ?_
  rw [← (rel.val k).isSome_eq]
  exact ⟨.bl _, H2, I2.tok _, rfl, q2⟩
end
/-! its fact from the top -/
def HasDct (P : Program) (w : World) (K : PySem.W.Frag) (x : Str) (kvs : List (Key × V)) : Prop := ∃ a, PySem.W.nsIn K mainGlobals x = some (some (.ref a)) ∧ KDct P w K a kvs
structure UseD (P : Program) (w : World) (K : PySem.W.Frag) (mg : Str → Option Value) (x : Str) (kvs : List (Key × V)) : Prop where
  ex : ∃ a, mg x = some (.ref a) ∧ KDct P w K a kvs
/-- entries whose keys and values are texts -/
inductive DEnt (w : World) : List DictEntry → List (Str × Str) → Prop
  | nil : DEnt w [] []
  | cons {e : DictEntry} {es : List DictEntry} {k v : Str} {ps : List (Str × Str)} {t t' : Tok} : e.key = .str k t → e.hash = hashStr w k → e.val = .str v t' → DEnt w es ps → DEnt w (e :: es) ((k, v) :: ps)
def txtKV (ps : List (Str × Str)) : List (Key × V) := ps.map fun p => (.inr p.1, .str p.2)
theorem DEnt.pairs {P : Program} {w : World} : ∀ {es : List DictEntry} {ps : List (Str × Str)}, DEnt w es ps → ∃ vs : List (Key × Value), KV (txtKV ps) vs ∧ PySem.Pairs (mixKind P w) es vs ∧ vs.map (·.1) = ps.map (fun p => (Sum.inr p.1 : Key)) ∧ ∀ e ∈ es, ∃ k, (mixKind P w).is k e.key = true ∧ e.hash = (mixKind P w).hash k
  | _, _, .nil => ⟨[], .nil, .nil, rfl, fun _ h => by cases h⟩
  | _, _, .cons (k := k) (v := v) (t := t) (t' := t') hk hh hv r => by
    obtain ⟨vs, a, b, c, d⟩ := DEnt.pairs (P := P) r
    refine ⟨(.inr k, .str v t') :: vs, .cons ⟨rfl, ⟨_, rfl⟩⟩ a, .cons (by rw [hk]; exact mixKind_str P w k t) hv b, by rw [List.map_cons, c]; rfl, fun e he => ?_⟩
    rcases List.mem_cons.mp he with rfl | he
    · exact ⟨.inr k, by rw [hk]; exact mixKind_str P w k t, hh⟩
    · exact d e he
theorem nodup_inr : ∀ {xs : List Str}, xs.Nodup → (xs.map (Sum.inr : Str → Key)).Nodup
  | [], _ => .nil
  | x :: r, h => by
    obtain ⟨h1, h2⟩ := List.nodup_cons.mp h
    refine List.nodup_cons.mpr ⟨fun hm => ?_, nodup_inr h2⟩
    obtain ⟨y, hy, e⟩ := List.mem_map.mp hm
    exact h1 (Sum.inr.inj e ▸ hy)
theorem HasDct.mk' {P : Program} {w : World} {K : PySem.W.Frag} {x : Str} {ps : List (Str × Str)} {a : Addr} {es : Array DictEntry} {ep : Nat} (h : PySem.W.nsIn K mainGlobals x = some (some (.ref a)))
    (b : K.lookup a = some { cls := .type "dict", data := .dict es ep }) (hs : (a == sysModules) = false) (c : DEnt w es.toList ps) (nd : (ps.map (·.1)).Nodup) : HasDct P w K x (txtKV ps) := by
  obtain ⟨vs, v1, v2, v3, v4⟩ := DEnt.pairs (P := P) c
  refine ⟨a, h, hs, vs, v1, fun hh hK => ⟨_, es, ep, hK a _ b, ⟨rfl, rfl, rfl⟩, rfl, fun e he => v4 e (Array.mem_toList_iff.mpr he), v2, ?_⟩⟩
  rw [v3]
  have : ps.map (fun p => (Sum.inr p.1 : Key)) = (ps.map (·.1)).map Sum.inr := by rw [List.map_map]; rfl
  rw [this]
  exact nodup_inr nd
theorem HasDct.g {P : Program} {w : World} {K : PySem.W.Frag} {mg : Str → Option Value} {h : Heap} {x : Str} {kvs : List (Key × V)} (D : HasDct P w K x kvs) (X : K.In h) (G : h.Ns mainGlobals mg) : UseD P w K mg x kvs := by
  obtain ⟨a, e, k⟩ := D
  exact ⟨a, PySem.W.mg_of X G e, k⟩
end LK

set_option Elab.async false
set_option linter.all false
set_option maxRecDepth 100000
set_option maxHeartbeats 4000000
set_option exponentiation.threshold 3000
/-! Numbers, texts over the 95 characters, dicts of the top with any plain values. -/
namespace LK
open PySem PySem.Spec PyProof.Rows L2 SX
def CPowW (i j : Int) : Prop := 0 ≤ j ∧ (Builtin.Int.intBits i : Int) * j ≤ 2 ^ 27
theorem op_powW {X : Cx} : OpR X (binaryOp .Pow) (rI CPowW fun i j => .int (i ^ j.toNat)) := opI fun _ _ _ _ _ _ _ hc q => pow_int hc.1 hc.2 q
/-- the 95 characters by their codes -/
def chStr : Str := "\n !\"#$&'()*+,-./0123456789:;<=>?@ABCDEFGHIJKLMNOPQRSTUVWXYZ[\\]^_`abcdefghijklmnopqrstuvwxyz{|}~"
def chC : List Nat := chStr.cps.toList
theorem chC_len : chC.length = 95 := by decide +kernel
theorem chStr_S : chStr = S chC := by unfold chC S; rfl
def ch (j : Nat) : Nat := chC.getD j 0
/-- the text of a row of indices -/
def tx (js : List Nat) : Str := S (js.map ch)
theorem ch_at {j : Nat} (h : j < 95) : chC[j]? = some (ch j) := by
  have h' : j < chC.length := by rw [chC_len]; exact h
  rw [List.getElem?_eq_getElem h', ch, List.getD_eq_getElem?_getD, List.getElem?_eq_getElem h']; rfl
theorem ch_low (j : Nat) : ch j < 128 := by
  by_cases h : j < 95
  · exact (show ∀ c ∈ chC, c < 128 by decide +kernel) _ (List.mem_of_getElem? (ch_at h))
  · rw [ch, List.getD_eq_getElem?_getD, List.getElem?_eq_none (by rw [chC_len]; omega)]; decide
theorem ch_inj {i j : Nat} (hi : i < 95) (hj : j < 95) (h : ch i = ch j) : i = j := by
  have key : ∀ i < 95, ∀ j < 95, ch i = ch j → i = j := by decide +kernel
  exact key i hi j hj h
theorem tx_len (js : List Nat) : (tx js).length = js.length := by rw [tx, S_len, List.length_map]
theorem tx_app (a b : List Nat) : tx (a ++ b) = tx a ++ tx b := by rw [tx, List.map_append, ← S_cat]; rfl
theorem occ_ch : ∀ j < 95, (Builtin.Str.occurrences chStr ⟨#[ch j]⟩ 0 95 1).head? = some j := by decide +kernel
theorem occ_at {j : Nat} (h : j < 95) : ∃ rest, Builtin.Str.occurrences chStr ⟨#[ch j]⟩ 0 chStr.length 1 = j :: rest := by
  have e := occ_ch j h
  rw [show chStr.length = 95 by decide +kernel]
  cases q : Builtin.Str.occurrences chStr ⟨#[ch j]⟩ 0 95 1 with
  | nil => rw [q] at e; cases e
  | cons a r => rw [q] at e; exact ⟨r, by rw [Option.some.inj e]⟩
theorem joinL_one : ∀ cs : List Nat, TL.joinL [] (cs.map fun c => [c]) = cs
  | [] => rfl
  | [c] => rfl
  | c :: d :: r => by
    have := joinL_one (d :: r)
    show [c] ++ ([] ++ TL.joinL [] ((d :: r).map fun c => [c])) = _
    rw [this]; rfl
theorem join_chars (cs : List Nat) : Txt.join "" (cs.map fun c => (⟨#[c]⟩ : Str)) = S cs := by
  rw [TL.join_eq]
  have e := TL.tl_join "" (cs.map fun c => (⟨#[c]⟩ : Str))
  rw [show TL.tl ("" : Str) = [] by decide +kernel, List.map_map, show (TL.tl ∘ fun c => (⟨#[c]⟩ : Str)) = fun c => [c] from rfl, joinL_one] at e
  cases h : Str.join "" (cs.map fun c => (⟨#[c]⟩ : Str)) with
  | mk a =>
    rw [h] at e
    have e : a.toList = cs := e
    subst e
    rfl
section
variable {X : Cx} {K : PySem.W.Frag} {T id : String} {name : Str} {r : V → List V → Hp → VK → Prop} {o e : Expr} {es : List Expr} {to : TE} {t : TA} {apos cpos : Pos}
/-- a built-in method, where the written part is told (in a comprehension) -/
theorem pe_bmK (hK : X.K = K) (pa : PlainAttrs T) (slot : Slot T name id) (hty : typeOf (.builtin id) = pure (.type "method_descriptor")) (hm : MtR X id r) (ho : PE X o to) (ha : PA X (e :: es) t)
    (hbase : attributeBase o name X.env (eval o X.env) = eval o X.env := by rfl)
    (hfew : ((backTo cpos (starEach (e :: es) X.env)).all (fun x => !x.1) && (backToKw cpos (keywordEach [] X.env)).all (fun x => x.1.isSome)
      && decide ((e :: es).length + ([] : List Keyword).length + (if ([] : List Keyword).isEmpty then 0 else 1) < 30)) = true := by rfl)
    (hline : (apos.endLine == cpos.line) = true := by rfl) (hs : starEach (e :: es) X.env = (false, eval e X.env) :: starEach es X.env := by rfl) (hplain : (backTo cpos (starEach es X.env)).any (·.1) = false := by rfl) :
    PE X (.Call (.Attribute o name apos) (e :: es) [] cpos) (tBM K T r to t) := by
  subst hK; exact pe_bm pa slot hty hm ho ha hbase hfew hline hs hplain
end
/-! dicts of the top whose keys are texts and whose values are plain -/
inductive DEntV (w : World) : List DictEntry → List (Str × V) → Prop
  | nil : DEntV w [] []
  | cons {e : DictEntry} {es : List DictEntry} {k : Str} {v : V} {ps : List (Str × V)} {t : Tok} : e.key = .str k t → e.hash = hashStr w k → RelV v e.val → DEntV w es ps → DEntV w (e :: es) ((k, v) :: ps)
def valKV (ps : List (Str × V)) : List (Key × V) := ps.map fun p => (.inr p.1, p.2)
theorem DEntV.pairs {P : Program} {w : World} : ∀ {es : List DictEntry} {ps : List (Str × V)}, DEntV w es ps → ∃ vs : List (Key × Value), KV (valKV ps) vs ∧ PySem.Pairs (mixKind P w) es vs ∧ vs.map (·.1) = ps.map (fun p => (Sum.inr p.1 : Key)) ∧ ∀ e ∈ es, ∃ k : Key, (mixKind P w).is k e.key = true ∧ e.hash = (mixKind P w).hash k
  | _, _, .nil => ⟨[], .nil, .nil, rfl, fun _ h => by cases h⟩
  | _, _, .cons (e := e0) (k := k) (v := v) (t := t) hk hh hv r => by
    obtain ⟨vs, a, b, c, d⟩ := DEntV.pairs (P := P) r
    refine ⟨(.inr k, e0.val) :: vs, .cons ⟨rfl, hv⟩ a, .cons (by rw [hk]; exact mixKind_str P w k t) rfl b, by rw [List.map_cons, c]; rfl, fun e he => ?_⟩
    rcases List.mem_cons.mp he with rfl | he
    · exact ⟨.inr k, by rw [hk]; exact mixKind_str P w k t, hh⟩
    · exact d e he
theorem HasDct.mkV {P : Program} {w : World} {K : PySem.W.Frag} {x : Str} {ps : List (Str × V)} {a : Addr} {es : Array DictEntry} {ep : Nat} (h : PySem.W.nsIn K mainGlobals x = some (some (.ref a)))
    (b : K.lookup a = some { cls := .type "dict", data := .dict es ep }) (hs : (a == sysModules) = false) (c : DEntV w es.toList ps) (nd : (ps.map (·.1)).Nodup) : HasDct P w K x (valKV ps) := by
  obtain ⟨vs, v1, v2, v3, v4⟩ := DEntV.pairs (P := P) c
  refine ⟨a, h, hs, vs, v1, fun hh hK => ⟨_, es, ep, hK a _ b, ⟨rfl, rfl, rfl⟩, rfl, fun e he => v4 e (Array.mem_toList_iff.mpr he), v2, ?_⟩⟩
  rw [v3]
  have : ps.map (fun p => (Sum.inr p.1 : Key)) = (ps.map (·.1)).map Sum.inr := by rw [List.map_map]; rfl
  rw [this]
  exact nodup_inr nd
theorem dtAll_int {K : PySem.W.Frag} {H : Hp} : ∀ {is : List Int} {ws : List V}, DtAll K H ws (is.map PyData.int) → ws = is.map V.int
  | [], _, h => by cases h.nil_inv; rfl
  | i :: r, _, h => by
    obtain ⟨y, ws, rfl, h1, h2⟩ := h.cons_inv
    cases h1.int_inv
    rw [dtAll_int h2]; rfl
theorem cut_one (x : V) (xs : List V) : cutV (x :: xs) (some 1) none = xs := by
  unfold cutV
  rw [show (some (1 : Int)) = some ((1 : Nat) : Int) from rfl, HT.sIx_nat, HT.sIx_none, Nat.min_eq_left (by simp)]
  simp
theorem tx_take (js : List Nat) (n : Nat) : cutS (tx js) none (some (n : Int)) = tx (js.take n) := by
  unfold cutS
  rw [tx_len, HT.sIx_nat, HT.sIx_none]
  show (⟨(((js.map ch).drop 0).take (min n js.length - 0)).toArray⟩ : Str) = ⟨((js.take n).map ch).toArray⟩
  rw [List.drop_zero, Nat.sub_zero, List.map_take]
  congr 2
  by_cases h : n ≤ js.length
  · rw [Nat.min_eq_left h]
  · rw [Nat.min_eq_right (by omega), List.take_of_length_le (by simp), List.take_of_length_le (by simp; omega)]
theorem tx_drop (js : List Nat) (n : Nat) : cutS (tx js) (some (n : Int)) none = tx (js.drop n) := by
  unfold cutS
  rw [tx_len, HT.sIx_nat, HT.sIx_none]
  show (⟨(((js.map ch).drop (min n js.length)).take (js.length - min n js.length)).toArray⟩ : Str) = ⟨((js.drop n).map ch).toArray⟩
  rw [List.map_drop]
  congr 2
  by_cases h : n ≤ js.length
  · rw [Nat.min_eq_left h, List.take_of_length_le (by simp)]
  · rw [Nat.min_eq_right (by omega), List.drop_of_length_le (by simp), List.drop_of_length_le (by simp; omega)]; simp
def rLenK (K : PySem.W.Frag) : List V → Hp → VK → Prop := fun xs H Q => ∃ x n, xs = [x] ∧ LenV K x H n ∧ Q (.int (n : Nat)) H
theorem call_lenK {X : Cx} {K : PySem.W.Frag} (hK : X.K = K) : CallR X (.builtin "len") (rLenK K) := by subst hK; exact call_len
end LK

set_option Elab.async false
set_option linter.all false
set_option maxRecDepth 100000
set_option maxHeartbeats 4000000
/-! An own exception class over ValueError (its bases may be own ones) whose __init__ says super().__init__(..) first. -/
namespace SupX
open PySem PySem.Spec PyProof.Rows L2 NdefX
/-- what the written part says of the class at C, its __init__ at fI (a def that closes over __class__), in the program P -/
structure SupC (P : Program) (K : PySem.W.Frag) (C fI cc : Addr) (F : NF) : Prop where
  oex : OexC K C
  fn : ∃ oc od doc pm ctv osl, K.lookup fI = some ⟨oc, od, .func (F.fd doc pm ctv), osl⟩
  cl : F.cl = [(("__class__" : Str), cc)]
  cd : PySem.W.codeIn K (.ref F.c) F.qual = true
  code : ∃ ccl cdd vs ccs file tf, K.lookup F.c = some ⟨ccl, cdd, .fields vs, ccs⟩ ∧ vs[2]? = some (.str file tf) ∧ ((P.main.file : Str) == file) = true
  top : (P.main.scope.names.lookup ("super" : Str)).isSome = false
  cell : ∃ cl cld csl, K.lookup cc = some ⟨cl, cld, .cell (some (.ref C)), csl⟩
  own : PySem.W.mroIn K C (.ref C) = some true
  isB : PySem.W.subIn K (.ref C) (.type "ValueError") = some true
  sup : PySem.W.ks_superIn K C C "__init__" = some (some (.builtin "ValueError.__init__"))
  opq : PySem.W.nsIn K cStatics "thirdparty.any" = some none
  glob : PySem.W.nsIn K mainGlobals "super" = some none
/-- super().__init__(..), then the rest -/
def tSup (C : Addr) (ta : TA) (tr : TS) : TS := fun D σ H => ta σ H fun ws H1 => ws.length ≤ 1000 ∧ ∃ a, σ[0]? = some (some (.ref a)) ∧ H1 a = some (exo a C none) ∧ tr D σ H1
section
variable {P : Program} {w : World} {K : PySem.W.Frag} {mg : Str → Option Value} {base : Heap} {N ps : List Str} {F : NF} {fI C cc : Addr} {k : Nat} {sp : Sp} {e : Expr} {es : List Expr} {rest : List Stmt} {p0 p1 pa pc pe : Pos} {self : Str} {ar : Arg}
theorem sup_ok (T : SupC P K C fI cc F) (S : NScope N (self :: ps) ["__class__"] F.scope) (len : ∀ vs H Q E, sp vs H Q E → vs.length = (self :: ps).length)
    (hself : ∀ vs H Q E, sp vs H Q E → ∃ a ws, vs = .ref a :: ws ∧ H a = some (exo a C none))
    (hbd : F.body = .Expr (.Call (.Attribute (.Call (.Name "super" p0) [] [] p1) "__init__" pa) (e :: es) [] pc) pe :: rest) (hpar : (F.params.posonlyargs ++ F.params.args).head? = some ar) (har : ar.arg = self)
    (hks : F.scope.names.lookup ("super" : Str) = some .globalImplicit) (hkc : F.scope.names.lookup ("__class__" : Str) = some .free) (hka : F.scope.names.lookup self = some .local)
    (he : ∀ env : Env, starEach (e :: es) env = (false, eval e env) :: starEach es env) (hpl : ∀ env : Env, (backTo pc (starEach es env)).any (·.1) = false)
    (hev : ∀ env : Env, ∃ pl : Sem Bool, eval (.Call (.Attribute (.Call (.Name "super" p0) [] [] p1) "__init__" pa) (e :: es) [] pc) env = (do
      let ov ← attributeBase (.Call (.Name "super" p0) [] [] p1) "__init__" env (eval (.Call (.Name "super" p0) [] [] p1) env)
      standAt pa.atName
      let (f, first) ← holding [ov] (getMethod ov "__init__" pl)
      callWith pc f first (backTo pc (starEach (e :: es) env)) []))
    (body : ∀ (A : Around) (outer : List Env) (s : Shared) (H : Hp) (vs : List V) (Q : VK) (E : XK), Room k (A.deeper (envF F fI s.heap.objs.size)) → sp vs H Q E →
      ∃ ta tr, PA (ncx CX0 P w K mg base N F fI A outer s H E) (e :: es) ta ∧ PSs (ncx CX0 P w K mg base N F fI A outer s H E) rest tr ∧ tSup C ta tr { nx := fun _ H' => Q .non H', rt := Q } (startF N vs [none]) H) :
    ∀ fd, (∃ oc od osl, K.lookup fI = some ⟨oc, od, .func fd, osl⟩) → FnOk P w K mg base CX0 (k + 1) fI fd (self :: ps) sp := by
  rintro fd ⟨oc', od', osl', lk'⟩
  obtain ⟨oc, od, doc, pm, ctv, osl, lk⟩ := T.fn
  have efd : fd = F.fd doc pm ctv := by
    rw [lk] at lk'
    have := Option.some.inj lk'
    injection this with _ _ h _
    injection h with h
    exact h.symm
  subst efd
  refine ⟨len, fun A outer s H args us vs Q E hr e0 hb r hsp => ?_⟩
  have inn : K.In s.heap := e0.mod.kin.keeps fun b o e => (e0.bs b o e).1
  have lim : s.heap.NoLimit := e0.mod.nolimit.keeps fun b o e => (e0.bs b o e).1
  obtain ⟨a, ws, rfl, ha⟩ := hself _ _ _ _ hsp
  refine ks_codeAny_call_defAt (fd := F.fd doc pm ctv) (body := F.body) (binds := (self :: ps).zip us) hr.depth (inn _ _ lk) rfl lim (PySem.W.codeRec_of inn T.cd) rfl hb S.nocell
    (fun ⟨n, _⟩ hx => S.par n (List.of_mem_zip hx).1) (fun h₁ hns kp => ?_) S.co S.gen S.kind
  obtain ⟨cl, cld, csl, hcell⟩ := T.cell
  have cellS : s.heap.IsCell cc (some (.ref C)) := ⟨_, inn _ _ hcell, rfl⟩
  have ec : ∀ y c, F.cl.lookup y = some c → y = "__class__" ∧ c = cc := fun y c h => by
    rw [T.cl] at h
    by_cases hy : y = ("__class__" : Str)
    · subst hy
      simp [List.lookup] at h
      exact ⟨rfl, h.symm⟩
    · have : (y == ("__class__" : Str)) = false := beq_eq_false_iff_ne.mpr hy
      simp [List.lookup, this] at h
  have lc : F.cl.lookup ("__class__" : Str) = some cc := by rw [T.cl]; simp [List.lookup]
  obtain ⟨oB, hoB⟩ : ∃ o, base.get? cc = some o := ⟨_, e0.mod.kin _ _ hcell⟩
  have Cs : CellsAt F.cl ["__class__"] [none] s.heap H := by
    refine ⟨rfl, fun y c h => ?_, fun x y c h1 h2 => ?_, fun i y h => ?_⟩
    · obtain ⟨_, rfl⟩ := ec y c h
      exact ⟨(e0.bs _ _ hoB).2, _, cellS⟩
    · rw [(ec x c h1).1, (ec y c h2).1]
    · match i, h with
      | 0, h =>
        obtain rfl := Option.some.inj h
        exact ⟨cc, lc, fun v hv => by simp at hv⟩
      | i + 1, h => simp at h
  obtain ⟨ta, tr, hta, htr, hq⟩ := body A outer s H _ Q E (hr.deeper _) hsp
  have I : Inv (ncx CX0 P w K mg base N F fI A outer s H E) [] (startF N (.ref a :: ws) [none]) H { s with heap := h₁, toks := s.toks + ((self :: ps).zip us).length } := inv_startN S hr.hd e0 (len _ _ _ _ hsp) r Cs hns kp
  show PySem.wpAt (model P w) (A.deeper (envF F fI s.heap.objs.size)) (.func F.body (envF F fI s.heap.objs.size)) (execs F.body (envF F fI s.heap.objs.size)) _ _ _
  generalize s.toks + ((self :: ps).zip us).length = tk at I
  rw [show execs F.body = execs (.Expr (.Call (.Attribute (.Call (.Name "super" p0) [] [] p1) "__init__" pa) (e :: es) [] pc) pe :: rest) from by rw [hbd]]
  refine ks_wpAt_execs_cons ?_
  refine ks_wpAt_Expr_any ?_ (by unfold interactive; rw [show (envF F fI s.heap.objs.size).scope.kind = .function from S.kind]; rfl)
  obtain ⟨pl, hev⟩ := hev (envF F fI s.heap.objs.size)
  refine ks_wpAt_MethodCall ?_ hev
  obtain ⟨ccl, cdd, vs', ccs, file, tf, hcode, hvs, hfile⟩ := T.code
  have X1 : K.In h₁ := inn.keeps kp
  refine ks_wpAt_super_base (env := envF F fI s.heap.objs.size) hks hkc rfl rfl (X1 _ _ lk) rfl hpar rfl (X1 _ _ hcode) rfl hvs hfile T.top ?_
  obtain ⟨mb, hmb, hboot⟩ := e0.mod.blt
  have kB : ∀ b o, base.get? b = some o → h₁.get? b = some o := fun b o e => kp b o (e0.bs b o e).1
  refine PySem.W.ks_loadName_global S.kind hks (PySem.Calls.loadGlobal_builtin (env := envF F fI s.heap.objs.size) (e0.mod.glob.keeps kB) (PySem.W.mg_none_of e0.mod.kin e0.mod.glob T.glob) (hmb.keeps kB) (hboot _ (by decide +kernel)) ⟨rfl, ?_⟩)
  refine wpAny_loadName_free S.kind hkc lc ⟨_, X1 _ _ hcell, rfl⟩ ?_
  -- self
  have ndp : (self :: ps).Nodup := by
    have h : ((self :: ps) ++ [("__class__" : Str)]).Nodup := by rw [← S.pre]; exact S.nd.sublist (List.take_sublist _ _)
    exact (List.nodup_append.mp h).1
  obtain ⟨us', rfl⟩ : ∃ us', us = .ref a :: us' := by
    cases r with
    | cons r1 r2 => exact ⟨_, by rw [show _ = Value.ref a from r1]⟩
  rw [har]
  refine wpAny_loadName_local S.kind hka hns (zip_look (i := 0) (x := self) (u := .ref a) ndp rfl rfl) ?_
  -- super(__class__, self)
  obtain ⟨nm, q, NN, bs, bm, sn, sub, ab, col, dd, k0, k1, k2, k3, k5, hC, hbm⟩ := T.oex.cls
  have hcl : PySem.W.clsIn K C = some { name := nm, bases := bs, mro := .ref C :: bm, ns := NN, qualname := q, hasDict := true, slotNames := sn, subclasses := sub, abstract := ab, collection := col, hasDel := false } := by unfold PySem.W.clsIn; rw [hC] <;> rfl
  obtain ⟨t1, hoa⟩ := exo_at I.hok ha
  obtain ⟨hh0, g, dr, tk0, os⟩ := s
  dsimp only at *
  refine ks_wpAny_isType_cls (X1 _ _ hC) rfl ⟨rfl, ?_⟩
  refine ks_wpAny_call_super (X1 _ _ hC) rfl hoa rfl (fun c e => by cases e) (PySem.W.looks_mroIn X1 T.own) (fun h2 e2 k2' => ?_)
  have X2 : K.In h2 := X1.keeps k2'
  have IA : PySem.W.InstAt h2 a _ C none := ⟨k2' _ _ hoa, rfl, rfl, trivial⟩
  have hm := T.sup
  unfold PySem.W.ks_superIn at hm
  rw [hcl] at hm
  refine PySem.W.kxs_getMethod PySem.W.kxs_ValueError e2 (PySem.W.looks_opaque X2 T.opq) (l₀ := .ref C :: bm) (fun A Q E s k q => wpAny_bind ((PySem.W.looks_clsIn X2 hcl) A _ E s k (wpAny_pure q))) rfl X2 hm (IA.type.andThen (PySem.W.looks_subIn X2 T.isB)) (PySem.W.ks_ne X2 IA hcl) (by decide) ?_
  -- the wrapper, called
  have I1 : Inv (ncx CX0 P w K mg base N F fI A outer ⟨hh0, g, dr, tk0, os⟩ H E) [(h2.objs.size, PySem.W.kxs_mw "ValueError.__init__" a)] (startF N (.ref a :: ws) [none]) H ⟨h2.push (PySem.W.kxs_mw "ValueError.__init__" a), g, dr, tk + 1, os⟩ :=
    ClX.pin_new (t' := tk + 1) I (fun b o e => Heap.get?_push_of_some _ (k2' _ _ e)) (Nat.le_of_lt (Heap.lt_size e2)) (Heap.get?_push_at rfl rfl) (fun v e => by cases e)
  have He := he (envF F fI hh0.objs.size)
  rw [He]
  refine PySem.W.kxs_callWith (i := "ValueError.__init__") (x := a) (by show (false || (backTo pc (starEach es (envF F fI hh0.objs.size))).any (·.1)) = false; rw [hpl]; rfl) ?_
  refine PySem.Calls.evalArgs_plain ?_
  have hrun := hta.run pc _ _ _ _ _ I1 hq
  change wpAny _ _ (spliced (backTo pc (starEach (e :: es) (envF F fI hh0.objs.size)))) _ _ _ at hrun
  rw [He] at hrun
  refine thn hrun fun vs s1 ⟨ws', H1, I2, r2, hz, a', ha', hb', q⟩ => ?_
  obtain rfl : a = a' := by
    have e : (startF N (.ref a :: ws) [none])[0]? = some (some (V.ref a)) := rfl
    rw [e] at ha'
    exact V.ref.inj (Option.some.inj (Option.some.inj ha'))
  have hu := ClX.pin_at I2
  refine ⟨hu, ?_⟩
  obtain ⟨t2, ho2⟩ := exo_at I2.hok hb'
  have hlen : vs.length ≤ sizeLine := by
    rw [← Paired.length r2, sizeLine_eq]
    omega
  obtain ⟨h3, g3, d3, t3, os3⟩ := s1
  have X3 : K.In h3 := I2.kIn
  dsimp only at *
  refine wpAny_call (codeAny_of_tree ?_)
  show wpAny _ _ (callAny (.ref h2.objs.size) ⟨[] ++ vs, []⟩) _ _ _
  rw [List.nil_append]
  simp only [callAny]
  refine wpAny_bind (wpAny_load hu ?_)
  simp only [PySem.W.kxs_mw, show (Value.type "method-wrapper" == Value.type "method" || Value.type "method-wrapper" == Value.type "builtin_function_or_method" || Value.type "method-wrapper" == Value.type "method-wrapper") = true by decide, if_true]
  refine PySem.W.KFB.if_so (by decide) ?_
  refine wpAny_bind (PySem.W.check_bound_init PySem.F.excBase_ValueError.toExcCallFacts (X3 _ _ hC) ho2 rfl ?_)
  refine wpAny_bind (wpAny_pure (wpAny_pure ?_))
  refine ⟨plainId_quiet PySem.F.excBase_ValueError.init.plain _, codeAny_builtin PySem.F.excBase_ValueError.initEntry ?_⟩
  refine PySem.W.exc_init_tree (cls := .ref C) (t0 := t2) (dv := none) (c2 := .none) (c3 := .none) (b4 := .bool false) ho2 hlen fun h4 k4 e4 _ => ?_
  have J := I2.write (t' := t3) (x := a) (e := a) (o := exo a C none) (by rw [hb']; exact True.intro) (.inl rfl) k4 ⟨_, e4⟩ (exo_ok e4)
  have eu : upd H1 a (exo a C none) = H1 := by
    funext b
    by_cases hb : b = a
    · rw [hb, upd_same, hb']
    · rw [upd_ne hb]
  rw [eu] at J
  have J := ClX.unpin J
  refine wpAt_of_wpAny (wpAny_mono (htr.run [] _ _ _ _ J q) (fun fl s' hs => ?_) fun _ _ z => z)
  have fin : ∀ {σ' : L2.St} {H' : Hp} {v : V} {u : Value}, Inv (ncx CX0 P w K mg base N F fI A outer ⟨hh0, g, dr, tk0, os⟩ H E) [] σ' H' s' → L2.RelV v u → Q v H' → CE outer P w H ⟨hh0, g, dr, tk0, os⟩ Q u s' :=
    fun {σ' H' v u} J rv q => ⟨v, H', J.os, J.bare, J.base, J.hok, rv, q⟩
  cases fl with
  | ret u =>
    obtain ⟨v, σ', H', J, rv, q⟩ := hs
    exact fin J rv q
  | next =>
    obtain ⟨σ', H', J, q⟩ := hs
    exact fin (v := V.non) (u := Value.none) J rfl q
  | brk =>
    obtain ⟨_, _, _, q⟩ := hs
    exact False.elim q
  | cont =>
    obtain ⟨_, _, _, q⟩ := hs
    exact False.elim q
end
end SupX

set_option Elab.async false
set_option linter.all false
set_option maxRecDepth 100000
set_option maxHeartbeats 4000000
/-! Own exceptions in the layer: isinstance of a caught one that has a dict; raise C(line, reason); defs that raise. -/
namespace LK
open PySem PySem.Spec PyProof.Rows L2 NdefX SupX
section
variable {K : PySem.W.Frag} {x D : Addr} {ox : Obj}
theorem kitx_excD (C : ExcC K D) : PySem.W.KitX K (.ref x) (.ref D) (fun h => ∃ od, PySem.W.InstAt h x ox D od) where
  ty := fun _ _ _ ⟨_, I⟩ => I.type
  it := fun _ _ X _ => by
    obtain ⟨cdD, hcD, _⟩ := PySem.W.any_some C.hd
    unfold PySem.W.clsIn at hcD
    split at hcD
    · rename_i c' d' cd' sl' ho
      intro A' Q' E' s' k q
      unfold isType loadHead
      exact wpAny_bind (wpAny_loadPart (k _ _ (X _ _ ho)) (wpAny_pure q))
    · cases hcD
  ne := fun h tp dd its n sl X htp => by
    obtain ⟨cdD, hcD, _⟩ := PySem.W.any_some C.hd
    refine Bool.eq_false_iff.mpr fun q => ?_
    have e : D = tp := Value.ref.inj (beq_iff_eq.mp q)
    subst e
    unfold PySem.W.clsIn at hcD
    split at hcD
    · rename_i c' d' cd' sl' ho
      have z := (X _ _ ho).symm.trans htp
      cases z
    · cases hcD
  ca := fun X ⟨od, I⟩ k => PySem.W.kx_classE X I C.hg C.hk C.hs (PySem.W.findObj_dataE (by obtain ⟨cd, hc, _⟩ := PySem.W.any_some C.hd; rw [hc]; rfl) C.ha C.hn C.ht) C.hm k
end
/-- isinstance(e, c), e the exception that the suite holds, its dict at dd -/
def rIsD (K : PySem.W.Frag) (D a dd : Addr) : List V → Hp → VK → Prop := fun xs H Q => ∃ (c : V) (cv : Value) (b : Bool) (fs : List (Str × V)), xs = [.ref a, c] ∧ (∀ u, RelV c u → u = cv) ∧ PySem.W.kitOne K (.ref D) cv = some b ∧ H dd = some (.xd fs) ∧ Q (.bl b) H
theorem call_isD {X : Cx} {a D dd : Addr} {oe : Obj} {pn : List (Addr × Obj)} (C : ExcC X.K D) (hz : Zc (.ref D) (some dd) oe) (hf : ∃ vs, oe.data = .fields vs) : CallR (X.suite a ((a, oe) :: pn)) (.builtin "isinstance") (rIsD X.K D a dd) := by
  intro pins s σ H xs us Q I r h
  obtain ⟨c, cv, b, fs, rfl, hcv, e, hd, q⟩ := h
  cases r with
  | cons rx rr =>
    cases rr with
    | cons rt rr =>
      cases rr
      cases rx
      have ec := hcv _ rt
      subst ec
      obtain ⟨hget, _⟩ := I.pin (a, oe) (List.mem_append.mpr (.inl List.mem_cons_self))
      obtain ⟨vs, hv⟩ := hf
      have hx : ObjOk X.prog X.w H s.heap dd (.xd fs) := I.hok dd _ hd
      obtain ⟨mA, hns, hr⟩ := hx
      obtain ⟨od, ho, hl⟩ := lookIn_ns hns
      have J : PySem.W.InstAt s.heap a oe D (some od) := ⟨hget, hz.1, by unfold PySem.W.notCls; rw [hv] <;> rfl, by rw [hz.2]; exact ho⟩
      exact PySem.W.kia_one (kitx_excD C) I.kIn ⟨_, J⟩ e (fun z => nomatch z) fun tk => ⟨.bl b, H, I.kept (t' := tk) fun _ _ z => z, rfl, q⟩
/-! ### the class Fault -/
/-- what its __init__ leaves -/
def spFault (K : PySem.W.Frag) (C : Addr) : Sp := fun vs H Q _ => ∃ (a : Addr) (n : Int) (r : Str), vs = [.ref a, .int n, .str r] ∧ H a = some (exo a C none) ∧ n.natAbs < 2 ^ 100 ∧ r.length ≤ 1000 ∧
  ∀ d H', H d = none → H' a = some (exo a C (some d)) → H' d = some (exd d [("reason", .str r), ("line", .int n)]) → (∀ b, b ≠ a → b ≠ d → H' b = H b) → Q .non H'
/-- the class stands at C, its base at B: what a raise and an except ask -/
structure UseF (P : Program) (w : World) (K : PySem.W.Frag) (mg : Str → Option Value) (base : Heap) (C B : Addr) : Prop where
  oex : OexC K C
  xf : XfC K C
  isc : ExcC K C
  mC : mg "Fault" = some (.ref C)
  mB : mg "HoldError" = some (.ref B)
  line : PySem.W.findIn K (.ref C) "line" = some none
  reason : PySem.W.findIn K (.ref C) "reason" = some none
  exm : PySem.W.exmOne K (.ref C) (.ref B) = some true
  ve : PySem.W.kitOne K (.ref C) (.type "ValueError") = some true
  ini : ∃ (fI : Addr) (fd : FuncData), PySem.W.findIn K (.ref C) "__init__" = some (some (.ref fI)) ∧ PySem.W.typeIn K (.ref fI) = some (.type "function") ∧ FnOk P w K mg base CX0 1 fI fd ["self", "line", "reason"] (spFault K C) ∧ Binds K fd ["self", "line", "reason"] []
def faultD (n : Int) (r : Str) : HO := .xd [("reason", .str r), ("line", .int n)]
/-- raise Fault(line, reason) -/
def tRaiseF (C : Addr) (ta : TA) (W : WX) : TS := fun _ σ H => ta σ H fun vs H1 => ∃ (n : Int) (r : Str), vs = [.int n, .str r] ∧ n.natAbs < 2 ^ 100 ∧ r.length ≤ 1000 ∧ ∀ d, H1 d = none → W (.ref C) (some d) σ (upd H1 d (faultD n r))
section
variable {X : Cx} {C B : Addr} {W : WX} {e1 : Expr} {es : List Expr} {ta : TA} {p pos pos2 : Pos}
theorem pa_up (h : PA X es ta) : PA X es (fun σ H Q => ∃ P : List V → Hp → Prop, ta σ H P ∧ ∀ vs H1, P vs H1 → Q vs H1) :=
  ⟨fun pos pins s σ H Q I ⟨P, hP, k⟩ => thn (h.run pos pins s σ H P I hP) fun us s1 ⟨vs, H1, I1, r, q⟩ => ⟨vs, H1, I1, r, k vs H1 q⟩⟩
theorem ps_raiseF (U : UseF X.prog X.w X.K X.mg X.base C B) (hc : X.calm = true) (tk : Takes X W) (hr : Room 2 X.A) (hg : Gl X "Fault") (ha : PA X (e1 :: es) ta)
    (he : starEach (e1 :: es) X.env = (false, eval e1 X.env) :: starEach es X.env := by rfl) (hpl : (backTo pos (starEach es X.env)).any (·.1) = false := by rfl) :
    PS X (.Raise (some (.Call (.Name "Fault" p) (e1 :: es) [] pos)) none pos2) (tRaiseF C ta W) := by
  obtain ⟨fI, fd, i1, i2, ok, hb⟩ := U.ini
  have R := ps_raise (pos := pos2) hc tk (pmk_oex (p := p) (pos := pos) U.oex i1 i2 ok hr hb .nil pass0 hg U.mC (pa_up ha) (by decide) he hpl)
  refine ⟨fun pins s σ H D I h => R.run pins s σ H D I ⟨_, h, ?_⟩⟩
  rintro vs H1 ⟨n, r, rfl, hn, hr, k⟩
  refine ⟨show 2 ≤ 1000 by decide, fun a ha1 => ⟨a, n, r, rfl, upd_same, hn, hr, fun d H2 hd ha2 hd2 keep => ?_⟩⟩
  have hda : d ≠ a := fun e => by
    subst e
    rw [upd_same] at hd
    cases hd
  rw [upd_ne hda] at hd
  refine ⟨rfl, d, _, ha2, hd2, hd, ?_⟩
  have e : upd (del H2 a) d (.xd [("reason", .str r), ("line", .int n)]) = upd H1 d (faultD n r) := by
    funext b
    by_cases hb : b = d
    · subst hb
      rw [upd_same, upd_same]; rfl
    · rw [upd_ne hb, upd_ne hb]
      by_cases hba : b = a
      · subst hba
        rw [del_same, ha1]
      · rw [del_ne hba, keep b hba hb, upd_ne hba]
  rw [e]
  exact k d hd
end
/-! ### the call of a def that may raise -/
section
variable {X : Cx} {CX : CXT} {k : Nat} {f : Addr} {fd : FuncData} {ps : List Str} {sp : Sp} {x : Str} {p pos : Pos} {e : Expr} {es : List Expr} {t : TA}
theorem run_fnSG {pins : List (Addr × Obj)} {σ : L2.St} {H : Hp} {s : Shared} {Q : VK} {us : List Value} {vs : List V} {E : L2.St → XK} (F : FnG X.prog X.w X.K X.mg X.base CX k f fd ps sp) (hr : Room k X.A) (hg : X.A.guards = some []) (hb : Binds X.K fd ps [])
    (hx : PassesAt CX X σ (E σ)) (I : Inv X pins σ H s) (r : Vals vs us) (h : sp vs H Q (E σ)) : wpAny (model X.prog X.w) X.A (call (.ref f) us) (EP X pins σ Q) X.xe s := by
  have hl : (us ++ []).length = ps.length := by rw [List.append_nil, ← r.length, F.len _ _ _ _ h]
  have hbs := hb s us I.kIn hl
  rw [List.append_nil] at hbs
  refine wpAny_call (codeAny_mono (F.run X.A X.stack s H ⟨us, []⟩ us vs Q _ hr hg I.env0 hbs r h) fun res s' hq => ?_)
  match res, hq with
  | .error e, hq => exact hx pins H s e s' I hq
  | .ok (.ret u), hq => exact I.after hq
  | .ok .next, hq => exact hq.elim
  | .ok .brk, hq => exact hq.elim
  | .ok .cont, hq => exact hq.elim
def tUseS (sp : Sp) (E : L2.St → XK) (t : TA) : TE := fun σ H Q => t σ H fun vs H1 => sp vs H1 Q (E σ)
/-- in a try -/
theorem pe_useS {E : L2.St → XK} (U : Use X.prog X.w X.K X.mg X.base CX x k ps sp) (hx : ∀ σ, PassesAt CX X σ (E σ)) (hr : Room k X.A) (gd : X.A.guards = some []) (hg : Gl X x) (ha : PA X (e :: es) t) (hdb : (x == ("__debug__" : Str)) = false := by decide)
    (he : starEach (e :: es) X.env = (false, eval e X.env) :: starEach es X.env := by rfl) (hpl : (backTo pos (starEach es X.env)).any (·.1) = false := by rfl) : PE X (.Call (.Name x p) (e :: es) [] pos) (tUseS sp E t) := by
  obtain ⟨f, fd, ok, hm, kp, hb⟩ := U.ex
  refine ⟨fun pins s σ H Q I h => wpAny_Call_Name_kw (ld_glob I hg hm ?_ hdb)⟩
  exact PySem.W.callWith_K (h₀ := X.base) I.ok.mod.kin kp (thn (ha.run pos pins s σ H _ I h) fun us s1 ⟨vs, H1, I1, r, q⟩ => ⟨I1.kIn, run_fnSG ok hr gd hb (hx _) I1 r q⟩) he hpl
/-- in a def that lets out what the callee lets out -/
theorem pe_useR {E : XK} (U : Use X.prog X.w X.K X.mg X.base (L2.CX X.prog X.w) x k ps sp) (tk : Takes X fun cls d _ H => E cls d H) (hr : Room k X.A) (gd : X.A.guards = some []) (hg : Gl X x) (ha : PA X (e :: es) t) (hdb : (x == ("__debug__" : Str)) = false := by decide)
    (he : starEach (e :: es) X.env = (false, eval e X.env) :: starEach es X.env := by rfl) (hpl : (backTo pos (starEach es X.env)).any (·.1) = false := by rfl) : PE X (.Call (.Name x p) (e :: es) [] pos) (tUse sp E t) :=
  pe_useX U (passes_call tk fun _ _ _ _ h => h) hr gd hg ha hdb he hpl
end
/-! ### Fault's __init__ -/
section
variable {P : Program} {w : World} {K : PySem.W.Frag} {mg : Str → Option Value} {base : Heap} {F : NF} {fI C cc : Addr} {p0 p1 pa pc pe q1 q2 q3 q4 q5 q6 q7 a1 a2 a3 a4 b1 b2 b3 b4 : Pos} {k1 k2 : Nat} {ar : Arg}
theorem fault_ini (T : SupC P K C fI cc F) (hl : PySem.W.findIn K (.ref C) "line" = some none) (hr : PySem.W.findIn K (.ref C) "reason" = some none)
    (S : NScope ["self", "line", "reason", "__class__"] ["self", "line", "reason"] ["__class__"] F.scope)
    (hbd : F.body = [.Expr (.Call (.Attribute (.Call (.Name "super" p0) [] [] p1) "__init__" pa) [.JoinedStr [.Constant (.str "line ") k1 q1, .FormattedValue (.Name "line" q2) (-1) none q3, .Constant (.str ": ") k2 q4, .FormattedValue (.Name "reason" q5) (-1) none q6] q7] [] pc) pe,
      .Assign [.Attribute (.Name "self" a1) "line" a2] (.Name "line" a3) a4, .Assign [.Attribute (.Name "self" b1) "reason" b2] (.Name "reason" b3) b4])
    (hpar : (F.params.posonlyargs ++ F.params.args).head? = some ar) (har : ar.arg = "self") (hks : F.scope.names.lookup ("super" : Str) = some .globalImplicit)
    (hev : ∀ env : Env, ∃ pl : Sem Bool, eval (.Call (.Attribute (.Call (.Name "super" p0) [] [] p1) "__init__" pa) [.JoinedStr [.Constant (.str "line ") k1 q1, .FormattedValue (.Name "line" q2) (-1) none q3, .Constant (.str ": ") k2 q4, .FormattedValue (.Name "reason" q5) (-1) none q6] q7] [] pc) env = (do
      let ov ← attributeBase (.Call (.Name "super" p0) [] [] p1) "__init__" env (eval (.Call (.Name "super" p0) [] [] p1) env)
      standAt pa.atName
      let (f, first) ← holding [ov] (getMethod ov "__init__" pl)
      callWith pc f first (backTo pc (starEach [.JoinedStr [.Constant (.str "line ") k1 q1, .FormattedValue (.Name "line" q2) (-1) none q3, .Constant (.str ": ") k2 q4, .FormattedValue (.Name "reason" q5) (-1) none q6] q7] env)) [])) :
    ∀ fd, (∃ oc od osl, K.lookup fI = some ⟨oc, od, .func fd, osl⟩) → FnOk P w K mg base CX0 1 fI fd ["self", "line", "reason"] (spFault K C) := by
  have v0 : F.scope.names.lookup ("self" : Str) = some .local := S.par _ (by simp)
  have v1 : F.scope.names.lookup ("line" : Str) = some .local := S.par _ (by simp)
  have v2 : F.scope.names.lookup ("reason" : Str) = some .local := S.par _ (by simp)
  refine sup_ok (k := 0) T S (fun vs H Q E h => ?_) (fun vs H Q E h => ?_) hbd hpar har hks (S.frk _ (by simp)) v0 (fun _ => rfl) (fun _ => rfl) hev fun A outer s H vs Q E hroom h => ?_
  · obtain ⟨a, n, r, rfl, _⟩ := h
    rfl
  · obtain ⟨a, n, r, rfl, ha, _⟩ := h
    exact ⟨a, _, rfl, ha⟩
  · obtain ⟨a, n, r, rfl, ha, hn, hz, k⟩ := h
    refine ⟨_, _, pa_cons (pe_joined (.cons pe_str (.cons (pe_fmt (pe_var (i := 1) rfl (.inl v1))) (.cons pe_str (.cons (pe_fmt (pe_var (i := 2) rfl (.inl v2))) .nil))))) pa_nil,
      pss_cons (ps_ost (pe_var (i := 0) rfl (.inl v0)) (pe_var (i := 1) rfl (.inl v1))) (pss_one (ps_ost (pe_var (i := 0) rfl (.inl v0)) (pe_var (i := 2) rfl (.inl v2)))), ?_⟩
    have hln : (Str.ofString (toString n)).length ≤ 2000 := by
      have hl : n.natAbs.log2 < 1900 := Nat.lt_of_lt_of_le (PySem.Flt.log2_lt_of (k := 100) (by decide) hn) (by decide)
      have e := int_text_length_le (k := 1900) (by decide) hl
      rw [PySem.ofString_length]; omega
    have l1 : (Str.empty ++ ("line " : Str)).length = 5 := by decide +kernel
    have l2 : (": " : Str).length = 2 := by decide +kernel
    refine ⟨_, rfl, by rw [l1]; decide, ?_⟩
    refine ⟨_, rfl, .inr ⟨n, rfl, Nat.lt_of_lt_of_le (PySem.Flt.log2_lt_of (k := 100) (by decide) hn) (by decide), _, rfl, ?_, ?_⟩⟩
    · rw [strLen_append, l1]
      exact Nat.le_trans (show 5 + _ ≤ 3000 by omega) (by decide)
    refine ⟨_, rfl, ?_, ?_⟩
    · rw [strLen_append, strLen_append, l1, l2]
      exact Nat.le_trans (show _ ≤ 3000 by omega) (by decide)
    refine ⟨_, rfl, .inl ⟨r, rfl, Nat.le_trans hz (by decide), _, rfl, ?_, ?_⟩⟩
    · rw [strLen_append, strLen_append, strLen_append, l1, l2]
      exact Nat.le_trans (show _ ≤ 5000 by omega) (by decide)
    refine ⟨show 1 ≤ 1000 by decide, a, rfl, ha, ?_⟩
    refine ⟨_, rfl, _, rfl, a, C, rfl, T.oex, hl, .inl ⟨ha, fun d hd hda => ?_⟩⟩
    refine ⟨_, rfl, _, rfl, a, C, rfl, T.oex, hr, .inr ⟨d, [("line", .int n)], upd_same, by rw [upd_ne hda, upd_same], (show 1 ≤ 900 by decide), ?_⟩⟩
    have hd2 : d ≠ a := hda
    refine k d _ hd (by rw [upd_ne (Ne.symm hd2), upd_same]) upd_same fun b hb hbd => ?_
    rw [upd_ne hbd, upd_ne hb, upd_ne hbd]
end
theorem kit_ve {K : PySem.W.Frag} {C : Addr} (h : PySem.W.subIn K (.ref C) (.type "ValueError") = some true) : PySem.W.kitOne K (.ref C) (.type "ValueError") = some true := by
  unfold PySem.W.kitOne PySem.W.kitCls
  rw [if_neg (fun e => by cases (beq_iff_eq.mp e))]
  show (if PySem.W.kitMeta "ValueError" = true then _ else _) = _
  rw [if_pos (by decide +kernel)]
  exact h
def rIsV (K : PySem.W.Frag) (C a : Addr) (cls : Value) (d : Option Addr) : List V → Hp → VK → Prop := fun xs H Q => cls = .ref C ∧ ∃ dd, d = some dd ∧ rIsD K C a dd xs H Q
theorem call_isV {X : Cx} {a C : Addr} {oe : Obj} {cls : Value} {d : Option Addr} {pn : List (Addr × Obj)} (T : ExcC X.K C) (hz : Zc cls d oe) (hf : ∃ vs, oe.data = .fields vs) : CallR (X.suite a ((a, oe) :: pn)) (.builtin "isinstance") (rIsV X.K C a cls d) := by
  intro pins s σ H xs us Q I r h
  obtain ⟨rfl, dd, rfl, q⟩ := h
  exact call_isD T hz hf pins s σ H xs us Q I r q
/-! ### from the top's facts -/
abbrev nfF (st : Stmt) (cc cda : Addr) : NF := ⟨"__init__", "Fault.__init__", defArgs st, defBody st, defScope st, [(("__class__" : Str), cc)], cda⟩
structure FaultK (P : Program) (K : PySem.W.Frag) (st : Stmt) (C B fI cc cda : Addr) : Prop where
  gC : PySem.W.nsIn K mainGlobals "Fault" = some (some (.ref C))
  gB : PySem.W.nsIn K mainGlobals "HoldError" = some (some (.ref B))
  sup : SupC P K C fI cc (nfF st cc cda)
  xf : XfC K C
  isc : ExcC K C
  line : PySem.W.findIn K (.ref C) "line" = some none
  reason : PySem.W.findIn K (.ref C) "reason" = some none
  exm : PySem.W.exmOne K (.ref C) (.ref B) = some true
  ini : PySem.W.findIn K (.ref C) "__init__" = some (some (.ref fI))
  ity : PySem.W.typeIn K (.ref fI) = some (.type "function")
def HasFault (P : Program) (K : PySem.W.Frag) (st : Stmt) : Prop := ∃ C B fI cc cda, FaultK P K st C B fI cc cda
section
variable {P : Program} {K : PySem.W.Frag} {st : Stmt} {C B fI cc cda : Addr} {nm q : Str} {N : Addr} {bs bm : List Value} {sn : List Str} {sub : List Value} {ab : Bool} {col : Option Bool} {dd : Option Addr} {k0 k1 k2 k3 k5 : Option Value}
  {oc : Value} {od : Option Addr} {doc pm ctv : Value} {osl : Array (Option Value)} {ccl : Value} {cdd : Option Addr} {vs : Array Value} {ccs : Array (Option Value)} {file : Str} {tf : Tok} {xcl : Value} {xld : Option Addr} {xsl : Array (Option Value)}
theorem HasFault.mk' (a1 : PySem.W.nsIn K mainGlobals "Fault" = some (some (.ref C))) (a2 : PySem.W.nsIn K mainGlobals "HoldError" = some (some (.ref B)))
    (a3 : K.lookup C = some (excClassObj nm q C N bs bm true sn sub ab col dd k0 k1 k2 k3 k5 "ValueError.__new__")) (a4 : PySem.HandSPX.refsVE bm = true)
    (a5 : PySem.W.findIn K (.ref C) "__setattr__" = some (some (.builtin "object.__setattr__"))) (a6 : PySem.W.subIn K (.ref C) (.type "BaseException") = some true) (a7 : PySem.W.typeIn K (.ref C) = some (.type "type")) (a8 : PySem.W.keepIn K (.ref C) = true)
    (b1 : PySem.W.findIn K (.ref C) "__init__" = some (some (.ref fI))) (b2 : PySem.W.typeIn K (.ref fI) = some (.type "function"))
    (b3 : K.lookup fI = some ⟨oc, od, .func ((nfF st cc cda).fd doc pm ctv), osl⟩) (b4 : PySem.W.codeIn K (.ref cda) "Fault.__init__" = true)
    (b5 : K.lookup cda = some ⟨ccl, cdd, .fields vs, ccs⟩) (b6 : vs[2]? = some (.str file tf)) (b7 : ((P.main.file : Str) == file) = true) (b8 : (P.main.scope.names.lookup ("super" : Str)).isSome = false)
    (c1 : K.lookup cc = some ⟨xcl, xld, .cell (some (.ref C)), xsl⟩) (c2 : PySem.W.mroIn K C (.ref C) = some true) (c3 : PySem.W.subIn K (.ref C) (.type "ValueError") = some true)
    (c4 : PySem.W.ks_superIn K C C "__init__" = some (some (.builtin "ValueError.__init__"))) (c5 : PySem.W.nsIn K cStatics "thirdparty.any" = some none) (c6 : PySem.W.nsIn K mainGlobals "super" = some none)
    (d1 : PySem.W.findIn K (.ref C) "__getattribute__" = some (some (.builtin "BaseException.__getattribute__"))) (d2 : PySem.W.findIn K (.ref C) "__getattr__" = some none) (d3 : PySem.W.hasDictIn K C = true)
    (d4 : PySem.W.findIn K (.ref C) "__class__" = some (some (.builtin "object.__class__"))) (d5 : PySem.W.specialIn K (.builtin "object.__class__") "__get__" = some (some (.builtin "getset_descriptor.__get__")))
    (d6 : PySem.W.takesIn K (.builtin "object.__class__") = some true) (d7 : PySem.W.mroIn K C (.type "object") = some true)
    (e1 : PySem.W.findIn K (.ref C) "line" = some none) (e2 : PySem.W.findIn K (.ref C) "reason" = some none) (e3 : PySem.W.subIn K (.ref B) (.type "BaseException") = some true) (e4 : PySem.W.hasDictIn K B = true) (e5 : PySem.W.typeIn K (.ref B) = some (.type "type")) (e6 : PySem.W.subIn K (.ref C) (.ref B) = some true) : HasFault P K st :=
  ⟨C, B, fI, cc, cda, a1, a2, ⟨⟨⟨nm, q, N, bs, bm, sn, sub, ab, col, dd, k0, k1, k2, k3, k5, a3, a4⟩, a5, a6, a7, a8⟩, ⟨oc, od, doc, pm, ctv, osl, b3⟩, rfl, b4, ⟨ccl, cdd, vs, ccs, file, tf, b5, b6, b7⟩, b8, ⟨xcl, xld, xsl, c1⟩, c2, c3, c4, c5, c6⟩,
    ⟨d1, d2, a6, d3⟩, ⟨d1, d2, a6, d3, d4, d5, d6, d7⟩, e1, e2, PySem.W.exm_ref e3 e4 e5 e6, b1, b2⟩
end
section
variable {P : Program} {w : World} {K : PySem.W.Frag} {mg : Str → Option Value} {base h : Heap} {st : Stmt} {p0 p1 pa pc pe q1 q2 q3 q4 q5 q6 q7 a1 a2 a3 a4 b1 b2 b3 b4 : Pos} {k1 k2 : Nat} {ar : Arg}
theorem mk_useF (f : HasFault P K st) (X : K.In h) (G : h.Ns mainGlobals mg)
    (S : NScope ["self", "line", "reason", "__class__"] ["self", "line", "reason"] ["__class__"] (defScope st))
    (hbd : defBody st = [.Expr (.Call (.Attribute (.Call (.Name "super" p0) [] [] p1) "__init__" pa) [.JoinedStr [.Constant (.str "line ") k1 q1, .FormattedValue (.Name "line" q2) (-1) none q3, .Constant (.str ": ") k2 q4, .FormattedValue (.Name "reason" q5) (-1) none q6] q7] [] pc) pe,
      .Assign [.Attribute (.Name "self" a1) "line" a2] (.Name "line" a3) a4, .Assign [.Attribute (.Name "self" b1) "reason" b2] (.Name "reason" b3) b4])
    (hpar : ((defArgs st).posonlyargs ++ (defArgs st).args).head? = some ar) (har : ar.arg = "self") (hks : (defScope st).names.lookup ("super" : Str) = some .globalImplicit)
    (hev : ∀ env : Env, ∃ pl : Sem Bool, eval (.Call (.Attribute (.Call (.Name "super" p0) [] [] p1) "__init__" pa) [.JoinedStr [.Constant (.str "line ") k1 q1, .FormattedValue (.Name "line" q2) (-1) none q3, .Constant (.str ": ") k2 q4, .FormattedValue (.Name "reason" q5) (-1) none q6] q7] [] pc) env = (do
      let ov ← attributeBase (.Call (.Name "super" p0) [] [] p1) "__init__" env (eval (.Call (.Name "super" p0) [] [] p1) env)
      standAt pa.atName
      let (f, first) ← holding [ov] (getMethod ov "__init__" pl)
      callWith pc f first (backTo pc (starEach [.JoinedStr [.Constant (.str "line ") k1 q1, .FormattedValue (.Name "line" q2) (-1) none q3, .Constant (.str ": ") k2 q4, .FormattedValue (.Name "reason" q5) (-1) none q6] q7] env)) []))
    (hb : ∀ (cc cda : Addr) (doc pm ctv : Value) (us : List Value), us.length = 3 → bindArgs ((nfF st cc cda).fd doc pm ctv) ⟨us, []⟩ = pure ((["self", "line", "reason"] : List Str).zip us)) :
    ∃ C B, UseF P w K mg base C B := by
  obtain ⟨C, B, fI, cc, cda, f⟩ := f
  obtain ⟨oc, od, doc, pm, ctv, osl, lk⟩ := f.sup.fn
  exact ⟨C, B, f.sup.oex, f.xf, f.isc, PySem.W.mg_of X G f.gC, PySem.W.mg_of X G f.gB, f.line, f.reason, f.exm, kit_ve f.sup.isB, fI, _, f.ini, f.ity, fault_ini f.sup f.line f.reason S hbd hpar har hks hev _ ⟨oc, od, osl, lk⟩, .all (hb cc cda doc pm ctv)⟩
end
end LK

set_option Elab.async false
set_option linter.all false
set_option maxRecDepth 100000
set_option maxHeartbeats 4000000
/-! An own class of exceptions without an init of its own, raised without arguments: BadData. -/
namespace LK
open PySem PySem.Spec PyProof.Rows L2
def veB : List Value := [.type "ValueError", .type "Exception", .type "BaseException", .type "object"]
section
variable {X : Cx} {C : Addr} {bmB : List Value} {B newId initId : String}
theorem pmk_own0 {x : Str} {p pos : Pos} (F : ExcBaseFacts B newId initId bmB) (q : PySem.W.excIn X.K C bmB newId = true) (gC : X.mg x = some (.ref C)) (kC : PySem.W.keepIn X.K (.ref C) = true) (r : Raises X (.ref C)) (hg : Gl X x)
    (hdb : (x == ("__debug__" : Str)) = false := by decide) : PMk X (.Call (.Name x p) [] [] pos) (fun _ H Q => Q (.ref C) none H) := by
  intro pins s σ H Q I h
  refine wpAny_Call_Name_kw (ld_glob I hg gC ?_ hdb)
  refine PySem.W.callWith_K0 I.kIn kC ?_
  show wpAny _ _ (call (.ref C) []) _ _ _
  obtain ⟨bm, N, nm, qn, bs, hdct, sn, sub, ab, col, dd, k0, k1, k2, k3, k5, mN, hC, hN, hni, T⟩ := exc_obj I.kIn q
  refine wpAny_call_exc_subT F T hC hN hni (fun h' e hm => ?_) (Nat.zero_le _)
  exact mk_of I hm r h (I.hok.gone hm.new)
end
/-- the class BadData at C, its base HoldError at B -/
structure UseD0 (K : PySem.W.Frag) (mg : Str → Option Value) (C B : Addr) : Prop where
  q : PySem.W.excIn K C veB "ValueError.__new__" = true
  isc : ExcC K C
  mC : mg "BadData" = some (.ref C)
  mB : mg "HoldError" = some (.ref B)
  kC : PySem.W.keepIn K (.ref C) = true
  tyC : PySem.W.typeIn K (.ref C) = some (.type "type")
  exm : PySem.W.exmOne K (.ref C) (.ref B) = some true
theorem UseD0.kit {K : PySem.W.Frag} {mg : Str → Option Value} {C B : Addr} (_ : UseD0 K mg C B) : PySem.W.kitOne K (.ref C) (.ref C) = some true := by
  unfold PySem.W.kitOne
  rw [if_pos (beq_self_eq_true _)]
def tRaise0 (C : Addr) (W : WX) : TS := fun _ σ H => W (.ref C) none σ H
theorem ps_raise0 {X : Cx} {C B : Addr} {W : WX} {p pos pos2 : Pos} (U : UseD0 X.K X.mg C B) (hc : X.calm = true) (tk : Takes X W) (hg : Gl X "BadData") :
    PS X (.Raise (some (.Call (.Name "BadData" p) [] [] pos)) none pos2) (tRaise0 C W) := by
  have R := ps_raise (pos := pos2) hc tk (pmk_own0 (p := p) (pos := pos) PySem.F.excBase_ValueError U.q U.mC U.kC (raises_own U.isc.hs U.tyC) hg)
  exact ⟨fun pins s σ H D I h => R.run pins s σ H D I h⟩
def HasBd (K : PySem.W.Frag) (C : Addr) : Prop := ∃ B, PySem.W.nsIn K mainGlobals "BadData" = some (some (.ref C)) ∧ PySem.W.nsIn K mainGlobals "HoldError" = some (some (.ref B)) ∧ PySem.W.excIn K C veB "ValueError.__new__" = true ∧ ExcC K C ∧
  PySem.W.keepIn K (.ref C) = true ∧ PySem.W.typeIn K (.ref C) = some (.type "type") ∧ PySem.W.exmOne K (.ref C) (.ref B) = some true
theorem HasBd.mk' {K : PySem.W.Frag} {C B : Addr} (a1 : PySem.W.nsIn K mainGlobals "BadData" = some (some (.ref C))) (a2 : PySem.W.nsIn K mainGlobals "HoldError" = some (some (.ref B))) (a3 : PySem.W.excIn K C veB "ValueError.__new__" = true)
    (a4 : PySem.W.keepIn K (.ref C) = true) (a5 : PySem.W.typeIn K (.ref C) = some (.type "type")) (a6 : PySem.W.subIn K (.ref C) (.type "BaseException") = some true)
    (d1 : PySem.W.findIn K (.ref C) "__getattribute__" = some (some (.builtin "BaseException.__getattribute__"))) (d2 : PySem.W.findIn K (.ref C) "__getattr__" = some none) (d3 : PySem.W.hasDictIn K C = true)
    (d4 : PySem.W.findIn K (.ref C) "__class__" = some (some (.builtin "object.__class__"))) (d5 : PySem.W.specialIn K (.builtin "object.__class__") "__get__" = some (some (.builtin "getset_descriptor.__get__")))
    (d6 : PySem.W.takesIn K (.builtin "object.__class__") = some true) (d7 : PySem.W.mroIn K C (.type "object") = some true)
    (e3 : PySem.W.subIn K (.ref B) (.type "BaseException") = some true) (e4 : PySem.W.hasDictIn K B = true) (e5 : PySem.W.typeIn K (.ref B) = some (.type "type")) (e6 : PySem.W.subIn K (.ref C) (.ref B) = some true) : HasBd K C :=
  ⟨B, a1, a2, a3, ⟨d1, d2, a6, d3, d4, d5, d6, d7⟩, a4, a5, PySem.W.exm_ref e3 e4 e5 e6⟩
theorem HasBd.g {K : PySem.W.Frag} {mg : Str → Option Value} {h : Heap} {C : Addr} (k : HasBd K C) (X : K.In h) (G : h.Ns mainGlobals mg) : ∃ B, UseD0 K mg C B := by
  obtain ⟨B, a1, a2, a3, a4, a5, a6, a7⟩ := k
  exact ⟨B, a3, a4, PySem.W.mg_of X G a1, PySem.W.mg_of X G a2, a5, a6, a7⟩
end LK
namespace LK
open PySem PySem.Spec PyProof.Rows L2
/-- isinstance(e, c), e the exception that the suite holds, without a dict -/
def rIsN (K : PySem.W.Frag) (C a : Addr) (cls : Value) (d : Option Addr) : List V → Hp → VK → Prop := fun xs H Q => cls = .ref C ∧ d = none ∧ rIsE K C a xs H Q
theorem call_isN {X : Cx} {a C : Addr} {oe : Obj} {cls : Value} {d : Option Addr} {pn : List (Addr × Obj)} (T : ExcC X.K C) (hz : Zc cls d oe) (hf : ∃ vs, oe.data = .fields vs) : CallR (X.suite a ((a, oe) :: pn)) (.builtin "isinstance") (rIsN X.K C a cls d) := by
  intro pins s σ H xs us Q I r h
  obtain ⟨rfl, rfl, h⟩ := h
  exact call_isE T hz hf pins s σ H xs us Q I r h
end LK

set_option Elab.async false
set_option linter.all false
set_option maxRecDepth 100000
set_option maxHeartbeats 4000000
/-! rows: texts by their codes, tuples of data; cut, joined, their length -/
namespace LK
open PySem PySem.Spec PyProof.Rows L2 SX
inductive RowD where
  | txt (cs : List Nat)
  | tup (ds : List PyData)
namespace RowD
def d : RowD → PyData
  | txt cs => .str (S cs)
  | tup ds => .tuple ds
def len : RowD → Nat
  | txt cs => cs.length
  | tup ds => ds.length
end RowD
/-- xs[lo:hi] -/
def cutG {α : Type} (xs : List α) (lo hi : Option Int) : List α := (xs.drop (HT.sIx xs.length 0 lo)).take (HT.sIx xs.length xs.length hi - HT.sIx xs.length 0 lo)
def RowD.cut (r : RowD) (lo hi : Option Int) : RowD := match r with
  | .txt cs => .txt (cutG cs lo hi)
  | .tup ds => .tup (cutG ds lo hi)
theorem cutG_nat {α : Type} (xs : List α) {i j : Nat} (hi : i ≤ xs.length) (hj : j ≤ xs.length) : cutG xs (some (i : Int)) (some (j : Int)) = (xs.drop i).take (j - i) := by
  unfold cutG
  rw [HT.sIx_nat, HT.sIx_nat, Nat.min_eq_left hi, Nat.min_eq_left hj]
theorem cutG_to {α : Type} (xs : List α) {j : Nat} (hj : j ≤ xs.length) : cutG xs none (some (j : Int)) = xs.take j := by
  unfold cutG
  rw [HT.sIx_none, HT.sIx_nat, Nat.min_eq_left hj, List.drop_zero, Nat.sub_zero]
theorem cutG_from {α : Type} (xs : List α) {j : Nat} (hj : j ≤ xs.length) : cutG xs (some (j : Int)) none = xs.drop j := by
  unfold cutG
  rw [HT.sIx_none, HT.sIx_nat, Nat.min_eq_left hj]
  exact List.take_of_length_le (by rw [List.length_drop]; omega)
theorem DtAll.drop {K : PySem.W.Frag} {H : Hp} : ∀ {vs : List V} {ds : List PyData} (n : Nat), DtAll K H vs ds → DtAll K H (vs.drop n) (ds.drop n)
  | _, _, 0, h => h
  | _, _, _ + 1, .nil => .nil
  | _, _, n + 1, .cons _ t => t.drop n
theorem DtAll.takeN {K : PySem.W.Frag} {H : Hp} : ∀ {vs : List V} {ds : List PyData} (n : Nat), DtAll K H vs ds → DtAll K H (vs.take n) (ds.take n)
  | _, _, 0, _ => by rw [List.take_zero, List.take_zero]; exact .nil
  | _, _, _ + 1, .nil => .nil
  | _, _, n + 1, .cons h t => .cons h (t.takeN n)
theorem DtAll.cutG {K : PySem.W.Frag} {H : Hp} {vs : List V} {ds : List PyData} (h : DtAll K H vs ds) (lo hi : Option Int) : DtAll K H (cutV vs lo hi) (cutG ds lo hi) := by
  unfold cutV LK.cutG
  rw [h.length]
  exact DtAll.takeN _ (h.drop _)
theorem cutS_G (cs : List Nat) (lo hi : Option Int) : cutS (S cs) lo hi = S (cutG cs lo hi) := by
  unfold cutS cutG
  rw [S_len]
section
variable {X : Cx}
def rSlR (K : PySem.W.Frag) : V → Option Int → Option Int → Hp → VK → Prop := fun x lo hi H Q => ∃ r : RowD, Dt K H x r.d ∧ r.len ≤ 2000 ∧ ∀ v H', Same H H' → Dt K H' v (r.cut lo hi).d → Q v H'
theorem sl_row : SlR X (rSlR X.K) := by
  intro pins s σ H x v vl vu lo hi sl Q I rx hs pl pu h
  obtain ⟨r, dr, hn, q⟩ := h
  cases r with
  | txt cs =>
    cases dr.str_inv
    refine sl_str pins s σ H _ v vl vu _ _ sl Q I rx hs pl pu ⟨_, rfl, by rw [S_len]; exact Nat.le_trans hn (by decide), q _ _ (Same.refl _) ?_⟩
    rw [cutS_G]
    exact .str _
  | tup ds =>
    obtain ⟨p, xs, rfl, hq, ax⟩ := dr.tuple_inv
    have lx := ax.length
    refine sl_tupA pins s σ H _ v vl vu _ _ sl Q I rx hs pl pu ⟨p, xs, rfl, hq, fun hw => ?_, fun _ z hz => ?_⟩
    · refine q _ _ (Same.refl _) ?_
      rw [lx] at hw
      show Dt _ _ _ (PyData.tuple (cutG ds lo hi))
      unfold cutG
      rw [hw.1, hw.2, List.drop_zero, Nat.sub_zero, List.take_length]
      exact dr
    · exact q _ _ (Same.new hz) (Dt.made hz (ax.cutG lo hi))
/-- len(a), a row -/
def rLenR (K : PySem.W.Frag) : List V → Hp → VK → Prop := fun vs H Q => ∃ (v : V) (r : RowD), vs = [v] ∧ Dt K H v r.d ∧ r.len ≤ 2000 ∧ Q (.int (r.len : Int)) H
theorem call_lenR : CallR X (.builtin "len") (rLenR X.K) := by
  intro pins s σ H xs us Q I r h
  obtain ⟨v, rw', rfl, da, hn, q⟩ := h
  cases rw' with
  | txt cs =>
    cases da.str_inv
    exact call_len pins s σ H _ us Q I r ⟨_, cs.length, rfl, ⟨by rw [S_len]; exact Nat.le_trans hn (by decide), (S_len _).symm⟩, q⟩
  | tup ds =>
    obtain ⟨p, ys, rfl, hq, ax⟩ := da.tuple_inv
    exact call_len pins s σ H _ us Q I r ⟨_, ds.length, rfl, .inr ⟨_, hq, ax.length.symm⟩, q⟩
/-- x + y, tuples of data -/
def rCatTD (K : PySem.W.Frag) : R2 := fun x y H Q => ∃ ds es : List PyData, Dt K H x (.tuple ds) ∧ Dt K H y (.tuple es) ∧ ds.length + es.length ≤ 2000 ∧ ∀ v H', Same H H' → Dt K H' v (.tuple (ds ++ es)) → Q v H'
theorem op_catTD : OpR X (binaryOp .Add) (rCatTD X.K) := by
  intro pins s σ H x y v u Q I rx ry h
  obtain ⟨ds, es, dx, dy, hz, q⟩ := h
  obtain ⟨a, xs, rfl, ha, ax⟩ := dx.tuple_inv
  obtain ⟨b, ys, rfl, hb, ay⟩ := dy.tuple_inv
  have lx := ax.length
  have ly := ay.length
  refine op_catA pins s σ H _ _ v u Q I rx ry ⟨a, b, xs, ys, rfl, rfl, ha, hb, by rw [lx, ly]; exact Nat.le_trans hz (by decide), fun e => ?_, fun _ e => ?_, fun _ _ p hp => ?_⟩
  · subst e
    cases ax
    exact q _ _ (Same.refl _) dy
  · subst e
    cases ay
    rw [List.append_nil] at q
    exact q _ _ (Same.refl _) dx
  · exact q _ _ (Same.new hp) (Dt.made hp (DtAll.app ax ay))
end
end LK

set_option Elab.async false
set_option linter.all false
set_option maxRecDepth 100000
set_option maxHeartbeats 4000000
/-! Classes of one's own in the layer: fields, instances made, methods called. -/
namespace LK
open PySem PySem.Spec PyProof.Rows L2
/-- none of the names stands in the class -/
inductive NoAll (K : PySem.W.Frag) (C : Addr) : List Str → Prop
  | nil : NoAll K C []
  | cons {f : Str} {r : List Str} (h : PySem.W.findIn K (.ref C) f = some none) (t : NoAll K C r) : NoAll K C (f :: r)
theorem NoAll.at {K : PySem.W.Frag} {C : Addr} {f : Str} : ∀ {fs : List Str}, NoAll K C fs → fs.contains f = true → NoAttr K C f
  | _, .nil, h => by cases h
  | g :: r, .cons a t, h => by
    by_cases e : f = g
    · subst e; exact a
    · refine NoAll.at t ?_
      rw [List.contains_cons] at h
      rcases Bool.or_eq_true_iff.mp h with q | q
      · exact absurd (eq_of_beq q) e
      · exact q
/-- the class x as the top leaves it, at C, with the fields fs -/
structure ClsK (K : PySem.W.Frag) (x : Str) (fs : List Str) (C : Addr) : Prop where
  ns : PySem.W.nsIn K mainGlobals x = some (some (.ref C))
  cl : Cls K C
  mks : PySem.W.makesIn K C = true
  kp : PySem.W.keepIn K (.ref C) = true
  no : NoAll K C fs
theorem ClsK.mk' {K : PySem.W.Frag} {x : Str} {fs : List Str} {C : Addr} (a : PySem.W.nsIn K mainGlobals x = some (some (.ref C))) (pg : PySem.W.plainGet K C Str.empty = true) (hd : PySem.W.hasDictIn K C = true) (po : PySem.W.plainOver K C = true)
    (sa : PySem.W.findIn K (.ref C) "__setattr__" = some (some (.builtin "object.__setattr__"))) (mk : PySem.W.makesIn K C = true) (kp : PySem.W.keepIn K (.ref C) = true) (no : NoAll K C fs) : ClsK K x fs C := ⟨a, ⟨pg, hd, po, sa⟩, mk, kp, no⟩
structure UseC (K : PySem.W.Frag) (mg : Str → Option Value) (x : Str) (fs : List Str) (C : Addr) : Prop where
  cl : Cls K C
  no : NoAll K C fs
  mg : mg x = some (.ref C)
theorem ClsK.g {K : PySem.W.Frag} {mg : Str → Option Value} {h : Heap} {x : Str} {fs : List Str} {C : Addr} (k : ClsK K x fs C) (X : K.In h) (G : h.Ns mainGlobals mg) : UseC K mg x fs C := ⟨k.cl, k.no, PySem.W.mg_of X G k.ns⟩
/-- a method as the top leaves it -/
def HasMeth (K : PySem.W.Frag) (C : Addr) (m q : Str) (st : Stmt) : Prop := ∃ (f : Addr) (oc : Value) (od an : Option Addr) (kV doc pm cdv ct : Value) (osl : Array (Option Value)),
  PySem.W.findIn K (.ref C) m = some (some (.ref f)) ∧ PySem.W.isFn K (.ref f) = true ∧ PySem.W.keepIn K (.ref f) = true ∧
  K.lookup f = some ⟨oc, od, .func (PySem.W.fnOf m q (defArgs st) (defBody st) (defScope st) .none kV doc pm an cdv ct), osl⟩ ∧ PySem.W.codeIn K cdv q = true
theorem HasMeth.mk' {K : PySem.W.Frag} {C : Addr} {m q : Str} {st : Stmt} {f : Addr} {oc : Value} {od an : Option Addr} {kV doc pm cdv ct : Value} {osl : Array (Option Value)} (a : PySem.W.findIn K (.ref C) m = some (some (.ref f))) (i : PySem.W.isFn K (.ref f) = true)
    (k : PySem.W.keepIn K (.ref f) = true) (b : K.lookup f = some ⟨oc, od, .func (PySem.W.fnOf m q (defArgs st) (defBody st) (defScope st) .none kV doc pm an cdv ct), osl⟩) (c : PySem.W.codeIn K cdv q = true) : HasMeth K C m q st :=
  ⟨f, oc, od, an, kV, doc, pm, cdv, ct, osl, a, i, k, b, c⟩
/-- a method may be called -/
structure UseM (P : Program) (w : World) (K : PySem.W.Frag) (mg : Str → Option Value) (base : Heap) (CX : CXT) (C : Addr) (m : Str) (k : Nat) (ps : List Str) (sp : Sp) : Prop where
  ex : ∃ (f : Addr) (fd : FuncData), FnG P w K mg base CX k f fd ps sp ∧ Meth K C m f ∧ Binds K fd ps []
/-- an instance may be made -/
structure UseK (P : Program) (w : World) (K : PySem.W.Frag) (mg : Str → Option Value) (base : Heap) (x : Str) (C : Addr) (k : Nat) (ps : List Str) (sp : Sp) : Prop where
  ex : ∃ (f : Addr) (fd : FuncData), FnOk P w K mg base CX0 k f fd ps sp ∧ Mk K C f ∧ Binds K fd ps [] ∧ mg x = some (.ref C)
section
variable {P : Program} {w : World} {K : PySem.W.Frag} {mg : Str → Option Value} {base h : Heap} {CX : CXT} {C : Addr} {m q x : Str} {st : Stmt} {k : Nat} {ps fs : List Str} {sp : Sp}
theorem mk_useM (F : HasMeth K C m q st) (hb : ∀ (kV doc pm : Value) (an : Option Addr) (cdv ct : Value) (us : List Value), us.length = ps.length → bindArgs (PySem.W.fnOf m q (defArgs st) (defBody st) (defScope st) .none kV doc pm an cdv ct) ⟨us, []⟩ = pure (ps.zip us))
    (ok : ∀ (f : Addr) (fd : FuncData), Fun K m q st f fd → FnG P w K mg base CX k f fd ps sp) : UseM P w K mg base CX C m k ps sp := by
  obtain ⟨f, oc, od, an, kV, doc, pm, cdv, ct, osl, a, i, kp, b, c⟩ := F
  have Fn := fun_mk (st := st) b c kp
  exact ⟨f, _, ok f _ Fn, ⟨a, i, kp⟩, Fn.binds hb⟩
theorem mk_useK (k0 : ClsK K x fs C) (F : HasMeth K C "__init__" q st) (X : K.In h) (G : h.Ns mainGlobals mg) (hb : ∀ (kV doc pm : Value) (an : Option Addr) (cdv ct : Value) (us : List Value), us.length = ps.length → bindArgs (PySem.W.fnOf "__init__" q (defArgs st) (defBody st) (defScope st) .none kV doc pm an cdv ct) ⟨us, []⟩ = pure (ps.zip us))
    (ok : ∀ (f : Addr) (fd : FuncData), Fun K "__init__" q st f fd → FnOk P w K mg base CX0 k f fd ps sp) : UseK P w K mg base x C k ps sp := by
  obtain ⟨f, oc, od, an, kV, doc, pm, cdv, ct, osl, a, i, kp, b, c⟩ := F
  have Fn := fun_mk (st := st) b c kp
  exact ⟨f, _, ok f _ Fn, ⟨k0.mks, a, i, k0.kp⟩, Fn.binds hb, PySem.W.mg_of X G k0.ns⟩
theorem UseM.imp {sp' : Sp} (U : UseM P w K mg base CX C m k ps sp) (i : ∀ vs H Q E, sp' vs H Q E → sp vs H Q E) : UseM P w K mg base CX C m k ps sp' := by
  obtain ⟨f, fd, ok, r⟩ := U.ex
  exact ⟨f, fd, ok.imp i, r⟩
end
/-! ### readings -/
def tFd (C : Addr) (ta : TE) (f : Str) : TE := fun σ H Q => ta σ H fun x H1 => ∃ a dx gs v, x = .ref a ∧ H1 a = some (.ins C dx gs) ∧ gs.lookup f = some v ∧ Q v H1
def sFd (C : Addr) (ta tv : TE) (f : Str) : TS := fun D σ H => tv σ H fun y H1 => ta σ H1 fun x H2 => ∃ a dx gs, x = .ref a ∧ H2 a = some (.ins C dx gs) ∧ gs.length < 1000 ∧ D.nx σ (upd H2 a (.ins C dx (putF f y gs)))
def sFdAug (C : Addr) (ta tv : TE) (rd : V → V → Hp → VK → Prop) (f : Str) : TS := fun D σ H => ta σ H fun x H1 => ∃ a dx gs v, x = .ref a ∧ H1 a = some (.ins C dx gs) ∧ gs.lookup f = some v ∧
  tv σ H1 fun y H2 => rd v y H2 fun z H3 => ∃ dx' gs', H3 a = some (.ins C dx' gs') ∧ gs'.length < 1000 ∧ D.nx σ (upd H3 a (.ins C dx' (putF f z gs')))
def tMc (C : Addr) (m : Str) (sp : Sp) (E : XK) (ta : TE) (t : TA) : TE := fun σ H Q => ta σ H fun x H1 => ∃ a dx gs, x = .ref a ∧ H1 a = some (.ins C dx gs) ∧ gs.lookup m = none ∧ t σ H1 fun vs H2 => sp (.ref a :: vs) H2 Q E
def tMk (C : Addr) (sp : Sp) (t : TA) : TE := fun σ H Q => t σ H fun vs H1 => ∀ x dx, H1 x = none → H1 dx = none → dx ≠ x → sp (.ref x :: vs) (upd (upd H1 dx (.own x)) x (.ins C dx [])) (fun v H2 => v = .non ∧ Q (.ref x) H2) E0
section
variable {X : Cx} {CX : CXT} {C : Addr} {x m f : Str} {fs ps : List Str} {k : Nat} {sp : Sp} {o e value : Expr} {es : List Expr} {p pos pos' tpos apos : Pos} {ta tv : TE} {t : TA}
theorem pe_fd (U : UseC X.K X.mg x fs C) (hf : fs.contains f = true) (he : PE X e ta) (hb : attributeBase e f X.env (eval e X.env) = eval e X.env := by rfl) : PE X (.Attribute e f pos) (tFd C ta f) := by
  refine ⟨fun pins s σ H Q I h => ?_⟩
  refine attr_of hb (thn (he.run pins s σ H _ I h) fun u s1 ⟨x, H1, I1, rx, a, dx, fs, v, ex, ea, l, q⟩ => ?_)
  subst ex
  obtain rfl : u = Value.ref a := rx
  exact getattr_ok I1 ea U.cl (U.no.at hf) l fun u' s2 I2 ru => ⟨v, H1, I2, ru, q⟩
theorem ps_fd (U : UseC X.K X.mg x fs C) (hf : fs.contains f = true) (ha : PE X o ta) (hv : PE X value tv) (hs : swapsWith value (some (.Attribute o f pos')) pos.line X.env = pure false := by rfl) : PS X (.Assign [.Attribute o f pos'] value pos) (sFd C ta tv f) := by
  refine ⟨fun pins s σ H D I h => ?_⟩
  refine plainObj_wpAny_Assign_Attribute (thn (hv.run pins s σ H _ I h) fun u s1 ⟨y, H1, I1, ry, q⟩ => thn (ha.run pins s1 σ H1 _ I1 q) fun ov s2 ⟨x, H2, I2, rx, a, dx, fs, ex, ea, l, q2⟩ => ?_) hs
  subst ex
  obtain rfl : ov = Value.ref a := rx
  exact setattr_ok I2 ea U.cl (U.no.at hf) l ry fun s3 I3 => ⟨σ, _, I3, q2⟩
theorem ps_fdaug (U : UseC X.K X.mg x fs C) (hf : fs.contains f = true) {op : Operator} {rd : V → V → Hp → VK → Prop} (ha : PE X o ta) (hv : PE X value tv) (hop : InOp X op rd) : PS X (.AugAssign (.Attribute o f tpos) op value pos) (sFdAug C ta tv rd f) := by
  refine ⟨fun pins s σ H D I h => ?_⟩
  refine wpAny_AugAssign_AttributeAny (thn (ha.run pins s σ H _ I h) fun ov s1 ⟨x, H1, I1, rx, a, dx, fs, v, ex, ea, l, q⟩ => ?_)
  subst ex
  obtain rfl : ov = Value.ref a := rx
  refine getattr_ok I1 ea U.cl (U.no.at hf) l fun u s2 I2 ru => thn (hv.run pins s2 σ H1 _ I2 q) fun w3 s3 ⟨y, H2, I3, ry, q3⟩ => thn (hop pins s3 σ H2 v y u w3 _ I3 ru ry q3) fun w4 s4 ⟨z, H3, I4, rz, dx', fs', ea', l', q4⟩ => ?_
  exact setattr_ok I4 ea' U.cl (U.no.at hf) l' rz fun s5 I5 => ⟨σ, _, I5, q4⟩
/-- o.m(e, ..) -/
theorem pe_mc {E : XK} {pl : Sem Bool} (U : UseC X.K X.mg x fs C) (M : UseM X.prog X.w X.K X.mg X.base CX C m k ps sp) (hx : Passes CX X E) (hr : Room k X.A) (gd : X.A.guards = some []) (he : PE X o ta) (ha : PA X (e :: es) t)
    (hst : starEach (e :: es) X.env = (false, eval e X.env) :: starEach es X.env := by rfl) (hpl : (backTo pos (starEach es X.env)).any (·.1) = false := by rfl)
    (ht : eval (.Call (.Attribute o m apos) (e :: es) [] pos) X.env = (do
      let ov ← eval o X.env
      standAt apos.atName
      let (f, first) ← holding [ov] (getMethod ov m pl)
      callWith pos f first (backTo pos (starEach (e :: es) X.env)) (backToKw pos (keywordEach [] X.env))) := by rfl) :
    PE X (.Call (.Attribute o m apos) (e :: es) [] pos) (tMc C m sp E ta t) := by
  obtain ⟨f, fd, F, hm, hb⟩ := M.ex
  refine ⟨fun pins s σ H Q I h => ?_⟩
  refine PySem.W.methodCall_KW (pl := pl) (thn (he.run pins s σ H _ I h) fun u s1 ⟨x, H1, I1, rx, a, dx, fs, ex, ea, l, q⟩ => ?_) ht
  subst ex
  obtain rfl : u = Value.ref a := rx
  refine getmeth_ok I1 ea U.cl hm l ?_
  refine PySem.W.callWith_K (first := [.ref a]) (h₀ := X.base) I.ok.mod.kin hm.kp (thn (ha.run pos pins s1 σ H1 _ I1 q) fun us s2 ⟨vs, H2, I2, r, q2⟩ => ⟨I2.kIn, ?_⟩) hst hpl
  exact run_fnG (us := .ref a :: us) (vs := .ref a :: vs) F hr gd hb hx I2 (.cons rfl r) q2
/-- o.m() -/
theorem pe_mc0 {E : XK} {pl : Sem Bool} (U : UseC X.K X.mg x fs C) (M : UseM X.prog X.w X.K X.mg X.base CX C m k ps sp) (hx : Passes CX X E) (hr : Room k X.A) (gd : X.A.guards = some []) (he : PE X o ta)
    (ht : eval (.Call (.Attribute o m apos) [] [] pos) X.env = (do
      let ov ← eval o X.env
      standAt apos.atName
      let (f, first) ← holding [ov] (getMethod ov m pl)
      callWith pos f first (backTo pos (starEach [] X.env)) (backToKw pos (keywordEach [] X.env))) := by rfl) :
    PE X (.Call (.Attribute o m apos) [] [] pos) (tMc C m sp E ta tNil) := by
  obtain ⟨f, fd, F, hm, hb⟩ := M.ex
  refine ⟨fun pins s σ H Q I h => ?_⟩
  refine PySem.W.methodCall_KW (pl := pl) (thn (he.run pins s σ H _ I h) fun u s1 ⟨x, H1, I1, rx, a, dx, fs, ex, ea, l, q⟩ => ?_) ht
  subst ex
  obtain rfl : u = Value.ref a := rx
  refine getmeth_ok I1 ea U.cl hm l ?_
  exact PySem.W.callWith_K0 (first := [.ref a]) I1.kIn hm.kp (run_fnG (us := [.ref a]) (vs := [.ref a]) F hr gd hb hx I1 (.cons rfl .nil) q)
/-- C(e, ..) -/
theorem pe_mk (M : UseK X.prog X.w X.K X.mg X.base x C k ps sp) (hr : Room (k + 1) X.A) (hg : Gl X x) (ha : PA X (e :: es) t) (hdb : (x == ("__debug__" : Str)) = false := by decide) (he : starEach (e :: es) X.env = (false, eval e X.env) :: starEach es X.env := by rfl)
    (hpl : (backTo pos (starEach es X.env)).any (·.1) = false := by rfl) : PE X (.Call (.Name x p) (e :: es) [] pos) (tMk C sp t) := by
  obtain ⟨f, fd, F, mk, hb, hm⟩ := M.ex
  have R := pe_make (p := p) (pos := pos) mk F hr hg hm hb .nil pass0 ha hdb he hpl
  refine ⟨fun pins s σ H Q I h => R.run pins s σ H Q I ?_⟩
  have e0 : (tMake C sp [] E0 t : TE) = tMk C sp t := by
    funext σ H Q
    unfold tMake tMk
    simp only [List.append_nil]
  rw [e0]; exact h
end
end LK

set_option Elab.async false
set_option linter.all false
set_option maxRecDepth 100000
set_option maxHeartbeats 4000000
/-! list(reversed(x)) of a tuple -/
namespace LK
open PySem PySem.Spec PyProof.Rows L2 SX
theorem nolen_rt : typeLookup (.type "reversed") "__len__" = pure none := by rw [typeLookup_type, builtinLookup_eq_fast]; kernel_rfl
theorem slot_rt_hint : Slot "reversed" "__length_hint__" "reversed.__length_hint__" :=
  .of (owner := "reversed") (n := "__length_hint__") (by rw [typeLookup_type, builtinLookup_eq_fast]; kernel_rfl) (by decide +kernel) (by decide +kernel) (by decide +kernel)
    (by first | exact .inl (by decide +kernel) | exact .inr (by decide +kernel)) (by rw [isSubtype_type]; kernel_rfl)
theorem entry_rt_hint : entryFor table "reversed.__length_hint__" = some Builtin.«reversed.__length_hint__» := entryFor_of_tree (by kernel_rfl)
theorem args_rt_hint (a : Value) : argsOk "reversed.__length_hint__" ⟨[a], []⟩ := by
  unfold argsOk; rw [signature?_of (id := "reversed.__length_hint__") (n := ['_', '_', 't', 'n', 'i', 'h', '_', 'h', 't', 'g', 'n', 'e', 'l', '_', '_']) (o := ['d', 'e', 's', 'r', 'e', 'v', 'e', 'r']) (by kernel_rfl) RT.owner_rt]; kernel_rfl
section
variable {prog : Program} {w : World} {A : Around} {E : Value → Shared → Prop} {s : Shared}
theorem hint_rt {it t : Addr} {items : Array Value} {Q : Bool → Shared → Prop} (hit : RT.IsRt s.heap it t ((items.size : Int) - 1)) (ht : IsTup s.heap t items) (hn : items.size ≤ sizeLine)
    (hQ : ∀ b tk, Q b { s with toks := tk }) : wpAny (model prog w) A (Builtin.List.listLengthHint (.ref it)) Q E s := by
  have hT : s.TypeIs (.ref it) "reversed" := hit.typeIs
  obtain ⟨o, ho, hc, hd⟩ := id hit
  unfold Builtin.List.listLengthHint
  refine wpAny_bind (wpAny_specialOf hT nolen_rt ?_)
  show wpAny _ _ (specialOf (Value.ref it) (Str.ofString "__length_hint__") >>= _) _ _ _
  refine wpAny_bind (wpAny_specialOf hT slot_rt_hint.lookup ?_)
  generalize hid : ("reversed.__length_hint__" : String) = id0
  wp_delta
  rw [show splitId id0 = some ("reversed", "__length_hint__") from by subst hid; decide +kernel]
  subst hid
  refine wpAny_bind (wpAny_isInstance (b := true) hT (by rw [isSubtype_type]; kernel_rfl) ?_)
  rw [if_neg (by decide)]
  rw [if_neg (by decide +kernel)]
  refine wpAny_bind (wpAny_rule ?_)
  refine wpAny_bind (wpAny_of_eq (slot_rt_hint.bind (.ref it)) ?_)
  refine wpAny_bind (wpAny_attempt (wpAny_call_entry slot_rt_hint hT entry_rt_hint ?_ (args_rt_hint _)))
  unfold Builtin.«reversed.__length_hint__»
  refine wpAny_bind (wpAny_of_eq (a := Value.ref it) rfl ?_)
  refine wpAny_bind (wpAny_field ho hd (x := .ref t) rfl ?_)
  rw [if_neg (show ¬ ((Value.ref t == Value.none) = true) from Bool.false_ne_true)]
  refine wpAny_bind (len_tuple ht (by rw [sizeLine_eq] at hn; omega) ?_)
  refine wpAny_bind (wpAny_of_eq (a := some ((items.size : Nat) : Int)) rfl ?_)
  refine wpAny_bind (wpAny_field (s := { s with toks := s.toks + 1 + 1 }) ho hd (x := rawInt ((items.size : Int) - 1)) rfl ?_)
  show wpAny _ _ (if ((items.size : Nat) : Int) < (items.size : Int) - 1 + 1 then _ else _) _ _ _
  rw [if_neg (by omega)]
  have e1 : (items.size : Int) - 1 + 1 = ((items.size : Nat) : Int) := by omega
  rw [e1]
  have hz := hn
  rw [sizeLine_eq] at hz
  unfold retInt
  refine wpAny_bind (wpAny_mkInt ?_)
  refine wpAny_pure ⟨_, rfl, ?_⟩
  dsimp only
  have f0 : ¬ (((items.size : Nat) : Int) < 0) := Int.not_lt.mpr (Int.natCast_nonneg _)
  have f1 : Builtin.List.listFitsIndex ((items.size : Nat) : Int) = true := by
    unfold Builtin.List.listFitsIndex
    rw [Bool.and_eq_true]
    exact ⟨decide_eq_true (by omega), decide_eq_true (by omega)⟩
  have f2 : Builtin.List.listTooLong ((items.size : Nat) : Int).toNat = false := by
    unfold Builtin.List.listTooLong
    rw [Int.toNat_natCast]
    exact decide_eq_false (Nat.not_lt.mpr hn)
  have f3 : ∀ tk, asInt? (Value.int ((items.size : Nat) : Int) tk) = pure (some ((items.size : Nat) : Int)) := fun _ => rfl
  generalize ((items.size : Nat) : Int) = N at f0 f1 f2 f3 ⊢
  rw [f3]
  refine wpAny_bind (wpAny_pure ?_)
  dsimp only
  rw [f1, if_neg (show ¬ ((!true) = true) by decide), if_neg f0, f2, if_neg Bool.false_ne_true]
  exact wpAny_pure (hQ _ _)
theorem walks_rt {t it : Addr} {items : Array Value} (hh : A.handled = none) (hne : t ≠ it) (hn : items.size ≤ sizeLine) :
    Walks prog w A it [it, t] [it] items.size (fun i v => items[items.size - 1 - i]? = some v) (fun i h => i ≤ items.size ∧ RT.IsRt h it t ((items.size : Int) - 1 - (i : Nat)) ∧ IsTup h t items) where
  sub := fun b hb => by rw [List.mem_singleton.mp hb]; simp
  frame := fun i h h' st hk => ⟨st.1, st.2.1.at fun o e => hk it (by simp) o e, let ⟨o, ho, r⟩ := st.2.2; ⟨o, hk t (by simp) o ho, r⟩⟩
  item := fun i s Q E hi st hQ => by
    have e1 : (items.size : Int) - 1 - ((i : Nat) : Int) = ((items.size - 1 - i : Nat) : Int) := by omega
    have st2 := st.2.1
    rw [e1] at st2
    have hx : items[items.size - 1 - i]? = some (items[items.size - 1 - i]'(by omega)) := Array.getElem?_eq_getElem (by omega)
    refine RT.next_rt_item st2 st.2.2 hx hn fun h' hit' sb => ?_
    have e2 : ((items.size - 1 - i : Nat) : Int) - 1 = (items.size : Int) - 1 - ((i + 1 : Nat) : Int) := by omega
    rw [e2] at hit'
    exact hQ _ h' _ hx ⟨hi, hit', let ⟨o, ho, r⟩ := st.2.2; ⟨o, (sb.2 t hne).trans ho, r⟩⟩ fun b o hb e => (sb.2 b (fun h => hb (by simp [h]))).trans e
  done := fun s Q E st hQ => by
    have st2 := st.2.1
    rw [show (items.size : Int) - 1 - ((items.size : Nat) : Int) = -1 by omega] at st2
    exact RT.next_rt_end hh st2 fun h' he => hQ h' s.toks fun b o hb e => he b o (fun h => hb (by simp [h])) e
  self := fun i s Q E st h => RT.iter_rt st.2.1 h
theorem extend_rt {R : Result → Shared → Prop} {it t S : Addr} {items : Array Value} (res : Value) (c₀ : Nat) (hh : A.handled = none) (hit : RT.IsRt s.heap it t ((items.size : Int) - 1)) (ht : IsTup s.heap t items) (hne : t ≠ it) (hn : items.size ≤ sizeLine) (hSi : S ≠ it) (hSt : S ≠ t)
    (hS : s.heap.get? S = some { cls := .type "list", data := .seq #[] c₀ })
    (hR : ∀ h' tk acc' c', (∀ b o, b ≠ S → b ≠ it → s.heap.get? b = some o → h'.get? b = some o) → h'.get? S = some { cls := .type "list", dict := none, data := .seq acc' c', slots := #[] } → ItemsOf (fun i v => items[items.size - 1 - i]? = some v) acc' items.size → R (.ok (.ret res)) { s with heap := h', toks := tk }) :
    wpAny (model prog w) A.in1 (Builtin.List.listExtendWith (.ref S) (.ref it) res)
      (fun fin s' => match fin with | .done f => R (.ok f) s' | .again c' => c'.quiet = true ∧ codeAny (model prog w) A c' R s') (fun e s' => R (.error e) s') s := by
  have W := walks_rt (prog := prog) (w := w) (A := A.in1) (items := items) hh hne hn
  have hSf : S ∉ [it, t] := by simp only [List.mem_cons, List.not_mem_nil, or_false, not_or]; exact ⟨hSi, hSt⟩
  have key : ∀ (h : Heap) (c₁ tk : Nat), (∀ b o, b ≠ S → s.heap.get? b = some o → h.get? b = some o) →
      h.get? S = some { cls := .type "list", data := .seq #[] c₁ } → codeAny (model prog w) A (.builtin "list.extend.loop" ⟨[.ref S, .ref it, res], []⟩) R { s with heap := h, toks := tk } := by
    intro h c₁ tk hk hS₁
    have hst : (fun (i : Nat) (h : Heap) => i ≤ items.size ∧ RT.IsRt h it t ((items.size : Int) - 1 - (i : Nat)) ∧ IsTup h t items) 0 h :=
      ⟨Nat.zero_le _, by rw [show (items.size : Int) - 1 - ((0 : Nat) : Int) = (items.size : Int) - 1 by omega]; exact hit.at fun o e => hk it o (Ne.symm hSi) e, let ⟨o, ho, r⟩ := ht; ⟨o, hk t o (Ne.symm hSt) ho, r⟩⟩
    refine codeAny_extend_loopS W.toS hn S hSf res items.size 0 _ #[] c₁ rfl (Nat.zero_le _) hst hS₁ (ItemsOf.nil _) fun s' acc' c' hm hS' hacc => ?_
    rw [Moved.eq_with hm]
    refine hR s'.heap s'.toks acc' c' (fun b o hb hb2 e => hm.heap b o (fun hmem => ?_) (hk b o hb e)) hS' hacc
    rcases List.mem_cons.mp hmem with e' | hmem
    · exact hb e'
    · exact hb2 (List.mem_singleton.mp hmem)
  have hT : s.TypeIs (.ref it) "reversed" := hit.typeIs
  have h1 : Builtin.List.listSameRef (.ref S) (.ref it) = false := by simp [Builtin.List.listSameRef, hSi]
  unfold Builtin.List.listExtendWith
  refine wpAny_bind (wpAny_typeOf hT ?_)
  rw [if_neg (by rw [h1]; decide)]
  refine wpAny_bind (RT.iter_rt hit ?_)
  refine wpAny_bind (wpAny_holding (hint_rt hit ht hn fun b tk => ?_))
  refine wpAny_ite_split (fun _ => ?_) (fun _ => wpAny_pure ⟨plainId_quiet PySem.F.plain_extend_loop _, key _ c₀ _ (fun b o _ e => e) hS⟩)
  refine wpAny_bind (wpAny_rule ?_)
  refine wpAny_bind ?_
  show wpAny _ _ (updateSeq S (·.push .none) >>= fun _ => updateSeq S (·.pop)) _ _ _
  refine wpAny_bind (wpAny_updateSeq (s := { s with toks := tk }) hS rfl ?_)
  have hS₂ := Heap.get?_update_self (Obj.mapSeq (·.push Value.none)) hS rfl
  refine wpAny_updateSeq (hz := by seq_fits) hS₂ rfl ?_
  have hS₃ := Heap.get?_update_self (Obj.mapSeq (·.pop)) hS₂ rfl
  refine wpAny_pure ⟨plainId_quiet PySem.F.plain_extend_loop _, key _ _ _ (fun b o hb e => ?_) hS₃⟩
  exact (Heap.get?_update_other _ _ (Ne.symm hb)).trans ((Heap.get?_update_other _ _ (Ne.symm hb)).trans e)
theorem call_listRt {it t : Addr} {items : Array Value} {Q : Value → Shared → Prop} (hh : A.handled = none) (hit : RT.IsRt s.heap it t ((items.size : Int) - 1)) (ht : IsTup s.heap t items) (hne : t ≠ it) (hn : items.size ≤ sizeLine)
    (hQ : ∀ h' tk acc' c', (∀ b o, b ≠ it → s.heap.get? b = some o → h'.get? b = some o) → h'.get? s.heap.objs.size = some { cls := .type "list", dict := none, data := .seq acc' c', slots := #[] } → ItemsOf (fun i v => items[items.size - 1 - i]? = some v) acc' items.size → Q (.ref s.heap.objs.size) { s with heap := h', toks := tk }) :
    wpAny (model prog w) A (call (.type "list") [.ref it]) Q E s := by
  refine callType_codes (Q₁ := fun obj s₁ => obj = .ref s.heap.objs.size ∧ s₁ = { s with heap := s.heap.push { cls := .type "list", data := .seq #[] } }) PySem.F.called_list (PySem.F.typeCall_list_1 _) PySem.F.entry_list_init
    (code_list_new _ ⟨rfl, rfl⟩) fun obj s₁ h₁ => ?_
  obtain ⟨rfl, rfl⟩ := h₁
  have hS : (s.heap.push { cls := .type "list", data := .seq #[] }).get? s.heap.objs.size = some { cls := .type "list", data := .seq #[] } := Heap.get?_push_size _ rfl
  have li : it < s.heap.objs.size := let ⟨_, e, _⟩ := hit; Heap.lt_size e
  have lt : t < s.heap.objs.size := let ⟨_, e, _⟩ := ht; Heap.lt_size e
  refine ⟨⟨_, hS, rfl⟩, PySem.F.args_list_init_2 _ _, ?_⟩
  show wpAny _ _ (do let old ← Builtin.List.listItems (.ref s.heap.objs.size); Builtin.List.listUpdate (.ref s.heap.objs.size) (fun _ => #[]); letGo old.toList.reverse; Builtin.List.listExtendWith (.ref s.heap.objs.size) (.ref it) .none) _ _ _
  refine wpAny_bind ?_
  unfold Builtin.List.listItems
  refine wpAny_bind (wpAny_seqItems hS rfl (wpAny_pure ?_))
  show wpAny _ _ (updateSeq s.heap.objs.size (fun _ => #[]) >>= fun _ => letGo (#[] : Array Value).toList.reverse >>= fun _ => Builtin.List.listExtendWith (.ref s.heap.objs.size) (.ref it) .none) _ _ _
  refine wpAny_bind (wpAny_updateSeq hS rfl ?_)
  have hS₂ := Heap.get?_update_self (Obj.mapSeq (fun _ => (#[] : Array Value))) hS rfl
  have oth : ∀ b o, b ≠ s.heap.objs.size → s.heap.get? b = some o → ((s.heap.push { cls := .type "list", data := .seq #[] }).update s.heap.objs.size (Obj.mapSeq (fun _ => (#[] : Array Value)))).get? b = some o :=
    fun b o hb e => (Heap.get?_update_other _ _ (Ne.symm hb)).trans (Heap.get?_push_of_some _ e)
  refine wpAny_bind (wpAny_letGo ?_)
  refine extend_rt (A := A.in1) .none _ hh (hit.at fun o e => oth it o (Nat.ne_of_lt li) e) (let ⟨o, ho, r⟩ := ht; ⟨o, oth t o (Nat.ne_of_lt lt) ho, r⟩) hne hn (Nat.ne_of_gt li) (Nat.ne_of_gt lt) hS₂ fun h' tk acc' c' hk hS' hacc => ?_
  exact ⟨rfl, hQ h' tk acc' c' (fun b o hb e => hk b o (Nat.ne_of_lt (Heap.lt_size e)) hb (oth b o (Nat.ne_of_lt (Heap.lt_size e)) e)) hS' hacc⟩
end
def tListRev (K : PySem.W.Frag) (te : TE) : TE := fun σ H Q => te σ H fun v H1 => ∃ (a : Addr) (xs : List V), v = .ref a ∧ SqT K H1 a xs ∧ ∀ q, H1 q = none → Q (.ref q) (L2.upd H1 q (.lst xs.reverse))
theorem pe_listRevT {X : Cx} {e : Expr} {te : TE} {p p2 pos pos2 : Pos} (hc : X.calm = true) (hg : Gl X "list") (hm : X.mg "list" = none) (hg2 : Gl X "reversed") (hm2 : X.mg "reversed" = none) (he : PE X e te)
    (hs : starEach [e] X.env = (false, eval e X.env) :: starEach [] X.env := by rfl)
    (hs2 : starEach [.Call (.Name "reversed" p2) [e] [] pos2] X.env = (false, eval (.Call (.Name "reversed" p2) [e] [] pos2) X.env) :: starEach [] X.env := by rfl) :
    PE X (.Call (.Name "list" p) [.Call (.Name "reversed" p2) [e] [] pos2] [] pos) (tListRev X.K te) := by
  refine ⟨fun pins s σ H Q I h => ?_⟩
  refine Call_ (ld_blt I hg hm PyProof.Rows.boot_list (PyProof.Rows.callWith_type1 (args_cons (Call_ (ld_blt I hg2 hm2 PyProof.Rows.boot_reversed (PyProof.Rows.callWith_type1 (args_cons (thn (he.run pins s σ H _ I h) fun u s1 ⟨v, H1, I1, r1, q1⟩ => args_nil ?_) hs) hs rfl))) hs2) hs2 rfl))
  obtain ⟨a, xs, ev, hq, q⟩ := q1
  subst ev
  obtain rfl : u = Value.ref a := r1
  obtain ⟨its, rv, p', hz⟩ := I1.tuple hq
  have hn : its.toArray.size ≤ sizeLine := by rw [List.size_toArray, ← rv.length]; exact hz
  refine RT.call_reversed_tup p' (fun A E Q k => len_tuple p' (by rw [sizeLine_eq] at hn; omega) k) (args_nil ?_)
  have k0 : ∀ b o, s1.heap.get? b = some o → (s1.heap.push (RT.rtObj a ((its.toArray.size : Int) - 1))).get? b = some o := fun b o e => Heap.get?_push_of_some _ e
  have I2 : Inv X pins σ H1 { s1 with heap := s1.heap.push (RT.rtObj a ((its.toArray.size : Int) - 1)), toks := s1.toks + 1 + 1 } := I1.kept (t' := s1.toks + 1 + 1) k0
  obtain ⟨f0, f1, f2, f3, f4, f5⟩ := I1.fpOk (H' := H1) (b := s1.heap.objs.size) (Nat.le_refl _) (I1.hok.fresh (Nat.le_refl _))
  obtain ⟨oa, hoa, _⟩ := id p'
  have hne : a ≠ s1.heap.objs.size := Nat.ne_of_lt (Heap.lt_size hoa)
  refine call_listRt (s := { s1 with heap := s1.heap.push (RT.rtObj a ((its.toArray.size : Int) - 1)), toks := s1.toks + 1 + 1 }) (I1.ok.hd hc) ⟨_, Heap.get?_push_size _ rfl, rfl, rfl⟩ (p'.keeps k0) hne hn fun h' tk acc c hk hS' hi => ?_
  have szp : (s1.heap.push (RT.rtObj a ((its.toArray.size : Int) - 1))).objs.size = s1.heap.objs.size + 1 := Heap.size_push ..
  have kk : ∀ b o, s1.heap.get? b = some o → h'.get? b = some o := fun b o e => hk b o (Nat.ne_of_lt (Heap.lt_size e)) (k0 b o e)
  have le : s1.heap.objs.size ≤ (s1.heap.push (RT.rtObj a ((its.toArray.size : Int) - 1))).objs.size := by rw [szp]; exact Nat.le_succ _
  refine ⟨.ref (s1.heap.push (RT.rtObj a ((its.toArray.size : Int) - 1))).objs.size, L2.upd H1 _ (.lst xs.reverse), I1.laid (t' := tk) kk le (show ObjOk X.prog X.w _ _ _ (.lst xs.reverse) from ⟨by rw [List.length_reverse]; exact hz, acc.toList, c, RT.vals_rev rv hi, ?_⟩), rfl, q _ (I1.hok.fresh le)⟩
  rw [Array.toArray_toList]
  exact hS'
end LK

set_option Elab.async false
set_option linter.all false
set_option maxRecDepth 100000
set_option maxHeartbeats 4000000
/-! defs that call themselves: a promise by depth, each depth from the one before -/
namespace LK
open PySem PySem.Spec PyProof.Rows L2 SX
section
variable {P : Program} {w : World} {K : PySem.W.Frag} {mg : Str → Option Value} {base h : Heap} {CX : CXT}
/-- sp 0 asks for nothing that can be (it is false); depth n + 1 may use depth n -/
theorem mk_useR {x : Str} {st : Stmt} {ps : List Str} (sp : Nat → Sp) (k0 : Nat) (F : HasFn K x st) (X : K.In h) (G : h.Ns mainGlobals mg)
    (hb : ∀ (kV doc pm : Value) (an : Option Addr) (cdv ct : Value) (us : List Value), us.length = ps.length → bindArgs (PySem.W.fnOf x x (defArgs st) (defBody st) (defScope st) .none kV doc pm an cdv ct) ⟨us, []⟩ = pure (ps.zip us))
    (h0 : ∀ vs H Q E, ¬ sp 0 vs H Q E)
    (ok : ∀ (n : Nat), Use P w K mg base CX x (k0 + n) ps (sp n) → ∀ (f : Addr) (fd : FuncData), Fun K x x st f fd → FnG P w K mg base CX (k0 + n + 1) f fd ps (sp (n + 1))) : ∀ n, Use P w K mg base CX x (k0 + n) ps (sp n)
  | 0 => by
    obtain ⟨f, oc, od, an, kV, doc, pm, cdv, ct, osl, e, l, c, kp⟩ := F
    have Fn := fun_mk (st := st) l c kp
    exact ⟨f, _, ⟨fun vs H Q E s => absurd s (h0 vs H Q E), fun _ _ _ _ _ _ vs Q E _ _ _ _ _ s => absurd s (h0 _ _ _ _)⟩, PySem.W.mg_of X G e, kp, Fn.binds hb⟩
  | n + 1 => mk_use F X G hb (ok n (mk_useR sp k0 F X G hb h0 ok n))
end
end LK

set_option Elab.async false
set_option linter.all false
set_option maxRecDepth 100000
set_option maxHeartbeats 4000000
/-! dict comprehensions over any walk; dicts whose keys are ints -/
namespace LK
open PySem PySem.Spec PyProof.Rows L2
theorem dc_it {J : It} {n : Nat} {G : Hp → Prop} {Y : Nat → Hp → V → Hp → Prop} (wk : Walk J n G Y) {g : TG} {tt : TT} {tk tv : TE} {own : List Nat} {σ : L2.St} {H0 : Hp} {D : Addr} {Qd : Hp → Prop} (I : Nat → Hp → Prop) (st : I 0 (upd H0 D (.dK []))) (still : ∀ j H, j ≤ n → I j H → G H)
    (turn : ∀ j x H H', j < n → I j H → Y j H x H' → g x (wipe σ own) H' fun τ Ha => wipe τ own = wipe σ own ∧ tt τ Ha fun b Hb =>
      if b = true then tk τ Hb fun key Hc => tv τ Hc fun val Hd => ∃ ps c, key = kV c ∧ Hd D = some (.dK ps) ∧ ps.length < sizeLine ∧ I (j + 1) (upd Hd D (.dK (putK ps c val))) else I (j + 1) Hb) (fin : ∀ H, I n H → Qd H) :
    ∃ W : Nat → Nat → Hp → Prop, (∃ m, W 0 m (upd H0 D (.dK []))) ∧ ∀ j m H, W j m H → (J.stop j H ∧ Qd H) ∨ (J.go j H ∧ ∃ Nx : Hp → Prop, (∀ H', Nx H' → ∃ m', m' < m ∧ W (j + 1) m' H') ∧
      ∀ x H', J.yld j H x H' → g x (wipe σ own) H' fun τ Ha => wipe τ own = wipe σ own ∧ tt τ Ha fun b Hb =>
        if b = true then tk τ Hb fun key Hc => tv τ Hc fun val Hd => ∃ ps c, key = kV c ∧ Hd D = some (.dK ps) ∧ ps.length < sizeLine ∧ Nx (upd Hd D (.dK (putK ps c val))) else Nx Hb) := by
  refine ⟨fun j m H => j ≤ n ∧ m = n - j ∧ I j H, ⟨n - 0, Nat.zero_le _, rfl, st⟩, ?_⟩
  rintro j m H ⟨hj, rfl, hI⟩
  have hG := still j H hj hI
  rcases Nat.lt_or_ge j n with c | c
  · exact .inr ⟨wk.goes j H c hG, I (j + 1), fun H' h' => ⟨n - (j + 1), by omega, c, rfl, h'⟩, fun x H' y => turn j x H H' c hI (wk.yields j H x H' c hG y)⟩
  · obtain rfl : j = n := Nat.le_antisymm hj c
    exact .inl ⟨wk.stops H hG, fin H hI⟩
/-- a dict whose keys are the ints of a row -/
def KnAt (H : Hp) (a : Addr) (ks : List Int) : Prop := ∃ kvs : List (Key × V), H a = some (.dK kvs) ∧ kvs.length ≤ ks.length ∧ ∀ k : Int, (valV kvs (.inl k)).isSome = decide (k ∈ ks)
theorem KnAt.nil {H : Hp} {a : Addr} : KnAt (upd H a (.dK [])) a [] := ⟨[], upd_same, Nat.le_refl _, fun k => by rw [valV_nil]; simp⟩
theorem KnAt.put {H : Hp} {a : Addr} {ks : List Int} {kvs : List (Key × V)} {k : Int} {v : V} (h : KnAt H a ks) (e : H a = some (.dK kvs)) : KnAt (upd H a (.dK (putK kvs (.inl k) v))) a (ks ++ [k]) := by
  obtain ⟨kvs', e', l, p⟩ := h
  rw [e] at e'
  obtain rfl := HO.dK.inj (Option.some.inj e')
  refine ⟨_, upd_same, ?_, fun j => ?_⟩
  · have := length_putK kvs (.inl k) v
    rw [List.length_append, List.length_singleton]; omega
  · rw [valV_put]
    by_cases c : j = k
    · subst c; simp
    · rw [if_neg (fun h => c (Sum.inl.inj h)), p j]
      simp [c]
theorem KnAt.same {H H' : Hp} {a : Addr} {ks : List Int} (h : KnAt H a ks) (e : Same H H') : KnAt H' a ks := let ⟨x, b, c⟩ := h; ⟨x, e _ _ b, c⟩
/-- what a comprehension's block asks of each of its pieces -/
abbrev InBlk (X : Cx) (scope : Scope) (Z : Cx → Prop) : Prop := ∀ (s : Shared) (H : Hp) (C : Addr) (cl : List (Str × Addr)) (fp : List Addr), Z (X.blk s H scope (compEnvC scope cl C X.env) fp)
/-- name = {k: v for ..}, the name a local of the def -/
theorem ps_setDc {X : Cx} {i : Nat} {y : Str} {py : Pos} {ke ve te ie : Expr} {ifs : List Expr} {scope : Scope} {own : List (Str × Nat)} {p1 p2 : Pos} {wi : TI} {g : TG} {tt : TT} {tk tv : TE} (calm : X.calm = true) (nd : X.N.Nodup) (at_ : X.N[i]? = some y) (isl : X.env.scope.names.lookup y = some .local) (used : swapsWith (.DictComp ke ve [⟨te, ie, ifs, 0⟩] scope p1) (some (.Name y py)) p2.line X.env = pure true)
    (hi : PI X te ie wi) (blk : BlkOk X.N X.env.scope scope own) (a1 : InBlk X scope fun Y => PG Y te g) (a2 : InBlk X scope fun Y => PTs Y ifs tt) (a3 : InBlk X scope fun Y => PE Y ke tk) (a4 : InBlk X scope fun Y => PE Y ve tv) (fi : ∀ x, foldedSetIterable ie X.env x = pure x := by intro _; rfl) : PS X (.Assign [.Name y py] (.DictComp ke ve [⟨te, ie, ifs, 0⟩] scope p1) p2) (tAsg (tDc wi g tt tk tv (own.map (·.2))) (gName i)) := ⟨fun pins s σ H D I h => by
  rw [exec_Assign_Name_used _ _ _ _ used]; refine wpAny_bind (wpAny_standAt (wpAny_bind ?_)); show wpAny _ X.A (do let _ ← comprehension (.DictComp ke ve [⟨te, ie, ifs, 0⟩] scope p1) scope X.env (firstIterPos [⟨te, ie, ifs, 0⟩] p1) newDict false (eval ie X.env) (some (assign (.Name y py) X.env))) _ _ s
  have h' : tDc wi g tt tk tv (own.map (·.2)) σ H (fun x H1 => gName i x σ H1 D.nx) := h
  refine wpAny_bind (thn (dc_core (Qf := fun _ z => SP X pins D .next z) calm nd I hi blk a1 a2 a3 a4 fi h' fun L C z m H' I' q ns fo => ?_) fun _ _ hq => wpAny_pure (wpAny_pure hq)); show wpAny _ _ (assign (.Name y py) X.env (.ref L)) _ _ _
  refine wpAny_assign_Name (store_ok2 (v := V.ref L) I' nd at_ (.inl isl) rfl (fun z2 I2 ⟨b, sb, hb⟩ => ?_) (.inr isl)); obtain ⟨e0, e1, e2, e3, e4, e5⟩ := fo
  have apart : C ≠ b := hb.elim (fun w => by rw [w]; exact e1) fun w e => e4 y b w e.symm
  exact ⟨m, ns.sameBut sb apart, fun h3 sb3 => ⟨_, H', I2.turned (t' := z2.toks) (fun c o hc e => (sb3.2 c hc).trans e) e0 e1 e3 e4 e5, q⟩⟩⟩
theorem swd_true {ke ve : Expr} {gs : List Comprehension} {scope : Scope} {p1 py : Pos} {y : Str} {l : Nat} {env : Env} (h1 : env.scope.kind = .function) (h2 : env.scope.names.lookup y = some .local) (h3 : (py.line == p1.line) = true) (h4 : (scope.names.any fun (n, k) => n == y && (k == .local || k == .cell)) = false) : swapsWith (.DictComp ke ve gs scope p1) (some (.Name y py)) l env = pure true := by
  have k1 : env.kindOf y = some .local := h2
  have k2 : env.blockKind = .function := by unfold Env.blockKind; rw [h1]; rfl
  unfold swapsWith; simp only [k2, k1, h4, Expr.pos, h3]; rfl
end LK

set_option Elab.async false
set_option linter.all false
set_option maxRecDepth 100000
set_option maxHeartbeats 4000000
/-! x.split(): the words of a text -/
namespace LK
open PySem PySem.Spec PyProof.Rows L2
theorem mt_split0 {X : Cx} : MtR X "str.split" (fun x xs H Q => ∃ z, x = .str z ∧ xs = [] ∧ z.length + 2 ≤ sizeLine ∧ rNewStrs (Txt.words z) H Q) := by
  intro pins s σ H x xs v us Q I ex es hyp
  obtain ⟨z, rfl, rfl, lim, next⟩ := hyp
  obtain ⟨tok, rfl⟩ := ex
  cases es
  have few : (Txt.words z).length ≤ sizeLine := Nat.le_trans (words_le z) (by omega)
  have few2 : (Builtin.Str.spaceWords z (z.length + 1)).length ≤ sizeLine := by
    have w1 := (StrLaws.sw_weight z).1
    have w2 := StrLaws.len_le_wsum (Builtin.Str.spaceWords z (z.length + 1))
    omega
  refine call_meets F.slot_str_split (typeIs_str _ _ _) F.entry_str_split (F.args_str_split_1 _) (meets_str_split_space z tok (by omega) few2) ?_
  cases hb : Builtin.Str.spaceWords z (z.length + 1) == [(0, z.length)]
  · simp only [Bool.false_eq_true, if_false]
    rw [strsFrom_eq]
    exact laid_strs (ys := Txt.words z) I ((numbered_texts _ _).trans (if_neg (ne_true_of_eq_false hb)).symm) few next
  · simp only [if_true]
    exact laid_strs (l := [(z, tok)]) (ys := Txt.words z) (k := s.toks) I (if_pos hb).symm few next
end LK

set_option Elab.async false
set_option linter.all false
set_option maxRecDepth 100000
set_option maxHeartbeats 4000000
/-! Defs held by names and by dicts of the top: action = D[k]; action(x). The keys and the length of a dict of the top. -/
namespace LK
open PySem PySem.Spec PyProof.Rows L2
/-! ### a def that a local holds -/
def tCallV (X : Cx) (k : Nat) (i : Nat) (t : TA) : TE := fun σ H Q => ∃ (f : Addr) (fd : FuncData) (ps : List Str) (sp : Sp), σ[i]? = some (some (.ref f)) ∧ FnG X.prog X.w X.K X.mg X.base CX0 k f fd ps sp ∧ PySem.W.keepIn X.K (.ref f) = true ∧ Binds X.K fd ps [] ∧
  t σ H fun vs H1 => sp vs H1 Q E0
section
variable {X : Cx} {k i : Nat} {x : Str} {p pos : Pos} {e : Expr} {es : List Expr} {t : TA}
theorem pe_callV (hv : PE X (.Name x p) (tVar i)) (hr : Room k X.A) (gd : X.A.guards = some []) (ha : PA X (e :: es) t)
    (he : starEach (e :: es) X.env = (false, eval e X.env) :: starEach es X.env := by rfl) (hpl : (backTo pos (starEach es X.env)).any (·.1) = false := by rfl) : PE X (.Call (.Name x p) (e :: es) [] pos) (tCallV X k i t) := by
  refine ⟨fun pins s σ H Q I ⟨f, fd, ps, sp, eσ, F, kp, hb, h⟩ => ?_⟩
  refine wpAny_Call_Name_kw (thn (hv.run pins s σ H (fun v H' => v = V.ref f ∧ H' = H) I ⟨_, eσ, rfl, rfl⟩) fun u s1 ⟨v, H', I1, rv, ev, eH⟩ => ?_)
  subst ev eH
  obtain rfl : u = Value.ref f := rv
  exact PySem.W.callWith_K (h₀ := X.base) I1.ok.mod.kin kp (thn (ha.run pos pins s1 σ _ _ I1 h) fun us s2 ⟨vs, H2, I2, r, q⟩ => ⟨I2.kIn, run_fnG F hr gd hb pass0 I2 r q⟩) he hpl
end
/-! ### defs by name and place -/
def HasFnA (K : PySem.W.Frag) (x : Str) (st : Stmt) (f : Addr) : Prop := ∃ (oc : Value) (od an : Option Addr) (kV doc pm cdv ct : Value) (osl : Array (Option Value)),
  PySem.W.nsIn K mainGlobals x = some (some (.ref f)) ∧ K.lookup f = some ⟨oc, od, .func (PySem.W.fnOf x x (defArgs st) (defBody st) (defScope st) .none kV doc pm an cdv ct), osl⟩ ∧
  PySem.W.codeIn K cdv x = true ∧ PySem.W.keepIn K (.ref f) = true
theorem HasFnA.mk' {K : PySem.W.Frag} {x : Str} {st : Stmt} {f : Addr} {oc : Value} {od an : Option Addr} {kV doc pm cdv ct : Value} {osl : Array (Option Value)} (a : PySem.W.nsIn K mainGlobals x = some (some (.ref f)))
    (b : K.lookup f = some ⟨oc, od, .func (PySem.W.fnOf x x (defArgs st) (defBody st) (defScope st) .none kV doc pm an cdv ct), osl⟩) (c : PySem.W.codeIn K cdv x = true) (d : PySem.W.keepIn K (.ref f) = true) : HasFnA K x st f := ⟨oc, od, an, kV, doc, pm, cdv, ct, osl, a, b, c, d⟩
theorem HasFnA.fn {K : PySem.W.Frag} {x : Str} {st : Stmt} {f : Addr} (h : HasFnA K x st f) : HasFn K x st := by
  obtain ⟨oc, od, an, kV, doc, pm, cdv, ct, osl, a, b, c, d⟩ := h
  exact ⟨f, oc, od, an, kV, doc, pm, cdv, ct, osl, a, b, c, d⟩
structure UseA (P : Program) (w : World) (K : PySem.W.Frag) (mg : Str → Option Value) (base : Heap) (x : Str) (k : Nat) (ps : List Str) (sp : Sp) (f : Addr) : Prop where
  ex : ∃ fd : FuncData, FnG P w K mg base CX0 k f fd ps sp ∧ mg x = some (.ref f) ∧ PySem.W.keepIn K (.ref f) = true ∧ Binds K fd ps []
section
variable {P : Program} {w : World} {K : PySem.W.Frag} {mg : Str → Option Value} {base h : Heap}
theorem UseA.use {x : Str} {k : Nat} {ps : List Str} {sp : Sp} {f : Addr} (U : UseA P w K mg base x k ps sp f) : Use P w K mg base CX0 x k ps sp := by
  obtain ⟨fd, r⟩ := U.ex
  exact ⟨f, fd, r⟩
theorem mk_useA {x : Str} {st : Stmt} {k : Nat} {ps : List Str} {sp : Sp} {f : Addr} (F : HasFnA K x st f) (X : K.In h) (G : h.Ns mainGlobals mg)
    (hb : ∀ (kV doc pm : Value) (an : Option Addr) (cdv ct : Value) (us : List Value), us.length = ps.length → bindArgs (PySem.W.fnOf x x (defArgs st) (defBody st) (defScope st) .none kV doc pm an cdv ct) ⟨us, []⟩ = pure (ps.zip us))
    (ok : ∀ (f : Addr) (fd : FuncData), Fun K x x st f fd → FnG P w K mg base CX0 k f fd ps sp) : UseA P w K mg base x k ps sp f := by
  obtain ⟨oc, od, an, kV, doc, pm, cdv, ct, osl, e, l, c, kp⟩ := F
  have Fn := fun_mk (st := st) l c kp
  exact ⟨_, ok f _ Fn, PySem.W.mg_of X G e, kp, Fn.binds hb⟩
end
/-! ### a dict of the top whose values are defs -/
inductive FEnt (w : World) : List DictEntry → List (Str × Addr) → Prop
  | nil : FEnt w [] []
  | cons {e : DictEntry} {es : List DictEntry} {k : Str} {v : Addr} {ps : List (Str × Addr)} {t : Tok} : e.key = .str k t → e.hash = hashStr w k → e.val = .ref v → FEnt w es ps → FEnt w (e :: es) ((k, v) :: ps)
def fnKV (ps : List (Str × Addr)) : List (Key × V) := ps.map fun p => (.inr p.1, .ref p.2)
theorem FEnt.pairs {P : Program} {w : World} : ∀ {es : List DictEntry} {ps : List (Str × Addr)}, FEnt w es ps → ∃ vs : List (Key × Value), KV (fnKV ps) vs ∧ PySem.Pairs (mixKind P w) es vs ∧ vs.map (·.1) = ps.map (fun p => (Sum.inr p.1 : Key)) ∧ ∀ e ∈ es, ∃ k, (mixKind P w).is k e.key = true ∧ e.hash = (mixKind P w).hash k
  | _, _, .nil => ⟨[], .nil, .nil, rfl, fun _ h => by cases h⟩
  | _, _, .cons (k := k) (v := v) (t := t) hk hh hv r => by
    obtain ⟨vs, a, b, c, d⟩ := FEnt.pairs (P := P) r
    refine ⟨(.inr k, .ref v) :: vs, .cons ⟨rfl, rfl⟩ a, .cons (by rw [hk]; exact mixKind_str P w k t) hv b, by rw [List.map_cons, c]; rfl, fun e he => ?_⟩
    rcases List.mem_cons.mp he with rfl | he
    · exact ⟨.inr k, by rw [hk]; exact mixKind_str P w k t, hh⟩
    · exact d e he
theorem HasDct.mkF {P : Program} {w : World} {K : PySem.W.Frag} {x : Str} {ps : List (Str × Addr)} {a : Addr} {es : Array DictEntry} {ep : Nat} (h : PySem.W.nsIn K mainGlobals x = some (some (.ref a)))
    (b : K.lookup a = some { cls := .type "dict", data := .dict es ep }) (hs : (a == sysModules) = false) (c : FEnt w es.toList ps) (nd : (ps.map (·.1)).Nodup) : HasDct P w K x (fnKV ps) := by
  obtain ⟨vs, v1, v2, v3, v4⟩ := FEnt.pairs (P := P) c
  refine ⟨a, h, hs, vs, v1, fun hh hK => ⟨_, es, ep, hK a _ b, ⟨rfl, rfl, rfl⟩, rfl, fun e he => v4 e (Array.mem_toList_iff.mpr he), v2, ?_⟩⟩
  rw [v3]
  have : ps.map (fun p => (Sum.inr p.1 : Key)) = (ps.map (·.1)).map Sum.inr := by rw [List.map_map]; rfl
  rw [this]
  exact nodup_inr nd
/-! ### list(D), len(D) -/
def rListK (P : Program) (w : World) (K : PySem.W.Frag) : List V → Hp → VK → Prop := fun xs H Q => ∃ p kvs, xs = [.ref p] ∧ KDct P w K p kvs ∧ kvs.length ≤ 1000 ∧ ∀ q, H q = none → Q (.ref q) (upd H q (.lst (kvs.map fun kv => kV kv.1)))
theorem call_listK {X : Cx} (hc : X.calm = true) : CallR X (.type "list") (rListK X.prog X.w X.K) := by
  intro pins s σ H xs us Q I r h
  obtain ⟨p, kvs, rfl, ⟨hsys, vs, rel, dd⟩, hz, q⟩ := h
  obtain ⟨u, rfl, rx⟩ := vals1 r
  obtain rfl : u = Value.ref p := rx
  obtain ⟨ep, hat⟩ := (dd _ I.kIn).dictAt
  have hl : kvs.length = vs.length := Paired.length rel
  have hz2 : vs.length ≤ sizeLine := by rw [← hl]; exact Nat.le_trans hz (by decide)
  refine PySem.W.kdl_call (PySem.W.kdl_dict (knd := mixKind X.prog X.w) (kvs := vs) (ep := ep) hsys) (I.ok.hd hc) hat hz2 fun h2 tk acc c kk hS it => ?_
  have ok : ObjOk X.prog X.w (upd H s.heap.objs.size (.lst (kvs.map fun kv => kV kv.1))) h2 s.heap.objs.size (.lst (kvs.map fun kv => kV kv.1)) := by
    refine ⟨by rw [List.length_map, hl]; exact hz2, acc.toList, c, ?_, by rw [Array.toArray_toList]; exact hS⟩
    have el : acc.toList.length = acc.size := by simp
    refine vals_of_at (by rw [List.length_map, el, it.1, hl]) fun j x y h1 h2 => ?_
    obtain ⟨k, z, hkz, hi⟩ := it.2 j y (by rw [← Array.getElem?_toList]; exact h2)
    have e1 : (kvs.map (·.1))[j]? = some k := by
      rw [KV.keys rel, List.getElem?_map, hkz]
      rfl
    have e3 : (kvs.map fun kv => kV kv.1) = (kvs.map (·.1)).map kV := by rw [List.map_map]; rfl
    rw [e3, List.getElem?_map, e1] at h1
    cases h1
    exact keyIs_rel hi
  exact ⟨.ref s.heap.objs.size, _, I.laid kk (Nat.le_refl _) ok, rfl, q _ (I.hok.fresh (Nat.le_refl _))⟩
theorem call_lenDK {X : Cx} : CallR X (.builtin "len") (fun xs H Q => ∃ p kvs, xs = [V.ref p] ∧ KDct X.prog X.w X.K p kvs ∧ kvs.length ≤ 1000 ∧ Q (.int (kvs.length : Nat)) H) := by
  intro pins s σ H xs us Q I r h
  obtain ⟨p, kvs, rfl, ⟨hsys, vs, rel, dd⟩, hz, q⟩ := h
  obtain ⟨u, rfl, rx⟩ := vals1 r
  obtain rfl : u = Value.ref p := rx
  have hl : kvs.length = vs.length := Paired.length rel
  refine call_len_dict hsys (dd _ I.kIn) (by rw [← hl]; omega) ?_
  exact ⟨.int (kvs.length : Nat), H, I.tok _, ⟨_, by rw [hl]⟩, q⟩
end LK

set_option Elab.async false
set_option linter.all false
set_option maxRecDepth 100000
set_option maxHeartbeats 4000000
/-! for k in D, D a dict of the top; dicts of the top whose values are tuples of the top -/
namespace LK
open PySem PySem.Spec PyProof.Rows L2
/-- a dict of the top, its object written out -/
def KDctI (P : Program) (w : World) (K : PySem.W.Frag) (a : Addr) (kvs : List (Key × V)) : Prop := KDct P w K a kvs ∧ ∃ (es : Array DictEntry) (ep : Nat), K.lookup a = some { cls := .type "dict", data := .dict es ep }
def HasDctI (P : Program) (w : World) (K : PySem.W.Frag) (x : Str) (kvs : List (Key × V)) : Prop := ∃ a, PySem.W.nsIn K mainGlobals x = some (some (.ref a)) ∧ KDctI P w K a kvs
structure UseI (P : Program) (w : World) (K : PySem.W.Frag) (mg : Str → Option Value) (x : Str) (kvs : List (Key × V)) : Prop where
  ex : ∃ a, mg x = some (.ref a) ∧ KDctI P w K a kvs
theorem HasDctI.g {P : Program} {w : World} {K : PySem.W.Frag} {mg : Str → Option Value} {h : Heap} {x : Str} {kvs : List (Key × V)} (D : HasDctI P w K x kvs) (X : K.In h) (G : h.Ns mainGlobals mg) : UseI P w K mg x kvs := by
  obtain ⟨a, e, k⟩ := D
  exact ⟨a, PySem.W.mg_of X G e, k⟩
theorem HasDct.i {P : Program} {w : World} {K : PySem.W.Frag} {x : Str} {kvs : List (Key × V)} {a : Addr} {es : Array DictEntry} {ep : Nat} (D : HasDct P w K x kvs) (h : PySem.W.nsIn K mainGlobals x = some (some (.ref a)))
    (b : K.lookup a = some { cls := .type "dict", data := .dict es ep }) : HasDctI P w K x kvs := by
  obtain ⟨a', e, k⟩ := D
  rw [h] at e
  cases e
  exact ⟨a, h, k, es, ep, b⟩
/-- the keys of the dict of the top at a -/
def ItkK (a : Addr) (kvs : List (Key × V)) : It :=
  ⟨fun i _ => i < kvs.length, fun i H x H' => H' = H ∧ ∃ k v, kvs[i]? = some (k, v) ∧ x = kV k, fun i _ => kvs.length ≤ i⟩
theorem KDctI.at {P : Program} {w : World} {K : PySem.W.Frag} {a : Addr} {kvs : List (Key × V)} (D : KDctI P w K a kvs) : ∃ (es : Array DictEntry) (ep : Nat) (vs : List (Key × Value)), (a == sysModules) = false ∧ KV kvs vs ∧
    ∀ h : Heap, K.In h → es.size = kvs.length ∧ h.get? a = some { cls := .type "dict", data := .dict es ep } ∧ h.DictAt (mixKind P w) a vs ep := by
  obtain ⟨⟨hs, vs, rel, dd⟩, es, ep, lk⟩ := D
  refine ⟨es, ep, vs, hs, rel, fun h hK => ?_⟩
  obtain ⟨o, es', ep', ho, hx, hd, r⟩ := dd h hK
  have e := hK a _ lk
  rw [ho] at e
  cases e
  cases hd
  have l1 := r.2.1.length
  have l2 : kvs.length = vs.length := Paired.length rel
  rw [Array.length_toList] at l1
  exact ⟨by omega, ho, _, _, ho, hx, rfl, r⟩
section
variable {P : Program} {w : World} {K : PySem.W.Frag} {tg : Expr} {a : Addr} {es : Array DictEntry} {ep : Nat} {kvs : List (Key × V)} {vs : List (Key × Value)}
theorem turn_keysK (it : Addr) (kv : KV kvs vs) (at_ : ∀ h : Heap, K.In h → es.size = kvs.length ∧ h.get? a = some { cls := .type "dict", data := .dict es ep } ∧ h.DictAt (mixKind P w) a vs ep) :
    Turn P w K tg (ItkK a kvs) [it] it (fun i h => h.IsKeyIter it a i kvs.length ep) where
  mem := by simp
  obj := fun i h st b hb => by
    have e : b = it := by simpa using hb
    subst e
    obtain ⟨oi, e, c, dd⟩ := st
    exact ⟨oi, e, fun v z => by rw [dd] at z; cases z⟩
  keep := fun i h h' st k => st.at fun oi e => k it (by simp) oi e
  item := by
    intro X hP hw hK hc i pins s σ H E I hf st hg
    subst hP hw hK
    obtain ⟨f0, f1, f2, f3, f4, f5⟩ := hf it (by simp)
    obtain ⟨hsz, hgd, hm⟩ := at_ _ I.kIn
    obtain ⟨⟨k, v⟩, hkv⟩ : ∃ p, kvs[i]? = some p := ⟨kvs[i], List.getElem?_eq_getElem hg⟩
    obtain ⟨u, hu, ru⟩ := kv_get kv hkv
    have hl : kvs.length = vs.length := Paired.length kv
    rw [hl] at st
    refine wpAny_pyNext_dict_item st hm hu fun key h' hkey st' sb => ?_
    have I1 : Inv X pins σ H { s with heap := h' } := I.turned (t' := s.toks) (fun b ob hb e => (sb.2 b hb).trans e) f0 f1 f3 f4 f5
    obtain ⟨oi, e, c, dd⟩ := id st'
    refine ⟨key, rfl, go_of (s := { s with heap := h' }) e c dd (by decide) ⟨kV k, H, I1, relV_key (show keyIs k key = true from hkey), ⟨rfl, k, v, hkv, rfl⟩, ?_, fun b hb => (hf b hb).1⟩⟩
    show h'.IsKeyIter it a (i + 1) kvs.length _
    rw [hl]
    exact st'
  done := by
    intro X hP hw hK hc i pins s σ H E I hf st hg
    subst hP hw hK
    obtain ⟨f0, f1, f2, f3, f4, f5⟩ := hf it (by simp)
    obtain ⟨hsz, hgd, hm⟩ := at_ _ I.kIn
    exact next_key_end (I.ok.hd hc) st hgd rfl hsz hg fun h' eb => ⟨rfl, I.turned (t' := s.toks) (fun b ob hb e => eb b ob hb e) f0 f1 f3 f4 f5⟩
  self := fun A i s Q E st h => wpAny_pyIter_keyiter st h
end
def iKeysK (P : Program) (w : World) (K : PySem.W.Frag) (td : TE) : TI := fun σ H R => td σ H fun x H1 => ∃ a kvs, x = .ref a ∧ KDctI P w K a kvs ∧ R (ItkK a kvs) H1
theorem pi_keysK {X : Cx} {tg e : Expr} {td : TE} (he : PE X e td) : PI X tg e (iKeysK X.prog X.w X.K td) := by
  refine ⟨fun pins s σ H R I h => ?_⟩
  refine thn (he.run pins s σ H _ I h) fun u s1 ⟨x, H1, I1, rx, a, kvs, ex, D, q⟩ => ?_
  subst ex
  obtain rfl : u = Value.ref a := rx
  obtain ⟨es, ep, vs, hs, kv, at_⟩ := D.at
  obtain ⟨hsz, hgd, hm⟩ := at_ _ I1.kIn
  refine iter_keys hs hgd ⟨rfl, rfl, rfl⟩ rfl (pi_one (tk := s1.toks) I1 _ (turn_keysK _ kv at_) ⟨_, Heap.get?_push_size _ rfl, rfl, ?_⟩ q)
  rw [hsz] <;> rfl
theorem walk_keysK {a : Addr} {kvs : List (Key × V)} : Walk (ItkK a kvs) kvs.length (fun _ => True) (fun i H x H' => H' = H ∧ ∃ k v, kvs[i]? = some (k, v) ∧ x = kV k) :=
  ⟨fun _ _ hi _ => hi, fun _ _ => Nat.le_refl _, fun _ _ _ _ _ _ y => y⟩
/-! ### dicts of the top whose values are tuples of the top -/
inductive TEnt (w : World) (K : PySem.W.Frag) : List DictEntry → List (Str × List V) → List (Str × Addr) → Prop
  | nil : TEnt w K [] [] []
  | cons {e : DictEntry} {es : List DictEntry} {k : Str} {a : Addr} {xs : List V} {ps : List (Str × List V)} {qs : List (Str × Addr)} {t : Tok} {od : Option Addr} {its : Array Value} {n : Nat} {sl : Array (Option Value)} :
      e.key = .str k t → e.hash = hashStr w k → e.val = .ref a → K.lookup a = some ⟨.type "tuple", od, .seq its n, sl⟩ → its.size ≤ sizeLine → Vals xs its.toList → TEnt w K es ps qs → TEnt w K (e :: es) ((k, xs) :: ps) ((k, a) :: qs)
theorem TEnt.f {w : World} {K : PySem.W.Frag} : ∀ {es : List DictEntry} {ps : List (Str × List V)} {qs : List (Str × Addr)}, TEnt w K es ps qs → FEnt w es qs ∧ ps.map (·.1) = qs.map (·.1) ∧ Paired (fun q p => KTup K q.2 p.2) qs ps
  | _, _, _, .nil => ⟨.nil, rfl, .nil⟩
  | _, _, _, .cons h1 h2 h3 h4 h5 h6 r => by
    obtain ⟨a, b, c⟩ := r.f
    exact ⟨.cons h1 h2 h3 a, by rw [List.map_cons, List.map_cons, b], .cons ⟨_, _, _, _, h4, h5, h6⟩ c⟩
/-- the dict x of the top: each key's value is a tuple of the top -/
def HasTupD (P : Program) (w : World) (K : PySem.W.Frag) (x : Str) (ps : List (Str × List V)) : Prop := ∃ qs : List (Str × Addr), HasDctI P w K x (fnKV qs) ∧ ps.map (·.1) = qs.map (·.1) ∧ Paired (fun q p => KTup K q.2 p.2) qs ps
structure UseT (P : Program) (w : World) (K : PySem.W.Frag) (mg : Str → Option Value) (x : Str) (ps : List (Str × List V)) : Prop where
  ex : ∃ qs : List (Str × Addr), UseI P w K mg x (fnKV qs) ∧ ps.map (·.1) = qs.map (·.1) ∧ Paired (fun q p => KTup K q.2 p.2) qs ps
theorem HasTupD.g {P : Program} {w : World} {K : PySem.W.Frag} {mg : Str → Option Value} {h : Heap} {x : Str} {ps : List (Str × List V)} (D : HasTupD P w K x ps) (X : K.In h) (G : h.Ns mainGlobals mg) : UseT P w K mg x ps := by
  obtain ⟨qs, a, b, c⟩ := D
  exact ⟨qs, a.g X G, b, c⟩
theorem HasTupD.mk' {P : Program} {w : World} {K : PySem.W.Frag} {x : Str} {ps : List (Str × List V)} {qs : List (Str × Addr)} {a : Addr} {es : Array DictEntry} {ep : Nat} (h : PySem.W.nsIn K mainGlobals x = some (some (.ref a)))
    (b : K.lookup a = some { cls := .type "dict", data := .dict es ep }) (hs : (a == sysModules) = false) (c : TEnt w K es.toList ps qs) (nd : (ps.map (·.1)).Nodup) : HasTupD P w K x ps := by
  obtain ⟨c1, c2, c3⟩ := c.f
  exact ⟨qs, (HasDct.mkF (P := P) h b hs c1 (c2 ▸ nd)).i h b, c2, c3⟩
end LK
namespace LK
open PySem PySem.Spec PyProof.Rows L2
/-! a name of the top that is bound to a def of another name -/
def HasFnN (K : PySem.W.Frag) (x y : Str) (st : Stmt) : Prop := ∃ (f : Addr) (oc : Value) (od an : Option Addr) (kV doc pm cdv ct : Value) (osl : Array (Option Value)),
  PySem.W.nsIn K mainGlobals x = some (some (.ref f)) ∧ K.lookup f = some ⟨oc, od, .func (PySem.W.fnOf y y (defArgs st) (defBody st) (defScope st) .none kV doc pm an cdv ct), osl⟩ ∧
  PySem.W.codeIn K cdv y = true ∧ PySem.W.keepIn K (.ref f) = true
theorem HasFnN.mk' {K : PySem.W.Frag} {x y : Str} {st : Stmt} {f : Addr} {oc : Value} {od an : Option Addr} {kV doc pm cdv ct : Value} {osl : Array (Option Value)} (a : PySem.W.nsIn K mainGlobals x = some (some (.ref f)))
    (b : K.lookup f = some ⟨oc, od, .func (PySem.W.fnOf y y (defArgs st) (defBody st) (defScope st) .none kV doc pm an cdv ct), osl⟩) (c : PySem.W.codeIn K cdv y = true) (d : PySem.W.keepIn K (.ref f) = true) : HasFnN K x y st :=
  ⟨f, oc, od, an, kV, doc, pm, cdv, ct, osl, a, b, c, d⟩
theorem HasFn.n {K : PySem.W.Frag} {x : Str} {st : Stmt} (F : HasFn K x st) : HasFnN K x x st := F
section
variable {P : Program} {w : World} {K : PySem.W.Frag} {mg : Str → Option Value} {base h : Heap} {CX : CXT}
theorem mk_useY {x y : Str} {st : Stmt} {k : Nat} {ps : List Str} {sp : Sp} (F : HasFnN K x y st) (X : K.In h) (G : h.Ns mainGlobals mg)
    (hb : ∀ (kV doc pm : Value) (an : Option Addr) (cdv ct : Value) (us : List Value), us.length = ps.length → bindArgs (PySem.W.fnOf y y (defArgs st) (defBody st) (defScope st) .none kV doc pm an cdv ct) ⟨us, []⟩ = pure (ps.zip us))
    (ok : ∀ (f : Addr) (fd : FuncData), Fun K y y st f fd → FnG P w K mg base CX k f fd ps sp) : Use P w K mg base CX x k ps sp := by
  obtain ⟨f, oc, od, an, kV, doc, pm, cdv, ct, osl, e, l, c, kp⟩ := F
  have Fn := fun_mk (st := st) l c kp
  exact ⟨f, _, ok f _ Fn, PySem.W.mg_of X G e, kp, Fn.binds hb⟩
/-- defs that call one another: a promise by depth; at each depth all of them, from the depth before -/
theorem mk_useG {x y : Str} {st : Stmt} {ps : List Str} (sp : Nat → Sp) (k0 kn : Nat) (F : HasFnN K x y st) (X : K.In h) (G : h.Ns mainGlobals mg)
    (hb : ∀ (kV doc pm : Value) (an : Option Addr) (cdv ct : Value) (us : List Value), us.length = ps.length → bindArgs (PySem.W.fnOf y y (defArgs st) (defBody st) (defScope st) .none kV doc pm an cdv ct) ⟨us, []⟩ = pure (ps.zip us))
    (h0 : ∀ vs H Q E, ¬ sp 0 vs H Q E)
    (ok : ∀ (n : Nat), Use P w K mg base CX x (k0 + kn * n) ps (sp n) → ∀ (f : Addr) (fd : FuncData), Fun K y y st f fd → FnG P w K mg base CX (k0 + kn * (n + 1)) f fd ps (sp (n + 1))) : ∀ n, Use P w K mg base CX x (k0 + kn * n) ps (sp n)
  | 0 => by
    obtain ⟨f, oc, od, an, kV, doc, pm, cdv, ct, osl, e, l, c, kp⟩ := F
    have Fn := fun_mk (st := st) l c kp
    exact ⟨f, _, ⟨fun vs H Q E s => absurd s (h0 vs H Q E), fun _ _ _ _ _ _ vs Q E _ _ _ _ _ s => absurd s (h0 _ _ _ _)⟩, PySem.W.mg_of X G e, kp, Fn.binds hb⟩
  | n + 1 => mk_useY F X G hb (ok n (mk_useG sp k0 kn F X G hb h0 ok n))
end
end LK
namespace LK
open PySem PySem.Spec PyProof.Rows L2
/-! a nested tuple of the top, as data -/
def HasDat (K : PySem.W.Frag) (x : Str) (d : PyData) : Prop := ∃ a, PySem.W.nsIn K mainGlobals x = some (some (.ref a)) ∧ ∀ H, Dt K H (.ref a) d
def GDat (K : PySem.W.Frag) (mg : Str → Option Value) (x : Str) (d : PyData) : Prop := ∃ a, mg x = some (.ref a) ∧ ∀ H, Dt K H (.ref a) d
theorem HasDat.g {K : PySem.W.Frag} {mg : Str → Option Value} {h : Heap} {x : Str} {d : PyData} (i : HasDat K x d) (X : K.In h) (G : h.Ns mainGlobals mg) : GDat K mg x d := by
  obtain ⟨a, e, r⟩ := i
  exact ⟨a, PySem.W.mg_of X G e, r⟩
theorem KTup.dt {K : PySem.W.Frag} {a : Addr} {xs : List V} {ds : List PyData} (h : KTup K a xs) (H : Hp) (d : DtAll K H xs ds) : Dt K H (.ref a) (.tuple ds) := .tup (h.sq H) d
theorem HasDat.mk2 {K : PySem.W.Frag} {x s z : Str} {a b : Addr} {od od2 : Option Addr} {its its2 : Array Value} {n n2 : Nat} {sl sl2 : Array (Option Value)} (h : PySem.W.nsIn K mainGlobals x = some (some (.ref a)))
    (h1 : K.lookup a = some ⟨.type "tuple", od, .seq its n, sl⟩) (z1 : its.size ≤ sizeLine) (v1 : Vals [.str s, .ref b] its.toList) (h2 : K.lookup b = some ⟨.type "tuple", od2, .seq its2 n2, sl2⟩) (z2 : its2.size ≤ sizeLine) (v2 : Vals [.str z] its2.toList) :
    HasDat K x (.tuple [.str s, .tuple [.str z]]) :=
  ⟨a, h, fun H => KTup.dt ⟨_, _, _, _, h1, z1, v1⟩ H (.cons (.str _) (.cons (KTup.dt ⟨_, _, _, _, h2, z2, v2⟩ H (.cons (.str _) .nil)) .nil))⟩
def tGD (K : PySem.W.Frag) (d : PyData) : TE := fun _ H Q => ∀ v, (∀ H, Dt K H v d) → Q v H
theorem pe_globD {X : Cx} {x : Str} {pos : Pos} {d : PyData} (h : GDat X.K X.mg x d) (hg : Gl X x) (hd : (x == ("__debug__" : Str)) = false := by decide) : PE X (.Name x pos) (tGD X.K d) := by
  obtain ⟨a, e, r⟩ := h
  exact ⟨fun pins s σ H Q I q => (pe_glob (v := .ref a) hg e rfl hd).run pins s σ H Q I (q (.ref a) r)⟩
end LK

set_option linter.all false
namespace LK
section
open PySem PySem.Spec PyProof.Rows L2
theorem FnG.up {P : Program} {w : World} {K : PySem.W.Frag} {mg : Str → Option Value} {base : Heap} {CX : CXT} {k k' : Nat} {f : Addr} {fd : FuncData} {ps : List Str} {sp : Sp} (F : FnG P w K mg base CX k f fd ps sp) (h : k ≤ k') : FnG P w K mg base CX k' f fd ps sp :=
  ⟨F.len, fun A outer s H args us vs Q E hr => F.run A outer s H args us vs Q E (hr.mono h)⟩
theorem Use.up {P : Program} {w : World} {K : PySem.W.Frag} {mg : Str → Option Value} {base : Heap} {CX : CXT} {k k' : Nat} {x : Str} {ps : List Str} {sp : Sp} (U : Use P w K mg base CX x k ps sp) (h : k ≤ k') : Use P w K mg base CX x k' ps sp := by
  obtain ⟨f, fd, F, r⟩ := U.ex
  exact ⟨f, fd, F.up h, r⟩
theorem HasDctI.mkF' {P : Program} {w : World} {K : PySem.W.Frag} {x : Str} {qs : List (Str × Addr)} {a : Addr} {es : Array DictEntry} {ep : Nat} (h : PySem.W.nsIn K mainGlobals x = some (some (.ref a)))
    (b : K.lookup a = some { cls := .type "dict", data := .dict es ep }) (hs : (a == sysModules) = false) (c : FEnt w es.toList qs) (nd : (qs.map (·.1)).Nodup) : HasDctI P w K x (fnKV qs) :=
  (HasDct.mkF (P := P) h b hs c nd).i h b
end
end LK


set_option Elab.async false
set_option linter.all false
set_option maxRecDepth 100000
set_option maxHeartbeats 4000000
set_option exponentiation.threshold 3000
namespace K89
open PySem PySem.Spec PyProof.Rows LK NdefX SupX SX
open L2 hiding spCell
def top (i : Nat) : Stmt := PySem.Challenge.pw_pyhold_k89_what_goes_out.main.body.getD i (.Pass ⟨0, 0, 0, 0⟩)
structure Txt (K : PySem.W.Frag) (mg : Str → Option Value) : Prop where
  c_MOST_ENTRIES : GInt mg "MOST_ENTRIES" 1000
  c_MOST_LEVELS : GInt mg "MOST_LEVELS" 6
  c_MOST_SIZE : GInt mg "MOST_SIZE" 1000
  c_INTEGER_END : GInt mg "INTEGER_END" (2 ^ 256)
  c_CHARACTERS : GStr mg "CHARACTERS" chStr
  b_len : mg "len" = none
  b_int : mg "int" = none
  b_range : mg "range" = none
  b_list : mg "list" = none
  b_tuple : mg "tuple" = none
  b_str : mg "str" = none
  b_isinstance : mg "isinstance" = none
  b_all : mg "all" = none
  b_abs : mg "abs" = none
  b_bool : mg "bool" = none
  b_dict : mg "dict" = none
abbrev s_law_cell : Stmt := top 18
abbrev N_law_cell : List Str := ["script", "k"]
abbrev P_law_cell : List Str := ["script", "k"]
theorem sc_law_cell : FnScope N_law_cell P_law_cell (defScope s_law_cell) := ⟨rfl, rfl, rfl, by decide +kernel, rfl, by decide +kernel, by decide +kernel⟩
abbrev s_law_digits : Stmt := top 22
abbrev N_law_digits : List Str := ["script", "first", "last", "digits", "k", "cell", "turn", "seed"]
abbrev P_law_digits : List Str := ["script", "first", "last"]
theorem sc_law_digits : FnScope N_law_digits P_law_digits (defScope s_law_digits) := ⟨rfl, rfl, rfl, by decide +kernel, rfl, by decide +kernel, by decide +kernel⟩
abbrev s_law_draw : Stmt := top 23
abbrev N_law_draw : List Str := ["box", "many", "at"]
abbrev P_law_draw : List Str := ["box", "many"]
theorem sc_law_draw : FnScope N_law_draw P_law_draw (defScope s_law_draw) := ⟨rfl, rfl, rfl, by decide +kernel, rfl, by decide +kernel, by decide +kernel⟩
section
variable {P : Program} {w : World} {K : PySem.W.Frag} {mg : Str → Option Value} {base : Heap}
theorem ok_draw {f : Addr} {fd : FuncData} (F : Fun K "_law_draw" "_law_draw" s_law_draw f fd) (T : Txt K mg) : FnG P w K mg base CX0 1 f fd P_law_draw (spDraw K) := by
  refine okG0 F sc_law_draw (fun vs H Q E h => ?_) fun cdv A outer s H vs Q E hr hg h => ?_
  · obtain ⟨p, dl, m, rfl, _⟩ := h
    rfl
  · obtain ⟨p, dl, m, rfl, B, hm, k⟩ := h
    obtain ⟨ds, n, hp, hn, hd, hl, hds⟩ := id B
    refine ⟨_, (pss_cons (ps_set (i := 2) sc_law_draw.nd rfl (Or.inl rfl) (pe_ix ix_list (pv 0) pe_int (fun _ _ => rfl)))
  (pss_cons (ps_asg (pe_op op_add (pv 2) pe_int) (pg_sub (pv 0) pe_int set_list))
  (pss_cons (ps_if (pt_cmpR op_lt (pv 2) (pe_callB call_len (by rfl) T.b_len PySem.boot_len (pa_cons (pe_ix ix_list (pv 0) pe_int (fun _ _ => rfl)) pa_nil)) (nomark _))
   (pss_one (ps_ret (pe_op op_mod (pe_callTy call_int1 (by rfl) T.b_int (by decide +kernel) (pa_cons (pe_ix ix_list (pe_ix ix_list (pv 0) pe_int (fun _ _ => rfl)) (pv 2) (fun _ _ => rfl)) pa_nil)) (pv 1))))
   pss_nil)
  (pss_one (ps_ret (pe_op op_mod (pe_callTy call_int1 (by rfl) T.b_int (by decide +kernel) (pa_cons (pe_op op_add (pe_op op_mul (pv 2) pe_int) pe_int) pa_nil)) (pv 1))))))), ?_⟩
    -- at = box[1]; box[1] = at + 1
    refine ⟨_, rfl, p, _, _, _, rfl, rfl, SqL.of hp, rfl, ?_⟩
    refine ⟨_, rfl, _, _, rfl, rfl, _, rfl, p, _, _, _, rfl, rfl, hp, rfl, ?_⟩
    have npd : dl ≠ p := by
      intro e
      subst e
      rw [hp] at hd
      have e := HO.lst.inj (Option.some.inj hd)
      cases ds with
      | nil => cases e
      | cons d ds => cases (List.cons.inj e).1
    have B' : BoxAt (upd H p (.lst [.ref dl, .int (n + 1)])) p dl := ⟨ds, n + 1, upd_same, by omega, by rw [upd_ne npd]; exact hd, hl, hds⟩
    have kp : Keep p H (upd H p (.lst [.ref dl, .int (n + 1)])) := fun b o e hb => by rw [upd_ne hb]; exact e
    have hd' : upd H p (.lst [.ref dl, .int (n + 1)]) dl = some (.lst (ds.map V.int)) := by rw [upd_ne npd]; exact hd
    -- if at < len(box[0])
    refine ⟨_, rfl, _, rfl, p, _, _, _, rfl, rfl, SqL.of upd_same, rfl, _, _, rfl, .inl ⟨_, SqL.of hd', rfl⟩, ?_⟩
    refine ⟨_, _, rfl, rfl, _, rfl, ?_⟩
    refine ite2 (fun c => ?_) fun c => ?_
    · have c1 : n < (ds.length : Int) := by simpa using c
      have c2 : n.toNat < ds.length := by omega
      have mem := hds _ (List.getElem_mem c2)
      refine ⟨_, rfl, p, _, _, _, rfl, rfl, SqL.of upd_same, rfl, _, rfl, dl, _, _, .int ds[n.toNat], rfl, rfl, SqL.of hd', ?_, .inl ⟨_, rfl, ?_⟩⟩
      · have e : n = ((n.toNat : Nat) : Int) := by omega
        exact at_of e (by simp [c2])
      · refine ⟨_, rfl, _, _, rfl, rfl, hm, ?_⟩
        exact k _ _ (Int.emod_nonneg _ (by omega)) (Int.emod_lt_of_pos _ hm) B' kp
    · refine ⟨_, rfl, _, _, rfl, rfl, .inr ⟨by decide, by decide⟩, _, _, rfl, rfl, .inl ⟨_, rfl, _, rfl, _, _, rfl, rfl, hm, ?_⟩⟩
      exact k _ _ (Int.emod_nonneg _ (by omega)) (Int.emod_lt_of_pos _ hm) B' kp
theorem ok_cell {f : Addr} {fd : FuncData} (F : Fun K "_law_cell" "_law_cell" s_law_cell f fd) (T : Txt K mg) : FnG P w K mg base CX0 1 f fd P_law_cell (spCell K) := by
  refine okG0 F sc_law_cell (fun vs H Q E h => ?_) fun cdv A outer s H vs Q E hr hg h => ?_
  · obtain ⟨a, ns, i, rfl, _⟩ := h
    rfl
  · obtain ⟨a, ns, i, rfl, hs, hi, k⟩ := h
    refine ⟨_, (pss_cons (ps_if (pt_cmpR op_lt (pv 1) (pe_callB call_len (by rfl) T.b_len PySem.boot_len (pa_cons (pv 0) pa_nil)) (nomark _))
   (pss_one (ps_ret (pe_ix ix_list (pv 0) (pv 1) (fun _ _ => rfl))))
   pss_nil)
  (pss_one (ps_ret pe_int))), ?_⟩
    refine ⟨_, rfl, _, rfl, _, _, rfl, .inl ⟨_, hs, rfl⟩, _, _, rfl, rfl, _, rfl, ?_⟩
    refine ite3 (fun c => ?_) fun _ => k 0
    have c1 : i < (ns.length : Int) := by simpa using c
    have c2 : i.toNat < ns.length := by omega
    exact ⟨_, rfl, _, rfl, a, _, _, .int ns[i.toNat], rfl, rfl, hs, at_of (show i = ((i.toNat : Nat) : Int) by omega) (by simp [c2]), k _⟩
theorem ok_digits {f : Addr} {fd : FuncData} (F : Fun K "_law_digits" "_law_digits" s_law_digits f fd) (T : Txt K mg) (U_law_cell : Use P w K mg base CX0 "_law_cell" 1 P_law_cell (spCell K)) : FnG P w K mg base CX0 2 f fd P_law_digits (spDigits K) := by
  refine okG0 F sc_law_digits (fun vs H Q E h => ?_) fun cdv A outer s H vs Q E hr hg h => ?_
  · obtain ⟨a, ns, lo, hi, rfl, _⟩ := h
    rfl
  · obtain ⟨a, ns, lo, hi, rfl, hs, hlo, hhi, k⟩ := h
    refine ⟨_, (pss_cons (ps_set (i := 3) sc_law_digits.nd rfl (Or.inl rfl) (pe_lst pa_nil))
  (pss_cons (ps_for PassesOwn.never rfl (pi_range2 (by rfl) T.b_range (pa_cons (pv 1) (pa_cons (pv 2) pa_nil))) (pg_name (i := 4) sc_law_digits.nd rfl (Or.inl rfl))
   (pss_cons (ps_set (i := 5) sc_law_digits.nd rfl (Or.inl rfl) (pe_use U_law_cell (hr.mono (by decide)) hg rfl (pa_cons (pv 0) (pa_cons (pv 4) pa_nil))))
  (C8.pss_cut (ps_if (pt_cmpR op_lt (pv 5) pe_int (nomark _))
   (pss_one (ps_set (i := 5) sc_law_digits.nd rfl (Or.inl rfl) (pe_op op_sub pe_int (pe_op op_mul pe_int (pv 5)))))
   pss_nil)
  (pss_one (ps_if (pt_cmpR op_ge (pv 5) (pe_op op_pow pe_int pe_int) (nomark _))
   (pss_one (ps_for PassesOwn.never rfl (pi_range1 (by rfl) T.b_range (pa_cons pe_int pa_nil)) (pg_name (i := 6) sc_law_digits.nd rfl (Or.inl rfl))
   (pss_one (ps_if (pt_cmpR op_gt (pv 5) pe_int (nomark _))
   (pss_cons (ps_expr (pe_bm PySem.F.plainAttrs_list PySem.F.slot_list_append PySem.F.type_list_append mt_append (pv 3) (pa_cons (pe_op op_mod (pe_callTy call_int1 (by rfl) T.b_int (by decide +kernel) (pa_cons (pv 5) pa_nil)) pe_int) pa_nil)))
  (pss_one (ps_set (i := 5) sc_law_digits.nd rfl (Or.inl rfl) (pe_op op_fdiv (pv 5) pe_int))))
   pss_nil))))
   (pss_cons (ps_set (i := 7) sc_law_digits.nd rfl (Or.inl rfl) (pe_op op_mod (pe_callTy call_int1 (by rfl) T.b_int (by decide +kernel) (pa_cons (pe_op op_add (pe_op op_add (pe_op op_mul (pv 5) pe_int) (pe_op op_mul (pv 4) pe_int)) pe_int) pa_nil)) pe_int))
  (pss_one (ps_for PassesOwn.never rfl (pi_range1 (by rfl) T.b_range (pa_cons pe_int pa_nil)) (pg_name (i := 6) sc_law_digits.nd rfl (Or.inl rfl))
   (pss_cons (ps_set (i := 7) sc_law_digits.nd rfl (Or.inl rfl) (pe_op op_mod (pe_callTy call_int1 (by rfl) T.b_int (by decide +kernel) (pa_cons (pe_op op_add (pe_op op_add (pe_op op_mul (pv 7) pe_int) (pe_op op_mul pe_int (pv 6))) pe_int) pa_nil)) pe_int))
  (pss_one (ps_expr (pe_bm PySem.F.plainAttrs_list PySem.F.slot_list_append PySem.F.type_list_append mt_append (pv 3) (pa_cons (pe_op op_mod (pe_callTy call_int1 (by rfl) T.b_int (by decide +kernel) (pa_cons (pe_op op_fdiv (pv 7) pe_int) pa_nil)) pe_int) pa_nil)))))))))))))
  (pss_one (ps_ret (pv 3))))), ?_⟩
    refine ⟨by decide, fun dl nd => ?_⟩
    have sz : (4000 : Nat) < sizeLine := by decide
    -- for k in range(first, last)
    refine ⟨_, rfl, _, rfl, _, _, rfl, ⟨by omega, by omega, by omega, by omega⟩, ?_⟩
    refine for_range (lo := (lo : Int)) (n := ((hi : Int) - (lo : Int)).toNat) (fun i σ H1 => ∃ x5 x6 x7 x4, σ = [some (.ref a), some (.int lo), some (.int hi), some (.ref dl), x4, x5, x6, x7] ∧ DigAt H H1 dl (60 * i)) ?_ ?_ ?_
    · exact ⟨none, none, none, none, rfl, [], upd_same, by simp, by simp, Same.new nd⟩
    · rintro i σ H1 hi' ⟨x5, x6, x7, x4, rfl, D⟩
      have S1 : Same H H1 := let ⟨_, _, _, _, z⟩ := D; z
      -- cell = _law_cell(script, k)
      refine ⟨_, rfl, _, rfl, a, ns, _, rfl, S1.seq hs, by omega, fun cell => ?_⟩
      -- if cell < 0: cell = 1 - 2 * cell
      refine ⟨fun σ H2 => ∃ c : Int, σ = [some (.ref a), some (.int lo), some (.int hi), some (.ref dl), some (.int ((lo : Int) + i)), some (.int c), x6, x7] ∧ H2 = H1, ?_, ?_⟩
      · refine ⟨_, rfl, _, _, rfl, rfl, _, rfl, ?_⟩
        refine ite3 (fun _ => ?_) fun _ => ⟨cell, rfl, rfl⟩
        exact ⟨_, rfl, _, _, rfl, rfl, .inl ⟨by decide, by decide⟩, _, _, rfl, rfl, _, rfl, rfl⟩
      · rintro _ _ ⟨c, rfl, rfl⟩
        -- if cell >= 10 ** 18
        refine ⟨_, rfl, _, _, rfl, rfl, ⟨by decide, by decide, by decide⟩, _, _, rfl, rfl, _, rfl, ?_⟩
        refine ite3 (fun hc => ?_) fun hc => ?_
        · refine ⟨_, rfl, by decide, by decide, ?_⟩
          refine for_range (lo := 0) (n := 60) (fun j σ H1 => ∃ (c : Int) (y6 : Option V), σ = [some (.ref a), some (.int lo), some (.int hi), some (.ref dl), some (.int ((lo : Int) + i)), some (.int c), y6, x7] ∧ DigAt H H1 dl (60 * i + j)) ⟨c, x6, rfl, D⟩ ?_ ?_
          · rintro j σ H2 hj ⟨c, y6, rfl, D2⟩
            obtain ⟨ds, hd, hl, _⟩ := id D2
            refine ⟨_, rfl, _, _, rfl, rfl, _, rfl, ?_⟩
            refine ite3 (fun hp => ?_) fun _ => ⟨c, _, rfl, D2.mono (by omega)⟩
            have hp : 0 < c := by simpa using hp
            refine ⟨_, rfl, .inl ⟨rfl, _, SqL.of hd⟩, _, rfl, .inl ⟨_, rfl, _, _, rfl, rfl, (by show (0 : Int) < 1000; decide), dl, _, _, rfl, rfl, hd, (by simp; omega), ?_⟩⟩
            refine ⟨_, rfl, _, _, rfl, rfl, ⟨by decide, by decide⟩, ?_⟩
            exact ⟨_, _, rfl, D2.add hd nd (Int.emod_nonneg _ (by decide)) (Int.emod_lt_of_pos _ (by decide))⟩
          · rintro σ H2 ⟨c, y6, rfl, D2⟩
            exact ⟨_, _, _, _, rfl, D2.mono (by omega)⟩
        · refine ⟨_, rfl, _, _, rfl, rfl, .inr ⟨by decide, by decide⟩, _, rfl, _, _, rfl, rfl, .inr ⟨by decide, by decide⟩, _, _, rfl, rfl, _, _, rfl, rfl, .inl ⟨_, rfl, _, _, rfl, rfl, (by show (0 : Int) < 2147483647; decide), ?_⟩⟩
          refine ⟨_, rfl, by decide, by decide, ?_⟩
          refine for_range (lo := 0) (n := 12) (fun j σ H1 => ∃ (sd : Int) (y6 : Option V), σ = [some (.ref a), some (.int lo), some (.int hi), some (.ref dl), some (.int ((lo : Int) + i)), some (.int c), y6, some (.int sd)] ∧ DigAt H H1 dl (60 * i + j)) ⟨_, x6, rfl, D⟩ ?_ ?_
          · rintro j σ H2 hj ⟨sd, y6, rfl, D2⟩
            obtain ⟨ds, hd, hl, _⟩ := id D2
            refine ⟨_, rfl, _, _, rfl, rfl, .inr ⟨by decide, by decide⟩, _, rfl, _, _, rfl, rfl, .inl ⟨by decide, by decide⟩, _, _, rfl, rfl, _, _, rfl, rfl, .inl ⟨_, rfl, _, _, rfl, rfl, (by show (0 : Int) < 2147483647; decide), ?_⟩⟩
            refine ⟨_, rfl, .inl ⟨rfl, _, SqL.of hd⟩, _, rfl, _, _, rfl, rfl, ⟨by decide, by decide⟩, .inl ⟨_, rfl, _, _, rfl, rfl, (by show (0 : Int) < 1000; decide), dl, _, _, rfl, rfl, hd, (by simp; omega), ?_⟩⟩
            exact ⟨_, _, rfl, D2.add hd nd (Int.emod_nonneg _ (by decide)) (Int.emod_lt_of_pos _ (by decide))⟩
          · rintro σ H2 ⟨sd, y6, rfl, D2⟩
            exact ⟨_, _, _, _, rfl, D2.mono (by omega)⟩
    · rintro σ H1 ⟨x5, x6, x7, x4, rfl, D⟩
      exact ⟨_, rfl, k dl H1 nd (D.mono (by omega))⟩
end

section
/-! data whose texts are texts and that are not deep -/
def Shp (n : Nat) (d : PyData) : Prop := d.canLay0 = true ∧ d.depth ≤ n
theorem Shp.all {n : Nat} : ∀ {ds : List PyData}, (∀ d ∈ ds, Shp n d) → PyData.canLayAll0 ds = true ∧ PyData.depthAll ds ≤ n
  | [], _ => ⟨rfl, Nat.zero_le _⟩
  | d :: r, h => by
    obtain ⟨a, b⟩ := h d (by simp)
    obtain ⟨c, e⟩ := Shp.all (ds := r) fun x hx => h x (List.mem_cons_of_mem _ hx)
    exact ⟨by simp only [PyData.canLayAll0, a, c]; rfl, Nat.max_le.mpr ⟨b, e⟩⟩
theorem Shp.tup {n : Nat} {ds : List PyData} (h : ∀ d ∈ ds, Shp n d) : Shp (n + 1) (.tuple ds) := by
  obtain ⟨a, b⟩ := Shp.all h
  exact ⟨by simp only [PyData.canLay0]; exact a, show PyData.depthAll ds + 1 ≤ n + 1 by omega⟩
theorem Shp.lst {n : Nat} {ds : List PyData} (h : ∀ d ∈ ds, Shp n d) : Shp (n + 1) (.list ds) := by
  obtain ⟨a, b⟩ := Shp.all h
  exact ⟨by simp only [PyData.canLay0]; exact a, show PyData.depthAll ds + 1 ≤ n + 1 by omega⟩
theorem Shp.sh {n : Nat} {d : PyData} (h : Shp n d) (hn : n ≤ 64) : SeqAt.shaped d = true := by
  unfold SeqAt.shaped
  rw [h.1, decide_eq_true (Nat.le_trans h.2 hn)]; rfl
theorem Shp.mono {n m : Nat} {d : PyData} (h : Shp n d) (l : n ≤ m) : Shp m d := ⟨h.1, Nat.le_trans h.2 l⟩
theorem Shp.str {n : Nat} {x : Str} (h : PyData.canLay0 (.str x) = true) : Shp n (.str x) := ⟨h, Nat.zero_le _⟩
theorem Shp.int (n : Nat) (i : Int) : Shp n (.int i) := ⟨rfl, Nat.zero_le _⟩
theorem Shp.bool (n : Nat) (b : Bool) : Shp n (.bool b) := ⟨rfl, Nat.zero_le _⟩
theorem Shp.nil : Shp 1 (.tuple []) := Shp.tup (n := 0) fun _ h => by cases h
theorem Shp.cons2 {n : Nat} {d : PyData} {ds : List PyData} (h : Shp n d) (t : ∀ x ∈ ds, Shp n x) : ∀ x ∈ d :: ds, Shp n x := fun x hx => by
  rcases List.mem_cons.mp hx with rfl | hx
  · exact h
  · exact t x hx
theorem Shp.none2 {n : Nat} : ∀ x ∈ ([] : List PyData), Shp n x := fun _ h => by cases h
theorem Shp.strS {n : Nat} {a : List Nat} (h : ∀ c ∈ a, c < 128) : Shp n (.str (S a)) := by
  refine Shp.str ?_
  rw [PyData.canLay0]
  exact Array.all_eq_true_iff_forall_mem.mpr fun c hc => by
    have := h c (by simpa [S] using hc)
    exact decide_eq_true (by omega)
end

section
variable {P : Program} {w : World} {K : PySem.W.Frag} {mg : Str → Option Value} {base : Heap}
inductive KindIs (hds : List PyData) : PyData → Str → Prop
  | plain {z : Str} {rest : List PyData} : V.str z ≠ V.str "ref" → KindIs hds (.tuple (.str z :: rest)) ""
  | obj {k : Nat} {kd : Str} {rest : List PyData} : hds[k]? = some (.tuple (.str kd :: rest)) → KindIs hds (.tuple [.str "ref", .int (k : Nat)]) kd
def spKind (K : PySem.W.Frag) : Sp := fun vs H Q _ => ∃ (hp : Addr) (hds : List PyData) (v : V) (d : PyData) (kd : Str), vs = [.ref hp, v] ∧ ListAt K H hp hds ∧ Dt K H v d ∧ KindIs hds d kd ∧ Q (.str kd) H
end

section
variable {P : Program} {w : World} {K : PySem.W.Frag} {mg : Str → Option Value} {base : Heap}
abbrev vks : List (Str × Str) := [("none", "NoneType"), ("bool", "bool"), ("int", "int"), ("text", "str"), ("span", "range"), ("built", "builtin"), ("host", "host")]
abbrev oks : List (Str × Str) := [("list", "list"), ("tuple", "tuple"), ("dict", "dict"), ("scope", "scope"), ("func", "function"), ("class", "class"), ("bound", "method"), ("iter", "iterator"), ("gen", "generator")]
def refD (j : Nat) : PyData := .tuple [.str "ref", .int (j : Nat)]
/-- the name of a value's kind -/
inductive NameOf (hds : List PyData) : PyData → Str → Prop
  | oth (j : Nat) (z : Str) (r : List PyData) (t : Str) : hds[j]? = some (.tuple (.str z :: r)) → z ≠ "inst" → valV (txtKV oks) (.inr z) = some (.str t) → NameOf hds (refD j) t
  | inst (j i : Nat) (r r2 : List PyData) (c : PyData) (n : Str) : hds[j]? = some (.tuple (.str "inst" :: .int (i : Nat) :: r)) → hds[i]? = some (.tuple (c :: .str n :: r2)) → NameOf hds (refD j) n
  | val (z : Str) (r : List PyData) (t : Str) : z ≠ "ref" → valV (txtKV vks) (.inr z) = some (.str t) → NameOf hds (.tuple (.str z :: r)) t
theorem dec_str {a b : Str} (h : a ≠ b) : decide (V.str a = V.str b) = false := decide_eq_false fun e => h (V.str.inj e)
theorem dec_str1 (a : Str) : decide (V.str a = V.str a) = true := decide_eq_true rfl
theorem hd_at {H : Hp} {hp : Addr} {hds : List PyData} {j : Nat} {d : PyData} (L : ListAt K H hp hds) (h : hds[j]? = some d) : ∃ xs y, H hp = some (.lst xs) ∧ atI xs ((j : Nat) : Int) = some y ∧ Dt K H y d := by
  obtain ⟨xs, e, a⟩ := L
  obtain ⟨y, hy, dy⟩ := a.get h
  exact ⟨xs, y, e, atI_nat hy, dy⟩
theorem dt_two {H : Hp} {v : V} {a b : PyData} {r : List PyData} (h : Dt K H v (.tuple (a :: b :: r))) : ∃ q x y ws, v = .ref q ∧ SqT K H q (x :: y :: ws) ∧ Dt K H x a ∧ Dt K H y b := by
  cases h with
  | tup hs ha =>
    cases ha with
    | cons h1 h2 =>
      cases h2 with
      | cons h3 h4 => exact ⟨_, _, _, _, rfl, hs, h1, h3⟩
theorem dt_str {H : Hp} {v : V} {z : Str} (h : Dt K H v (.str z)) : v = .str z := by cases h; rfl
def spKName (K : PySem.W.Frag) : Sp := fun vs H Q _ => ∃ hp hds v d t, vs = [.ref hp, v] ∧ ListAt K H hp hds ∧ Dt K H v d ∧ NameOf hds d t ∧ Q (.str t) H
end

section
variable {P : Program} {w : World} {K : PySem.W.Frag} {mg : Str → Option Value} {base : Heap}
theorem strlen_cat (a b : Str) : (a ++ b).length = a.length + b.length := by
  show (a.cps ++ b.cps).size = _
  rw [Array.size_append]; rfl
theorem ss_le {n : Nat} (h : n ≤ 100000) : n ≤ sizeLine := Nat.le_trans h (by decide)
theorem js_lt {n : Nat} (h : n ≤ 5000) : n < sizeLine := Nat.lt_of_le_of_lt h (by decide)
theorem dtAll_rev {H : Hp} : ∀ {ds : List PyData} {vs : List V}, DtAll K H vs ds → DtAll K H vs.reverse ds.reverse
  | [], vs, h => by rw [h.nil_inv]; exact .nil
  | d :: ds, vs, h => by
    obtain ⟨v, ws, rfl, dv, hw⟩ := DtAll.cons_inv h
    rw [List.reverse_cons, List.reverse_cons]
    exact DtAll.app (dtAll_rev hw) (.cons dv .nil)
theorem same_none' {H H1 : Hp} {l : Addr} (S : Same H H1) (h : H1 l = none) : H l = none := by
  cases e : H l with
  | none => rfl
  | some o => have := S _ _ e; rw [h] at this; cases this
theorem dt_pr {H : Hp} {v : V} {a b : PyData} (h : Dt K H v (.tuple [a, b])) : ∃ q x y, v = .ref q ∧ SqT K H q [x, y] ∧ Dt K H x a ∧ Dt K H y b := by
  cases h with
  | tup hs ha =>
    cases ha with
    | cons h1 h2 =>
      cases h2 with
      | cons h3 h4 =>
        cases h4
        exact ⟨_, _, _, rfl, hs, h1, h3⟩
theorem dtAll_snoc {H : Hp} : ∀ {ds : List PyData} {d : PyData} {ws : List V}, DtAll K H ws (ds ++ [d]) → ∃ ws0 y, ws = ws0 ++ [y] ∧ DtAll K H ws0 ds ∧ Dt K H y d
  | [], d, ws, h => by
    cases h with
    | cons h1 h2 => cases h2; exact ⟨[], _, rfl, .nil, h1⟩
  | e :: ds, d, ws, h => by
    cases h with
    | cons h1 h2 =>
      obtain ⟨ws0, y, rfl, a, b⟩ := dtAll_snoc h2
      exact ⟨_ :: ws0, y, rfl, .cons h1 a, b⟩
theorem js_lt10 {n : Nat} (h : n ≤ 10000) : n < sizeLine := Nat.lt_of_le_of_lt h (by decide)
theorem inV_strs {x : Str} (ys : List Str) : inV (.str x) (ys.map V.str) = decide (x ∈ ys) := by
  unfold inV
  induction ys with
  | nil => rfl
  | cons y r ih =>
    rw [List.map_cons, List.any_cons, ih]
    have : eqV (.str y) (.str x) = decide (y = x) := by
      show (y == x) = _
      by_cases e : y = x
      · subst e; simp
      · simp [e]
    rw [this]
    by_cases e : y = x
    · subst e; simp
    · have : x ≠ y := fun h => e h.symm
      simp [e, this]
end

section
--SPLIT
end
section
/-! values and rows of a heap -/
inductive Vl
  | non | bool (b : Bool) | int (i : Int) | text (z : Str) | span (a b : Int) | ref (k : Nat) | built (n : Str) | host (n : Str)
  deriving DecidableEq
def vlD : Vl → PyData
  | .non => .tuple [.str "none"]
  | .bool b => .tuple [.str "bool", .bool b]
  | .int i => .tuple [.str "int", .int i]
  | .text z => .tuple [.str "text", .str z]
  | .span a b => .tuple [.str "span", .int a, .int b]
  | .ref k => .tuple [.str "ref", .int (k : Nat)]
  | .built n => .tuple [.str "built", .str n]
  | .host n => .tuple [.str "host", .str n]
def kn : Vl → Nat
  | .non => 0 | .bool _ => 1 | .int _ => 2 | .text _ => 3 | .span _ _ => 4 | .ref _ => 5 | .built _ => 6 | .host _ => 7
def nmK : Nat → Str
  | 0 => "none" | 1 => "bool" | 2 => "int" | 3 => "text" | 4 => "span" | 5 => "ref" | 6 => "built" | _ => "host"
def knd (x : Vl) : Str := nmK (kn x)
theorem kn_lt (x : Vl) : kn x < 8 := by cases x <;> simp [kn]
theorem nmK_inj : ∀ i < 8, ∀ j < 8, i ≠ j → nmK i ≠ nmK j := by decide +kernel
theorem knd_ne {x y : Vl} (h : kn x ≠ kn y) : knd x ≠ knd y := nmK_inj _ (kn_lt x) _ (kn_lt y) h
theorem knd_is (x : Vl) (n : Nat) (hn : n < 8) : decide (V.str (knd x) = V.str (nmK n)) = decide (kn x = n) := by
  by_cases h : kn x = n
  · rw [decide_eq_true h, ← h]; exact decide_eq_true rfl
  · rw [decide_eq_false h]; exact decide_eq_false fun e => nmK_inj _ (kn_lt x) _ hn h (V.str.inj e)
def resD : Vl → List PyData
  | .non => [] | .bool b => [.bool b] | .int i => [.int i] | .text z => [.str z] | .span a b => [.int a, .int b] | .ref k => [.int (k : Nat)] | .built n => [.str n] | .host n => [.str n]
theorem vlD_eq (x : Vl) : vlD x = .tuple (.str (knd x) :: resD x) := by cases x <;> rfl
def numV : Vl → Option Int
  | .bool b => some (if b then 1 else 0)
  | .int i => some i
  | _ => none
def slx (x y : Vl) : Bool := match numV x, numV y with
  | some i, some j => decide (i = j)
  | _, _ => decide (x = y)
def sl (x y : Vl) : Bool := match x, y with
  | .span a b, .span c d => if a = b then decide (c = d) else decide (a = c ∧ b = d)
  | x, y => slx x y
/-- what == can take -/
def vOk : Vl → Prop
  | .text z => PyData.canLay0 (.str z) = true
  | .built n => PyData.canLay0 (.str n) = true
  | .host n => PyData.canLay0 (.str n) = true
  | _ => True
theorem vOk.shp {x : Vl} (h : vOk x) : Shp 1 (vlD x) := by
  have s : ∀ z : Str, PyData.canLay0 (.str z) = true → Shp 0 (.str z) := fun z h => Shp.str h
  cases x with
  | non => exact Shp.tup (Shp.cons2 (s _ (by decide +kernel)) Shp.none2)
  | bool b => exact Shp.tup (Shp.cons2 (s _ (by decide +kernel)) (Shp.cons2 (Shp.bool 0 b) Shp.none2))
  | int i => exact Shp.tup (Shp.cons2 (s _ (by decide +kernel)) (Shp.cons2 (Shp.int 0 i) Shp.none2))
  | text z => exact Shp.tup (Shp.cons2 (s _ (by decide +kernel)) (Shp.cons2 (s z h) Shp.none2))
  | span a b => exact Shp.tup (Shp.cons2 (s _ (by decide +kernel)) (Shp.cons2 (Shp.int 0 a) (Shp.cons2 (Shp.int 0 b) Shp.none2)))
  | ref k => exact Shp.tup (Shp.cons2 (s _ (by decide +kernel)) (Shp.cons2 (Shp.int 0 _) Shp.none2))
  | built n => exact Shp.tup (Shp.cons2 (s _ (by decide +kernel)) (Shp.cons2 (s n h) Shp.none2))
  | host n => exact Shp.tup (Shp.cons2 (s _ (by decide +kernel)) (Shp.cons2 (s n h) Shp.none2))
theorem bD {α : Type} [BEq α] [LawfulBEq α] [DecidableEq α] (a b : α) : (a == b) = decide (a = b) := by
  by_cases e : a = b
  · subst e; simp
  · simp [e]
theorem kndNe : ∀ x y : Vl, kn x ≠ kn y → PyData.eqv (vlD x) (vlD y) = false := fun x y h => by
  rw [vlD_eq, vlD_eq]
  show (PyData.eqv (.str (knd x)) (.str (knd y)) && _) = false
  have : PyData.eqv (.str (knd x)) (.str (knd y)) = false := by
    show (knd x == knd y) = false
    simpa using knd_ne h
  rw [this]
  rfl
theorem eqv_vl (x y : Vl) (h : numV x = none ∨ numV y = none) : PyData.eqv (vlD x) (vlD y) = decide (x = y) := by
  by_cases hk : kn x = kn y
  · cases x <;> cases y <;> first | (simp [kn] at hk; done) | skip
    · rfl
    · rcases h with h | h <;> cases h
    · rcases h with h | h <;> cases h
    · simp [vlD, PyData.eqv, PyData.eqvAll, bD]
    · simp [vlD, PyData.eqv, PyData.eqvAll, bD]
    · rename_i a b
      simp [vlD, PyData.eqv, PyData.eqvAll, bD]
      omega
    · simp [vlD, PyData.eqv, PyData.eqvAll, bD]
    · simp [vlD, PyData.eqv, PyData.eqvAll, bD]
  · rw [kndNe x y hk, decide_eq_false fun e => hk (by rw [e])]
theorem sl_num {x y : Vl} {i j : Int} (hx : numV x = some i) (hy : numV y = some j) : sl x y = decide (i = j) := by
  cases x <;> cases hx <;> cases y <;> cases hy <;> rfl
theorem sl_oth {x y : Vl} (h : numV x = none ∨ numV y = none) (hs : ∀ a b c d, x = .span a b → y = .span c d → a ≠ b) : sl x y = decide (x = y) := by
  unfold sl
  split
  · rename_i a b c d
    rw [if_neg (hs a b c d rfl rfl)]
    simp
  · unfold slx
    rcases h with h | h
    · rw [h]
    · rw [h]; split <;> first | rfl | (rename_i h2; cases h2)
end
section
variable {P : Program} {w : World} {K : PySem.W.Frag} {mg : Str → Option Value} {base : Heap}
theorem dvl {H : Hp} {v : V} {x : Vl} (h : Dt K H v (vlD x)) : ∃ q ws, v = .ref q ∧ SqT K H q (.str (knd x) :: ws) ∧ DtAll K H ws (resD x) := by
  rw [vlD_eq] at h
  cases h with
  | tup hs ha =>
    cases ha with
    | cons h1 h2 =>
      cases dt_str h1
      exact ⟨_, _, rfl, hs, h2⟩
def spIsNumV (K : PySem.W.Frag) : Sp := fun vs H Q _ => ∃ (v : V) (x : Vl), vs = [v] ∧ Dt K H v (vlD x) ∧ ∀ H', Same H H' → Q (.bl (numV x).isSome) H'
def spSameLeaf (K : PySem.W.Frag) : Sp := fun vs H Q _ => ∃ (v u : V) (x y : Vl), vs = [v, u] ∧ Dt K H v (vlD x) ∧ Dt K H u (vlD y) ∧ vOk x ∧ vOk y ∧ ∀ H', Same H H' → Q (.bl (sl x y)) H'
theorem num_d {x : Vl} {i : Int} (h : numV x = some i) : ∃ d, resD x = [d] ∧ Shp 0 d ∧ ((d = .int i) ∨ ∃ b, d = .bool b ∧ i = if b then 1 else 0) := by
  cases x <;> cases h
  · exact ⟨_, rfl, Shp.bool 0 _, .inr ⟨_, rfl, rfl⟩⟩
  · exact ⟨_, rfl, Shp.int 0 _, .inl rfl⟩
end

section
--SPLIT
end
section
variable {P : Program} {w : World} {K : PySem.W.Frag} {mg : Str → Option Value} {base : Heap}
/-! rows of a heap -/
inductive Row
  | tup (vs : List Vl) | lst (vs : List Vl) | dct (es : List (Vl × Vl)) | oth (z : Str) (r : List PyData)
def entD (e : Vl × Vl) : PyData := .tuple [vlD e.1, vlD e.2]
def rkd : Row → Str
  | .tup _ => "tuple" | .lst _ => "list" | .dct _ => "dict" | .oth z _ => z
def rparts : Row → List PyData
  | .tup vs => vs.map vlD | .lst vs => vs.map vlD | .dct es => es.map entD | .oth _ _ => []
def rowD : Row → PyData
  | .oth z r => .tuple (.str z :: r)
  | .tup vs => .tuple [.str "tuple", .tuple (vs.map vlD)]
  | .lst vs => .tuple [.str "list", .tuple (vs.map vlD)]
  | .dct es => .tuple [.str "dict", .tuple (es.map entD)]
def isOth : Row → Prop
  | .oth z _ => z ≠ "tuple" ∧ z ≠ "list" ∧ z ≠ "dict"
  | _ => True
def rlen : Row → Nat
  | .tup vs => vs.length | .lst vs => vs.length | .dct es => es.length | .oth _ _ => 0
structure RowOk (r : Row) : Prop where
  oth : isOth r
  len : rlen r ≤ 1000
theorem rowD_hd (r : Row) : ∃ rest, rowD r = .tuple (.str (rkd r) :: rest) := by cases r <;> exact ⟨_, rfl⟩
theorem rowD_two {r : Row} (h : ∀ z q, r ≠ .oth z q) : rowD r = .tuple [.str (rkd r), .tuple (rparts r)] := by
  cases r with
  | oth z q => exact absurd rfl (h z q)
  | _ => rfl
def tsI (i : Int) : Str := Str.ofString (toString i)
def wordR (rows : List Row) : Vl → Str
  | .non => "none"
  | .bool b => tsI (if b = true then 1 else 0)
  | .int i => tsI i
  | .text z => (tsI ((z.length : Nat) : Int) ++ ":") ++ z
  | .ref k => match rows[k]? with
    | some (.tup vs) => "(" ++ tsI ((vs.length : Nat) : Int)
    | _ => ""
  | _ => ""
def wOk (rows : List Row) : Vl → Prop
  | .int i => i.natAbs < 2 ^ 260
  | .text z => z.length ≤ 2000
  | .ref k => ∃ r, rows[k]? = some r ∧ RowOk r
  | _ => True
theorem tsI_len {i : Int} (h : i.natAbs < 2 ^ 1900) : (tsI i).length ≤ 2000 := by
  have hl : i.natAbs.log2 < 1900 := PySem.Flt.log2_lt_of (by decide) h
  have e := int_text_length_le (k := 1900) (by decide) hl
  show (Str.ofString (toString i)).length ≤ 2000
  rw [PySem.ofString_length]; omega
theorem log_lt {i : Int} (h : i.natAbs < 2 ^ 300) : i.natAbs.log2 < 1920 := Nat.lt_of_lt_of_le (PySem.Flt.log2_lt_of (k := 300) (by decide) h) (by decide)
theorem small_lt {n : Nat} (h : n ≤ 2000) : ((n : Nat) : Int).natAbs < 2 ^ 300 := Nat.lt_of_le_of_lt (show _ ≤ 2000 by omega) (Nat.lt_of_lt_of_le (show 2000 < 2 ^ 11 by decide) (Nat.pow_le_pow_right (by decide) (by decide)))
theorem kindR {rows : List Row} {x : Vl} (h : ∀ k, x = .ref k → ∃ r, rows[k]? = some r ∧ RowOk r) : ∃ kd, KindIs (rows.map rowD) (vlD x) kd ∧ ((∀ k, x ≠ .ref k) → kd = "") ∧ ∀ k r, x = .ref k → rows[k]? = some r → kd = rkd r := by
  by_cases c : ∃ k, x = .ref k
  · obtain ⟨k, rfl⟩ := c
    obtain ⟨r, hr, _⟩ := h k rfl
    obtain ⟨rest, e⟩ := rowD_hd r
    exact ⟨rkd r, .obj (rest := rest) (by rw [List.getElem?_map, hr]; exact congrArg some e), fun h => absurd rfl (h k), fun k' r' h1 h2 => by cases h1; rw [hr] at h2; rw [Option.some.inj h2]⟩
  · have hk : kn x ≠ 5 := fun e => c (by cases x <;> simp [kn] at e; exact ⟨_, rfl⟩)
    exact ⟨"", by rw [vlD_eq]; exact .plain fun e => (knd_ne (y := .ref 0) hk) (V.str.inj e), fun _ => rfl, fun k _ e => absurd ⟨k, e⟩ c⟩
def spWord (K : PySem.W.Frag) : Sp := fun vs H Q _ => ∃ (hp : Addr) (rows : List Row) (v : V) (x : Vl), vs = [.ref hp, v] ∧ ListAt K H hp (rows.map rowD) ∧ Dt K H v (vlD x) ∧ wOk rows x ∧ ∀ H', Same H H' → Q (.str (wordR rows x)) H'
/-- the words of a key: n turns, what waits (the next first); none: it is no key -/
inductive KW (rows : List Row) : Nat → List Vl → Option (List Str) → Prop
  | done : KW rows 1 [] (some [])
  | word {n : Nat} {x : Vl} {st : List Vl} {r : Option (List Str)} : wordR rows x ≠ "" → (∀ k, x ≠ .ref k) → wOk rows x → KW rows n st r → KW rows (n + 1) (x :: st) (r.map (wordR rows x :: ·))
  | tup {n k : Nat} {vs st : List Vl} {r : Option (List Str)} : rows[k]? = some (.tup vs) → vs.length ≤ 1000 → KW rows n (vs ++ st) r → KW rows (n + 1) (.ref k :: st) (r.map (wordR rows (.ref k) :: ·))
  | bad {x : Vl} {st : List Vl} : wordR rows x = "" → wOk rows x → KW rows 1 (x :: st) none
theorem wordR_len {rows : List Row} {x : Vl} (h : wOk rows x) : (wordR rows x).length ≤ 5000 := by
  have ti : ∀ i : Int, i.natAbs < 2 ^ 300 → (tsI i).length ≤ 2000 := fun i h => tsI_len (Nat.lt_of_lt_of_le h (Nat.pow_le_pow_right (by decide) (by decide)))
  cases x with
  | non => exact Nat.le_of_ble_eq_true rfl
  | bool b => exact Nat.le_trans (ti _ (by cases b <;> exact Nat.lt_of_lt_of_le (show _ < 2 ^ 2 by decide) (Nat.pow_le_pow_right (by decide) (by decide)))) (by decide)
  | int i => exact Nat.le_trans (ti i (Nat.lt_of_lt_of_le h (Nat.pow_le_pow_right (by decide) (by decide)))) (by decide)
  | text z =>
    have hz : z.length ≤ 2000 := h
    have := ti ((z.length : Nat) : Int) (small_lt hz)
    show ((tsI ((z.length : Nat) : Int) ++ ":") ++ z).length ≤ 5000
    rw [strlen_cat, strlen_cat]
    show _ + 1 + _ ≤ _
    omega
  | span a b => exact Nat.zero_le _
  | built n => exact Nat.zero_le _
  | host n => exact Nat.zero_le _
  | ref k =>
    obtain ⟨r, hr, ok⟩ := h
    show (match rows[k]? with | some (.tup vs) => ("(" ++ tsI ((vs.length : Nat) : Int) : Str) | _ => "").length ≤ _
    rw [hr]
    cases r with
    | tup vs =>
      have hv : vs.length ≤ 1000 := ok.len
      have := ti ((vs.length : Nat) : Int) (small_lt (by omega))
      show ("(" ++ tsI ((vs.length : Nat) : Int) : Str).length ≤ _
      rw [strlen_cat]
      show 1 + _ ≤ _
      omega
    | lst vs => exact Nat.zero_le _
    | dct vs => exact Nat.zero_le _
    | oth z r => exact Nat.zero_le _
def kresV (t : Str) : Option (List Str) → List V
  | some ws => [.str "ok", .str (Txt.join " " ws)]
  | none => [.str "raise", .int 10, .str ("not a key: " ++ t)]
def spKeyText (K : PySem.W.Frag) : Sp := fun vs H Q _ => ∃ (hp : Addr) (rows : List Row) (v : V) (x : Vl) (n : Nat) (r : Option (List Str)) (t : Str), vs = [.ref hp, v] ∧ ListAt K H hp (rows.map rowD) ∧ Dt K H v (vlD x) ∧ KW rows n [x] r ∧ n ≤ 900 ∧ (r = none → NameOf (rows.map rowD) (vlD x) t ∧ t.length ≤ 1000) ∧
  ∀ q H', Same H H' → H q = none → H' q = some (.tup (kresV t r)) → Q (.ref q) H'
def KTx (rows : List Row) (kt : Vl → Str) (x : Vl) : Prop := ∃ n ws, KW rows n [x] (some ws) ∧ n ≤ 900 ∧ kt x = Txt.join " " ws
def bothR (p : Vl × Vl) : Bool := match p with
  | (.ref _, .ref _) => true
  | _ => false
theorem dt_ent {H : Hp} {v : V} {e : Vl × Vl} (h : Dt K H v (entD e)) : ∃ q x y, v = .ref q ∧ SqT K H q [x, y] ∧ Dt K H x (vlD e.1) ∧ Dt K H y (vlD e.2) := dt_pr h
end

section
--SPLIT
end
abbrev s_law_is_integer : Stmt := top 17
abbrev N_law_is_integer : List Str := ["actual"]
abbrev P_law_is_integer : List Str := ["actual"]
theorem sc_law_is_integer : FnScope N_law_is_integer P_law_is_integer (defScope s_law_is_integer) := ⟨rfl, rfl, rfl, by decide +kernel, rfl, by decide +kernel, by decide +kernel⟩
abbrev s_law_same : Stmt := top 20
abbrev N_law_same : List Str := ["actual", "due", "k"]
abbrev P_law_same : List Str := ["actual", "due"]
theorem sc_law_same : FnScope N_law_same P_law_same (defScope s_law_same) := ⟨rfl, rfl, rfl, by decide +kernel, rfl, by decide +kernel, by decide +kernel⟩
section
variable {P : Program} {w : World} {K : PySem.W.Frag} {mg : Str → Option Value} {base : Heap}
def spIsInt (K : PySem.W.Frag) : Sp := fun vs H Q _ => ∃ i : Int, vs = [.int i] ∧ Q (.bl true) H
theorem ok_isint {f : Addr} {fd : FuncData} (F : Fun K "_law_is_integer" "_law_is_integer" s_law_is_integer f fd) (T : Txt K mg) : FnG P w K mg base CX0 1 f fd P_law_is_integer (spIsInt K) := by
  refine okG0 F sc_law_is_integer (fun vs H Q E h => ?_) fun cdv A outer s H vs Q E hr hg h => ?_
  · obtain ⟨i, rfl, _⟩ := h
    rfl
  · obtain ⟨i, rfl, k⟩ := h
    refine ⟨_, (pss_one (ps_ret (pe_and (pe_callB call_isi (by rfl) T.b_isinstance (by decide +kernel) (pa_cons (pv 0) (pa_cons (pe_bltn (v := .ty "int") (by rfl) T.b_int (by decide +kernel) rfl) pa_nil))) (pe_one (pe_not (pe_callB call_isi (by rfl) T.b_isinstance (by decide +kernel) (pa_cons (pv 0) (pa_cons (pe_bltn (v := .ty "bool") (by rfl) T.b_bool (by decide +kernel) rfl) pa_nil)))))))), ?_⟩
    refine ⟨_, rfl, _, _, _, _, true, rfl, .ty _, .base (.int i), if_pos (beq_self_eq_true _), true, rfl, iteTb rfl ?_⟩
    exact ⟨_, rfl, _, _, _, _, false, rfl, .ty _, .base (.int i), kit_ty (by decide +kernel), false, rfl, k⟩
/-- data at most n deep, no list in it -/
inductive Wd : Nat → PyData → Prop
  | str {n : Nat} (z : Str) : Wd n (.str z)
  | int {n : Nat} (i : Int) : Wd n (.int i)
  | bool {n : Nat} (b : Bool) : Wd n (.bool b)
  | tup {n : Nat} {ds : List PyData} : ds.length ≤ 1000 → (∀ d ∈ ds, Wd n d) → Wd (n + 1) (.tuple ds)
theorem Wd.up {n m : Nat} {d : PyData} (h : Wd n d) (hm : n ≤ m) : Wd m d := by
  induction h generalizing m with
  | str z => exact .str z
  | int i => exact .int i
  | bool b => exact .bool b
  | tup h1 _ ih =>
    obtain ⟨k, rfl⟩ : ∃ k, m = k + 1 := ⟨m - 1, by omega⟩
    exact .tup h1 fun d hd => ih d hd (by omega)
def spSameD (K : PySem.W.Frag) (n : Nat) : Sp := fun vs H Q _ => ∃ (x y : V) (d : PyData), vs = [x, y] ∧ Dt K H x d ∧ Dt K H y d ∧ Wd n d ∧ Q (.bl true) H
theorem ok_sameD0 {f : Addr} {fd : FuncData} (F : Fun K "_law_same" "_law_same" s_law_same f fd) (T : Txt K mg) (U_law_is_integer : Use P w K mg base CX0 "_law_is_integer" 1 P_law_is_integer (spIsInt K)) : FnG P w K mg base CX0 2 f fd P_law_same (spSameD K 0) := by
  refine okG0 F sc_law_same (fun vs H Q E h => ?_) fun cdv A outer s H vs Q E hr hg h => ?_
  · obtain ⟨x, y, d, rfl, _⟩ := h
    rfl
  · obtain ⟨x, y, d, rfl, dx, dy, wd, k⟩ := h
    refine ⟨_, (pss_cons (ps_if (pt_val (pe_callB call_isi (by rfl) T.b_isinstance (by decide +kernel) (pa_cons (pv 1) (pa_cons (pe_bltn (v := .ty "tuple") (by rfl) T.b_tuple (by decide +kernel) rfl) pa_nil))))
   pss_never
   pss_nil)
  (pss_cons (ps_if (pt_val (pe_callB call_isi (by rfl) T.b_isinstance (by decide +kernel) (pa_cons (pv 1) (pa_cons (pe_bltn (v := .ty "bool") (by rfl) T.b_bool (by decide +kernel) rfl) pa_nil))))
   (pss_one (ps_ret (pe_and (pe_callB call_isi (by rfl) T.b_isinstance (by decide +kernel) (pa_cons (pv 0) (pa_cons (pe_bltn (v := .ty "bool") (by rfl) T.b_bool (by decide +kernel) rfl) pa_nil))) (pe_one (pe_cmpR op_eq (pv 0) (pv 1) (nomark _))))))
   pss_nil)
  (pss_cons (ps_if (pt_val (pe_callB call_isi (by rfl) T.b_isinstance (by decide +kernel) (pa_cons (pv 1) (pa_cons (pe_bltn (v := .ty "int") (by rfl) T.b_int (by decide +kernel) rfl) pa_nil))))
   (pss_one (ps_ret (pe_and (pe_use U_law_is_integer (hr.mono (by decide)) hg rfl (pa_cons (pv 0) pa_nil)) (pe_one (pe_cmpR op_eq (pv 0) (pv 1) (nomark _))))))
   pss_nil)
  (pss_one (ps_ret (pe_and (pe_callB call_isi (by rfl) T.b_isinstance (by decide +kernel) (pa_cons (pv 0) (pa_cons (pe_bltn (v := .ty "str") (by rfl) T.b_str (by decide +kernel) rfl) pa_nil))) (pe_one (pe_cmpR op_eq (pv 0) (pv 1) (nomark _))))))))), ?_⟩
    cases wd with
    | str b =>
      cases dx.str_inv
      cases dy.str_inv
      refine ⟨_, rfl, _, _, _, _, false, rfl, .ty _, .base (.str b), kit_ty (by decide +kernel), _, rfl, iteFb rfl ?_⟩
      refine ⟨_, rfl, _, _, _, _, false, rfl, .ty _, .base (.str b), kit_ty (by decide +kernel), _, rfl, iteFb rfl ?_⟩
      refine ⟨_, rfl, _, _, _, _, false, rfl, .ty _, .base (.str b), kit_ty (by decide +kernel), _, rfl, iteFb rfl ?_⟩
      refine ⟨_, rfl, _, _, _, _, true, rfl, .ty _, .base (.str b), if_pos (beq_self_eq_true _), true, rfl, iteTb rfl ?_⟩
      exact ⟨_, rfl, _, rfl, rfl, by rw [decide_eq_true rfl]; exact k⟩
    | int b =>
      cases dx.int_inv
      cases dy.int_inv
      refine ⟨_, rfl, _, _, _, _, false, rfl, .ty _, .base (.int b), kit_ty (by decide +kernel), _, rfl, iteFb rfl ?_⟩
      refine ⟨_, rfl, _, _, _, _, false, rfl, .ty _, .base (.int b), kit_ty (by decide +kernel), _, rfl, iteFb rfl ?_⟩
      refine ⟨_, rfl, _, _, _, _, true, rfl, .ty _, .base (.int b), if_pos (beq_self_eq_true _), _, rfl, iteTb rfl ?_⟩
      exact ⟨_, rfl, b, rfl, true, rfl, iteTb rfl ⟨_, rfl, _, rfl, rfl, by rw [decide_eq_true rfl]; exact k⟩⟩
    | bool b =>
      cases dx.bool_inv
      cases dy.bool_inv
      refine ⟨_, rfl, _, _, _, _, false, rfl, .ty _, .base (.bl b), kit_ty (by decide +kernel), _, rfl, iteFb rfl ?_⟩
      refine ⟨_, rfl, _, _, _, _, true, rfl, .ty _, .base (.bl b), if_pos (beq_self_eq_true _), _, rfl, iteTb rfl ?_⟩
      refine ⟨_, rfl, _, _, _, _, true, rfl, .ty _, .base (.bl b), if_pos (beq_self_eq_true _), true, rfl, iteTb rfl ?_⟩
      exact ⟨_, rfl, _, rfl, rfl, by rw [decide_eq_true rfl]; exact k⟩
theorem ok_sameDS {n kk : Nat} (hk : 1 ≤ kk) {f : Addr} {fd : FuncData} (F : Fun K "_law_same" "_law_same" s_law_same f fd) (T : Txt K mg) (U_law_is_integer : Use P w K mg base CX0 "_law_is_integer" 1 P_law_is_integer (spIsInt K)) (U_law_same : Use P w K mg base CX0 "_law_same" kk P_law_same (spSameD K n)) :
    FnG P w K mg base CX0 (kk + 1) f fd P_law_same (spSameD K (n + 1)) := by
  refine okG0 F sc_law_same (fun vs H Q E h => ?_) fun cdv A outer s H vs Q E hr hg h => ?_
  · obtain ⟨x, y, d, rfl, _⟩ := h
    rfl
  · obtain ⟨x, y, d, rfl, dx, dy, wd, k⟩ := h
    cases wd with
    | str b =>
      refine ⟨_, (pss_cons (ps_if (pt_val (pe_callB call_isi (by rfl) T.b_isinstance (by decide +kernel) (pa_cons (pv 1) (pa_cons (pe_bltn (v := .ty "tuple") (by rfl) T.b_tuple (by decide +kernel) rfl) pa_nil))))
   pss_never
   pss_nil)
  (pss_cons (ps_if (pt_val (pe_callB call_isi (by rfl) T.b_isinstance (by decide +kernel) (pa_cons (pv 1) (pa_cons (pe_bltn (v := .ty "bool") (by rfl) T.b_bool (by decide +kernel) rfl) pa_nil))))
   (pss_one (ps_ret (pe_and (pe_callB call_isi (by rfl) T.b_isinstance (by decide +kernel) (pa_cons (pv 0) (pa_cons (pe_bltn (v := .ty "bool") (by rfl) T.b_bool (by decide +kernel) rfl) pa_nil))) (pe_one (pe_cmpR op_eq (pv 0) (pv 1) (nomark _))))))
   pss_nil)
  (pss_cons (ps_if (pt_val (pe_callB call_isi (by rfl) T.b_isinstance (by decide +kernel) (pa_cons (pv 1) (pa_cons (pe_bltn (v := .ty "int") (by rfl) T.b_int (by decide +kernel) rfl) pa_nil))))
   (pss_one (ps_ret (pe_and (pe_use U_law_is_integer (hr.mono (by omega)) hg rfl (pa_cons (pv 0) pa_nil)) (pe_one (pe_cmpR op_eq (pv 0) (pv 1) (nomark _))))))
   pss_nil)
  (pss_one (ps_ret (pe_and (pe_callB call_isi (by rfl) T.b_isinstance (by decide +kernel) (pa_cons (pv 0) (pa_cons (pe_bltn (v := .ty "str") (by rfl) T.b_str (by decide +kernel) rfl) pa_nil))) (pe_one (pe_cmpR op_eq (pv 0) (pv 1) (nomark _))))))))), ?_⟩
      cases dx.str_inv
      cases dy.str_inv
      refine ⟨_, rfl, _, _, _, _, false, rfl, .ty _, .base (.str b), kit_ty (by decide +kernel), _, rfl, iteFb rfl ?_⟩
      refine ⟨_, rfl, _, _, _, _, false, rfl, .ty _, .base (.str b), kit_ty (by decide +kernel), _, rfl, iteFb rfl ?_⟩
      refine ⟨_, rfl, _, _, _, _, false, rfl, .ty _, .base (.str b), kit_ty (by decide +kernel), _, rfl, iteFb rfl ?_⟩
      refine ⟨_, rfl, _, _, _, _, true, rfl, .ty _, .base (.str b), if_pos (beq_self_eq_true _), true, rfl, iteTb rfl ?_⟩
      exact ⟨_, rfl, _, rfl, rfl, by rw [decide_eq_true rfl]; exact k⟩
    | int b =>
      refine ⟨_, (pss_cons (ps_if (pt_val (pe_callB call_isi (by rfl) T.b_isinstance (by decide +kernel) (pa_cons (pv 1) (pa_cons (pe_bltn (v := .ty "tuple") (by rfl) T.b_tuple (by decide +kernel) rfl) pa_nil))))
   pss_never
   pss_nil)
  (pss_cons (ps_if (pt_val (pe_callB call_isi (by rfl) T.b_isinstance (by decide +kernel) (pa_cons (pv 1) (pa_cons (pe_bltn (v := .ty "bool") (by rfl) T.b_bool (by decide +kernel) rfl) pa_nil))))
   (pss_one (ps_ret (pe_and (pe_callB call_isi (by rfl) T.b_isinstance (by decide +kernel) (pa_cons (pv 0) (pa_cons (pe_bltn (v := .ty "bool") (by rfl) T.b_bool (by decide +kernel) rfl) pa_nil))) (pe_one (pe_cmpR op_eq (pv 0) (pv 1) (nomark _))))))
   pss_nil)
  (pss_cons (ps_if (pt_val (pe_callB call_isi (by rfl) T.b_isinstance (by decide +kernel) (pa_cons (pv 1) (pa_cons (pe_bltn (v := .ty "int") (by rfl) T.b_int (by decide +kernel) rfl) pa_nil))))
   (pss_one (ps_ret (pe_and (pe_use U_law_is_integer (hr.mono (by omega)) hg rfl (pa_cons (pv 0) pa_nil)) (pe_one (pe_cmpR op_eq (pv 0) (pv 1) (nomark _))))))
   pss_nil)
  (pss_one (ps_ret (pe_and (pe_callB call_isi (by rfl) T.b_isinstance (by decide +kernel) (pa_cons (pv 0) (pa_cons (pe_bltn (v := .ty "str") (by rfl) T.b_str (by decide +kernel) rfl) pa_nil))) (pe_one (pe_cmpR op_eq (pv 0) (pv 1) (nomark _))))))))), ?_⟩
      cases dx.int_inv
      cases dy.int_inv
      refine ⟨_, rfl, _, _, _, _, false, rfl, .ty _, .base (.int b), kit_ty (by decide +kernel), _, rfl, iteFb rfl ?_⟩
      refine ⟨_, rfl, _, _, _, _, false, rfl, .ty _, .base (.int b), kit_ty (by decide +kernel), _, rfl, iteFb rfl ?_⟩
      refine ⟨_, rfl, _, _, _, _, true, rfl, .ty _, .base (.int b), if_pos (beq_self_eq_true _), _, rfl, iteTb rfl ?_⟩
      exact ⟨_, rfl, b, rfl, true, rfl, iteTb rfl ⟨_, rfl, _, rfl, rfl, by rw [decide_eq_true rfl]; exact k⟩⟩
    | bool b =>
      refine ⟨_, (pss_cons (ps_if (pt_val (pe_callB call_isi (by rfl) T.b_isinstance (by decide +kernel) (pa_cons (pv 1) (pa_cons (pe_bltn (v := .ty "tuple") (by rfl) T.b_tuple (by decide +kernel) rfl) pa_nil))))
   pss_never
   pss_nil)
  (pss_cons (ps_if (pt_val (pe_callB call_isi (by rfl) T.b_isinstance (by decide +kernel) (pa_cons (pv 1) (pa_cons (pe_bltn (v := .ty "bool") (by rfl) T.b_bool (by decide +kernel) rfl) pa_nil))))
   (pss_one (ps_ret (pe_and (pe_callB call_isi (by rfl) T.b_isinstance (by decide +kernel) (pa_cons (pv 0) (pa_cons (pe_bltn (v := .ty "bool") (by rfl) T.b_bool (by decide +kernel) rfl) pa_nil))) (pe_one (pe_cmpR op_eq (pv 0) (pv 1) (nomark _))))))
   pss_nil)
  (pss_cons (ps_if (pt_val (pe_callB call_isi (by rfl) T.b_isinstance (by decide +kernel) (pa_cons (pv 1) (pa_cons (pe_bltn (v := .ty "int") (by rfl) T.b_int (by decide +kernel) rfl) pa_nil))))
   (pss_one (ps_ret (pe_and (pe_use U_law_is_integer (hr.mono (by omega)) hg rfl (pa_cons (pv 0) pa_nil)) (pe_one (pe_cmpR op_eq (pv 0) (pv 1) (nomark _))))))
   pss_nil)
  (pss_one (ps_ret (pe_and (pe_callB call_isi (by rfl) T.b_isinstance (by decide +kernel) (pa_cons (pv 0) (pa_cons (pe_bltn (v := .ty "str") (by rfl) T.b_str (by decide +kernel) rfl) pa_nil))) (pe_one (pe_cmpR op_eq (pv 0) (pv 1) (nomark _))))))))), ?_⟩
      cases dx.bool_inv
      cases dy.bool_inv
      refine ⟨_, rfl, _, _, _, _, false, rfl, .ty _, .base (.bl b), kit_ty (by decide +kernel), _, rfl, iteFb rfl ?_⟩
      refine ⟨_, rfl, _, _, _, _, true, rfl, .ty _, .base (.bl b), if_pos (beq_self_eq_true _), _, rfl, iteTb rfl ?_⟩
      refine ⟨_, rfl, _, _, _, _, true, rfl, .ty _, .base (.bl b), if_pos (beq_self_eq_true _), true, rfl, iteTb rfl ?_⟩
      exact ⟨_, rfl, _, rfl, rfl, by rw [decide_eq_true rfl]; exact k⟩
    | @tup _ ds hl hd =>
      refine ⟨_, (pss_cons (ps_if (pt_val (pe_callB call_isi (by rfl) T.b_isinstance (by decide +kernel) (pa_cons (pv 1) (pa_cons (pe_bltn (v := .ty "tuple") (by rfl) T.b_tuple (by decide +kernel) rfl) pa_nil))))
   (pss_cons (ps_if (PW.pt (pw_or (pt_not (pt_val (pe_callB call_isi (by rfl) T.b_isinstance (by decide +kernel) (pa_cons (pv 0) (pa_cons (pe_bltn (v := .ty "tuple") (by rfl) T.b_tuple (by decide +kernel) rfl) pa_nil))))) (pw_or1 (pt_cmpR op_ne (pe_callB call_len (by rfl) T.b_len PySem.boot_len (pa_cons (pv 0) pa_nil)) (pe_callB call_len (by rfl) T.b_len PySem.boot_len (pa_cons (pv 1) pa_nil)) (nomark _)))))
   (pss_one (ps_ret pe_bl))
   pss_nil)
  (pss_cons (ps_for PassesOwn.never rfl (pi_range1 (by rfl) T.b_range (pa_cons (pe_callB call_len (by rfl) T.b_len PySem.boot_len (pa_cons (pv 1) pa_nil)) pa_nil)) (pg_name (i := 2) sc_law_same.nd rfl (Or.inl rfl))
   (pss_one (ps_if (pt_not (pt_val (pe_use U_law_same (hr.mono (by omega)) hg rfl (pa_cons (pe_ix ix_tup (pv 0) (pv 2) (fun _ _ => rfl)) (pa_cons (pe_ix ix_tup (pv 1) (pv 2) (fun _ _ => rfl)) pa_nil)))))
   (pss_one (ps_ret pe_bl))
   pss_nil)))
  (pss_one (ps_ret pe_bl))))
   pss_nil)
  pss_never), ?_⟩
      obtain ⟨p, xs, rfl, hp, ax⟩ := dx.tuple_inv
      obtain ⟨q, ys, rfl, hq, ay⟩ := dy.tuple_inv
      have lx := ax.length
      have ly := ay.length
      refine ⟨_, rfl, _, _, _, _, true, rfl, .ty _, SqT.tyX hq, if_pos (beq_self_eq_true _), _, rfl, iteTb rfl ?_⟩
      refine ⟨_, rfl, _, _, _, _, true, rfl, .ty _, SqT.tyX hp, if_pos (beq_self_eq_true _), _, rfl, iteFb rfl ?_⟩
      refine ⟨_, rfl, _, _, rfl, .inr ⟨_, hp, rfl⟩, _, rfl, _, _, rfl, .inr ⟨_, hq, rfl⟩, rfl, _, rfl, ?_⟩
      refine iteFb (by rw [lx, ly]; rw [decide_eq_true rfl]; rfl) ?_
      refine ⟨_, rfl, _, _, rfl, .inr ⟨_, hq, rfl⟩, _, rfl, by omega, by omega, ?_⟩
      rw [Int.toNat_natCast]
      refine for_range (lo := 0) (n := ys.length) (fun i σ H1 => ∃ x2, σ = [some (.ref p), some (.ref q), x2] ∧ H1 = H) ⟨none, rfl, rfl⟩ ?_ ?_
      · rintro i σ H1 hi ⟨x2, rfl, rfl⟩
        have ex : ds[i]? = some (ds[i]'(by omega)) := List.getElem?_eq_getElem (by omega)
        obtain ⟨x, hx, dx1⟩ := ax.get ex
        obtain ⟨y, hy, dy1⟩ := ay.get ex
        exact ⟨_, rfl, _, rfl, p, _, _, x, rfl, rfl, hp, at_of' (j := i) (by omega) hx, _, rfl, _, rfl, q, _, _, y, rfl, rfl, hq, at_of' (j := i) (by omega) hy, x, y, _, rfl, dx1, dy1, hd _ (List.getElem_mem _), _, rfl, iteFb rfl ⟨_, rfl, rfl⟩⟩
      · rintro σ H1 ⟨x2, rfl, rfl⟩
        exact k
def spSameR (K : PySem.W.Frag) : Nat → Sp
  | 0 => fun _ _ _ _ => False
  | n + 1 => spSameD K n
theorem ok_sameR : ∀ {n : Nat} {f : Addr} {fd : FuncData} (F : Fun K "_law_same" "_law_same" s_law_same f fd) (T : Txt K mg) (U_law_same : Use P w K mg base CX0 "_law_same" (1 + n) P_law_same (spSameR K n)) (U_law_is_integer : Use P w K mg base CX0 "_law_is_integer" 1 P_law_is_integer (spIsInt K)),
    FnG P w K mg base CX0 (1 + n + 1) f fd P_law_same (spSameR K (n + 1))
  | 0, _, _, F, T, _, U => ok_sameD0 F T U
  | n + 1, _, _, F, T, V, U => ok_sameDS (n := n) (kk := 1 + (n + 1)) (by omega) F T U V
--SPLIT
theorem ok_sameR8 {n : Nat} {f : Addr} {fd : FuncData} (F : Fun K "_law_same" "_law_same" s_law_same f fd) (T : Txt K mg) (U_law_same : Use P w K mg base CX0 "_law_same" (1 + n) P_law_same (spSameR K n)) (U_law_is_integer : Use P w K mg base CX0 "_law_is_integer" 1 P_law_is_integer (spIsInt K)) : FnG P w K mg base CX0 (1 + n + 1) f fd P_law_same (spSameR K (n + 1)) := ok_sameR F T U_law_same U_law_is_integer
end

section
--SPLIT
end
abbrev s_sort_of : Stmt := top 7
abbrev N_sort_of : List Str := ["heap", "value"]
abbrev P_sort_of : List Str := ["heap", "value"]
theorem sc_sort_of : FnScope N_sort_of P_sort_of (defScope s_sort_of) := ⟨rfl, rfl, rfl, by decide +kernel, rfl, by decide +kernel, by decide +kernel⟩
abbrev s_is_leaf : Stmt := top 13
abbrev N_is_leaf : List Str := ["kind", "data", "character"]
abbrev P_is_leaf : List Str := ["kind", "data"]
theorem sc_is_leaf : FnScope N_is_leaf P_is_leaf (defScope s_is_leaf) := ⟨rfl, rfl, rfl, by decide +kernel, rfl, by decide +kernel, by decide +kernel⟩
abbrev s_goes_out : Stmt := top 14
abbrev N_goes_out : List Str := ["heap", "value", "size", "waiting", "part", "level", "in_key", "kind", "each", "key", "_", "worth"]
abbrev P_goes_out : List Str := ["heap", "value"]
theorem sc_goes_out : FnScope N_goes_out P_goes_out (defScope s_goes_out) := ⟨rfl, rfl, rfl, by decide +kernel, rfl, by decide +kernel, by decide +kernel⟩
section
/-! what goes out -/
def lfG : Vl → Bool
  | .non => true | .bool _ => true | .int _ => true | .text _ => true | _ => false
def kids : Row → List (Vl × Bool)
  | .tup vs => vs.map fun v => (v, false)
  | .lst vs => vs.map fun v => (v, false)
  | .dct es => es.map (fun e => (e.1, true)) ++ es.map fun e => (e.2, false)
  | .oth _ _ => []
def isC : Row → Bool
  | .oth _ _ => false
  | _ => true
def gd (rows : List Row) : Nat → Vl → Bool
  | 0, _ => false
  | n + 1, .ref k => match rows[k]? with
    | some r => isC r && (kids r).all fun p => gd rows n p.1
    | none => false
  | _ + 1, x => lfG x
def ct (rows : List Row) : Nat → Vl → Nat
  | 0, _ => 0
  | n + 1, .ref k => match rows[k]? with
    | some r => 1 + ((kids r).map fun p => ct rows n p.1).sum
    | none => 1
  | _ + 1, _ => 1
structure VD (N : Nat) (x : Vl) : Prop where
  r : ∀ k, x = .ref k → k < N
  i : ∀ i, x = .int i → i.natAbs < 2 ^ 256
  t : ∀ z, x = .text z → ∃ js, z = tx js ∧ js.length ≤ 1000 ∧ ∀ j ∈ js, j < 95
theorem Wd.c {n : Nat} {d : PyData} {ds : List PyData} (h : Wd n d) (r : ∀ e ∈ ds, Wd n e) : ∀ e ∈ d :: ds, Wd n e := List.forall_mem_cons.mpr ⟨h, r⟩
theorem Wd.e {n : Nat} : ∀ e ∈ ([] : List PyData), Wd n e := fun _ h => nomatch h
structure RD (N : Nat) (r : Row) : Prop where
  len : rlen r ≤ 3
  kd : ∀ p ∈ kids r, VD N p.1 ∧ (p.2 = true → ∃ i, p.1 = .int i)
  oth : isOth r
  ks : ∀ es, r = .dct es → es.map (·.1) = (List.range es.length).map fun (j : Nat) => Vl.int ((j : Nat) : Int)
  wo : ∀ z q, r = .oth z q → Wd 6 (rowD r)
  nl : ∀ z q, r = .oth z q → z ≠ "none" ∧ z ≠ "bool" ∧ z ≠ "int" ∧ z ≠ "text"
def bnB : Nat → Nat
  | 0 => 0
  | 1 => 1
  | n + 2 => 4 + 3 * bnB (n + 1)
end
section
variable {P : Program} {w : World} {K : PySem.W.Frag} {mg : Str → Option Value} {base : Heap}
def srtO (rows : List Row) : Vl → Str
  | .ref k => match rows[k]? with
    | some r => rkd r
    | none => ""
  | x => knd x
theorem hd_row {H : Hp} {hp : Addr} {rows : List Row} {j : Nat} {r : Row} {va : V} (L : ListAt K H hp (rows.map rowD)) (e : rows[j]? = some r) (a : Dt K H va (vlD (.ref j))) :
    ∃ q zs y q2 ws, va = .ref q ∧ SqT K H q [.str "ref", .int ((j : Nat) : Int)] ∧ H hp = some (.lst zs) ∧ atI zs ((j : Nat) : Int) = some y ∧ y = .ref q2 ∧ SqT K H q2 (.str (rkd r) :: ws) ∧ Dt K H y (rowD r) := by
  obtain ⟨q, ws, rfl, hq, da⟩ := dvl a
  obtain ⟨v1, w1, rfl, dv1, dw⟩ := da.cons_inv
  have := dw.nil_inv
  subst this
  cases dv1.int_inv
  obtain ⟨zs, ez, az⟩ := L
  obtain ⟨y, hy, dy⟩ := az.get (i := j) (d := rowD r) (by rw [List.getElem?_map, e]; rfl)
  have dy0 := dy
  obtain ⟨rest, er⟩ := rowD_hd r
  rw [er] at dy
  obtain ⟨q2, ws2, rfl, hq2, _⟩ := dy.head
  exact ⟨q, zs, _, q2, ws2, rfl, hq, ez, atI_nat hy, rfl, hq2, dy0⟩
def spSort (K : PySem.W.Frag) : Sp := fun vs H Q _ => ∃ (hp : Addr) (rows : List Row) (v : V) (x : Vl), vs = [.ref hp, v] ∧ ListAt K H hp (rows.map rowD) ∧ Dt K H v (vlD x) ∧ (∀ k, x = .ref k → k < rows.length) ∧ Q (.str (srtO rows x)) H
theorem ok_sort {f : Addr} {fd : FuncData} (F : Fun K "sort_of" "sort_of" s_sort_of f fd) (T : Txt K mg) : FnG P w K mg base CX0 1 f fd P_sort_of (spSort K) := by
  refine okG0 F sc_sort_of (fun vs H Q E h => ?_) fun cdv A outer s H vs Q E hr hg h => ?_
  · obtain ⟨hp, rows, v, x, rfl, _⟩ := h
    rfl
  · obtain ⟨hp, rows, v, x, rfl, L, dv, hk, k⟩ := h
    refine ⟨_, (pss_cons (ps_if (pt_cmpR op_eq (pe_ix ix_tup (pv 1) pe_int (fun _ _ => rfl)) pe_str (nomark _))
   (pss_one (ps_ret (pe_ix ix_tup (pe_ix ix_list (pv 0) (pe_ix ix_tup (pv 1) pe_int (fun _ _ => rfl)) (fun _ _ => rfl)) pe_int (fun _ _ => rfl))))
   pss_nil)
  (pss_one (ps_ret (pe_ix ix_tup (pv 1) pe_int (fun _ _ => rfl))))), ?_⟩
    have dv0 := dv
    obtain ⟨q, ws, rfl, hs, _⟩ := dvl dv0
    refine ⟨_, rfl, q, _, _, _, rfl, rfl, hs, at0, rfl, _, rfl, ?_⟩
    by_cases c : kn x = 5
    · refine iteTb ((knd_is x 5 (by decide)).trans (decide_eq_true c)) ?_
      obtain ⟨j, rfl⟩ : ∃ j, x = .ref j := by cases x <;> simp [kn] at c; exact ⟨_, rfl⟩
      have hj := hk j rfl
      have er : rows[j]? = some rows[j] := List.getElem?_eq_getElem hj
      have e : srtO rows (.ref j) = rkd rows[j] := by show (match rows[j]? with | some r => rkd r | none => "") = _; rw [er]
      obtain ⟨q', zs, y, q2, ws2, eq, hq, ez, hy, rfl, hq2, _⟩ := hd_row L er dv
      cases eq
      rw [e] at k
      exact ⟨_, rfl, _, rfl, q, _, _, _, rfl, rfl, hq, at1, hp, _, _, _, rfl, rfl, SqL.of ez, hy, q2, _, _, _, rfl, rfl, hq2, at0, k⟩
    · refine iteFb ((knd_is x 5 (by decide)).trans (decide_eq_false c)) ?_
      have e : srtO rows x = knd x := by cases x <;> first | rfl | exact absurd rfl c
      rw [e] at k
      exact ⟨_, rfl, q, _, _, _, rfl, rfl, hs, at0, k⟩
/-- what is asked of a leaf: the last thing of the value, by its kind -/
inductive LeafA : Str → V → Bool → Prop
  | text (js : List Nat) : js.length ≤ 1000 → (∀ j ∈ js, j < 95) → LeafA "text" (.str (tx js)) true
  | int (i : Int) : i.natAbs < 2 ^ 256 → LeafA "int" (.int i) true
  | oth (kd : Str) (v : V) : kd ≠ "text" → kd ≠ "int" → LeafA kd v (decide (kd ∈ (["none", "bool"] : List Str)))
def spLeafA (K : PySem.W.Frag) : Sp := fun vs H Q _ => ∃ (kd : Str) (v : V) (b : Bool), vs = [.str kd, v] ∧ LeafA kd v b ∧ ∀ H', Same H H' → Q (.bl b) H'
theorem ok_isleaf {f : Addr} {fd : FuncData} (F : Fun K "_is_leaf" "_is_leaf" s_is_leaf f fd) (T : Txt K mg) : FnG P w K mg base CX0 1 f fd P_is_leaf (spLeafA K) := by
  refine okG0 F sc_is_leaf (fun vs H Q E h => ?_) fun cdv A outer s H vs Q E hr hg h => ?_
  · obtain ⟨kd, v, b, rfl, _⟩ := h
    rfl
  · obtain ⟨kd, v, b, rfl, hl, k⟩ := h
    refine ⟨_, (C8.pss_cut (ps_if (pt_cmpR op_eq (pv 0) pe_str (nomark _))
   (pss_one (ps_ret (pe_and (pe_cmpR op_le (pe_callB call_len (by rfl) T.b_len PySem.boot_len (pa_cons (pv 1) pa_nil)) (pe_globI T.c_MOST_ENTRIES (by rfl)) (nomark _)) (pe_one (pe_callB (cr_all rfl) (by rfl) T.b_all (by decide +kernel) (pa_cons (pe_lc (own := [("character", 2)]) (g := (gName 2)) rfl sc_is_leaf.nd (pi_str (pv 1)) (blkOk_by (N := N_is_leaf) (sc := defScope s_is_leaf) (by decide +kernel)) (fun _ _ _ _ _ => (pg_name (i := 2) sc_is_leaf.nd rfl (Or.inl rfl))) (fun _ _ _ _ _ => pts_nil) (fun _ _ _ _ _ => (pe_cmpR op_in_sign (pv 2) (pe_globS T.c_CHARACTERS (by rfl)) (by rfl)))) pa_nil))))))
   pss_nil)
  (pss_cons (ps_if (pt_cmpR op_eq (pv 0) pe_str (nomark _))
   (pss_one (ps_ret (pe_cmpR op_lt (pe_callB call_abs (by rfl) T.b_abs (by decide +kernel) (pa_cons (pv 1) pa_nil)) (pe_globI T.c_INTEGER_END (by rfl)) (nomark _))))
   pss_nil)
  (pss_one (ps_ret (pe_cmpR op_in_seq (pv 0) (pe_tup (pa_cons pe_str (pa_cons pe_str pa_nil))) (by rfl)))))), ?_⟩
    cases hl with
    | text js h1 h2 =>
      refine ⟨fun _ _ => False, ?_, fun _ _ h => h.elim⟩
      have lz : (tx js).length = js.length := tx_len js
      refine ⟨_, rfl, rfl, _, rfl, iteTb rfl ?_⟩
      refine ⟨_, rfl, _, _, rfl, ⟨by rw [lz]; exact ss_le (by omega), rfl⟩, _, _, rfl, rfl, _, rfl, iteTb (decide_eq_true (by rw [lz]; omega)) ?_⟩
      refine ⟨_, rfl, _, rfl, fun D hD => ?_⟩
      refine lc_it (walk_str (z := tx js)) (fun i H' => H' D = some (.lst ((List.replicate i true).map V.bl)) ∧ Same H H') ⟨upd_same, Same.new hD⟩ (fun _ _ _ _ => trivial) ?_ ?_
      · rintro i x H4 H5 hi ⟨e4, S4⟩ ⟨rfl, c, hc, rfl⟩
        have hcm : c ∈ chStr.cps.toList := by
          have h5 : c ∈ (tx js).cps.toList := by
            rw [List.mem_iff_getElem?]
            exact ⟨i, by rw [Array.getElem?_toList]; exact hc⟩
          rw [tx, S, List.toList_toArray, List.mem_map] at h5
          obtain ⟨j, hj, rfl⟩ := h5
          exact List.mem_of_getElem? (ch_at (h2 j hj))
        refine ⟨rfl, ?_⟩
        unfold tYes
        refine iteTb rfl ?_
        refine ⟨_, rfl, c, _, rfl, rfl, _, e4, ?_, ?_, ?_⟩
        · rw [List.length_map, List.length_replicate]
          exact Nat.lt_of_lt_of_le (by have : (tx js).cps.size = js.length := lz; omega : i < 100000) (by decide)
        · rw [upd_same, decide_eq_true hcm, List.replicate_succ', List.map_append]; rfl
        · exact fun b u e => by rw [upd_ne (ne_of_none e hD)]; exact S4 _ _ e
      · rintro H4 ⟨e4, S4⟩
        refine ⟨D, List.replicate (tx js).cps.size true, rfl, SqL.of e4, ?_⟩
        show Q (.bl ((List.replicate (tx js).cps.size true).all id)) _
        rw [show (List.replicate (tx js).cps.size true).all id = true by rw [List.all_replicate]; split <;> rfl]
        exact k _ S4
    | int i h =>
      refine ⟨fun σ H1 => σ = [some (.str "int"), some (.int i), none] ∧ H1 = H, ⟨_, rfl, rfl, _, rfl, iteFb (by decide +kernel) ⟨rfl, rfl⟩⟩, ?_⟩
      rintro _ H ⟨rfl, rfl⟩
      refine ⟨_, rfl, rfl, _, rfl, iteTb rfl ⟨_, rfl, _, rfl, _, _, rfl, rfl, ?_⟩⟩
      show Q (.bl (decide ((if i < 0 then -i else i) < 2 ^ 256))) _
      rw [decide_eq_true (by split <;> omega)]
      exact k _ (Same.refl _)
    | oth kd v h1 h2 =>
      refine ⟨fun σ H1 => σ = [some (.str kd), some v, none] ∧ H1 = H, ⟨_, rfl, rfl, _, rfl, iteFb (dec_str h1) ⟨rfl, rfl⟩⟩, ?_⟩
      rintro _ H ⟨rfl, rfl⟩
      refine ⟨_, rfl, rfl, _, rfl, iteFb (dec_str h2) ⟨_, rfl, sz_2, fun u hu => ⟨u, _, rfl, .inr (SqT.of upd_same), rfl, rfl, ?_⟩⟩⟩
      rw [if_neg Bool.false_ne_true, show [V.str "none", V.str "bool"] = (["none", "bool"] : List Str).map V.str from rfl, inV_strs]
      exact k _ (Same.new hu)
end
section
variable {P : Program} {w : World} {K : PySem.W.Frag} {mg : Str → Option Value} {base : Heap}
/-- what waits: a value, its level, whether it stands in a key -/
structure Wt where
  v : Vl
  l : Nat
  k : Bool
def wtD (x : Wt) : PyData := .tuple [vlD x.v, .int ((x.l : Nat) : Int), .bool x.k]
def sons (l : Nat) (r : Row) : List Wt := (kids r).map fun p => ⟨p.1, l + 1, p.2⟩
structure WtOk (N : Nat) (x : Wt) : Prop where
  v : VD N x.v
  l : 1 ≤ x.l ∧ x.l ≤ 7
  k : x.k = true → ∃ i, x.v = .int i
def gW (rows : List Row) (x : Wt) : Bool := gd rows (7 - x.l) x.v
def cW (rows : List Row) (x : Wt) : Nat := ct rows (7 - x.l) x.v
def mW (x : Wt) : Nat := 7 ^ (8 - x.l)
theorem ct_pos {rows : List Row} {n : Nat} {x : Vl} (h : gd rows n x = true) : 1 ≤ ct rows n x := by
  cases n with
  | zero => simp [gd] at h
  | succ n =>
    cases x <;> simp only [ct] <;> try exact Nat.le_refl _
    split
    · omega
    · exact Nat.le_refl _
theorem kids_len (r : Row) : (kids r).length ≤ 2 * rlen r := by
  cases r <;> simp [kids, rlen] <;> omega
theorem sum_le_of {α : Type} {f : α → Nat} {c : Nat} : ∀ {l : List α}, (∀ a ∈ l, f a ≤ c) → (l.map f).sum ≤ l.length * c
  | [], _ => by simp
  | a :: l, h => by
    rw [List.map_cons, List.sum_cons, List.length_cons, Nat.succ_mul]
    have h1 := h a (List.mem_cons_self ..)
    have h2 := sum_le_of (l := l) fun b hb => h b (List.mem_cons_of_mem _ hb)
    omega
theorem sons_lt {r : Row} {y : Wt} (h : rlen r ≤ 3) (hl : y.l ≤ 6) : ((sons y.l r).map mW).sum < mW y := by
  have h1 : ((sons y.l r).map mW).sum ≤ (sons y.l r).length * 7 ^ (7 - y.l) := sum_le_of fun a ha => by
    obtain ⟨p, _, rfl⟩ := List.mem_map.mp ha
    show 7 ^ (8 - (y.l + 1)) ≤ _
    rw [show 8 - (y.l + 1) = 7 - y.l by omega]
    exact Nat.le_refl _
  have h2 : (sons y.l r).length ≤ 6 := by
    have := kids_len r
    show ((kids r).map _).length ≤ 6
    rw [List.length_map]; omega
  have h3 : mW y = 7 * 7 ^ (7 - y.l) := by
    show 7 ^ (8 - y.l) = _
    rw [show 8 - y.l = (7 - y.l) + 1 by omega, Nat.pow_succ, Nat.mul_comm]
  have h4 : 0 < 7 ^ (7 - y.l) := Nat.pow_pos (by decide)
  have h5 := Nat.mul_le_mul_right (7 ^ (7 - y.l)) h2
  rw [h3]
  omega
theorem mW_pos (y : Wt) : 0 < mW y := Nat.pow_pos (by decide)
theorem gW_ref {rows : List Row} {y : Wt} {kk : Nat} {r : Row} (e : y.v = .ref kk) (er : rows[kk]? = some r) (hl : y.l ≤ 6) (hc : isC r = true) : gW rows y = (sons y.l r).all (gW rows) := by
  show gd rows (7 - y.l) y.v = _
  rw [e, show 7 - y.l = (6 - y.l) + 1 by omega]
  show (match rows[kk]? with | some r => isC r && (kids r).all fun p => gd rows (6 - y.l) p.1 | none => false) = _
  rw [er]
  show (isC r && (kids r).all fun p => gd rows (6 - y.l) p.1) = ((kids r).map _).all _
  rw [hc, Bool.true_and, List.all_map]
  congr 1
  funext p
  show _ = gd rows (7 - (y.l + 1)) p.1
  rw [show 7 - (y.l + 1) = 6 - y.l by omega]
theorem cW_ref {rows : List Row} {y : Wt} {kk : Nat} {r : Row} (e : y.v = .ref kk) (er : rows[kk]? = some r) (hl : y.l ≤ 6) : cW rows y = 1 + ((sons y.l r).map (cW rows)).sum := by
  show ct rows (7 - y.l) y.v = _
  rw [e, show 7 - y.l = (6 - y.l) + 1 by omega]
  show (match rows[kk]? with | some r => 1 + ((kids r).map fun (p : Vl × Bool) => ct rows (6 - y.l) p.1).sum | none => 1) = _
  rw [er]
  show 1 + _ = 1 + (((kids r).map _).map _).sum
  rw [List.map_map]
  congr 3
  funext p
  show _ = ct rows (7 - (y.l + 1)) p.1
  rw [show 7 - (y.l + 1) = 6 - y.l by omega]
theorem gW_leaf {rows : List Row} {y : Wt} (e : ∀ k, y.v ≠ .ref k) (hl : y.l ≤ 6) : gW rows y = lfG y.v := by
  show gd rows (7 - y.l) y.v = _
  rw [show 7 - y.l = (6 - y.l) + 1 by omega]
  cases h : y.v <;> first | rfl | exact absurd h (e _)
theorem gW_oth {rows : List Row} {y : Wt} {kk : Nat} {r : Row} (e : y.v = .ref kk) (er : rows[kk]? = some r) (hl : y.l ≤ 6) (hc : isC r = false) : gW rows y = false := by
  show gd rows (7 - y.l) y.v = _
  rw [e, show 7 - y.l = (6 - y.l) + 1 by omega]
  show (match rows[kk]? with | some r => isC r && (kids r).all fun p => gd rows (6 - y.l) p.1 | none => false) = _
  rw [er]
  show (isC r && _) = false
  rw [hc, Bool.false_and]
theorem nmK_three : ∀ i < 8, nmK i ≠ "tuple" ∧ nmK i ≠ "list" ∧ nmK i ≠ "dict" := by decide +kernel
/-- a leaf as it stands: its kind, its last thing -/
theorem leaf_at {N : Nat} {H : Hp} {v : V} {x : Vl} (h : Dt K H v (vlD x)) (hx : VD N x) (hn : ∀ k, x ≠ .ref k) : ∃ q ws u, v = .ref q ∧ SqT K H q ws ∧ atI ws (-1) = some u ∧ LeafA (knd x) u (lfG x) := by
  have oth : ∀ (kd : Str) (u : V) (b : Bool), kd ≠ "text" → kd ≠ "int" → decide (kd ∈ (["none", "bool"] : List Str)) = b → LeafA kd u b := fun kd u b h1 h2 h3 => h3 ▸ .oth kd u h1 h2
  cases x with
  | ref k => exact absurd rfl (hn k)
  | non =>
    obtain ⟨q, ws, rfl, hs, a⟩ := h.tuple_inv
    obtain ⟨v1, w1, rfl, d1, a1⟩ := a.cons_inv
    cases a1.nil_inv
    cases d1
    exact ⟨q, _, _, rfl, hs, rfl, oth _ _ _ (by decide +kernel) (by decide +kernel) (by decide +kernel)⟩
  | bool b =>
    obtain ⟨q, ws, rfl, hs, a⟩ := h.tuple_inv
    obtain ⟨v1, w1, rfl, d1, a1⟩ := a.cons_inv
    obtain ⟨v2, w2, rfl, d2, a2⟩ := a1.cons_inv
    cases a2.nil_inv
    exact ⟨q, _, v2, rfl, hs, rfl, oth "bool" _ true (by decide +kernel) (by decide +kernel) (by decide +kernel)⟩
  | int i =>
    obtain ⟨q, ws, rfl, hs, a⟩ := h.tuple_inv
    obtain ⟨v1, w1, rfl, d1, a1⟩ := a.cons_inv
    obtain ⟨v2, w2, rfl, d2, a2⟩ := a1.cons_inv
    cases a2.nil_inv
    cases d2.int_inv
    exact ⟨q, _, _, rfl, hs, rfl, .int i (hx.i i rfl)⟩
  | text z =>
    obtain ⟨q, ws, rfl, hs, a⟩ := h.tuple_inv
    obtain ⟨v1, w1, rfl, d1, a1⟩ := a.cons_inv
    obtain ⟨v2, w2, rfl, d2, a2⟩ := a1.cons_inv
    cases a2.nil_inv
    cases d2
    obtain ⟨js, rfl, h1, h2⟩ := hx.t z rfl
    exact ⟨q, _, _, rfl, hs, rfl, .text js h1 h2⟩
  | span a b =>
    obtain ⟨q, ws, rfl, hs, a⟩ := h.tuple_inv
    obtain ⟨v1, w1, rfl, d1, a1⟩ := a.cons_inv
    obtain ⟨v2, w2, rfl, d2, a2⟩ := a1.cons_inv
    obtain ⟨v3, w3, rfl, d3, a3⟩ := a2.cons_inv
    cases a3.nil_inv
    exact ⟨q, _, v3, rfl, hs, rfl, oth "span" _ false (by decide +kernel) (by decide +kernel) (by decide +kernel)⟩
  | built z =>
    obtain ⟨q, ws, rfl, hs, a⟩ := h.tuple_inv
    obtain ⟨v1, w1, rfl, d1, a1⟩ := a.cons_inv
    obtain ⟨v2, w2, rfl, d2, a2⟩ := a1.cons_inv
    cases a2.nil_inv
    exact ⟨q, _, v2, rfl, hs, rfl, oth "built" _ false (by decide +kernel) (by decide +kernel) (by decide +kernel)⟩
  | host z =>
    obtain ⟨q, ws, rfl, hs, a⟩ := h.tuple_inv
    obtain ⟨v1, w1, rfl, d1, a1⟩ := a.cons_inv
    obtain ⟨v2, w2, rfl, d2, a2⟩ := a1.cons_inv
    cases a2.nil_inv
    exact ⟨q, _, v2, rfl, hs, rfl, oth "host" _ false (by decide +kernel) (by decide +kernel) (by decide +kernel)⟩
theorem hd_parts {H : Hp} {hp : Addr} {rows : List Row} {j : Nat} {r : Row} {va : V} (L : ListAt K H hp (rows.map rowD)) (e : rows[j]? = some r) (hc : isC r = true) (a : Dt K H va (vlD (.ref j))) :
    ∃ q zs q2 x1 ea xs, va = .ref q ∧ SqT K H q [.str "ref", .int ((j : Nat) : Int)] ∧ H hp = some (.lst zs) ∧ atI zs ((j : Nat) : Int) = some (.ref q2) ∧ SqT K H q2 [x1, .ref ea] ∧ SqT K H ea xs ∧ DtAll K H xs (rparts r) := by
  obtain ⟨q, zs, y, q2, ws, rfl, hq, ez, hy, rfl, hq2, dy⟩ := hd_row L e a
  rw [rowD_two (r := r) (fun z q h => by rw [h] at hc; cases hc)] at dy
  obtain ⟨q3, x1, x2, e3, hq3, d1, d2⟩ := dt_pr dy
  cases e3
  obtain ⟨ea, xs, rfl, hea, ae⟩ := d2.tuple_inv
  exact ⟨q, zs, q2, x1, ea, xs, rfl, hq, ez, hy, hq3, hea, ae⟩
theorem hd_parts' {H : Hp} {hp : Addr} {rows : List Row} {j : Nat} {r : Row} {va : V} (L : ListAt K H hp (rows.map rowD)) (e : rows[j]? = some r) (hc : isC r = true) (a : Dt K H va (vlD (.ref j))) :
    ∃ q zs q2 x1 ea xs, va = .ref q ∧ SqT K H q [.str "ref", .int ((j : Nat) : Int)] ∧ H hp = some (.lst zs) ∧ atI zs ((j : Nat) : Int) = some (.ref q2) ∧ (SqT K H q2 [.str (rkd r), .ref ea] ∧ x1 = V.str (rkd r)) ∧ SqT K H ea xs ∧ DtAll K H xs (rparts r) := by
  obtain ⟨q, zs, y, q2, ws, rfl, hq, ez, hy, rfl, hq2, dy⟩ := hd_row L e a
  rw [rowD_two (r := r) (fun z q h => by rw [h] at hc; cases hc)] at dy
  obtain ⟨q3, x1, x2, e3, hq3, d1, d2⟩ := dt_pr dy
  cases e3
  cases d1
  obtain ⟨ea, xs, rfl, hea, ae⟩ := d2.tuple_inv
  exact ⟨q, zs, q2, _, ea, xs, rfl, hq, ez, hy, ⟨hq3, rfl⟩, hea, ae⟩
def HeapD (rows : List Row) : Prop := ∀ r ∈ rows, RD rows.length r
def spGoes (K : PySem.W.Frag) : Sp := fun vs H Q _ => ∃ (hp : Addr) (rows : List Row) (v : V) (x : Vl), vs = [.ref hp, v] ∧ ListAt K H hp (rows.map rowD) ∧ Dt K H v (vlD x) ∧ HeapD rows ∧ VD rows.length x ∧ (gd rows 6 x = true → ct rows 6 x ≤ 1000) ∧ ∀ H', Same H H' → Q (.bl (gd rows 6 x)) H'
theorem ok_goes1 {f : Addr} {fd : FuncData} (F : Fun K "_goes_out" "_goes_out" s_goes_out f fd) (T : Txt K mg) (U_sort_of : Use P w K mg base CX0 "sort_of" 1 P_sort_of (spSort K)) (U_is_leaf : Use P w K mg base CX0 "_is_leaf" 1 P_is_leaf (spLeafA K)) : FnG P w K mg base CX0 2 f fd P_goes_out (spGoes K) := by
  refine okG0 F sc_goes_out (fun vs H Q E h => ?_) fun cdv A outer s H vs Q E hr hg h => ?_
  · obtain ⟨hp, rows, v, x, rfl, _⟩ := h
    rfl
  · obtain ⟨hp, rows, v, x, rfl, L, dx, hR, hx, hc, k⟩ := h
    refine ⟨_, (pss_cons (ps_set (i := 2) sc_goes_out.nd rfl (Or.inl rfl) pe_int)
  (pss_cons (ps_set (i := 3) sc_goes_out.nd rfl (Or.inl rfl) (pe_lst (pa_cons (pe_tup (pa_cons (pv 1) (pa_cons pe_int (pa_cons pe_bl pa_nil)))) pa_nil)))
  (pss_cons (ps_while PassesOwn.never (pt_up (pt_truth (pv 3) (by intro _; rfl)))
   (pss_cons (ps_asg (pe_bm0 PySem.F.plainAttrs_list PySem.F.slot_list_pop PySem.F.type_list_pop mt_pop (pv 3)) (pg_tup (by rfl) (pgs_cons (pg_name (i := 4) sc_goes_out.nd rfl (Or.inl rfl)) (pgs_cons (pg_name (i := 5) sc_goes_out.nd rfl (Or.inr rfl)) (pgs_cons (pg_name (i := 6) sc_goes_out.nd rfl (Or.inr rfl)) pgs_nil)))))
  (pss_cons (ps_aug (i := 2) sc_goes_out.nd rfl (Or.inl rfl) pe_int ip_add)
  (pss_cons (ps_if (PW.pt (pw_or (pt_cmpR op_gt (pv 5) (pe_globI T.c_MOST_LEVELS (by rfl)) (nomark _)) (pw_or1 (pt_cmpR op_gt (pe_op op_add (pv 2) (pe_callB call_len (by rfl) T.b_len PySem.boot_len (pa_cons (pv 3) pa_nil))) (pe_globI T.c_MOST_SIZE (by rfl)) (nomark _)))))
   (pss_one (ps_ret pe_bl))
   pss_nil)
  (pss_cons (ps_set (i := 7) sc_goes_out.nd rfl (Or.inl rfl) (pe_use U_sort_of (hr.mono (by decide)) hg rfl (pa_cons (pv 0) (pa_cons (pv 4) pa_nil))))
  (pss_one (ps_if (PW.pt (pw_or (pt_cmpR op_eq (pv 7) pe_str (nomark _)) (pw_or1 (PW.pt (pw_and (pt_cmpR op_eq (pv 7) pe_str (nomark _)) (pw_and1 (pt_not (pt_val (pv 6)))))))))
   (pss_one (ps_expr (pe_bm PySem.F.plainAttrs_list PySem.F.slot_list_extend PySem.F.type_list_extend mt_extend (pv 3) (pa_cons (pe_lc (own := [("each", 8)]) (g := (gName 8)) rfl sc_goes_out.nd (pi_tup (pe_ix ix_tup (pe_ix ix_list (pv 0) (pe_ix ix_tup (pv 4) pe_int (fun _ _ => rfl)) (fun _ _ => rfl)) pe_int (fun _ _ => rfl))) (blkOk_by (N := N_goes_out) (sc := defScope s_goes_out) (by decide +kernel)) (fun _ _ _ _ _ => (pg_name (i := 8) sc_goes_out.nd rfl (Or.inl rfl))) (fun _ _ _ _ _ => pts_nil) (fun _ _ _ _ _ => (pe_tup (pa_cons (pv 8) (pa_cons (pe_op op_add (pv 5) pe_int) (pa_cons (pv 6) pa_nil)))))) pa_nil))))
   (pss_one (ps_if (PW.pt (pw_and (pt_cmpR op_eq (pv 7) pe_str (nomark _)) (pw_and1 (pt_not (pt_val (pv 6))))))
   (pss_cons (ps_expr (pe_bm PySem.F.plainAttrs_list PySem.F.slot_list_extend PySem.F.type_list_extend mt_extend (pv 3) (pa_cons (pe_lc (own := [("key", 9), ("_", 10)]) (g := (gTup K 2 (gCons (gName 9) (gCons (gName 10) gNil)))) rfl sc_goes_out.nd (pi_tup (pe_ix ix_tup (pe_ix ix_list (pv 0) (pe_ix ix_tup (pv 4) pe_int (fun _ _ => rfl)) (fun _ _ => rfl)) pe_int (fun _ _ => rfl))) (blkOk_by (N := N_goes_out) (sc := defScope s_goes_out) (by decide +kernel)) (fun _ _ _ _ _ => (pg_tup (by rfl) (pgs_cons (pg_name (i := 9) sc_goes_out.nd rfl (Or.inl rfl)) (pgs_cons (pg_name (i := 10) sc_goes_out.nd rfl (Or.inl rfl)) pgs_nil)))) (fun _ _ _ _ _ => pts_nil) (fun _ _ _ _ _ => (pe_tup (pa_cons (pv 9) (pa_cons (pe_op op_add (pv 5) pe_int) (pa_cons pe_bl pa_nil)))))) pa_nil)))
  (pss_one (ps_expr (pe_bm PySem.F.plainAttrs_list PySem.F.slot_list_extend PySem.F.type_list_extend mt_extend (pv 3) (pa_cons (pe_lc (own := [("_", 10), ("worth", 11)]) (g := (gTup K 2 (gCons (gName 10) (gCons (gName 11) gNil)))) rfl sc_goes_out.nd (pi_tup (pe_ix ix_tup (pe_ix ix_list (pv 0) (pe_ix ix_tup (pv 4) pe_int (fun _ _ => rfl)) (fun _ _ => rfl)) pe_int (fun _ _ => rfl))) (blkOk_by (N := N_goes_out) (sc := defScope s_goes_out) (by decide +kernel)) (fun _ _ _ _ _ => (pg_tup (by rfl) (pgs_cons (pg_name (i := 10) sc_goes_out.nd rfl (Or.inl rfl)) (pgs_cons (pg_name (i := 11) sc_goes_out.nd rfl (Or.inl rfl)) pgs_nil)))) (fun _ _ _ _ _ => pts_nil) (fun _ _ _ _ _ => (pe_tup (pa_cons (pv 11) (pa_cons (pe_op op_add (pv 5) pe_int) (pa_cons pe_bl pa_nil)))))) pa_nil)))))
   (pss_one (ps_if (pt_not (pt_val (pe_use U_is_leaf (hr.mono (by decide)) hg rfl (pa_cons (pv 7) (pa_cons (pe_ix ix_tup (pv 4) (pe_un un_neg pe_int) (fun _ _ => rfl)) pa_nil)))))
   (pss_one (ps_ret pe_bl))
   pss_nil)))))))))))
  (pss_one (ps_ret pe_bl))))), ?_⟩
    refine ⟨_, rfl, sz_3, fun T0 hT0 => ?_⟩
    have S0 := Same.new (o := .tup [v, .int 1, .bl false]) hT0
    have eT := upd_same (H := H) (a := T0) (o := HO.tup [v, .int 1, .bl false])
    generalize upd H T0 (.tup [v, .int 1, .bl false]) = H1 at S0 eT
    refine ⟨sz_1, fun wl hwl => ?_⟩
    have S1 := S0.trans (Same.new (o := .lst [.ref T0]) hwl)
    have ew := upd_same (H := H1) (a := wl) (o := HO.lst [.ref T0])
    have eT1 : (upd H1 wl (.lst [.ref T0])) T0 = some (.tup [v, .int 1, .bl false]) := Same.new hwl _ _ eT
    have hwl0 : H wl = none := same_none' S0 hwl
    generalize upd H1 wl (.lst [.ref T0]) = H2 at S1 ew eT1
    clear S0 eT hwl hT0
    refine while_upN (fun m σ H3 => ∃ (n : Nat) (x4 x5 x6 x7 : Option V) (zs : List V) (st : List Wt), σ = [some (.ref hp), some v, some (.int ((n : Nat) : Int)), some (.ref wl), x4, x5, x6, x7, none, none, none, none] ∧ Same H H3 ∧ H3 wl = some (.lst zs) ∧ DtAll K H3 zs (st.map wtD) ∧ (∀ y ∈ st, WtOk rows.length y) ∧ gd rows 6 x = st.all (gW rows) ∧ (gd rows 6 x = true → n + (st.map (cW rows)).sum ≤ 1000) ∧ st.length ≤ 1010 ∧ m = (st.map mW).sum)
      ⟨_, 0, none, none, none, none, [.ref T0], [⟨x, 1, false⟩], rfl, S1, ew, .cons (Dt.tup (SqT.of eT1) (.cons (dx.mono S1) (.cons (.int _) (.cons (.bl _) .nil)))) .nil, ?_, ?_, ?_, by simp, rfl⟩ ?_
    · intro y hy
      obtain rfl := List.mem_singleton.mp hy
      exact ⟨hx, ⟨Nat.le_refl 1, show 1 ≤ 7 by omega⟩, fun h => nomatch h⟩
    · simp [gW]
    · intro h
      simpa [cW] using hc h
    rintro m σ H3 ⟨n, x4, x5, x6, x7, zs, st, rfl, S3, e3, dz, hok, hall, hct, hst, rfl⟩
    have lz := dz.length
    rw [List.length_map] at lz
    refine ⟨_, rfl, !zs.isEmpty, .inl ⟨zs, SqL.of e3, rfl⟩, ?_⟩
    rcases List.eq_nil_or_concat st with rfl | ⟨st, y, rfl⟩
    · obtain rfl : zs = [] := List.length_eq_zero_iff.mp lz
      refine iteFb rfl ?_
      have := k H3 S3
      rw [hall] at this
      exact this
    rw [List.concat_eq_append] at *
    rw [List.map_append] at dz
    obtain ⟨zs0, u, rfl, dz0, du⟩ := dtAll_snoc dz
    refine iteTb (by simp) ?_
    refine ⟨_, rfl, .inl ⟨rfl, _, SqL.of e3⟩, wl, _, u, rfl, rfl, e3, by simp, ?_⟩
    rw [List.dropLast_concat]
    have kt : KeepT K H3 (upd H3 wl (.lst zs0)) := KeepT.upd e3
    have S4 : Same H (upd H3 wl (.lst zs0)) := fun b o hb => by rw [upd_ne (ne_of_none hb hwl0)]; exact S3 b o hb
    have e4 := upd_same (H := H3) (a := wl) (o := HO.lst zs0)
    have dz4 := dz0.keepT kt
    have du4 := du.keepT kt
    generalize upd H3 wl (.lst zs0) = H4 at S4 e4 dz4 du4
    clear kt S3 e3 dz dz0 du
    obtain ⟨qu, us, rfl, hqu, au⟩ := du4.tuple_inv
    obtain ⟨v1, us1, rfl, dv1, au1⟩ := au.cons_inv
    obtain ⟨v2, us2, rfl, dv2, au2⟩ := au1.cons_inv
    obtain ⟨v3, us3, rfl, dv3, au3⟩ := au2.cons_inv
    cases au3.nil_inv
    cases dv2.int_inv
    cases dv3
    clear au au1 au2 au3 dv2 du4
    have oy : WtOk rows.length y := hok y (List.mem_append_right _ (List.mem_singleton.mpr rfl))
    have hok0 : ∀ z ∈ st, WtOk rows.length z := fun z hz => hok z (List.mem_append_left _ hz)
    rw [List.map_append, List.sum_append] at hct
    rw [List.all_append] at hall
    have e1 : ([y].map (cW rows)).sum = cW rows y := by simp
    have e2 : [y].all (gW rows) = gW rows y := by simp
    have e3 : ((st ++ [y]).map mW).sum = (st.map mW).sum + mW y := by simp
    rw [e1] at hct
    rw [e2] at hall
    have hln : st.length ≤ 1009 := by rw [List.length_append] at hst; simp at hst; omega
    have lz0 : zs0.length = st.length := by rw [dz4.length, List.length_map]
    have hcnt : gd rows 6 x = true → n + 1 + st.length ≤ 1000 := fun h => by
      have h2 := hct h
      rw [hall, Bool.and_eq_true] at h
      have h3 := ct_pos (rows := rows) (n := 7 - y.l) (x := y.v) h.2
      have h4 : ∀ (l : List Wt), l.all (gW rows) = true → l.length ≤ (l.map (cW rows)).sum := by
        intro l
        induction l with
        | nil => intro _; simp
        | cons a l ih =>
          intro h
          rw [List.all_cons, Bool.and_eq_true] at h
          have h5 := ct_pos (rows := rows) (n := 7 - a.l) (x := a.v) h.1
          have := ih h.2
          rw [List.map_cons, List.sum_cons, List.length_cons]
          show _ ≤ ct rows (7 - a.l) a.v + _
          omega
      have h5 := h4 st h.1
      have h6 : cW rows y = ct rows (7 - y.l) y.v := rfl
      omega
    refine ⟨_, _, rfl, hqu, rfl, _, _, rfl, _, _, rfl, _, _, rfl, rfl, ?_⟩
    refine ⟨_, rfl, _, _, rfl, rfl, ?_⟩
    have no : gW rows y = false → Q (.bl false) H4 := fun h => by
      have := k H4 S4
      rw [hall, h, Bool.and_false] at this
      exact this
    by_cases c1 : 6 < y.l
    · refine ⟨_, rfl, _, _, rfl, rfl, _, rfl, iteTb (decide_eq_true (by omega)) (iteTb rfl (no ?_))⟩
      show gd rows (7 - y.l) y.v = false
      rw [show 7 - y.l = 0 by have := oy.l.2; omega]
      rfl
    refine ⟨_, rfl, _, _, rfl, rfl, _, rfl, iteFb (decide_eq_false (by omega)) ?_⟩
    refine ⟨_, rfl, _, rfl, _, _, rfl, .inl ⟨_, SqL.of e4, rfl⟩, _, _, rfl, rfl, _, _, rfl, rfl, _, rfl, ?_⟩
    by_cases c2 : 1000 < n + 1 + st.length
    · refine iteTb (decide_eq_true (show (1000 : Int) < ((n : Nat) : Int) + 1 + ((zs0.length : Nat) : Int) by omega)) ?_
      have hf : gd rows 6 x = false := by
        cases h : gd rows 6 x with
        | false => rfl
        | true => have := hcnt h; omega
      have := k H4 S4
      rw [hf] at this
      exact this
    refine iteFb (decide_eq_false (show ¬ (1000 : Int) < ((n : Nat) : Int) + 1 + ((zs0.length : Nat) : Int) by omega)) ?_
    refine ⟨_, rfl, _, rfl, hp, rows, _, y.v, rfl, listAt_mono L S4, dv1, oy.v.r, ?_⟩
    have hl6 : y.l ≤ 6 := by omega
    by_cases cc : ∃ kk r, y.v = .ref kk ∧ rows[kk]? = some r ∧ isC r = true
    · obtain ⟨kk, r, ev, er, hc⟩ := cc
      have ek : y.k = false := by
        cases h : y.k with
        | false => rfl
        | true => obtain ⟨i, e⟩ := oy.k h; rw [ev] at e; cases e
      have rr : RD rows.length r := hR r (List.mem_of_getElem? er)
      have hkl := kids_len r
      have hrl := rr.len
      have hsl : (sons y.l r).length ≤ 6 := by show ((kids r).map _).length ≤ 6; rw [List.length_map]; omega
      have hso : ∀ z ∈ sons y.l r, WtOk rows.length z := fun z hz => by
        obtain ⟨p, hp, rfl⟩ := List.mem_map.mp hz
        obtain ⟨h1, h2⟩ := rr.kd p hp
        exact ⟨h1, ⟨show 1 ≤ y.l + 1 by omega, show y.l + 1 ≤ 7 by omega⟩, h2⟩
      rw [gW_ref ev er hl6 hc] at hall
      rw [cW_ref ev er hl6] at hct
      have hmm := sons_lt (r := r) (y := y) hrl hl6
      have close : ∀ (σ : L2.St) (H6 : Hp) (acc : List V) (x7 : V), σ = [some (.ref hp), some v, some (.int (((n + 1 : Nat)) : Int)), some (.ref wl), some v1, some (.int ((y.l : Nat) : Int)), some (.bl false), some x7, none, none, none, none] → Same H H6 → H6 wl = some (.lst (zs0 ++ acc)) → DtAll K H6 zs0 (st.map wtD) → DtAll K H6 acc ((sons y.l r).map wtD) →
          ∃ m', m' < ((st ++ [y]).map mW).sum ∧ ∃ (n : Nat) (x4 x5 x6 x7 : Option V) (zs : List V) (st : List Wt), σ = [some (.ref hp), some v, some (.int ((n : Nat) : Int)), some (.ref wl), x4, x5, x6, x7, none, none, none, none] ∧ Same H H6 ∧ H6 wl = some (.lst zs) ∧ DtAll K H6 zs (st.map wtD) ∧ (∀ y ∈ st, WtOk rows.length y) ∧ gd rows 6 x = st.all (gW rows) ∧ (gd rows 6 x = true → n + (st.map (cW rows)).sum ≤ 1000) ∧ st.length ≤ 1010 ∧ m' = (st.map mW).sum := by
        intro σ H6 acc x7 e S6 ew6 d0 d1
        refine ⟨((st ++ sons y.l r).map mW).sum, ?_, n + 1, _, _, _, _, zs0 ++ acc, st ++ sons y.l r, e, S6, ew6, by rw [List.map_append]; exact DtAll.app d0 d1, fun z hz => ?_, by rw [hall, List.all_append], fun h => ?_, by rw [List.length_append]; omega, rfl⟩
        · rw [e3, List.map_append, List.sum_append]; omega
        · rcases List.mem_append.mp hz with h | h
          · exact hok0 z h
          · exact hso z h
        · have := hct h
          rw [List.map_append, List.sum_append]; omega
      have esr : srtO rows y.v = rkd r := by rw [ev]; show (match rows[kk]? with | some r => rkd r | none => "") = _; rw [er]
      rw [esr, ek]
      have dv1' := dv1
      rw [ev] at dv1'
      obtain ⟨q, zsh, q2, x1, ea, xs, rfl, hq, ez, hy, hq2, hea, ae⟩ := hd_parts (listAt_mono L S4) er hc dv1'
      cases r with
      | oth z q0 => cases hc
      | tup vs =>
        have hpts : rparts (.tup vs) = vs.map vlD := rfl
        have hsn : sons y.l (.tup vs) = vs.map fun v => ⟨v, y.l + 1, false⟩ := by show ((vs.map _).map _) = _; rw [List.map_map]; rfl
        refine ⟨_, rfl, rfl, _, rfl, iteTb rfl (iteTb rfl ?_)⟩
        have la := ae.length
        rw [hpts, List.length_map] at la
        have lvs : vs.length ≤ 3 := hrl
        refine ⟨_, rfl, .inl ⟨rfl, _, SqL.of e4⟩, _, rfl, _, rfl, q, _, _, _, rfl, rfl, hq, at1, hp, _, _, _, rfl, rfl, SqL.of ez, hy, q2, _, _, _, rfl, rfl, hq2, at1, ea, rfl, ⟨_, hea⟩, fun Dl hD => ?_⟩
        refine lc_dt (K := K) (walk_tup (xs := xs)) hD ((sons y.l (.tup vs)).map wtD) (by rw [hsn, List.length_map, List.length_map]; omega) (js_lt (by omega)) (fun H' S => Same.tupl S hea) ?_ ?_ mono_name
        · rintro i x H6 H7 d Nx hi hd S6 ⟨acc, eacc⟩ ⟨rfl, hx⟩ nx
          obtain ⟨d', hd', dx⟩ := ae.getV hx
          rw [hpts, List.getElem?_map] at hd'
          obtain ⟨e, he, rfl⟩ := Option.map_eq_some_iff.mp hd'
          rw [hsn, List.map_map, List.getElem?_map, he] at hd
          cases hd
          refine ⟨rfl, _, rfl, _, rfl, _, _, rfl, rfl, _, rfl, sz_3, fun t ht => ?_⟩
          refine nx _ _ (Same.new ht) (Dt.made ht (.cons (dx.mono S6) (.cons (.int _) (.cons (.bl _) .nil))))
        rintro H6 acc S6 eacc aacc
        have lacc := aacc.length
        rw [List.length_map] at lacc
        have kt6 : KeepT K H6 (upd H6 wl (.lst (zs0 ++ acc))) := KeepT.upd (S6 _ _ e4)
        refine ⟨wl, Dl, zs0, acc, rfl, rfl, S6 _ _ e4, eacc, Nat.le_trans (show zs0.length + acc.length ≤ 5000000 by omega) (by decide), ?_⟩
        exact close _ _ acc _ rfl (fun b o hb => by rw [upd_ne (ne_of_none hb hwl0)]; exact S6 _ _ (S4 b o hb)) upd_same ((DtAll.mono S6 dz4).keepT kt6) (aacc.keepT kt6)
      | lst vs =>
        have hpts : rparts (.lst vs) = vs.map vlD := rfl
        have hsn : sons y.l (.lst vs) = vs.map fun v => ⟨v, y.l + 1, false⟩ := by show ((vs.map _).map _) = _; rw [List.map_map]; rfl
        refine ⟨_, rfl, rfl, _, rfl, iteFb (dec_str (show ("list" : Str) ≠ "tuple" by decide +kernel)) ⟨_, rfl, rfl, _, rfl, iteTb (decide_eq_true rfl) ⟨_, rfl, _, rfl, iteTb rfl ?_⟩⟩⟩
        have la := ae.length
        rw [hpts, List.length_map] at la
        have lvs : vs.length ≤ 3 := hrl
        refine ⟨_, rfl, .inl ⟨rfl, _, SqL.of e4⟩, _, rfl, _, rfl, q, _, _, _, rfl, rfl, hq, at1, hp, _, _, _, rfl, rfl, SqL.of ez, hy, q2, _, _, _, rfl, rfl, hq2, at1, ea, rfl, ⟨_, hea⟩, fun Dl hD => ?_⟩
        refine lc_dt (K := K) (walk_tup (xs := xs)) hD ((sons y.l (.lst vs)).map wtD) (by rw [hsn, List.length_map, List.length_map]; omega) (js_lt (by omega)) (fun H' S => Same.tupl S hea) ?_ ?_ mono_name
        · rintro i x H6 H7 d Nx hi hd S6 ⟨acc, eacc⟩ ⟨rfl, hx⟩ nx
          obtain ⟨d', hd', dx⟩ := ae.getV hx
          rw [hpts, List.getElem?_map] at hd'
          obtain ⟨e, he, rfl⟩ := Option.map_eq_some_iff.mp hd'
          rw [hsn, List.map_map, List.getElem?_map, he] at hd
          cases hd
          refine ⟨rfl, _, rfl, _, rfl, _, _, rfl, rfl, _, rfl, sz_3, fun t ht => ?_⟩
          refine nx _ _ (Same.new ht) (Dt.made ht (.cons (dx.mono S6) (.cons (.int _) (.cons (.bl _) .nil))))
        rintro H6 acc S6 eacc aacc
        have lacc := aacc.length
        rw [List.length_map] at lacc
        have kt6 : KeepT K H6 (upd H6 wl (.lst (zs0 ++ acc))) := KeepT.upd (S6 _ _ e4)
        refine ⟨wl, Dl, zs0, acc, rfl, rfl, S6 _ _ e4, eacc, Nat.le_trans (show zs0.length + acc.length ≤ 5000000 by omega) (by decide), ?_⟩
        exact close _ _ acc _ rfl (fun b o hb => by rw [upd_ne (ne_of_none hb hwl0)]; exact S6 _ _ (S4 b o hb)) upd_same ((DtAll.mono S6 dz4).keepT kt6) (aacc.keepT kt6)
      | dct es =>
        have hpts : rparts (.dct es) = es.map entD := rfl
        have hsn : sons y.l (.dct es) = (es.map fun e => (⟨e.1, y.l + 1, true⟩ : Wt)) ++ es.map fun e => (⟨e.2, y.l + 1, false⟩ : Wt) := by show ((es.map _ ++ es.map _).map _) = _; rw [List.map_append, List.map_map, List.map_map]; rfl
        have la := ae.length
        rw [hpts, List.length_map] at la
        have lvs : es.length ≤ 3 := hrl
        refine ⟨_, rfl, rfl, _, rfl, iteFb (dec_str (show ("dict" : Str) ≠ "tuple" by decide +kernel)) ⟨_, rfl, rfl, _, rfl, iteFb (dec_str (show ("dict" : Str) ≠ "list" by decide +kernel)) (iteFb rfl ?_)⟩⟩
        refine ⟨_, rfl, rfl, _, rfl, iteTb (decide_eq_true rfl) ⟨_, rfl, _, rfl, iteTb rfl ?_⟩⟩
        refine ⟨_, rfl, .inl ⟨rfl, _, SqL.of e4⟩, _, rfl, _, rfl, q, _, _, _, rfl, rfl, hq, at1, hp, _, _, _, rfl, rfl, SqL.of ez, hy, q2, _, _, _, rfl, rfl, hq2, at1, ea, rfl, ⟨_, hea⟩, fun Dl hD => ?_⟩
        refine lc_dt (K := K) (walk_tup (xs := xs)) hD ((es.map fun e => (⟨e.1, y.l + 1, true⟩ : Wt)).map wtD) (by rw [List.length_map, List.length_map]; omega) (js_lt (by omega)) (fun H' S => Same.tupl S hea) ?_ ?_ mono_tup2
        · rintro i x H6 H7 d Nx hi hd S6 ⟨acc, eacc⟩ ⟨rfl, hx⟩ nx
          obtain ⟨d', hd', dx⟩ := ae.getV hx
          rw [hpts, List.getElem?_map] at hd'
          obtain ⟨e, he, rfl⟩ := Option.map_eq_some_iff.mp hd'
          rw [List.map_map, List.getElem?_map, he] at hd
          cases hd
          obtain ⟨qe, x1, y1, rfl, hqe, dx1, dy1⟩ := dt_ent (dx.mono S6)
          refine ⟨qe, _, rfl, hqe, rfl, _, _, rfl, _, _, rfl, rfl, rfl, _, rfl, _, rfl, _, _, rfl, rfl, sz_3, fun t ht => ?_⟩
          exact nx _ _ (Same.new ht) (Dt.made ht (.cons dx1 (.cons (.int _) (.cons (.bl _) .nil))))
        rintro H6 acc S6 eacc aacc
        have lacc := aacc.length
        rw [List.length_map, List.length_map] at lacc
        have kt6 : KeepT K H6 (upd H6 wl (.lst (zs0 ++ acc))) := KeepT.upd (S6 _ _ e4)
        refine ⟨wl, Dl, zs0, acc, rfl, rfl, S6 _ _ e4, eacc, Nat.le_trans (show zs0.length + acc.length ≤ 5000000 by omega) (by decide), ?_⟩
        have S7 : Same H (upd H6 wl (.lst (zs0 ++ acc))) := fun b o hb => by rw [upd_ne (ne_of_none hb hwl0)]; exact S6 _ _ (S4 b o hb)
        have e7 := upd_same (H := H6) (a := wl) (o := HO.lst (zs0 ++ acc))
        have dz7 := (DtAll.mono S6 dz4).keepT kt6
        have da7 := aacc.keepT kt6
        have hq7 := kt6 _ _ (Same.tupl S6 hq)
        have hq27 := kt6 _ _ (Same.tupl S6 hq2)
        have hea7 := kt6 _ _ (Same.tupl S6 hea)
        have ae7 := (DtAll.mono S6 ae).keepT kt6
        have ez7 : (upd H6 wl (.lst (zs0 ++ acc))) hp = some (.lst zsh) := by
          rw [upd_ne (ne_of_none L.choose_spec.1 hwl0)]
          exact S6 _ _ ez
        generalize upd H6 wl (.lst (zs0 ++ acc)) = H7 at S7 e7 dz7 da7 hq7 hq27 hea7 ae7 ez7
        clear kt6 eacc aacc S6 hq hq2 hea ae ez
        refine ⟨_, rfl, .inl ⟨rfl, _, SqL.of e7⟩, _, rfl, _, rfl, q, _, _, _, rfl, rfl, hq7, at1, hp, _, _, _, rfl, rfl, SqL.of ez7, hy, q2, _, _, _, rfl, rfl, hq27, at1, ea, rfl, ⟨_, hea7⟩, fun Dl2 hD2 => ?_⟩
        refine lc_dt (K := K) (walk_tup (xs := xs)) hD2 ((es.map fun e => (⟨e.2, y.l + 1, false⟩ : Wt)).map wtD) (by rw [List.length_map, List.length_map]; omega) (js_lt (by omega)) (fun H' S => Same.tupl S hea7) ?_ ?_ mono_tup2
        · rintro i x H8 H9 d Nx hi hd S8 ⟨acc8, eacc8⟩ ⟨rfl, hx⟩ nx
          obtain ⟨d', hd', dx⟩ := ae7.getV hx
          rw [hpts, List.getElem?_map] at hd'
          obtain ⟨e, he, rfl⟩ := Option.map_eq_some_iff.mp hd'
          rw [List.map_map, List.getElem?_map, he] at hd
          cases hd
          obtain ⟨qe, x1, y1, rfl, hqe, dx1, dy1⟩ := dt_ent (dx.mono S8)
          refine ⟨qe, _, rfl, hqe, rfl, _, _, rfl, _, _, rfl, rfl, rfl, _, rfl, _, rfl, _, _, rfl, rfl, sz_3, fun t ht => ?_⟩
          exact nx _ _ (Same.new ht) (Dt.made ht (.cons dy1 (.cons (.int _) (.cons (.bl _) .nil))))
        rintro H8 acc8 S8 eacc8 aacc8
        have lacc8 := aacc8.length
        rw [List.length_map, List.length_map] at lacc8
        have kt8 : KeepT K H8 (upd H8 wl (.lst ((zs0 ++ acc) ++ acc8))) := KeepT.upd (S8 _ _ e7)
        refine ⟨wl, Dl2, zs0 ++ acc, acc8, rfl, rfl, S8 _ _ e7, eacc8, Nat.le_trans (show (zs0 ++ acc).length + acc8.length ≤ 5000000 by rw [List.length_append]; omega) (by decide), ?_⟩
        refine close _ _ (acc ++ acc8) _ rfl (fun b o hb => by rw [upd_ne (ne_of_none hb hwl0)]; exact S8 _ _ (S7 b o hb)) (by rw [upd_same, List.append_assoc]) ((DtAll.mono S8 dz7).keepT kt8) ?_
        rw [hsn, List.map_append]
        exact DtAll.app ((DtAll.mono S8 da7).keepT kt8) (aacc8.keepT kt8)
    · obtain ⟨q, ws, u, rfl, hq, hu, hla, ht1, ht2, ht3⟩ : ∃ q ws u, v1 = .ref q ∧ SqT K H4 q ws ∧ atI ws (-1) = some u ∧ LeafA (srtO rows y.v) u (gW rows y) ∧ srtO rows y.v ≠ "tuple" ∧ srtO rows y.v ≠ "list" ∧ srtO rows y.v ≠ "dict" := by
        by_cases cr : ∃ kk, y.v = .ref kk
        · obtain ⟨kk, ev⟩ := cr
          have hlt := oy.v.r kk ev
          have er : rows[kk]? = some rows[kk] := List.getElem?_eq_getElem hlt
          generalize rows[kk] = r at er
          have hc : isC r = false := by
            cases h : isC r with
            | false => rfl
            | true => exact absurd ⟨kk, r, ev, er, h⟩ cc
          have rr : RD rows.length r := hR r (List.mem_of_getElem? er)
          rw [gW_oth ev er hl6 hc]
          have esr : srtO rows y.v = rkd r := by rw [ev]; show (match rows[kk]? with | some r => rkd r | none => "") = _; rw [er]
          rw [esr]
          have dv1' := dv1
          rw [ev] at dv1'
          obtain ⟨q, ws, rfl, hs, a⟩ := dv1'.tuple_inv
          obtain ⟨v1, w1, rfl, d1, a1⟩ := a.cons_inv
          obtain ⟨v2, w2, rfl, d2, a2⟩ := a1.cons_inv
          cases a2.nil_inv
          cases r with
          | oth z q0 =>
            obtain ⟨g1, g2, g3, g4⟩ := rr.nl z q0 rfl
            obtain ⟨o1, o2, o3⟩ := rr.oth
            refine ⟨q, _, v2, rfl, hs, rfl, ?_, o1, o2, o3⟩
            have := LeafA.oth z v2 g4 g3
            rw [show decide (z ∈ (["none", "bool"] : List Str)) = false from decide_eq_false (by simp [g1, g2])] at this
            exact this
          | _ => cases hc
        · have hn : ∀ k, y.v ≠ .ref k := fun k e => cr ⟨k, e⟩
          have esr : srtO rows y.v = knd y.v := by cases h : y.v <;> first | rfl | exact absurd h (hn _)
          rw [esr, gW_leaf hn hl6]
          obtain ⟨q, ws, u, h1, h2, h3, h4⟩ := leaf_at dv1 oy.v hn
          obtain ⟨t1, t2, t3⟩ := nmK_three _ (kn_lt y.v)
          exact ⟨q, ws, u, h1, h2, h3, h4, t1, t2, t3⟩
      generalize srtO rows y.v = kd at hla ht1 ht2 ht3
      refine ⟨_, rfl, rfl, _, rfl, iteFb (dec_str ht1) ⟨_, rfl, rfl, _, rfl, iteFb (dec_str ht2) (iteFb rfl ?_)⟩⟩
      refine ⟨_, rfl, rfl, _, rfl, iteFb (dec_str ht3) (iteFb rfl ?_)⟩
      refine ⟨_, rfl, _, rfl, _, rfl, q, _, _, _, rfl, rfl, hq, hu, kd, u, gW rows y, rfl, hla, fun H5 S5 => ?_⟩
      refine ⟨_, rfl, ?_⟩
      cases hg : gW rows y with
      | false =>
        refine iteTb rfl ?_
        have := k H5 (S4.trans S5)
        rw [hall, hg, Bool.and_false] at this
        exact this
      | true =>
        refine iteFb rfl ?_
        have hp0 := mW_pos y
        have hp1 : 1 ≤ cW rows y := ct_pos (rows := rows) (n := 7 - y.l) (x := y.v) hg
        refine ⟨_, by rw [e3]; omega, n + 1, _, _, _, _, zs0, st, rfl, S4.trans S5, S5 _ _ e4, DtAll.mono S5 dz4, hok0, by rw [hall, hg, Bool.and_true], fun h => ?_, by omega, rfl⟩
        have := hct h
        omega
end

section
--SPLIT
end
section
/-! host data: what a run made of lists, tuples, dicts with the keys 0 to n-1, leaves -/
inductive HT
  | non | bl (b : Bool) | int (i : Int) | str (z : Str) | lst (ts : List HT) | tup (ts : List HT) | dct (ts : List HT)
def kys (n : Nat) : List Key := (List.range n).map fun (j : Nat) => Sum.inl ((j : Nat) : Int)
mutual
inductive Hs (K : PySem.W.Frag) (H : Hp) (N : Addr → Prop) : V → HT → Prop
  | non : Hs K H N .non .non
  | bl (b : Bool) : Hs K H N (.bl b) (.bl b)
  | int (i : Int) : Hs K H N (.int i) (.int i)
  | str (z : Str) : Hs K H N (.str z) (.str z)
  | lst {a : Addr} {xs : List V} {ts : List HT} : H a = some (.lst xs) → N a → HsAll K H N xs ts → Hs K H N (.ref a) (.lst ts)
  | tup {a : Addr} {xs : List V} {ts : List HT} : SqT K H a xs → HsAll K H N xs ts → Hs K H N (.ref a) (.tup ts)
  | dct {a : Addr} {kvs : List (Key × V)} {ts : List HT} : H a = some (.dK kvs) → N a → kvs.map (·.1) = kys ts.length → HsAll K H N (kvs.map (·.2)) ts → Hs K H N (.ref a) (.dct ts)
inductive HsAll (K : PySem.W.Frag) (H : Hp) (N : Addr → Prop) : List V → List HT → Prop
  | nil : HsAll K H N [] []
  | cons {v : V} {vs : List V} {t : HT} {ts : List HT} : Hs K H N v t → HsAll K H N vs ts → HsAll K H N (v :: vs) (t :: ts)
end
mutual
theorem Hs.up {K : PySem.W.Frag} {H H' : Hp} {N N' : Addr → Prop} (kk : ∀ a u, N a → H a = some u → H' a = some u) (kt : KeepT K H H') (hn : ∀ a, N a → N' a) : ∀ {v : V} {t : HT}, Hs K H N v t → Hs K H' N' v t
  | _, _, .non => .non
  | _, _, .bl b => .bl b
  | _, _, .int i => .int i
  | _, _, .str z => .str z
  | _, _, .lst h1 h2 h3 => .lst (kk _ _ h2 h1) (hn _ h2) (HsAll.up kk kt hn h3)
  | _, _, .tup h1 h3 => .tup (kt _ _ h1) (HsAll.up kk kt hn h3)
  | _, _, .dct h1 h2 h4 h3 => .dct (kk _ _ h2 h1) (hn _ h2) h4 (HsAll.up kk kt hn h3)
theorem HsAll.up {K : PySem.W.Frag} {H H' : Hp} {N N' : Addr → Prop} (kk : ∀ a u, N a → H a = some u → H' a = some u) (kt : KeepT K H H') (hn : ∀ a, N a → N' a) : ∀ {vs : List V} {ts : List HT}, HsAll K H N vs ts → HsAll K H' N' vs ts
  | _, _, .nil => .nil
  | _, _, .cons h1 h2 => .cons (Hs.up kk kt hn h1) (HsAll.up kk kt hn h2)
end
theorem Hs.mono {K : PySem.W.Frag} {H H' : Hp} {N N' : Addr → Prop} {v : V} {t : HT} (h : Hs K H N v t) (S : Same H H') (hn : ∀ a, N a → N' a) : Hs K H' N' v t := h.up (fun a u _ e => S a u e) (Same.keepT S) hn
theorem HsAll.mono {K : PySem.W.Frag} {H H' : Hp} {N N' : Addr → Prop} {vs : List V} {ts : List HT} (h : HsAll K H N vs ts) (S : Same H H') (hn : ∀ a, N a → N' a) : HsAll K H' N' vs ts := h.up (fun a u _ e => S a u e) (Same.keepT S) hn
theorem HsAll.length {K : PySem.W.Frag} {H : Hp} {N : Addr → Prop} : ∀ {vs : List V} {ts : List HT}, HsAll K H N vs ts → vs.length = ts.length
  | _, _, .nil => rfl
  | _, _, .cons _ h => by rw [List.length_cons, List.length_cons, h.length]
theorem HsAll.app {K : PySem.W.Frag} {H : Hp} {N : Addr → Prop} {ws : List V} {us : List HT} (g : HsAll K H N ws us) : ∀ {vs : List V} {ts : List HT}, HsAll K H N vs ts → HsAll K H N (vs ++ ws) (ts ++ us)
  | _, _, .nil => g
  | _, _, .cons h1 h => .cons h1 (HsAll.app g h)
theorem HsAll.get {K : PySem.W.Frag} {H : Hp} {N : Addr → Prop} : ∀ {vs : List V} {ts : List HT} {i : Nat} {t : HT}, HsAll K H N vs ts → ts[i]? = some t → ∃ v, vs[i]? = some v ∧ Hs K H N v t
  | _, _, 0, _, .cons h1 _, e => by cases e; exact ⟨_, rfl, h1⟩
  | _, _, i + 1, _, .cons _ h, e => HsAll.get (i := i) h e
theorem HsAll.getV {K : PySem.W.Frag} {H : Hp} {N : Addr → Prop} : ∀ {vs : List V} {ts : List HT} {i : Nat} {v : V}, HsAll K H N vs ts → vs[i]? = some v → ∃ t, ts[i]? = some t ∧ Hs K H N v t
  | _, _, 0, _, .cons h1 _, e => by cases e; exact ⟨_, rfl, h1⟩
  | _, _, i + 1, _, .cons _ h, e => HsAll.getV (i := i) h e
theorem keepT_dK {K : PySem.W.Frag} {p : Addr} {H : Hp} {o : HO} {kvs : List (Key × V)} (hp : H p = some (.dK kvs)) : KeepT K H (upd H p o) := fun a xs h => by
  rcases h with (h | ⟨o', h⟩) | h
  · exact .inl (.inl (by rw [upd_ne (ne_of h hp (by intro z; cases z))]; exact h))
  · exact .inl (.inr ⟨o', by rw [upd_ne (ne_of h hp (by intro z; cases z))]; exact h⟩)
  · exact .inr h
theorem kys_len (n : Nat) : (kys n).length = n := by simp [kys]
theorem kys_succ (n : Nat) : kys (n + 1) = kys n ++ [Sum.inl ((n : Nat) : Int)] := by rw [kys, List.range_succ, List.map_append]; rfl
theorem kys_not (n : Nat) : (Sum.inl ((n : Nat) : Int) : Key) ∉ kys n := by
  intro h
  obtain ⟨j, hj, e⟩ := List.mem_map.mp h
  have := Sum.inl.inj e
  rw [List.mem_range] at hj
  omega
theorem putK_next {ps : List (Key × V)} {n : Nat} (h : ps.map (·.1) = kys n) (v : V) : putK ps (.inl ((n : Nat) : Int)) v = ps ++ [(.inl ((n : Nat) : Int), v)] := by
  refine putK_new v ?_
  cases e : valV ps (.inl ((n : Nat) : Int)) with
  | none => rfl
  | some u =>
    exfalso
    have hs : (ps.any fun kv => decide (kv.1 = (.inl ((n : Nat) : Int)))) = true := by rw [valV_any, e]; rfl
    obtain ⟨p, hp, he⟩ := List.any_eq_true.mp hs
    have := of_decide_eq_true he
    exact kys_not n (by rw [← h, ← this]; exact List.mem_map_of_mem hp)
end

section
--SPLIT
end
abbrev s_taken : Stmt := top 15
abbrev N_taken : List Str := ["heap", "value", "kind", "parts", "key", "worth", "part"]
abbrev P_taken : List Str := ["heap", "value"]
theorem sc_taken : FnScope N_taken P_taken (defScope s_taken) := ⟨rfl, rfl, rfl, by decide +kernel, rfl, by decide +kernel, by decide +kernel⟩
section
variable {P : Program} {w : World} {K : PySem.W.Frag} {mg : Str → Option Value} {base : Heap}
/-- the host data of a value, n levels -/
def tr (rows : List Row) : Nat → Vl → HT
  | 0, _ => .non
  | n + 1, .ref k => match rows[k]? with
    | some (.tup vs) => .tup (vs.map (tr rows n))
    | some (.lst vs) => .lst (vs.map (tr rows n))
    | some (.dct es) => .dct (es.map fun e => tr rows n e.2)
    | _ => .non
  | _ + 1, .bool b => .bl b
  | _ + 1, .int i => .int i
  | _ + 1, .text z => .str z
  | _ + 1, _ => .non
def trK (rows : List Row) (n : Nat) : Row → HT
  | .tup vs => .tup (vs.map (tr rows n))
  | .lst vs => .lst (vs.map (tr rows n))
  | .dct es => .dct (es.map fun e => tr rows n e.2)
  | .oth _ _ => .non
theorem tr_ref {rows : List Row} {n k : Nat} {r : Row} (e : rows[k]? = some r) : tr rows (n + 1) (.ref k) = trK rows n r := by
  rw [tr, e]
  cases r <;> rfl
def spTaken (K : PySem.W.Frag) (n : Nat) : Sp := fun vs H Q _ => ∃ (hp : Addr) (rows : List Row) (v : V) (x : Vl), vs = [.ref hp, v] ∧ ListAt K H hp (rows.map rowD) ∧ Dt K H v (vlD x) ∧ HeapD rows ∧ VD rows.length x ∧ gd rows n x = true ∧
  ∀ v' H', Same H H' → Hs K H' (fun a => H a = none) v' (tr rows n x) → Q v' H'
theorem taken0 {vs : List V} {H : Hp} {Q : VK} {E : XK} (h : spTaken K 0 vs H Q E) : False := by
  obtain ⟨_, _, _, _, _, _, _, _, _, hg, _⟩ := h
  cases hg
theorem ok_taken {n : Nat} {f : Addr} {fd : FuncData} (F : Fun K "_taken" "_taken" s_taken f fd) (T : Txt K mg) (U_taken : Use P w K mg base CX0 "_taken" (3 + n) P_taken (spTaken K n)) (U_sort_of : Use P w K mg base CX0 "sort_of" 1 P_sort_of (spSort K)) : FnG P w K mg base CX0 (3 + n + 1) f fd P_taken (spTaken K (n + 1)) := by
  refine okG0 F sc_taken (fun vs H Q E h => ?_) fun cdv A outer s H vs Q E hr hg h => ?_
  · obtain ⟨hp, rows, v, x, rfl, _⟩ := h
    rfl
  · obtain ⟨hp, rows, v, x, rfl, L, dx, hR, hx, hgd, k⟩ := h
    refine ⟨_, (pss_cons (ps_set (i := 2) sc_taken.nd rfl (Or.inl rfl) (pe_use U_sort_of (hr.mono (by omega)) hg rfl (pa_cons (pv 0) (pa_cons (pv 1) pa_nil))))
  (pss_cons (ps_if (pt_cmpR op_eq (pv 2) pe_str (nomark _))
   (pss_one (ps_ret pe_non))
   pss_nil)
  (pss_cons (ps_if (pt_cmpR op_in_seq (pv 2) (pe_tup (pa_cons pe_str (pa_cons pe_str (pa_cons pe_str pa_nil)))) (by rfl))
   (pss_one (ps_ret (pe_ix ix_tup (pv 1) pe_int (fun _ _ => rfl))))
   pss_nil)
  (pss_cons (ps_set (i := 3) sc_taken.nd rfl (Or.inl rfl) (pe_ix ix_tup (pe_ix ix_list (pv 0) (pe_ix ix_tup (pv 1) pe_int (fun _ _ => rfl)) (fun _ _ => rfl)) pe_int (fun _ _ => rfl)))
  (pss_cons (ps_if (pt_cmpR op_eq (pv 2) pe_str (nomark _))
   (pss_one (ps_ret (pe_dc (own := [("key", 4), ("worth", 5)]) (g := (gTup K 2 (gCons (gName 4) (gCons (gName 5) gNil)))) rfl sc_taken.nd (pi_tup (pv 3)) (blkOk_by (N := N_taken) (sc := defScope s_taken) (by decide +kernel)) (fun _ _ _ _ _ => (pg_tup (by rfl) (pgs_cons (pg_name (i := 4) sc_taken.nd rfl (Or.inl rfl)) (pgs_cons (pg_name (i := 5) sc_taken.nd rfl (Or.inl rfl)) pgs_nil)))) (fun _ _ _ _ _ => pts_nil) (fun _ _ _ _ _ => (pe_use U_taken (hr.mono (by omega)) hg rfl (pa_cons (pv 0) (pa_cons (pv 4) pa_nil)))) (fun _ _ _ _ _ => (pe_use U_taken (hr.mono (by omega)) hg rfl (pa_cons (pv 0) (pa_cons (pv 5) pa_nil)))))))
   pss_nil)
  (pss_cons (ps_if (pt_cmpR op_eq (pv 2) pe_str (nomark _))
   (pss_one (ps_ret (pe_lc (own := [("part", 6)]) (g := (gName 6)) rfl sc_taken.nd (pi_tup (pv 3)) (blkOk_by (N := N_taken) (sc := defScope s_taken) (by decide +kernel)) (fun _ _ _ _ _ => (pg_name (i := 6) sc_taken.nd rfl (Or.inl rfl))) (fun _ _ _ _ _ => pts_nil) (fun _ _ _ _ _ => (pe_use U_taken (hr.mono (by omega)) hg rfl (pa_cons (pv 0) (pa_cons (pv 6) pa_nil)))))))
   pss_nil)
  (pss_one (ps_ret (pe_callTy call_tuple_of (by rfl) T.b_tuple (by decide +kernel) (pa_cons (pe_lc (own := [("part", 6)]) (g := (gName 6)) rfl sc_taken.nd (pi_tup (pv 3)) (blkOk_by (N := N_taken) (sc := defScope s_taken) (by decide +kernel)) (fun _ _ _ _ _ => (pg_name (i := 6) sc_taken.nd rfl (Or.inl rfl))) (fun _ _ _ _ _ => pts_nil) (fun _ _ _ _ _ => (pe_use U_taken (hr.mono (by omega)) hg rfl (pa_cons (pv 0) (pa_cons (pv 6) pa_nil))))) pa_nil)))))))))), ?_⟩
    refine ⟨_, rfl, _, rfl, hp, rows, _, x, rfl, L, dx, hx.r, ?_⟩
    have i3 : [V.str "bool", V.str "int", V.str "text"] = (["bool", "int", "text"] : List Str).map V.str := rfl
    cases x with
    | span a b => cases hgd
    | built z => cases hgd
    | host z => cases hgd
    | non => exact ⟨_, rfl, rfl, _, rfl, iteTb (decide_eq_true rfl) (k _ _ (Same.refl _) .non)⟩
    | bool b =>
      obtain ⟨q, ws, rfl, hs, a⟩ := dx.tuple_inv
      obtain ⟨v1, w1, rfl, d1, a1⟩ := a.cons_inv
      obtain ⟨v2, w2, rfl, d2, a2⟩ := a1.cons_inv
      cases a2.nil_inv
      cases d2
      refine ⟨_, rfl, rfl, _, rfl, iteFb (dec_str (show ("bool" : Str) ≠ "none" by decide +kernel)) ?_⟩
      refine ⟨_, rfl, sz_3, fun u hu => ⟨u, _, rfl, .inr (SqT.of upd_same), rfl, rfl, _, rfl, ?_⟩⟩
      have hin : decide ((srtO rows (.bool b)) ∈ (["bool", "int", "text"] : List Str)) = true := (show decide (("bool" : Str) ∈ (["bool", "int", "text"] : List Str)) = true by decide +kernel)
      rw [if_neg Bool.false_ne_true, i3, inV_strs, hin]
      exact iteTb rfl ⟨_, rfl, q, _, _, _, rfl, rfl, Same.tupl (Same.new hu) hs, at1, k _ _ (Same.new hu) (.bl b)⟩
    | int b =>
      obtain ⟨q, ws, rfl, hs, a⟩ := dx.tuple_inv
      obtain ⟨v1, w1, rfl, d1, a1⟩ := a.cons_inv
      obtain ⟨v2, w2, rfl, d2, a2⟩ := a1.cons_inv
      cases a2.nil_inv
      cases d2.int_inv
      refine ⟨_, rfl, rfl, _, rfl, iteFb (dec_str (show ("int" : Str) ≠ "none" by decide +kernel)) ?_⟩
      refine ⟨_, rfl, sz_3, fun u hu => ⟨u, _, rfl, .inr (SqT.of upd_same), rfl, rfl, _, rfl, ?_⟩⟩
      have hin : decide ((srtO rows (.int b)) ∈ (["bool", "int", "text"] : List Str)) = true := (show decide (("int" : Str) ∈ (["bool", "int", "text"] : List Str)) = true by decide +kernel)
      rw [if_neg Bool.false_ne_true, i3, inV_strs, hin]
      exact iteTb rfl ⟨_, rfl, q, _, _, _, rfl, rfl, Same.tupl (Same.new hu) hs, at1, k _ _ (Same.new hu) (.int b)⟩
    | text b =>
      obtain ⟨q, ws, rfl, hs, a⟩ := dx.tuple_inv
      obtain ⟨v1, w1, rfl, d1, a1⟩ := a.cons_inv
      obtain ⟨v2, w2, rfl, d2, a2⟩ := a1.cons_inv
      cases a2.nil_inv
      cases d2
      refine ⟨_, rfl, rfl, _, rfl, iteFb (dec_str (show ("text" : Str) ≠ "none" by decide +kernel)) ?_⟩
      refine ⟨_, rfl, sz_3, fun u hu => ⟨u, _, rfl, .inr (SqT.of upd_same), rfl, rfl, _, rfl, ?_⟩⟩
      have hin : decide ((srtO rows (.text b)) ∈ (["bool", "int", "text"] : List Str)) = true := (show decide (("text" : Str) ∈ (["bool", "int", "text"] : List Str)) = true by decide +kernel)
      rw [if_neg Bool.false_ne_true, i3, inV_strs, hin]
      exact iteTb rfl ⟨_, rfl, q, _, _, _, rfl, rfl, Same.tupl (Same.new hu) hs, at1, k _ _ (Same.new hu) (.str b)⟩
    | ref kk =>
      have hlt := hx.r kk rfl
      have er : rows[kk]? = some rows[kk] := List.getElem?_eq_getElem hlt
      generalize rows[kk] = r at er
      have rr : RD rows.length r := hR r (List.mem_of_getElem? er)
      have hgd2 : (isC r && (kids r).all fun p => gd rows n p.1) = true := by
        have h : (match rows[kk]? with | some r => isC r && (kids r).all fun p => gd rows n p.1 | none => false) = true := hgd
        rw [er] at h
        exact h
      rw [Bool.and_eq_true] at hgd2
      obtain ⟨hc, hall⟩ := hgd2
      rw [List.all_eq_true] at hall
      have esr : srtO rows (.ref kk) = rkd r := by show (match rows[kk]? with | some r => rkd r | none => "") = _; rw [er]
      rw [esr]
      have etr : tr rows (n + 1) (.ref kk) = trK rows n r := tr_ref er
      rw [etr] at k
      obtain ⟨q, zsh, q2, x1, ea, xs, rfl, hq, ez, hy, hq2, hea, ae⟩ := hd_parts L er hc dx
      have hk3 : rkd r = "tuple" ∨ rkd r = "list" ∨ rkd r = "dict" := by
        cases r with
        | tup _ => exact .inl rfl
        | lst _ => exact .inr (.inl rfl)
        | dct _ => exact .inr (.inr rfl)
        | oth _ _ => cases hc
      refine ⟨_, rfl, rfl, _, rfl, iteFb (dec_str ?_) ?_⟩
      · rcases hk3 with h | h | h <;> rw [h] <;> decide +kernel
      refine ⟨_, rfl, sz_3, fun u hu => ⟨u, _, rfl, .inr (SqT.of upd_same), rfl, rfl, _, rfl, ?_⟩⟩
      have hin : decide (rkd r ∈ (["bool", "int", "text"] : List Str)) = false := by
        rcases hk3 with h | h | h <;> rw [h] <;> decide +kernel
      rw [if_neg Bool.false_ne_true, i3, inV_strs, hin]
      refine iteFb rfl ?_
      have S0 := Same.new (o := HO.tup ((["bool", "int", "text"] : List Str).map V.str)) hu
      generalize upd H u (.tup ((["bool", "int", "text"] : List Str).map V.str)) = H1 at S0
      refine ⟨_, rfl, _, rfl, q, _, _, _, rfl, rfl, Same.tupl S0 hq, at1, hp, _, _, _, rfl, rfl, SqL.of (S0 _ _ ez), hy, q2, _, _, _, rfl, rfl, Same.tupl S0 hq2, at1, ?_⟩
      have hea1 := Same.tupl S0 hea
      have ae1 := DtAll.mono S0 ae
      have L1 := listAt_mono L S0
      have lae := ae.length
      have hrl := rr.len
      clear hea ae
      cases r with
      | oth z q0 => cases hc
      | dct es =>
        have hl3 : es.length ≤ 3 := hrl
        refine ⟨_, rfl, rfl, _, rfl, iteTb (decide_eq_true rfl) ?_⟩
        refine ⟨_, rfl, ea, rfl, ⟨_, hea1⟩, fun D hD => ?_⟩
        refine dc_it (walk_tup (xs := xs)) (fun i H' => Same H1 H' ∧ ∃ ps, H' D = some (.dK ps) ∧ ps.map (·.1) = kys i ∧ HsAll K H' (fun a => H a = none ∧ a ≠ D) (ps.map (·.2)) ((es.map fun e => tr rows n e.2).take i)) ⟨Same.new hD, [], upd_same, rfl, .nil⟩ (fun _ _ _ h => Same.tupl h.1 hea1) ?_ ?_
        · rintro i x H4 H5 hi ⟨S4, ps4, e4, k4, a4⟩ ⟨rfl, hx⟩
          obtain ⟨d', hd', dxx⟩ := ae1.getV hx
          rw [show rparts (Row.dct es) = es.map entD from rfl, List.getElem?_map] at hd'
          obtain ⟨e, he, rfl⟩ := Option.map_eq_some_iff.mp hd'
          have hm1 : (e.1, true) ∈ kids (Row.dct es) := List.mem_append_left _ (List.mem_map_of_mem (f := fun (e : Vl × Vl) => (e.1, true)) (List.mem_of_getElem? he))
          have hm2 : (e.2, false) ∈ kids (Row.dct es) := List.mem_append_right _ (List.mem_map_of_mem (f := fun (e : Vl × Vl) => (e.2, false)) (List.mem_of_getElem? he))
          have hk1 : e.1 = .int ((i : Nat) : Int) := by
            have h1 := rr.ks es rfl
            have h2 := congrArg (fun l => l[i]?) h1
            simp only [List.getElem?_map, he] at h2
            have hil : i < es.length := by
              rcases Nat.lt_or_ge i es.length with h | h
              · exact h
              · rw [List.getElem?_eq_none h] at he; cases he
            rw [List.getElem?_range hil] at h2
            exact Option.some.inj h2
          obtain ⟨qe, y1, y2, rfl, hqe, d1, d2⟩ := dt_ent (dxx.mono S4)
          have hg1 := hall _ hm1
          refine ⟨qe, _, rfl, hqe, rfl, _, _, rfl, _, _, rfl, rfl, rfl, ?_⟩
          unfold tYes
          refine iteTb rfl ?_
          refine ⟨_, rfl, _, rfl, hp, rows, _, e.1, rfl, listAt_mono L1 S4, d1, hR, (rr.kd _ hm1).1, hg1, fun v5 H6 S6 h6 => ?_⟩
          have hv5 : v5 = kV (.inl ((i : Nat) : Int)) := by
            rw [hk1] at h6 hg1
            cases n with
            | zero => cases hg1
            | succ n => cases h6; rfl
          subst hv5
          refine ⟨_, rfl, _, rfl, hp, rows, _, e.2, rfl, listAt_mono (listAt_mono L1 S4) S6, d2.mono S6, hR, (rr.kd _ hm2).1, hall _ hm2, fun v' H7 S7 h7 => ?_⟩
          have e6 := S6 _ _ e4
          have e7 := S7 _ _ e6
          have l4 := a4.length
          rw [List.length_take, List.length_map, List.length_map] at l4
          refine ⟨ps4, _, rfl, e7, Nat.lt_of_le_of_lt (show ps4.length ≤ 1000 by omega) (by decide), fun b u hb => by rw [upd_ne (ne_of_none hb hD)]; exact S7 _ _ (S6 _ _ (S4 _ _ hb)), _, upd_same, ?_, ?_⟩
          · rw [putK_next k4, List.map_append, k4, kys_succ]; rfl
          rw [putK_next k4, List.map_append, List.take_succ, List.getElem?_map, he]
          have kt : KeepT K H7 (upd H7 D (.dK (ps4 ++ [(Sum.inl ((i : Nat) : Int), v')]))) := keepT_dK e7
          refine HsAll.app (.cons (h7.up (fun a u ha hu => by rw [upd_ne (fun h => by rw [h, e6] at ha; cases ha)]; exact hu) kt (fun a ha => ⟨same_none' (S0.trans (S4.trans S6)) ha, fun h => by rw [h, e6] at ha; cases ha⟩)) .nil) ((a4.mono (S6.trans S7) (fun _ h => h)).up (fun a u ha hu => by rw [upd_ne ha.2]; exact hu) kt (fun _ h => h))
        rintro H4 ⟨S4, ps4, e4, k4, a4⟩
        rw [show rparts (Row.dct es) = es.map entD from rfl, List.length_map] at lae
        rw [List.take_of_length_le (by rw [List.length_map]; omega)] at a4
        exact k _ _ (S0.trans S4) (.dct e4 (same_none' S0 hD) (by rw [k4, List.length_map, lae]) (a4.mono (Same.refl _) fun _ h => h.1))
      | lst vs =>
        have hl3 : vs.length ≤ 3 := hrl
        refine ⟨_, rfl, rfl, _, rfl, iteFb (dec_str (show ("list" : Str) ≠ "dict" by decide +kernel)) ?_⟩
        refine ⟨_, rfl, rfl, _, rfl, iteTb (decide_eq_true rfl) ?_⟩
        refine ⟨_, rfl, ea, rfl, ⟨_, hea1⟩, fun D hD => ?_⟩
        refine lc_it (walk_tup (xs := xs)) (fun i H' => Same H1 H' ∧ ∃ vs', H' D = some (.lst vs') ∧ HsAll K H' (fun a => H a = none ∧ a ≠ D) vs' ((vs.map (tr rows n)).take i)) ⟨Same.new hD, [], upd_same, .nil⟩ (fun _ _ _ h => Same.tupl h.1 hea1) ?_ ?_
        · rintro i x H4 H5 hi ⟨S4, vs4, e4, a4⟩ ⟨rfl, hx⟩
          obtain ⟨d', hd', dxx⟩ := ae1.getV hx
          rw [show rparts (Row.lst vs) = vs.map vlD from rfl, List.getElem?_map] at hd'
          obtain ⟨e, he, rfl⟩ := Option.map_eq_some_iff.mp hd'
          have hm : (e, false) ∈ kids (Row.lst vs) := List.mem_map_of_mem (f := fun v => (v, false)) (List.mem_of_getElem? he)
          refine ⟨rfl, ?_⟩
          unfold tYes
          refine iteTb rfl ?_
          refine ⟨_, rfl, _, rfl, hp, rows, _, e, rfl, listAt_mono L1 S4, dxx.mono S4, hR, (rr.kd _ hm).1, hall _ hm, fun v' H6 S6 h6 => ?_⟩
          have l4 := a4.length
          rw [List.length_take, List.length_map] at l4
          refine ⟨vs4, S6 _ _ e4, Nat.lt_of_le_of_lt (show vs4.length ≤ 1000 by omega) (by decide), fun b u hb => by rw [upd_ne (ne_of_none hb hD)]; exact S6 _ _ (S4 _ _ hb), vs4 ++ [v'], upd_same, ?_⟩
          rw [List.take_succ, List.getElem?_map, he]
          have kt : KeepT K H6 (upd H6 D (.lst (vs4 ++ [v']))) := KeepT.upd (S6 _ _ e4)
          refine HsAll.app (.cons (h6.up (fun a u ha hu => by rw [upd_ne (fun h => by rw [h, e4] at ha; cases ha)]; exact hu) kt (fun a ha => ⟨same_none' (S0.trans S4) ha, fun h => by rw [h, e4] at ha; cases ha⟩)) .nil) ((a4.mono S6 (fun _ h => h)).up (fun a u ha hu => by rw [upd_ne ha.2]; exact hu) kt (fun _ h => h))
        rintro H4 ⟨S4, vs4, e4, a4⟩
        rw [List.take_of_length_le (by rw [List.length_map]; rw [show rparts (Row.lst vs) = vs.map vlD from rfl, List.length_map] at lae; omega)] at a4
        exact k _ _ (S0.trans S4) (.lst e4 (same_none' S0 hD) (a4.mono (Same.refl _) fun _ h => h.1))
      | tup vs =>
        have hl3 : vs.length ≤ 3 := hrl
        refine ⟨_, rfl, rfl, _, rfl, iteFb (dec_str (show ("tuple" : Str) ≠ "dict" by decide +kernel)) ?_⟩
        refine ⟨_, rfl, rfl, _, rfl, iteFb (dec_str (show ("tuple" : Str) ≠ "list" by decide +kernel)) ?_⟩
        refine ⟨_, rfl, ea, rfl, ⟨_, hea1⟩, fun D hD => ?_⟩
        refine lc_it (walk_tup (xs := xs)) (fun i H' => Same H1 H' ∧ ∃ vs', H' D = some (.lst vs') ∧ HsAll K H' (fun a => H a = none ∧ a ≠ D) vs' ((vs.map (tr rows n)).take i)) ⟨Same.new hD, [], upd_same, .nil⟩ (fun _ _ _ h => Same.tupl h.1 hea1) ?_ ?_
        · rintro i x H4 H5 hi ⟨S4, vs4, e4, a4⟩ ⟨rfl, hx⟩
          obtain ⟨d', hd', dxx⟩ := ae1.getV hx
          rw [show rparts (Row.tup vs) = vs.map vlD from rfl, List.getElem?_map] at hd'
          obtain ⟨e, he, rfl⟩ := Option.map_eq_some_iff.mp hd'
          have hm : (e, false) ∈ kids (Row.tup vs) := List.mem_map_of_mem (f := fun v => (v, false)) (List.mem_of_getElem? he)
          refine ⟨rfl, ?_⟩
          unfold tYes
          refine iteTb rfl ?_
          refine ⟨_, rfl, _, rfl, hp, rows, _, e, rfl, listAt_mono L1 S4, dxx.mono S4, hR, (rr.kd _ hm).1, hall _ hm, fun v' H6 S6 h6 => ?_⟩
          have l4 := a4.length
          rw [List.length_take, List.length_map] at l4
          refine ⟨vs4, S6 _ _ e4, Nat.lt_of_le_of_lt (show vs4.length ≤ 1000 by omega) (by decide), fun b u hb => by rw [upd_ne (ne_of_none hb hD)]; exact S6 _ _ (S4 _ _ hb), vs4 ++ [v'], upd_same, ?_⟩
          rw [List.take_succ, List.getElem?_map, he]
          have kt : KeepT K H6 (upd H6 D (.lst (vs4 ++ [v']))) := KeepT.upd (S6 _ _ e4)
          refine HsAll.app (.cons (h6.up (fun a u ha hu => by rw [upd_ne (fun h => by rw [h, e4] at ha; cases ha)]; exact hu) kt (fun a ha => ⟨same_none' (S0.trans S4) ha, fun h => by rw [h, e4] at ha; cases ha⟩)) .nil) ((a4.mono S6 (fun _ h => h)).up (fun a u ha hu => by rw [upd_ne ha.2]; exact hu) kt (fun _ h => h))
        rintro H4 ⟨S4, vs4, e4, a4⟩
        rw [List.take_of_length_le (by rw [List.length_map]; rw [show rparts (Row.tup vs) = vs.map vlD from rfl, List.length_map] at lae; omega)] at a4
        refine ⟨D, _, rfl, .inl ⟨SqL.of e4, fun t ht => ?_⟩⟩
        refine k _ _ ((S0.trans S4).trans (Same.new ht)) (.tup (SqT.of upd_same) (a4.mono (Same.new ht) fun _ h => h.1))
end

section
--SPLIT
end
abbrev s_goes : Stmt := top 12
abbrev N_goes : List Str := ["heap", "values", "value"]
abbrev P_goes : List Str := ["heap", "values"]
theorem sc_goes : FnScope N_goes P_goes (defScope s_goes) := ⟨rfl, rfl, rfl, by decide +kernel, rfl, by decide +kernel, by decide +kernel⟩
abbrev s_take_data : Stmt := top 11
abbrev N_take_data : List Str := ["heap", "value"]
abbrev P_take_data : List Str := ["heap", "value"]
theorem sc_take_data : FnScope N_take_data P_take_data (defScope s_take_data) := ⟨rfl, rfl, rfl, by decide +kernel, rfl, by decide +kernel, by decide +kernel⟩
abbrev s_law_taken : Stmt := top 33
abbrev N_law_taken : List Str := ["heap", "value", "e"]
abbrev P_law_taken : List Str := ["heap", "value"]
theorem sc_law_taken : FnScope N_law_taken P_law_taken (defScope s_law_taken) := ⟨rfl, rfl, rfl, by decide +kernel, rfl, by decide +kernel, by decide +kernel⟩
section
variable {P : Program} {w : World} {K : PySem.W.Frag} {mg : Str → Option Value} {base : Heap}
structure GoV (rows : List Row) (x : Vl) : Prop where
  v : VD rows.length x
  c : gd rows 6 x = true → ct rows 6 x ≤ 1000
def spGoesA (K : PySem.W.Frag) : Sp := fun vs H Q _ => ∃ (hp t : Addr) (rows : List Row) (xs : List V) (ys : List Vl), vs = [.ref hp, .ref t] ∧ ListAt K H hp (rows.map rowD) ∧ SqT K H t xs ∧ DtAll K H xs (ys.map vlD) ∧ HeapD rows ∧ (∀ y ∈ ys, GoV rows y) ∧ ys.length ≤ 1000 ∧ ∀ H', Same H H' → Q (.bl (ys.all (gd rows 6))) H'
theorem ok_goes {f : Addr} {fd : FuncData} (F : Fun K "goes" "goes" s_goes f fd) (T : Txt K mg) (U_goes_out : Use P w K mg base CX0 "_goes_out" 2 P_goes_out (spGoes K)) : FnG P w K mg base CX0 3 f fd P_goes (spGoesA K) := by
  refine okG0 F sc_goes (fun vs H Q E h => ?_) fun cdv A outer s H vs Q E hr hg h => ?_
  · obtain ⟨hp, t, rows, xs, ys, rfl, _⟩ := h
    rfl
  · obtain ⟨hp, t, rows, xs, ys, rfl, L, ht, dx, hR, hys, hl, k⟩ := h
    refine ⟨_, (pss_one (ps_ret (pe_callB (cr_all rfl) (by rfl) T.b_all (by decide +kernel) (pa_cons (pe_lc (own := [("value", 2)]) (g := (gName 2)) rfl sc_goes.nd (pi_tup (pv 1)) (blkOk_by (N := N_goes) (sc := defScope s_goes) (by decide +kernel)) (fun _ _ _ _ _ => (pg_name (i := 2) sc_goes.nd rfl (Or.inl rfl))) (fun _ _ _ _ _ => pts_nil) (fun _ _ _ _ _ => (pe_use U_goes_out (hr.mono (by decide)) hg rfl (pa_cons (pv 0) (pa_cons (pv 2) pa_nil))))) pa_nil)))), ?_⟩
    have lx := dx.length
    rw [List.length_map] at lx
    refine ⟨_, rfl, t, rfl, ⟨xs, ht⟩, fun D hD => ?_⟩
    refine lc_it (walk_tup (xs := xs)) (fun i H' => H' D = some (.lst (((ys.map (gd rows 6)).take i).map V.bl)) ∧ Same H H') ⟨upd_same, Same.new hD⟩ (fun _ _ _ h => Same.tupl h.2 ht) ?_ ?_
    · rintro i x H4 H5 hi ⟨e4, S4⟩ ⟨rfl, hx⟩
      obtain ⟨d', hd', dxx⟩ := dx.getV hx
      rw [List.getElem?_map] at hd'
      obtain ⟨y, hy, rfl⟩ := Option.map_eq_some_iff.mp hd'
      have gy := hys y (List.mem_of_getElem? hy)
      refine ⟨rfl, ?_⟩
      unfold tYes
      refine iteTb rfl ?_
      refine ⟨_, rfl, _, rfl, hp, rows, _, y, rfl, listAt_mono L S4, dxx.mono S4, hR, gy.v, gy.c, fun H6 S6 => ?_⟩
      refine ⟨_, S6 _ _ e4, Nat.lt_of_le_of_lt (show _ ≤ 1000 by rw [List.length_map, List.length_take, List.length_map]; omega) (by decide), ?_, fun b u e => by rw [upd_ne (ne_of_none e hD)]; exact S6 _ _ (S4 _ _ e)⟩
      rw [upd_same, List.take_succ, List.getElem?_map, hy, List.map_append]; rfl
    rintro H4 ⟨e4, S4⟩
    rw [List.take_of_length_le (by rw [List.length_map]; omega)] at e4
    refine ⟨D, _, rfl, SqL.of e4, ?_⟩
    have := k H4 S4
    rw [show ys.all (gd rows 6) = (ys.map (gd rows 6)).all id by rw [List.all_map]; rfl] at this
    exact this
def spTakeD (K : PySem.W.Frag) (C : Addr) : Sp := fun vs H Q E => ∃ (hp : Addr) (rows : List Row) (v : V) (x : Vl), vs = [.ref hp, v] ∧ ListAt K H hp (rows.map rowD) ∧ Dt K H v (vlD x) ∧ HeapD rows ∧ GoV rows x ∧
  (gd rows 6 x = true → ∀ v' H', Same H H' → Hs K H' (fun a => H a = none) v' (tr rows 6 x) → Q v' H') ∧ (gd rows 6 x = false → ∀ H', Same H H' → E (.ref C) none H')
theorem ok_take {CB B : Addr} {f : Addr} {fd : FuncData} (F : Fun K "take_data" "take_data" s_take_data f fd) (T : Txt K mg) (U_BadData : UseD0 K mg CB B) (U_goes_out : Use P w K mg base CX0 "_goes_out" 2 P_goes_out (spGoes K)) (U_taken : Use P w K mg base CX0 "_taken" 9 P_taken (spTaken K 6)) : FnG P w K mg base (L2.CX P w) 10 f fd P_take_data (spTakeD K CB) := by
  refine okG F sc_take_data (fun vs H Q E h => ?_) fun cdv A outer s H vs Q E hr hg h => ?_
  · obtain ⟨hp, rows, v, x, rfl, _⟩ := h
    rfl
  · obtain ⟨hp, rows, v, x, rfl, L, dx, hR, hx, k, e⟩ := h
    refine ⟨_, (pss_cons (ps_if (pt_not (pt_val (pe_use U_goes_out (hr.mono (by decide)) hg rfl (pa_cons (pv 0) (pa_cons (pv 1) pa_nil)))))
   (pss_one (ps_raise0 U_BadData rfl (takes_of rfl rfl rfl rfl) rfl))
   pss_nil)
  (pss_one (ps_ret (pe_use U_taken (hr.mono (by decide)) hg rfl (pa_cons (pv 0) (pa_cons (pv 1) pa_nil)))))), ?_⟩
    refine ⟨_, rfl, _, rfl, hp, rows, _, x, rfl, L, dx, hR, hx.v, hx.c, fun H1 S1 => ?_⟩
    refine ⟨_, rfl, ?_⟩
    cases hgd : gd rows 6 x with
    | false => exact iteTb rfl (e hgd H1 S1)
    | true =>
      refine iteFb rfl ?_
      refine ⟨_, rfl, _, rfl, hp, rows, _, x, rfl, listAt_mono L S1, dx.mono S1, hR, hx.v, hgd, fun v' H2 S2 h2 => ?_⟩
      exact k hgd v' H2 (S1.trans S2) (h2.mono (Same.refl _) fun a ha => same_none' S1 ha)
def spLTaken (K : PySem.W.Frag) : Sp := fun vs H Q _ => ∃ (hp : Addr) (rows : List Row) (v : V) (x : Vl), vs = [.ref hp, v] ∧ ListAt K H hp (rows.map rowD) ∧ Dt K H v (vlD x) ∧ HeapD rows ∧ GoV rows x ∧
  (gd rows 6 x = true → ∀ q v' H', Same H H' → Hs K H' (fun a => H a = none) v' (tr rows 6 x) → H' q = some (.lst [v']) → Q (.ref q) H') ∧ (gd rows 6 x = false → ∀ q H', Same H H' → H' q = some (.lst []) → Q (.ref q) H')
theorem ok_ltaken {CB B : Addr} {f : Addr} {fd : FuncData} (F : Fun K "_law_taken" "_law_taken" s_law_taken f fd) (T : Txt K mg) (U_BadData : UseD0 K mg CB B) (U_take_data : Use P w K mg base (L2.CX P w) "take_data" 10 P_take_data (spTakeD K CB)) : FnG P w K mg base CX0 11 f fd P_law_taken (spLTaken K) := by
  refine okG0 F sc_law_taken (fun vs H Q E h => ?_) fun cdv A outer s H vs Q E hr hg h => ?_
  · obtain ⟨hp, rows, v, x, rfl, _⟩ := h
    rfl
  · obtain ⟨hp, rows, v, x, rfl, L, dx, hR, hx, k, e⟩ := h
    refine ⟨_, (pss_one (ps_try_as (i := 2) rfl rfl sc_law_taken.nd rfl rfl ⟨rfl, by decide, .inl U_BadData.mB⟩ takes0 (fun W pn xe tk po => (pss_one (ps_ret (pe_lst (pa_cons (pe_useS U_take_data (fun σ => passAt tk σ) (hr.mono (by decide)) hg rfl (pa_cons (pv 0) (pa_cons (pv 1) pa_nil))) pa_nil))))) (fun a oe cls d pn hz hf => (pss_cons (ps_if (pt_val (pe_callB (call_isN U_BadData.isc hz hf : CallR _ _ (rIsN K CB a cls d)) (by rfl) T.b_isinstance (by decide +kernel) (pa_cons (pv 2) (pa_cons (pe_glob (v := .ref CB) (by rfl) U_BadData.mC rfl) pa_nil))))
   (pss_one (ps_ret (pe_lst pa_nil)))
   pss_nil)
  (pss_one (ps_ret (pe_lst (pa_cons (pe_tup (pa_cons pe_str pa_nil)) pa_nil)))))))), ?_⟩
    refine ⟨_, rfl, _, rfl, hp, rows, _, x, rfl, L, dx, hR, hx, ?_, ?_⟩
    · intro hgd v' H1 S1 h1
      exact ⟨sz_1, fun q hq => k hgd q v' _ (S1.trans (Same.new hq)) (h1.mono (Same.new hq) fun _ h => h) upd_same⟩
    · intro hgd H1 S1
      refine ⟨true, U_BadData.exm, fun _ x hx => ?_, fun h => Bool.noConfusion h⟩
      refine ⟨_, rfl, rfl, rfl, _, .ref CB, true, rfl, fun u hu => hu, U_BadData.kit, _, rfl, iteTb rfl ?_⟩
      exact ⟨sz_0, fun q hq => e hgd q _ (S1.trans (Same.new hq)) upd_same⟩
end

section
--SPLIT
end
section
/-! written data -/
variable {K : PySem.W.Frag}
def Mk (K : PySem.W.Frag) (t : TE) (d : PyData) : Prop := ∀ σ H Q, (∀ v H', Same H H' → Dt K H' v d → Q v H') → t σ H Q
def MkA (K : PySem.W.Frag) (t : TA) (ds : List PyData) : Prop := ∀ σ H Q, (∀ vs H', Same H H' → DtAll K H' vs ds → Q vs H') → t σ H Q
theorem Mk.str (z : Str) : Mk K (tC (.str z)) (.str z) := fun σ H Q k => k _ _ (Same.refl _) (.str _)
theorem Mk.int (i : Int) : Mk K (tC (.int i)) (.int i) := fun σ H Q k => k _ _ (Same.refl _) (.int _)
theorem Mk.neg1 : Mk K (tUn (rU fun i => V.int (-i)) (tC (V.int 1))) (.int (-1)) := fun σ H Q k => ⟨_, rfl, k _ _ (Same.refl _) (.int _)⟩
theorem Mk.bl (b : Bool) : Mk K (tC (.bl b)) (.bool b) := fun σ H Q k => k _ _ (Same.refl _) (.bl _)
theorem MkA.nil : MkA K tNil [] := fun σ H Q k => k _ _ (Same.refl _) .nil
theorem MkA.cons {t : TE} {d : PyData} {ts : TA} {ds : List PyData} (h : Mk K t d) (r : MkA K ts ds) : MkA K (tCons t ts) (d :: ds) := fun σ H Q k => h σ H _ fun v H1 S1 d1 => r σ H1 _ fun vs H2 S2 d2 => k _ _ (S1.trans S2) (.cons (d1.mono S2) d2)
theorem Mk.tup {t : TA} {ds : List PyData} (h : MkA K t ds) (hl : ds.length ≤ 1000) : Mk K (tTup t) (.tuple ds) := fun σ H Q k => h σ H _ fun vs H1 S1 d1 => ⟨by rw [d1.length]; exact Nat.le_trans hl (by decide), fun p hp => k _ _ (S1.trans (Same.new hp)) (Dt.made hp d1)⟩
theorem Mk.pr {t t' : TE} {d d' : PyData} (a : Mk K t d) (b : Mk K t' d') : Mk K (tTup (tCons t (tCons t' tNil))) (.tuple [d, d']) := .tup (.cons a (.cons b .nil)) (by simp)
theorem Mk.one {t : TE} {d : PyData} (a : Mk K t d) : Mk K (tTup (tCons t tNil)) (.tuple [d]) := .tup (.cons a .nil) (by simp)
theorem new_back {H H' : Hp} {l : Addr} (S : Same H H') (h : H' l = none) : H l = none := by
  cases e : H l with
  | none => rfl
  | some o => rw [S _ _ e] at h; cases h
theorem mk_lst {t : TA} {ds : List PyData} (h : MkA K t ds) (hl : ds.length ≤ 1000) {σ : L2.St} {H : Hp} {Q : VK} (k : ∀ l H', Same H H' → H l = none → ListAt K H' l ds → Q (.ref l) H') : tLst t σ H Q :=
  h σ H _ fun vs H1 S1 d1 => ⟨by rw [d1.length]; exact Nat.le_trans hl (by decide), fun l hl => k _ _ (S1.trans (Same.new hl)) (new_back S1 hl) (listAt_made hl d1)⟩
theorem mk_is {t : TE} {d : PyData} (h : Mk K t d) {σ : L2.St} {H : Hp} {Q : VK} (k : ∀ v H', Same H H' → Dt K H' v d → Q v H') : t σ H Q := h σ H Q k
theorem mkA_is {t : TA} {ds : List PyData} (h : MkA K t ds) {σ : L2.St} {H : Hp} {Q : List V → Hp → Prop} (k : ∀ vs H', Same H H' → DtAll K H' vs ds → Q vs H') : t σ H Q := h σ H Q k
end

abbrev s_law_number : Stmt := top 24
abbrev N_law_number : List Str := ["box", "bound", "kind", "number"]
abbrev P_law_number : List Str := ["box"]
theorem sc_law_number : FnScope N_law_number P_law_number (defScope s_law_number) := ⟨rfl, rfl, rfl, by decide +kernel, rfl, by decide +kernel, by decide +kernel⟩
abbrev s_law_text : Stmt := top 25
abbrev N_law_text : List Str := ["box", "signs", "size", "k"]
abbrev P_law_text : List Str := ["box"]
theorem sc_law_text : FnScope N_law_text P_law_text (defScope s_law_text) := ⟨rfl, rfl, rfl, by decide +kernel, rfl, by decide +kernel, by decide +kernel⟩
abbrev s_law_value : Stmt := top 29
abbrev N_law_value : List Str := ["box", "many", "kind"]
abbrev P_law_value : List Str := ["box", "many"]
theorem sc_law_value : FnScope N_law_value P_law_value (defScope s_law_value) := ⟨rfl, rfl, rfl, by decide +kernel, rfl, by decide +kernel, by decide +kernel⟩
abbrev s_law_object : Stmt := top 30
abbrev N_law_object : List Str := ["box", "many", "strange", "kind", "size", "k", "rows"]
abbrev P_law_object : List Str := ["box", "many", "strange"]
theorem sc_law_object : FnScope N_law_object P_law_object (defScope s_law_object) := ⟨rfl, rfl, rfl, by decide +kernel, rfl, by decide +kernel, by decide +kernel⟩
section
variable {P : Program} {w : World} {K : PySem.W.Frag} {mg : Str → Option Value} {base : Heap}
theorem chars_of : ∀ {cs : List Nat}, (∀ c ∈ cs, ∃ j < 95, ch j = c) → ∃ js : List Nat, cs = js.map ch ∧ js.length = cs.length ∧ ∀ j ∈ js, j < 95
  | [], _ => ⟨[], rfl, rfl, by simp⟩
  | c :: r, h => by
    obtain ⟨j, hj, e⟩ := h c (by simp)
    obtain ⟨js, e1, e2, e3⟩ := chars_of (cs := r) fun d hd => h d (List.mem_cons_of_mem _ hd)
    exact ⟨j :: js, by rw [List.map_cons, e, e1], by simp [e2], fun x hx => by
      rcases List.mem_cons.mp hx with rfl | hx
      · exact hj
      · exact e3 x hx⟩
def chV (cs : List Nat) : List V := (cs.map fun c => (⟨#[c]⟩ : Str)).map V.str
theorem chV_app (a b : List Nat) : chV (a ++ b) = chV a ++ chV b := by unfold chV; rw [List.map_append, List.map_append]
theorem chV_len (a : List Nat) : (chV a).length = a.length := by unfold chV; simp
theorem one_len : ∀ cs : List Nat, ((cs.map fun c => (⟨#[c]⟩ : Str)).map (·.length)).sum = cs.length
  | [] => rfl
  | c :: r => by rw [List.map_cons, List.map_cons, List.sum_cons, one_len r]; simp [Str.length]; omega
def spText7 (K : PySem.W.Frag) : Sp := fun vs H Q _ => ∃ (p dl : Addr), vs = [.ref p] ∧ BoxAt H p dl ∧ ∀ (js : List Nat) H', js.length ≤ 7 → (∀ j ∈ js, j < 95) → BoxAt H' p dl → Keep p H H' → Q (.str (tx js)) H'
theorem ok_text7 {f : Addr} {fd : FuncData} (F : Fun K "_law_text" "_law_text" s_law_text f fd) (T : Txt K mg) (U_law_draw : Use P w K mg base CX0 "_law_draw" 1 P_law_draw (spDraw K)) : FnG P w K mg base CX0 2 f fd P_law_text (spText7 K) := by
  refine okG0 F sc_law_text (fun vs H Q E h => ?_) fun cdv A outer s H vs Q E hr hg h => ?_
  · obtain ⟨p, dl, rfl, _⟩ := h
    rfl
  · obtain ⟨p, dl, rfl, B, k⟩ := h
    refine ⟨_, (pss_cons (ps_set (i := 1) sc_law_text.nd rfl (Or.inr rfl) pe_str)
  (pss_cons (ps_set (i := 1) sc_law_text.nd rfl (Or.inr rfl) (pe_op op_add_str (pv 1) pe_str))
  (pss_cons (ps_set (i := 2) sc_law_text.nd rfl (Or.inl rfl) (pe_use U_law_draw (hr.mono (by decide)) hg rfl (pa_cons (pv 0) (pa_cons pe_int pa_nil))))
  (pss_one (ps_ret (pe_bm PySem.F.plainAttrs_str PySem.F.slot_str_join PySem.F.type_str_join mt_join pe_str (pa_cons (pe_lc (own := [("k", 3)]) (g := (gName 3)) rfl sc_law_text.nd (pi_range1 (by rfl) T.b_range (pa_cons (pv 2) pa_nil)) (blkOk_by (N := N_law_text) (sc := defScope s_law_text) (by decide +kernel)) (fun _ _ _ _ _ => (pg_name (i := 3) sc_law_text.nd rfl (Or.inl rfl))) (fun _ _ _ _ _ => pts_nil) (fun _ _ _ _ _ => (pe_ix ix_str (pv 1) (pe_use U_law_draw (hr.mono (by decide)) hg rfl (pa_cons (pv 0) (pa_cons pe_int pa_nil))) (fun _ _ => rfl)))) pa_nil))))))), ?_⟩
    have hS : (("\n !\"#$&'()*+,-./0123456789:;<=>?@ABCDEFGHIJKLMNOPQRSTUVWXYZ[\\]^_`" : Str) ++ ("abcdefghijklmnopqrstuvwxyz{|}~" : Str)) = chStr := by decide +kernel
    refine ⟨_, rfl, _, _, rfl, rfl, by decide +kernel, ?_⟩
    refine ⟨_, rfl, p, dl, 7, rfl, B, by decide, fun r H1 r0 r1 B1 K1 => ?_⟩
    obtain ⟨n, rfl⟩ := Int.eq_ofNat_of_zero_le r0
    refine ⟨rfl, _, rfl, n, rfl, by omega, by omega, fun D hD => ?_⟩
    rw [Int.toNat_natCast]
    obtain ⟨hDp, hDd⟩ := B1.ne_new hD
    refine lc_it (walk_range (lo := 0) (n := n)) (fun i H' => ∃ cs : List Nat, H' D = some (.lst (chV cs)) ∧ cs.length = i ∧ (∀ c ∈ cs, ∃ j < 95, ch j = c) ∧ BoxAt H' p dl ∧ Keep p H1 H') ⟨[], upd_same, rfl, by simp, B1.same (Same.new hD), Same.keep (Same.new hD)⟩ (fun _ _ _ _ => trivial) ?_ ?_
    · rintro i x H5 H6 hi ⟨cs, e5, hl5, hc5, B5, K5⟩ ⟨rfl, rfl⟩
      refine ⟨rfl, tYes_of ?_⟩
      refine ⟨_, rfl, _, rfl, p, dl, 95, rfl, B5, by decide, fun r H7 q0 q1 B7 K7 => ?_⟩
      obtain ⟨j, rfl⟩ := Int.eq_ofNat_of_zero_le q0
      have e7 := K7 _ _ e5 hDp
      refine ⟨chStr, (j : Int), ch j, congrArg V.str hS, rfl, by decide +kernel, atI_nat (ch_at (by omega)), chV cs, e7, ?_, cs ++ [ch j], ?_, by simp [hl5], fun c hc => ?_, B7.upd hDp hDd, fun b o e hb => ?_⟩
      · rw [chV_len]; exact Nat.lt_of_le_of_lt (show cs.length ≤ 1000 by omega) (by decide)
      · rw [upd_same, chV_app]; rfl
      · rcases List.mem_append.mp hc with hc | hc
        · exact hc5 c hc
        · exact ⟨j, by omega, (List.mem_singleton.mp hc).symm⟩
      · rw [upd_ne (ne_of_none e hD)]; exact K7 _ _ (K5 _ _ e hb) hb
    · rintro H5 ⟨cs, e5, hl5, hc5, B5, K5⟩
      obtain ⟨js, rfl, h1, h2⟩ := chars_of hc5
      rw [List.length_map] at hl5
      refine ⟨_, D, _, rfl, rfl, .inl (SqL.of e5), ?_, ?_⟩
      · rw [one_len, List.length_map, List.length_map, show ("" : Str).length = 0 by decide +kernel]; omega
      · rw [join_chars]
        exact k js H5 (by omega) h2 B5 (K1.trans K5)
def bd : Int := (2 ^ (64 : Int).toNat) ^ (4 : Int).toNat
theorem bd_eq : bd = 2 ^ 256 := by decide +kernel
def spNumb (K : PySem.W.Frag) : Sp := fun vs H Q _ => ∃ (p dl : Addr), vs = [.ref p] ∧ BoxAt H p dl ∧ ∀ (n : Int) H', n.natAbs < 2 ^ 256 → BoxAt H' p dl → Keep p H H' → Q (.int n) H'
theorem ok_number {f : Addr} {fd : FuncData} (F : Fun K "_law_number" "_law_number" s_law_number f fd) (T : Txt K mg) (U_law_draw : Use P w K mg base CX0 "_law_draw" 1 P_law_draw (spDraw K)) : FnG P w K mg base CX0 2 f fd P_law_number (spNumb K) := by
  refine okG0 F sc_law_number (fun vs H Q E h => ?_) fun cdv A outer s H vs Q E hr hg h => ?_
  · obtain ⟨p, dl, rfl, _⟩ := h
    rfl
  · obtain ⟨p, dl, rfl, B, k⟩ := h
    refine ⟨_, (pss_cons (ps_set (i := 1) sc_law_number.nd rfl (Or.inl rfl) (pe_op op_powW (pe_op op_pow pe_int pe_int) pe_int))
  (pss_cons (ps_set (i := 2) sc_law_number.nd rfl (Or.inl rfl) (pe_use U_law_draw (hr.mono (by decide)) hg rfl (pa_cons (pv 0) (pa_cons pe_int pa_nil))))
  (pss_cons (ps_set (i := 3) sc_law_number.nd rfl (Or.inl rfl) (pe_use U_law_draw (hr.mono (by decide)) hg rfl (pa_cons (pv 0) (pa_cons pe_int pa_nil))))
  (C8.pss_cut (ps_if (pt_cmpR op_eq (pv 2) pe_int (nomark _))
   (pss_one (ps_set (i := 3) sc_law_number.nd rfl (Or.inl rfl) (pe_op op_sub (pe_op op_sub (pv 1) pe_int) (pv 3))))
   (pss_one (ps_if (pt_cmpR op_eq (pv 2) pe_int (nomark _))
   (pss_one (ps_set (i := 3) sc_law_number.nd rfl (Or.inl rfl) (pe_op op_add (pe_op op_mulW (pv 3) (pe_op op_powW pe_int pe_int)) (pe_use U_law_draw (hr.mono (by decide)) hg rfl (pa_cons (pv 0) (pa_cons pe_int pa_nil))))))
   pss_nil)))
  (pss_cons (ps_if (pt_cmpR op_eq (pe_use U_law_draw (hr.mono (by decide)) hg rfl (pa_cons (pv 0) (pa_cons pe_int pa_nil))) pe_int (nomark _))
   (pss_one (ps_ret (pe_un un_neg (pv 3))))
   pss_nil)
  (pss_one (ps_ret (pv 3)))))))), ?_⟩
    refine ⟨_, _, rfl, rfl, ⟨by decide, by decide⟩, _, _, rfl, rfl, ⟨by decide, by decide +kernel⟩, ?_⟩
    refine ⟨_, rfl, p, dl, 6, rfl, B, by decide, fun kind H1 k0 k1 B1 K1 => ?_⟩
    refine ⟨_, rfl, p, dl, 300, rfl, B1, by decide, fun n0 H2 n00 n01 B2 K2 => ?_⟩
    have K12 := K1.trans K2
    refine ⟨fun σ H' => ∃ (n : Int), σ = [some (.ref p), some (.int bd), some (.int kind), some (.int n)] ∧ n.natAbs < 2 ^ 256 ∧ BoxAt H' p dl ∧ Keep p H H', ?_, ?_⟩
    · refine ⟨_, rfl, rfl, _, rfl, ?_⟩
      refine ite3 (fun _ => ?_) fun _ => ?_
      · refine ⟨_, rfl, _, _, rfl, rfl, _, rfl, _, _, rfl, rfl, bd - 1 - n0, rfl, ?_, B2, K12⟩
        rw [bd_eq]; omega
      refine ⟨_, rfl, rfl, _, rfl, ?_⟩
      refine ite3 (fun _ => ?_) fun _ => ?_
      · have hp : (10 : Int) ^ (30 : Int).toNat = 10 ^ 30 := rfl
        refine ⟨_, rfl, _, _, rfl, rfl, ⟨by decide, by decide⟩, _, _, rfl, rfl, wide_mul (a := 10) (b := 120) (Nat.lt_of_lt_of_le (show n0.natAbs < 2 ^ 9 by omega) (Nat.pow_le_pow_right (by decide) (by decide))) (by decide +kernel) (by decide) (by decide) (by decide), _, rfl, p, dl, 1000, rfl, B2, by decide, fun r H3 r0 r1 B3 K3 => ?_⟩
        refine ⟨_, _, rfl, rfl, n0 * 10 ^ 30 + r, rfl, ?_, B3, K12.trans K3⟩
        have h3 : (2 : Nat) ^ 256 = 2 ^ 128 * 2 ^ 128 := by decide +kernel
        have h4 : (2 : Nat) ^ 128 = 340282366920938463463374607431768211456 := by decide +kernel
        have h5 : (n0 * 10 ^ 30 + r).natAbs < 2 ^ 128 := by rw [h4]; omega
        exact Nat.lt_of_lt_of_le h5 (Nat.pow_le_pow_right (by decide) (by decide))
      · exact ⟨n0, rfl, Nat.lt_of_lt_of_le (show n0.natAbs < 2 ^ 9 by omega) (Nat.pow_le_pow_right (by decide) (by decide)), B2, K12⟩
    · rintro _ H3 ⟨n, rfl, hn, B3, K3⟩
      refine ⟨_, rfl, p, dl, 2, rfl, B3, by decide, fun r H4 r0 r1 B4 K4 => ⟨rfl, _, rfl, ?_⟩⟩
      refine ite3 (fun _ => ?_) fun _ => ?_
      · exact ⟨_, rfl, _, rfl, k _ _ (by rw [Int.natAbs_neg]; exact hn) B4 (K3.trans K4)⟩
      · exact ⟨_, rfl, k _ _ hn B4 (K3.trans K4)⟩
def spLVal (K : PySem.W.Frag) : Sp := fun vs H Q _ => ∃ (p dl : Addr) (m : Nat), vs = [.ref p, .int ((m : Nat) : Int)] ∧ BoxAt H p dl ∧ 1 ≤ m ∧ m ≤ 1000 ∧ ∀ (v : V) (x : Vl) H', VD m x → Dt K H' v (vlD x) → BoxAt H' p dl → Keep p H H' → Q v H'
theorem ok_lvalue {f : Addr} {fd : FuncData} (F : Fun K "_law_value" "_law_value" s_law_value f fd) (T : Txt K mg) (U_law_draw : Use P w K mg base CX0 "_law_draw" 1 P_law_draw (spDraw K)) (U_law_number : Use P w K mg base CX0 "_law_number" 2 P_law_number (spNumb K)) (U_law_text : Use P w K mg base CX0 "_law_text" 2 P_law_text (spText7 K)) : FnG P w K mg base CX0 3 f fd P_law_value (spLVal K) := by
  refine okG0 F sc_law_value (fun vs H Q E h => ?_) fun cdv A outer s H vs Q E hr hg h => ?_
  · obtain ⟨p, dl, m, rfl, _⟩ := h
    rfl
  · obtain ⟨p, dl, m, rfl, B, hm1, hm2, k⟩ := h
    refine ⟨_, (pss_cons (ps_set (i := 2) sc_law_value.nd rfl (Or.inl rfl) (pe_use U_law_draw (hr.mono (by decide)) hg rfl (pa_cons (pv 0) (pa_cons pe_int pa_nil))))
  (pss_cons (ps_if (pt_cmpR op_eq (pv 2) pe_int (nomark _))
   (pss_one (ps_ret (pe_tup (pa_cons pe_str pa_nil))))
   pss_nil)
  (pss_cons (ps_if (pt_cmpR op_eq (pv 2) pe_int (nomark _))
   (pss_one (ps_ret (pe_tup (pa_cons pe_str (pa_cons (pe_cmpR op_eq (pe_use U_law_draw (hr.mono (by decide)) hg rfl (pa_cons (pv 0) (pa_cons pe_int pa_nil))) pe_int (nomark _)) pa_nil)))))
   pss_nil)
  (pss_cons (ps_if (pt_cmpR op_lt (pv 2) pe_int (nomark _))
   (pss_one (ps_ret (pe_tup (pa_cons pe_str (pa_cons (pe_use U_law_number (hr.mono (by decide)) hg rfl (pa_cons (pv 0) pa_nil)) pa_nil)))))
   pss_nil)
  (pss_cons (ps_if (pt_cmpR op_eq (pv 2) pe_int (nomark _))
   (pss_one (ps_ret (pe_tup (pa_cons pe_str (pa_cons (pe_use U_law_text (hr.mono (by decide)) hg rfl (pa_cons (pv 0) pa_nil)) pa_nil)))))
   pss_nil)
  (pss_cons (ps_if (PW.pt (pw_and (pt_cmpR op_eq (pv 2) pe_int (nomark _)) (pw_and1 (pt_cmpR op_eq (pe_use U_law_draw (hr.mono (by decide)) hg rfl (pa_cons (pv 0) (pa_cons pe_int pa_nil))) pe_int (nomark _)))))
   (pss_one (ps_ret (pe_ix ix_list (pe_lst (pa_cons (pe_tup (pa_cons pe_str (pa_cons pe_int (pa_cons pe_int pa_nil)))) (pa_cons (pe_tup (pa_cons pe_str (pa_cons pe_str pa_nil))) (pa_cons (pe_tup (pa_cons pe_str (pa_cons pe_str pa_nil))) pa_nil)))) (pe_use U_law_draw (hr.mono (by decide)) hg rfl (pa_cons (pv 0) (pa_cons pe_int pa_nil))) (fun _ _ => rfl))))
   pss_nil)
  (pss_one (ps_ret (pe_tup (pa_cons pe_str (pa_cons (pe_use U_law_draw (hr.mono (by decide)) hg rfl (pa_cons (pv 0) (pa_cons (pv 1) pa_nil))) pa_nil))))))))))), ?_⟩
    refine ⟨_, rfl, p, dl, 12, rfl, B, by decide, fun kind H1 k0 k1 B1 K1 => ?_⟩
    refine ⟨_, rfl, rfl, _, rfl, ?_⟩
    refine ite3 (fun _ => ?_) fun _ => ?_
    · refine ⟨sz_1, fun q hq => ?_⟩
      exact k _ .non _ ⟨fun _ h => (nomatch h), fun _ h => (nomatch h), fun _ h => (nomatch h)⟩ (Dt.made hq (.cons (.str _) .nil)) (B1.same (Same.new hq)) (K1.trans (Same.keep (Same.new hq)))
    refine ⟨_, rfl, rfl, _, rfl, ?_⟩
    refine ite3 (fun _ => ?_) fun _ => ?_
    · refine ⟨_, rfl, p, dl, 2, rfl, B1, by decide, fun r H2 r0 r1 B2 K2 => ⟨rfl, sz_2, fun q hq => ?_⟩⟩
      exact k _ (.bool (decide (V.int r = V.int 1))) _ ⟨fun _ h => (nomatch h), fun _ h => (nomatch h), fun _ h => (nomatch h)⟩ (Dt.made hq (.cons (.str "bool") (.cons (.bl (decide (V.int r = V.int 1))) .nil))) (B2.same (Same.new hq)) ((K1.trans K2).trans (Same.keep (Same.new hq)))
    refine ⟨_, rfl, _, _, rfl, rfl, _, rfl, ?_⟩
    refine ite3 (fun _ => ?_) fun _ => ?_
    · refine ⟨_, rfl, p, dl, rfl, B1, fun n H2 hn B2 K2 => ⟨sz_2, fun q hq => ?_⟩⟩
      exact k _ (.int n) _ ⟨fun _ h => (nomatch h), fun _ h => by cases h; exact hn, fun _ h => (nomatch h)⟩ (Dt.made hq (.cons (.str _) (.cons (.int _) .nil))) (B2.same (Same.new hq)) ((K1.trans K2).trans (Same.keep (Same.new hq)))
    refine ⟨_, rfl, rfl, _, rfl, ?_⟩
    refine ite3 (fun _ => ?_) fun _ => ?_
    · refine ⟨_, rfl, p, dl, rfl, B1, fun js H2 h1 h2 B2 K2 => ⟨sz_2, fun q hq => ?_⟩⟩
      exact k _ (.text (tx js)) _ ⟨fun _ h => (nomatch h), fun _ h => (nomatch h), fun _ h => by cases h; exact ⟨js, rfl, by omega, h2⟩⟩ (Dt.made hq (.cons (.str _) (.cons (.str _) .nil))) (B2.same (Same.new hq)) ((K1.trans K2).trans (Same.keep (Same.new hq)))
    refine ⟨_, rfl, rfl, _, rfl, ?_⟩
    refine ite3 (fun _ => ?_) fun _ => ?_
    · refine ⟨_, rfl, p, dl, 3, rfl, B1, by decide, fun r H2 r0 r1 B2 K2 => ⟨rfl, _, rfl, ?_⟩⟩
      refine ite3 (fun _ => ?_) fun _ => ?_
      · unfold tRet tOp
        refine mk_lst (K := K) (ds := [vlD (.span 0 3), vlD (.built "len"), vlD (.host "ask")]) (.cons (.tup (.cons (.str _) (.cons (.int _) (.cons (.int _) .nil))) (by decide)) (.cons (.pr (.str _) (.str _)) (.cons (.pr (.str _) (.str _)) .nil))) (by decide) fun l H3 S3 hl3 L3 => ?_
        refine ⟨_, rfl, p, dl, 3, rfl, B2.same S3, by decide, fun i H4 i0 i1 B4 K4 => ?_⟩
        obtain ⟨j, rfl⟩ := Int.eq_ofNat_of_zero_le i0
        have hlp : l ≠ p := (B2.ne_new hl3).1
        obtain ⟨zs, ez, az⟩ := L3
        have e4 := K4 _ _ ez hlp
        have kT : KeepT K H3 H4 := Keep.keepT K4 (B2.same S3).at_
        have a4 := az.keepT kT
        have KK := ((K1.trans K2).trans (Same.keep S3)).trans K4
        obtain h | h | h : j = 0 ∨ j = 1 ∨ j = 2 := by omega
        · subst h
          obtain ⟨v, hv, dv⟩ := a4.get (i := 0) rfl
          exact ⟨l, zs, _, v, rfl, rfl, SqL.of e4, atI_nat hv, k _ (.span 0 3) _ ⟨fun _ h => (nomatch h), fun _ h => (nomatch h), fun _ h => (nomatch h)⟩ dv B4 KK⟩
        · subst h
          obtain ⟨v, hv, dv⟩ := a4.get (i := 1) rfl
          exact ⟨l, zs, _, v, rfl, rfl, SqL.of e4, atI_nat hv, k _ (.built "len") _ ⟨fun _ h => (nomatch h), fun _ h => (nomatch h), fun _ h => (nomatch h)⟩ dv B4 KK⟩
        · subst h
          obtain ⟨v, hv, dv⟩ := a4.get (i := 2) rfl
          exact ⟨l, zs, _, v, rfl, rfl, SqL.of e4, atI_nat hv, k _ (.host "ask") _ ⟨fun _ h => (nomatch h), fun _ h => (nomatch h), fun _ h => (nomatch h)⟩ dv B4 KK⟩
      · refine ⟨_, rfl, _, rfl, p, dl, ((m : Nat) : Int), rfl, B2, by omega, fun r H3 r0 r1 B9 K9 => ⟨sz_2, fun q hq => ?_⟩⟩
        obtain ⟨j, rfl⟩ := Int.eq_ofNat_of_zero_le r0
        exact k _ (.ref j) _ ⟨fun _ h => by cases h; omega, fun _ h => (nomatch h), fun _ h => (nomatch h)⟩ (Dt.made hq (.cons (.str _) (.cons (.int _) .nil))) (B9.same (Same.new hq)) (((K1.trans K2).trans K9).trans (Same.keep (Same.new hq)))
    · refine iteFb rfl ?_
      refine ⟨_, rfl, _, rfl, p, dl, ((m : Nat) : Int), rfl, B1, by omega, fun r H3 r0 r1 B9 K9 => ⟨sz_2, fun q hq => ?_⟩⟩
      obtain ⟨j, rfl⟩ := Int.eq_ofNat_of_zero_le r0
      exact k _ (.ref j) _ ⟨fun _ h => by cases h; omega, fun _ h => (nomatch h), fun _ h => (nomatch h)⟩ (Dt.made hq (.cons (.str _) (.cons (.int _) .nil))) (B9.same (Same.new hq)) ((K1.trans K9).trans (Same.keep (Same.new hq)))

theorem rd_tup {m : Nat} {xs : List Vl} (h1 : xs.length ≤ 3) (h2 : ∀ x ∈ xs, VD m x) : RD m (.tup xs) := ⟨h1, fun p hp => by
  obtain ⟨x, hx, rfl⟩ := List.mem_map.mp hp
  exact ⟨h2 x hx, fun h => nomatch h⟩, trivial, fun _ h => (nomatch h), fun _ _ h => (nomatch h), fun _ _ h => (nomatch h)⟩
theorem rd_lst {m : Nat} {xs : List Vl} (h1 : xs.length ≤ 3) (h2 : ∀ x ∈ xs, VD m x) : RD m (.lst xs) := ⟨h1, fun p hp => by
  obtain ⟨x, hx, rfl⟩ := List.mem_map.mp hp
  exact ⟨h2 x hx, fun h => nomatch h⟩, trivial, fun _ h => (nomatch h), fun _ _ h => (nomatch h), fun _ _ h => (nomatch h)⟩
theorem rd_dct {m : Nat} {es : List (Vl × Vl)} (h1 : es.length ≤ 3) (h2 : ∀ e ∈ es, VD m e.2) (h3 : es.map (·.1) = (List.range es.length).map fun (j : Nat) => Vl.int ((j : Nat) : Int)) : RD m (.dct es) := ⟨h1, fun p hp => by
  rcases List.mem_append.mp hp with hp | hp
  · obtain ⟨e, he, rfl⟩ := List.mem_map.mp hp
    have h4 : e.1 ∈ es.map (·.1) := List.mem_map_of_mem he
    rw [h3] at h4
    obtain ⟨j, hj, e4⟩ := List.mem_map.mp h4
    rw [List.mem_range] at hj
    rw [← e4]
    exact ⟨⟨fun _ h => (nomatch h), fun _ h => by cases h; exact Nat.lt_of_le_of_lt (show _ ≤ 3 by omega) (Nat.lt_of_lt_of_le (show 3 < 2 ^ 2 by decide) (Nat.pow_le_pow_right (by decide) (by decide))), fun _ h => (nomatch h)⟩, fun _ => ⟨_, rfl⟩⟩
  · obtain ⟨e, he, rfl⟩ := List.mem_map.mp hp
    exact ⟨h2 e he, fun h => nomatch h⟩, trivial, fun _ h => by cases h; exact h3, fun _ _ h => (nomatch h), fun _ _ h => (nomatch h)⟩
theorem wd_f : Wd 6 (rowD (.oth "func" [.str "f", .tuple [], .tuple [], .tuple [], .tuple [.tuple [], .tuple [], .bool false], .int 0])) := .tup (by decide) (Wd.c (.str _) (Wd.c (.str _) (Wd.c (.tup (by decide) Wd.e) (Wd.c (.tup (by decide) Wd.e) (Wd.c (.tup (by decide) Wd.e) (Wd.c (.tup (by decide) (Wd.c (.tup (by decide) Wd.e) (Wd.c (.tup (by decide) Wd.e) (Wd.c (.bool _) Wd.e)))) (Wd.c (.int _) Wd.e)))))))
theorem wd_cl : Wd 6 (rowD (.oth "class" [.str "C", .int (-1), .tuple []])) := .tup (by decide) (Wd.c (.str _) (Wd.c (.str _) (Wd.c (.int _) (Wd.c (.tup (by decide) Wd.e) Wd.e))))
theorem wd_it : Wd 6 (rowD (.oth "iter" [.tuple [.str "none"], .int 0, .int (-1)])) := .tup (by decide) (Wd.c (.str _) (Wd.c (.tup (by decide) (Wd.c (.str _) Wd.e)) (Wd.c (.int _) (Wd.c (.int _) Wd.e))))
theorem rd_oth {m : Nat} {z : Str} {q : List PyData} (hw : Wd 6 (rowD (.oth z q))) (h : decide (z ∈ (["tuple", "list", "dict", "none", "bool", "int", "text"] : List Str)) = false) : RD m (.oth z q) := by
  have h := of_decide_eq_false h
  simp only [List.mem_cons, not_or] at h
  exact ⟨Nat.zero_le _, fun p hp => (nomatch hp), ⟨h.1, h.2.1, h.2.2.1⟩, fun _ h => (nomatch h), fun _ _ e => by cases e; exact hw, fun _ _ e => by cases e; exact ⟨h.2.2.2.1, h.2.2.2.2.1, h.2.2.2.2.2.1, h.2.2.2.2.2.2.1⟩⟩
theorem four_at (j : Nat) (h : j < 4) : ∃ (z : Str) (mk : List Vl → Row), ([V.str "list", .str "list", .str "list", .str "tuple"] : List V)[j]? = some (.str z) ∧ (∀ xs, rowD (mk xs) = .tuple [.str z, .tuple (xs.map vlD)]) ∧ ∀ m xs, xs.length ≤ 3 → (∀ x ∈ xs, VD m x) → RD m (mk xs) := by
  obtain h | h | h | h : j = 0 ∨ j = 1 ∨ j = 2 ∨ j = 3 := by omega
  · subst h; exact ⟨"list", .lst, rfl, fun _ => rfl, fun _ _ a b => rd_lst a b⟩
  · subst h; exact ⟨"list", .lst, rfl, fun _ => rfl, fun _ _ a b => rd_lst a b⟩
  · subst h; exact ⟨"list", .lst, rfl, fun _ => rfl, fun _ _ a b => rd_lst a b⟩
  · subst h; exact ⟨"tuple", .tup, rfl, fun _ => rfl, fun _ _ a b => rd_tup a b⟩
def spLObj (K : PySem.W.Frag) : Sp := fun vs H Q _ => ∃ (p dl : Addr) (m : Nat) (b : Bool), vs = [.ref p, .int ((m : Nat) : Int), .bl b] ∧ BoxAt H p dl ∧ 1 ≤ m ∧ m ≤ 1000 ∧ ∀ (v : V) (r : Row) H', RD m r → Dt K H' v (rowD r) → BoxAt H' p dl → Keep p H H' → Q v H'
theorem ok_lobject {f : Addr} {fd : FuncData} (F : Fun K "_law_object" "_law_object" s_law_object f fd) (T : Txt K mg) (U_law_draw : Use P w K mg base CX0 "_law_draw" 1 P_law_draw (spDraw K)) (U_law_value : Use P w K mg base CX0 "_law_value" 3 P_law_value (spLVal K)) : FnG P w K mg base CX0 4 f fd P_law_object (spLObj K) := by
  refine okG0 F sc_law_object (fun vs H Q E h => ?_) fun cdv A outer s H vs Q E hr hg h => ?_
  · obtain ⟨p, dl, m, b, rfl, _⟩ := h
    rfl
  · obtain ⟨p, dl, m, b, rfl, B, hm1, hm2, k⟩ := h
    refine ⟨_, (pss_cons (ps_set (i := 3) sc_law_object.nd rfl (Or.inl rfl) (pe_use U_law_draw (hr.mono (by decide)) hg rfl (pa_cons (pv 0) (pa_cons pe_int pa_nil))))
  (pss_cons (ps_set (i := 4) sc_law_object.nd rfl (Or.inl rfl) (pe_use U_law_draw (hr.mono (by decide)) hg rfl (pa_cons (pv 0) (pa_cons pe_int pa_nil))))
  (pss_cons (ps_if (pt_cmpR op_lt (pv 3) pe_int (nomark _))
   (pss_one (ps_ret (pe_tup (pa_cons (pe_ix ix_list (pe_lst (pa_cons pe_str (pa_cons pe_str (pa_cons pe_str (pa_cons pe_str pa_nil))))) (pv 3) (fun _ _ => rfl)) (pa_cons (pe_callTy call_tuple_of (by rfl) T.b_tuple (by decide +kernel) (pa_cons (pe_lc (own := [("k", 5)]) (g := (gName 5)) rfl sc_law_object.nd (pi_range1 (by rfl) T.b_range (pa_cons (pv 4) pa_nil)) (blkOk_by (N := N_law_object) (sc := defScope s_law_object) (by decide +kernel)) (fun _ _ _ _ _ => (pg_name (i := 5) sc_law_object.nd rfl (Or.inl rfl))) (fun _ _ _ _ _ => pts_nil) (fun _ _ _ _ _ => (pe_use U_law_value (hr.mono (by decide)) hg rfl (pa_cons (pv 0) (pa_cons (pv 1) pa_nil))))) pa_nil)) pa_nil)))))
   pss_nil)
  (pss_cons (ps_if (PW.pt (pw_or (pt_cmpR op_lt (pv 3) pe_int (nomark _)) (pw_or1 (pt_not (pt_val (pv 2))))))
   (pss_one (ps_ret (pe_tup (pa_cons pe_str (pa_cons (pe_callTy call_tuple_of (by rfl) T.b_tuple (by decide +kernel) (pa_cons (pe_lc (own := [("k", 5)]) (g := (gName 5)) rfl sc_law_object.nd (pi_range1 (by rfl) T.b_range (pa_cons (pv 4) pa_nil)) (blkOk_by (N := N_law_object) (sc := defScope s_law_object) (by decide +kernel)) (fun _ _ _ _ _ => (pg_name (i := 5) sc_law_object.nd rfl (Or.inl rfl))) (fun _ _ _ _ _ => pts_nil) (fun _ _ _ _ _ => (pe_tup (pa_cons (pe_tup (pa_cons pe_str (pa_cons (pv 5) pa_nil))) (pa_cons (pe_use U_law_value (hr.mono (by decide)) hg rfl (pa_cons (pv 0) (pa_cons (pv 1) pa_nil))) pa_nil))))) pa_nil)) pa_nil)))))
   pss_nil)
  (pss_cons (ps_set (i := 6) sc_law_object.nd rfl (Or.inl rfl) (pe_lst (pa_cons (pe_tup (pa_cons pe_str (pa_cons pe_str (pa_cons (pe_tup pa_nil) (pa_cons (pe_tup pa_nil) (pa_cons (pe_tup pa_nil) (pa_cons (pe_tup (pa_cons (pe_tup pa_nil) (pa_cons (pe_tup pa_nil) (pa_cons pe_bl pa_nil)))) (pa_cons pe_int pa_nil)))))))) (pa_cons (pe_tup (pa_cons pe_str (pa_cons pe_str (pa_cons (pe_un un_neg pe_int) (pa_cons (pe_tup pa_nil) pa_nil))))) (pa_cons (pe_tup (pa_cons pe_str (pa_cons (pe_tup (pa_cons pe_str pa_nil)) (pa_cons pe_int (pa_cons (pe_un un_neg pe_int) pa_nil))))) pa_nil)))))
  (pss_one (ps_ret (pe_ix ix_list (pv 6) (pe_use U_law_draw (hr.mono (by decide)) hg rfl (pa_cons (pv 0) (pa_cons pe_int pa_nil))) (fun _ _ => rfl))))))))), ?_⟩
    refine ⟨_, rfl, p, dl, 8, rfl, B, by decide, fun kind H1 k0 k1 B1 K1 => ?_⟩
    refine ⟨_, rfl, p, dl, 4, rfl, B1, by decide, fun sz H2 s0 s1 B2 K2 => ?_⟩
    obtain ⟨n, rfl⟩ := Int.eq_ofNat_of_zero_le s0
    have K12 := K1.trans K2
    obtain ⟨kk, rfl⟩ := Int.eq_ofNat_of_zero_le k0
    refine ⟨_, rfl, _, _, rfl, rfl, _, rfl, ?_⟩
    refine ite3 (fun h4 => ?_) fun h4 => ?_
    · have h4 : kk < 4 := by have := of_decide_eq_true h4; omega
      obtain ⟨z, mk, hz, hrow, hrd⟩ := four_at kk h4
      refine ⟨by decide, fun l hl => ?_⟩
      have S3 := Same.new (o := .lst [V.str "list", .str "list", .str "list", .str "tuple"]) hl
      have e3 := upd_same (H := H2) (a := l) (o := HO.lst [V.str "list", .str "list", .str "list", .str "tuple"])
      generalize upd H2 l (.lst [V.str "list", .str "list", .str "list", .str "tuple"]) = H3 at S3 e3
      refine ⟨_, rfl, l, _, _, _, rfl, rfl, SqL.of e3, atI_nat hz, ?_⟩
      have B3 := B2.same S3
      refine ⟨_, rfl, n, rfl, by omega, by omega, fun D hD => ?_⟩
      rw [Int.toNat_natCast]
      obtain ⟨hDp, hDd⟩ := B3.ne_new hD
      refine lc_it (walk_range (lo := 0) (n := n)) (fun i H' => ∃ vs xs, H' D = some (.lst vs) ∧ DtAll K H' vs (xs.map vlD) ∧ xs.length = i ∧ (∀ x ∈ xs, VD m x) ∧ BoxAt H' p dl ∧ Keep p H3 H') ⟨[], [], upd_same, .nil, rfl, by simp, B3.same (Same.new hD), Same.keep (Same.new hD)⟩ (fun _ _ _ _ => trivial) ?_ ?_
      · rintro i x H5 H6 hi ⟨vs, xs, e5, a5, hl5, hv5, B5, K5⟩ ⟨rfl, rfl⟩
        refine ⟨rfl, tYes_of ?_⟩
        refine ⟨_, rfl, _, rfl, p, dl, m, rfl, B5, hm1, hm2, fun v x H7 hx dx B7 K7 => ?_⟩
        have e7 := K7 _ _ e5 hDp
        have kT := KeepT.upd (K := K) (o := .lst (vs ++ [v])) e7
        have lv := a5.length
        rw [List.length_map] at lv
        refine ⟨vs, e7, Nat.lt_of_le_of_lt (show vs.length ≤ 1000 by omega) (by decide), vs ++ [v], xs ++ [x], upd_same, ?_, by simp [hl5], fun y hy => ?_, B7.upd hDp hDd, fun b o e hb => ?_⟩
        · rw [List.map_append]
          exact DtAll.app ((a5.keepT (Keep.keepT K7 B5.at_)).keepT kT) (.cons (dx.keepT kT) .nil)
        · rcases List.mem_append.mp hy with hy | hy
          · exact hv5 y hy
          · rw [List.mem_singleton.mp hy]; exact hx
        · rw [upd_ne (ne_of_none e hD)]; exact K7 _ _ (K5 _ _ e hb) hb
      · rintro H5 ⟨vs, xs, e5, a5, hl5, hv5, B5, K5⟩
        refine ⟨D, _, rfl, .inl ⟨SqL.of e5, fun t ht => ⟨sz_2, fun q hq => ?_⟩⟩⟩
        have S6 := Same.new (o := .tup vs) ht
        have d6 := Dt.made ht a5
        generalize upd H5 t (.tup vs) = H6 at S6 d6 hq
        refine k _ (mk xs) _ (hrd m xs (by omega) hv5) ?_ ((B5.same S6).same (Same.new hq)) ((((K12.trans (Same.keep S3)).trans K5).trans (Same.keep S6)).trans (Same.keep (Same.new hq)))
        rw [hrow]
        exact Dt.made hq (.cons (.str _) (.cons d6 .nil))
    refine ⟨_, rfl, _, _, rfl, rfl, _, rfl, ?_⟩
    refine ite3 (fun h6 => ?_) fun h6 => ?_
    · refine iteTb rfl ?_
      refine ⟨_, rfl, n, rfl, by omega, by omega, fun D hD => ?_⟩
      rw [Int.toNat_natCast]
      obtain ⟨hDp, hDd⟩ := B2.ne_new hD
      refine lc_it (walk_range (lo := 0) (n := n)) (fun i H' => ∃ vs es, H' D = some (.lst vs) ∧ DtAll K H' vs (es.map entD) ∧ es.length = i ∧ (∀ e ∈ es, VD m e.2) ∧ es.map (·.1) = (List.range i).map (fun (j : Nat) => Vl.int ((j : Nat) : Int)) ∧ BoxAt H' p dl ∧ Keep p H2 H') ⟨[], [], upd_same, .nil, rfl, by simp, rfl, B2.same (Same.new hD), Same.keep (Same.new hD)⟩ (fun _ _ _ _ => trivial) ?_ ?_
      · rintro i x H4 H5 hi ⟨vs, es, e5, a5, hl5, hv5, hk5, B5, K5⟩ ⟨rfl, rfl⟩
        refine ⟨rfl, tYes_of ?_⟩
        refine ⟨_, rfl, sz_2, fun q1 hq1 => ?_⟩
        have S6 := Same.new (o := .tup [V.str "int", V.int (0 + (i : Nat))]) hq1
        have d6 : Dt K (upd H5 q1 (.tup [V.str "int", V.int (0 + (i : Nat))])) (.ref q1) (vlD (.int ((i : Nat) : Int))) := by
          have := Dt.made (K := K) (xs := [V.str "int", V.int (0 + (i : Nat))]) hq1 (.cons (.str "int") (.cons (.int (0 + (i : Nat))) .nil))
          rw [Int.zero_add] at this ⊢
          exact this
        generalize upd H5 q1 (.tup [V.str "int", V.int (0 + (i : Nat))]) = H6 at S6 d6
        refine ⟨_, rfl, _, rfl, p, dl, m, rfl, B5.same S6, hm1, hm2, fun v x H7 hx dx B7 K7 => ⟨sz_2, fun q2 hq2 => ?_⟩⟩
        have d7 := d6.keepT (Keep.keepT K7 (B5.same S6).at_)
        have S8 := Same.new (o := .tup [V.ref q1, v]) hq2
        have d8 : Dt K (upd H7 q2 (.tup [V.ref q1, v])) (.ref q2) (entD (.int ((i : Nat) : Int), x)) := Dt.made hq2 (.cons d7 (.cons dx .nil))
        have e7 := S8 _ _ (K7 _ _ (S6 _ _ e5) hDp)
        have a8 := DtAll.mono S8 ((DtAll.mono S6 a5).keepT (Keep.keepT K7 (B5.same S6).at_))
        have B8 := B7.same S8
        have K8 := ((K5.trans (Same.keep S6)).trans K7).trans (Same.keep S8)
        generalize upd H7 q2 (.tup [V.ref q1, v]) = H8 at S8 d8 e7 a8 B8 K8
        have kT := KeepT.upd (K := K) (o := .lst (vs ++ [.ref q2])) e7
        have lv := a5.length
        rw [List.length_map] at lv
        refine ⟨vs, e7, Nat.lt_of_le_of_lt (show vs.length ≤ 1000 by omega) (by decide), vs ++ [.ref q2], es ++ [(.int ((i : Nat) : Int), x)], upd_same, ?_, by simp [hl5], fun y hy => ?_, ?_, B8.upd hDp hDd, fun b o e hb => ?_⟩
        · rw [List.map_append]
          exact DtAll.app (a8.keepT kT) (.cons (d8.keepT kT) .nil)
        · rcases List.mem_append.mp hy with hy | hy
          · exact hv5 y hy
          · rw [List.mem_singleton.mp hy]; exact hx
        · rw [List.map_append, hk5, List.range_succ, List.map_append]; rfl
        · rw [upd_ne (ne_of_none e hD)]; exact K8 _ _ e hb
      · rintro H5 ⟨vs, es, e5, a5, hl5, hv5, hk5, B5, K5⟩
        refine ⟨D, _, rfl, .inl ⟨SqL.of e5, fun t ht => ⟨sz_2, fun q hq => ?_⟩⟩⟩
        have S6 := Same.new (o := .tup vs) ht
        have d6 := Dt.made ht a5
        generalize upd H5 t (.tup vs) = H6 at S6 d6 hq
        exact k _ (.dct es) _ (rd_dct (by omega) hv5 (by rw [hl5]; exact hk5)) (Dt.made hq (.cons (.str _) (.cons d6 .nil))) ((B5.same S6).same (Same.new hq)) (((K12.trans K5).trans (Same.keep S6)).trans (Same.keep (Same.new hq)))
    refine ⟨_, rfl, _, rfl, ?_⟩
    cases b with
    | false =>
      refine iteTb rfl ?_
      refine ⟨_, rfl, n, rfl, by omega, by omega, fun D hD => ?_⟩
      rw [Int.toNat_natCast]
      obtain ⟨hDp, hDd⟩ := B2.ne_new hD
      refine lc_it (walk_range (lo := 0) (n := n)) (fun i H' => ∃ vs es, H' D = some (.lst vs) ∧ DtAll K H' vs (es.map entD) ∧ es.length = i ∧ (∀ e ∈ es, VD m e.2) ∧ es.map (·.1) = (List.range i).map (fun (j : Nat) => Vl.int ((j : Nat) : Int)) ∧ BoxAt H' p dl ∧ Keep p H2 H') ⟨[], [], upd_same, .nil, rfl, by simp, rfl, B2.same (Same.new hD), Same.keep (Same.new hD)⟩ (fun _ _ _ _ => trivial) ?_ ?_
      · rintro i x H4 H5 hi ⟨vs, es, e5, a5, hl5, hv5, hk5, B5, K5⟩ ⟨rfl, rfl⟩
        refine ⟨rfl, tYes_of ?_⟩
        refine ⟨_, rfl, sz_2, fun q1 hq1 => ?_⟩
        have S6 := Same.new (o := .tup [V.str "int", V.int (0 + (i : Nat))]) hq1
        have d6 : Dt K (upd H5 q1 (.tup [V.str "int", V.int (0 + (i : Nat))])) (.ref q1) (vlD (.int ((i : Nat) : Int))) := by
          have := Dt.made (K := K) (xs := [V.str "int", V.int (0 + (i : Nat))]) hq1 (.cons (.str "int") (.cons (.int (0 + (i : Nat))) .nil))
          rw [Int.zero_add] at this ⊢
          exact this
        generalize upd H5 q1 (.tup [V.str "int", V.int (0 + (i : Nat))]) = H6 at S6 d6
        refine ⟨_, rfl, _, rfl, p, dl, m, rfl, B5.same S6, hm1, hm2, fun v x H7 hx dx B7 K7 => ⟨sz_2, fun q2 hq2 => ?_⟩⟩
        have d7 := d6.keepT (Keep.keepT K7 (B5.same S6).at_)
        have S8 := Same.new (o := .tup [V.ref q1, v]) hq2
        have d8 : Dt K (upd H7 q2 (.tup [V.ref q1, v])) (.ref q2) (entD (.int ((i : Nat) : Int), x)) := Dt.made hq2 (.cons d7 (.cons dx .nil))
        have e7 := S8 _ _ (K7 _ _ (S6 _ _ e5) hDp)
        have a8 := DtAll.mono S8 ((DtAll.mono S6 a5).keepT (Keep.keepT K7 (B5.same S6).at_))
        have B8 := B7.same S8
        have K8 := ((K5.trans (Same.keep S6)).trans K7).trans (Same.keep S8)
        generalize upd H7 q2 (.tup [V.ref q1, v]) = H8 at S8 d8 e7 a8 B8 K8
        have kT := KeepT.upd (K := K) (o := .lst (vs ++ [.ref q2])) e7
        have lv := a5.length
        rw [List.length_map] at lv
        refine ⟨vs, e7, Nat.lt_of_le_of_lt (show vs.length ≤ 1000 by omega) (by decide), vs ++ [.ref q2], es ++ [(.int ((i : Nat) : Int), x)], upd_same, ?_, by simp [hl5], fun y hy => ?_, ?_, B8.upd hDp hDd, fun b o e hb => ?_⟩
        · rw [List.map_append]
          exact DtAll.app (a8.keepT kT) (.cons (d8.keepT kT) .nil)
        · rcases List.mem_append.mp hy with hy | hy
          · exact hv5 y hy
          · rw [List.mem_singleton.mp hy]; exact hx
        · rw [List.map_append, hk5, List.range_succ, List.map_append]; rfl
        · rw [upd_ne (ne_of_none e hD)]; exact K8 _ _ e hb
      · rintro H5 ⟨vs, es, e5, a5, hl5, hv5, hk5, B5, K5⟩
        refine ⟨D, _, rfl, .inl ⟨SqL.of e5, fun t ht => ⟨sz_2, fun q hq => ?_⟩⟩⟩
        have S6 := Same.new (o := .tup vs) ht
        have d6 := Dt.made ht a5
        generalize upd H5 t (.tup vs) = H6 at S6 d6 hq
        exact k _ (.dct es) _ (rd_dct (by omega) hv5 (by rw [hl5]; exact hk5)) (Dt.made hq (.cons (.str _) (.cons d6 .nil))) ((B5.same S6).same (Same.new hq)) (((K12.trans K5).trans (Same.keep S6)).trans (Same.keep (Same.new hq)))
    | true =>
      refine iteFb rfl ?_
      unfold tNext tSeq tAsg
      dsimp only
      have em : Mk K (tTup tNil) (.tuple []) := .tup .nil (by decide)
      have r1 := Mk.tup (K := K) (.cons (.str "func") (.cons (.str "f") (.cons em (.cons em (.cons em (.cons (.tup (.cons em (.cons em (.cons (.bl false) .nil))) (by decide)) (.cons (.int 0) .nil))))))) (by decide)
      have r2 := Mk.tup (K := K) (.cons (.str "class") (.cons (.str "C") (.cons Mk.neg1 (.cons em .nil)))) (by decide)
      have r3 := Mk.tup (K := K) (.cons (.str "iter") (.cons (.one (.str "none")) (.cons (.int 0) (.cons Mk.neg1 .nil)))) (by decide)
      have hmk := MkA.cons r1 (MkA.cons r2 (MkA.cons r3 MkA.nil))
      refine mk_lst (K := K) hmk (by decide) fun l H3 S3 hl3 L3 => ?_
      refine ⟨_, rfl, _, rfl, p, dl, 3, rfl, B2.same S3, by decide, fun i H4 i0 i1 B4 K4 => ?_⟩
      obtain ⟨j, rfl⟩ := Int.eq_ofNat_of_zero_le i0
      have hlp : l ≠ p := (B2.ne_new hl3).1
      obtain ⟨zs, ez, az⟩ := L3
      have e4 := K4 _ _ ez hlp
      have kT : KeepT K H3 H4 := Keep.keepT K4 (B2.same S3).at_
      have a4 := az.keepT kT
      have KK := (K12.trans (Same.keep S3)).trans K4
      obtain h | h | h : j = 0 ∨ j = 1 ∨ j = 2 := by omega
      · subst h
        obtain ⟨v, hv, dv⟩ := a4.get (i := 0) rfl
        exact ⟨l, zs, _, v, rfl, rfl, SqL.of e4, atI_nat hv, k _ (.oth "func" [.str "f", .tuple [], .tuple [], .tuple [], .tuple [.tuple [], .tuple [], .bool false], .int 0]) _ (rd_oth wd_f (by decide +kernel)) dv B4 KK⟩
      · subst h
        obtain ⟨v, hv, dv⟩ := a4.get (i := 1) rfl
        exact ⟨l, zs, _, v, rfl, rfl, SqL.of e4, atI_nat hv, k _ (.oth "class" [.str "C", .int (-1), .tuple []]) _ (rd_oth wd_cl (by decide +kernel)) dv B4 KK⟩
      · subst h
        obtain ⟨v, hv, dv⟩ := a4.get (i := 2) rfl
        exact ⟨l, zs, _, v, rfl, rfl, SqL.of e4, atI_nat hv, k _ (.oth "iter" [.tuple [.str "none"], .int 0, .int (-1)]) _ (rd_oth wd_it (by decide +kernel)) dv B4 KK⟩
end

section
--SPLIT
end
abbrev s_law_told : Stmt := top 32
abbrev N_law_told : List Str := ["heap", "value", "thing", "data", "pair", "part"]
abbrev P_law_told : List Str := ["heap", "value"]
theorem sc_law_told : FnScope N_law_told P_law_told (defScope s_law_told) := ⟨rfl, rfl, rfl, by decide +kernel, rfl, by decide +kernel, by decide +kernel⟩
section
variable {P : Program} {w : World} {K : PySem.W.Frag} {mg : Str → Option Value} {base : Heap}
def spTold (K : PySem.W.Frag) (n : Nat) : Sp := fun vs H Q _ => ∃ (hp : Addr) (rows : List Row) (v : V) (x : Vl), vs = [.ref hp, v] ∧ ListAt K H hp (rows.map rowD) ∧ Dt K H v (vlD x) ∧ HeapD rows ∧ VD rows.length x ∧ gd rows n x = true ∧
  ∀ v' H', Same H H' → Hs K H' (fun a => H a = none) v' (tr rows n x) → Q v' H'
theorem told0 {vs : List V} {H : Hp} {Q : VK} {E : XK} (h : spTold K 0 vs H Q E) : False := by
  obtain ⟨_, _, _, _, _, _, _, _, _, hg, _⟩ := h
  cases hg
theorem ok_told {n : Nat} {f : Addr} {fd : FuncData} (F : Fun K "_law_told" "_law_told" s_law_told f fd) (T : Txt K mg) (U_law_told : Use P w K mg base CX0 "_law_told" (1 + n) P_law_told (spTold K n)) : FnG P w K mg base CX0 (1 + n + 1) f fd P_law_told (spTold K (n + 1)) := by
  refine okG0 F sc_law_told (fun vs H Q E h => ?_) fun cdv A outer s H vs Q E hr hg h => ?_
  · obtain ⟨hp, rows, v, x, rfl, _⟩ := h
    rfl
  · obtain ⟨hp, rows, v, x, rfl, L, dx, hR, hx, hgd, k⟩ := h
    have hu : (A.deeper (envOfC "_law_told" (defScope s_law_told) s.heap.objs.size f cdv)).units + 1 < cLine := Nat.lt_of_le_of_lt (by omega) hr.units
    refine ⟨_, (pss_cons (ps_if (pt_cmpR op_eq (pe_ix ix_tup (pv 1) pe_int (fun _ _ => rfl)) pe_str (nomark _))
   (pss_one (ps_ret pe_non))
   pss_nil)
  (pss_cons (ps_if (pt_cmpR op_ne (pe_ix ix_tup (pv 1) pe_int (fun _ _ => rfl)) pe_str (nomark _))
   (pss_one (ps_ret (pe_ix ix_tup (pv 1) pe_int (fun _ _ => rfl))))
   pss_nil)
  (pss_cons (ps_set (i := 2) sc_law_told.nd rfl (Or.inl rfl) (pe_ix ix_list (pv 0) (pe_ix ix_tup (pv 1) pe_int (fun _ _ => rfl)) (fun _ _ => rfl)))
  (pss_cons (ps_if (pt_cmpR op_eq (pe_ix ix_tup (pv 2) pe_int (fun _ _ => rfl)) pe_str (nomark _))
   (pss_cons (ps_set (i := 3) sc_law_told.nd rfl (Or.inl rfl) pe_dnewK)
  (pss_cons (ps_for PassesOwn.never rfl (pi_tup (pe_ix ix_tup (pv 2) pe_int (fun _ _ => rfl))) (pg_name (i := 4) sc_law_told.nd rfl (Or.inl rfl))
   (pss_one (ps_dput hu (pv 3) (pe_ix ix_tup (pe_ix ix_tup (pv 4) pe_int (fun _ _ => rfl)) pe_int (fun _ _ => rfl)) (pe_use U_law_told (hr.mono (by omega)) hg rfl (pa_cons (pv 0) (pa_cons (pe_ix ix_tup (pv 4) pe_int (fun _ _ => rfl)) pa_nil))) rfl)))
  (pss_one (ps_ret (pv 3)))))
   pss_nil)
  (pss_cons (ps_if (pt_cmpR op_eq (pe_ix ix_tup (pv 2) pe_int (fun _ _ => rfl)) pe_str (nomark _))
   (pss_one (ps_ret (pe_lc (own := [("part", 5)]) (g := (gName 5)) rfl sc_law_told.nd (pi_tup (pe_ix ix_tup (pv 2) pe_int (fun _ _ => rfl))) (blkOk_by (N := N_law_told) (sc := defScope s_law_told) (by decide +kernel)) (fun _ _ _ _ _ => (pg_name (i := 5) sc_law_told.nd rfl (Or.inl rfl))) (fun _ _ _ _ _ => pts_nil) (fun _ _ _ _ _ => (pe_use U_law_told (hr.mono (by omega)) hg rfl (pa_cons (pv 0) (pa_cons (pv 5) pa_nil)))))))
   pss_nil)
  (pss_one (ps_ret (pe_callTy call_tuple_of (by rfl) T.b_tuple (by decide +kernel) (pa_cons (pe_lc (own := [("part", 5)]) (g := (gName 5)) rfl sc_law_told.nd (pi_tup (pe_ix ix_tup (pv 2) pe_int (fun _ _ => rfl))) (blkOk_by (N := N_law_told) (sc := defScope s_law_told) (by decide +kernel)) (fun _ _ _ _ _ => (pg_name (i := 5) sc_law_told.nd rfl (Or.inl rfl))) (fun _ _ _ _ _ => pts_nil) (fun _ _ _ _ _ => (pe_use U_law_told (hr.mono (by omega)) hg rfl (pa_cons (pv 0) (pa_cons (pv 5) pa_nil))))) pa_nil))))))))), ?_⟩
    cases x with
    | span a b => cases hgd
    | built z => cases hgd
    | host z => cases hgd
    | non =>
      obtain ⟨q, ws, rfl, hs, a⟩ := dx.tuple_inv
      obtain ⟨v1, w1, rfl, d1, a1⟩ := a.cons_inv
      cases d1
      exact ⟨_, rfl, q, _, _, _, rfl, rfl, hs, at0, rfl, _, rfl, iteTb (decide_eq_true rfl) (k _ _ (Same.refl _) .non)⟩
    | bool b =>
      obtain ⟨q, ws, rfl, hs, a⟩ := dx.tuple_inv
      obtain ⟨v1, w1, rfl, d1, a1⟩ := a.cons_inv
      obtain ⟨v2, w2, rfl, d2, a2⟩ := a1.cons_inv
      cases d1
      cases d2
      refine ⟨_, rfl, q, _, _, _, rfl, rfl, hs, at0, rfl, _, rfl, iteFb (dec_str (by decide +kernel)) ?_⟩
      refine ⟨_, rfl, q, _, _, _, rfl, rfl, hs, at0, rfl, _, rfl, iteTb (by decide +kernel) ?_⟩
      exact ⟨_, rfl, q, _, _, _, rfl, rfl, hs, at1, k _ _ (Same.refl _) (.bl b)⟩
    | int b =>
      obtain ⟨q, ws, rfl, hs, a⟩ := dx.tuple_inv
      obtain ⟨v1, w1, rfl, d1, a1⟩ := a.cons_inv
      obtain ⟨v2, w2, rfl, d2, a2⟩ := a1.cons_inv
      cases d1
      cases d2
      refine ⟨_, rfl, q, _, _, _, rfl, rfl, hs, at0, rfl, _, rfl, iteFb (dec_str (by decide +kernel)) ?_⟩
      refine ⟨_, rfl, q, _, _, _, rfl, rfl, hs, at0, rfl, _, rfl, iteTb (by decide +kernel) ?_⟩
      exact ⟨_, rfl, q, _, _, _, rfl, rfl, hs, at1, k _ _ (Same.refl _) (.int b)⟩
    | text b =>
      obtain ⟨q, ws, rfl, hs, a⟩ := dx.tuple_inv
      obtain ⟨v1, w1, rfl, d1, a1⟩ := a.cons_inv
      obtain ⟨v2, w2, rfl, d2, a2⟩ := a1.cons_inv
      cases d1
      cases d2
      refine ⟨_, rfl, q, _, _, _, rfl, rfl, hs, at0, rfl, _, rfl, iteFb (dec_str (by decide +kernel)) ?_⟩
      refine ⟨_, rfl, q, _, _, _, rfl, rfl, hs, at0, rfl, _, rfl, iteTb (by decide +kernel) ?_⟩
      exact ⟨_, rfl, q, _, _, _, rfl, rfl, hs, at1, k _ _ (Same.refl _) (.str b)⟩
    | ref kk =>
      have hlt := hx.r kk rfl
      have er : rows[kk]? = some rows[kk] := List.getElem?_eq_getElem hlt
      generalize rows[kk] = r at er
      have rr : RD rows.length r := hR r (List.mem_of_getElem? er)
      have hgd2 : (isC r && (kids r).all fun p => gd rows n p.1) = true := by
        have h : (match rows[kk]? with | some r => isC r && (kids r).all fun p => gd rows n p.1 | none => false) = true := hgd
        rw [er] at h
        exact h
      rw [Bool.and_eq_true] at hgd2
      obtain ⟨hc, hall⟩ := hgd2
      rw [List.all_eq_true] at hall
      have etr : tr rows (n + 1) (.ref kk) = trK rows n r := tr_ref er
      rw [etr] at k
      obtain ⟨q, zsh, q2, x1, ea, xs, rfl, hq, ez, hy, ⟨hq2, _⟩, hea, ae⟩ := hd_parts' L er hc dx
      refine ⟨_, rfl, q, _, _, _, rfl, rfl, hq, at0, rfl, _, rfl, iteFb (dec_str (by decide +kernel)) ?_⟩
      refine ⟨_, rfl, q, _, _, _, rfl, rfl, hq, at0, rfl, _, rfl, iteFb (by decide +kernel) ?_⟩
      refine ⟨_, rfl, _, rfl, q, _, _, _, rfl, rfl, hq, at1, hp, _, _, _, rfl, rfl, SqL.of ez, hy, ?_⟩
      have lae := ae.length
      have hrl := rr.len
      cases r with
      | oth z q0 => cases hc
      | lst vs =>
        have hl3 : vs.length ≤ 3 := hrl
        refine ⟨_, rfl, q2, _, _, _, rfl, rfl, hq2, at0, rfl, _, rfl, iteFb (dec_str (show ("list" : Str) ≠ "dict" by decide +kernel)) ?_⟩
        refine ⟨_, rfl, q2, _, _, _, rfl, rfl, hq2, at0, rfl, _, rfl, iteTb (decide_eq_true rfl) ?_⟩
        refine ⟨_, rfl, q2, _, _, _, rfl, rfl, hq2, at1, ea, rfl, ⟨_, hea⟩, fun D hD => ?_⟩
        refine lc_it (walk_tup (xs := xs)) (fun i H' => Same H H' ∧ ∃ vs', H' D = some (.lst vs') ∧ HsAll K H' (fun a => H a = none ∧ a ≠ D) vs' ((vs.map (tr rows n)).take i)) ⟨Same.new hD, [], upd_same, .nil⟩ (fun _ _ _ h => Same.tupl h.1 hea) ?_ ?_
        · rintro i x H4 H5 hi ⟨S4, vs4, e4, a4⟩ ⟨rfl, hx⟩
          obtain ⟨d', hd', dxx⟩ := ae.getV hx
          rw [show rparts (Row.lst vs) = vs.map vlD from rfl, List.getElem?_map] at hd'
          obtain ⟨e, he, rfl⟩ := Option.map_eq_some_iff.mp hd'
          have hm : (e, false) ∈ kids (Row.lst vs) := List.mem_map_of_mem (f := fun v => (v, false)) (List.mem_of_getElem? he)
          refine ⟨rfl, ?_⟩
          unfold tYes
          refine iteTb rfl ?_
          refine ⟨_, rfl, _, rfl, hp, rows, _, e, rfl, listAt_mono L S4, dxx.mono S4, hR, (rr.kd _ hm).1, hall _ hm, fun v' H6 S6 h6 => ?_⟩
          have l4 := a4.length
          rw [List.length_take, List.length_map] at l4
          refine ⟨vs4, S6 _ _ e4, Nat.lt_of_le_of_lt (show vs4.length ≤ 1000 by omega) (by decide), fun b u hb => by rw [upd_ne (ne_of_none hb hD)]; exact S6 _ _ (S4 _ _ hb), vs4 ++ [v'], upd_same, ?_⟩
          rw [List.take_succ, List.getElem?_map, he]
          have kt : KeepT K H6 (upd H6 D (.lst (vs4 ++ [v']))) := KeepT.upd (S6 _ _ e4)
          refine HsAll.app (.cons (h6.up (fun a u ha hu => by rw [upd_ne (fun h => by rw [h, e4] at ha; cases ha)]; exact hu) kt (fun a ha => ⟨same_none' S4 ha, fun h => by rw [h, e4] at ha; cases ha⟩)) .nil) ((a4.mono S6 (fun _ h => h)).up (fun a u ha hu => by rw [upd_ne ha.2]; exact hu) kt (fun _ h => h))
        rintro H4 ⟨S4, vs4, e4, a4⟩
        rw [List.take_of_length_le (by rw [List.length_map]; rw [show rparts (Row.lst vs) = vs.map vlD from rfl, List.length_map] at lae; omega)] at a4
        exact k _ _ S4 (.lst e4 hD (a4.mono (Same.refl _) fun _ h => h.1))
      | tup vs =>
        have hl3 : vs.length ≤ 3 := hrl
        refine ⟨_, rfl, q2, _, _, _, rfl, rfl, hq2, at0, rfl, _, rfl, iteFb (dec_str (show ("tuple" : Str) ≠ "dict" by decide +kernel)) ?_⟩
        refine ⟨_, rfl, q2, _, _, _, rfl, rfl, hq2, at0, rfl, _, rfl, iteFb (dec_str (show ("tuple" : Str) ≠ "list" by decide +kernel)) ?_⟩
        refine ⟨_, rfl, q2, _, _, _, rfl, rfl, hq2, at1, ea, rfl, ⟨_, hea⟩, fun D hD => ?_⟩
        refine lc_it (walk_tup (xs := xs)) (fun i H' => Same H H' ∧ ∃ vs', H' D = some (.lst vs') ∧ HsAll K H' (fun a => H a = none ∧ a ≠ D) vs' ((vs.map (tr rows n)).take i)) ⟨Same.new hD, [], upd_same, .nil⟩ (fun _ _ _ h => Same.tupl h.1 hea) ?_ ?_
        · rintro i x H4 H5 hi ⟨S4, vs4, e4, a4⟩ ⟨rfl, hx⟩
          obtain ⟨d', hd', dxx⟩ := ae.getV hx
          rw [show rparts (Row.tup vs) = vs.map vlD from rfl, List.getElem?_map] at hd'
          obtain ⟨e, he, rfl⟩ := Option.map_eq_some_iff.mp hd'
          have hm : (e, false) ∈ kids (Row.tup vs) := List.mem_map_of_mem (f := fun v => (v, false)) (List.mem_of_getElem? he)
          refine ⟨rfl, ?_⟩
          unfold tYes
          refine iteTb rfl ?_
          refine ⟨_, rfl, _, rfl, hp, rows, _, e, rfl, listAt_mono L S4, dxx.mono S4, hR, (rr.kd _ hm).1, hall _ hm, fun v' H6 S6 h6 => ?_⟩
          have l4 := a4.length
          rw [List.length_take, List.length_map] at l4
          refine ⟨vs4, S6 _ _ e4, Nat.lt_of_le_of_lt (show vs4.length ≤ 1000 by omega) (by decide), fun b u hb => by rw [upd_ne (ne_of_none hb hD)]; exact S6 _ _ (S4 _ _ hb), vs4 ++ [v'], upd_same, ?_⟩
          rw [List.take_succ, List.getElem?_map, he]
          have kt : KeepT K H6 (upd H6 D (.lst (vs4 ++ [v']))) := KeepT.upd (S6 _ _ e4)
          refine HsAll.app (.cons (h6.up (fun a u ha hu => by rw [upd_ne (fun h => by rw [h, e4] at ha; cases ha)]; exact hu) kt (fun a ha => ⟨same_none' S4 ha, fun h => by rw [h, e4] at ha; cases ha⟩)) .nil) ((a4.mono S6 (fun _ h => h)).up (fun a u ha hu => by rw [upd_ne ha.2]; exact hu) kt (fun _ h => h))
        rintro H4 ⟨S4, vs4, e4, a4⟩
        rw [List.take_of_length_le (by rw [List.length_map]; rw [show rparts (Row.tup vs) = vs.map vlD from rfl, List.length_map] at lae; omega)] at a4
        refine ⟨D, _, rfl, .inl ⟨SqL.of e4, fun t ht => ?_⟩⟩
        refine k _ _ (S4.trans (Same.new ht)) (.tup (SqT.of upd_same) (a4.mono (Same.new ht) fun _ h => h.1))
      | dct es =>
        have hl3 : es.length ≤ 3 := hrl
        refine ⟨_, rfl, q2, _, _, _, rfl, rfl, hq2, at0, rfl, _, rfl, iteTb (decide_eq_true rfl) ?_⟩
        refine fun D hD => ?_
        refine ⟨_, rfl, q2, _, _, _, rfl, rfl, Same.tupl (Same.new hD) hq2, at1, ea, rfl, ⟨_, Same.tupl (Same.new hD) hea⟩, ?_⟩
        refine for_it (walk_tup (xs := xs)) (fun i σ H' => ∃ (x4 : Option V), σ = [some (.ref hp), some (.ref q), some (.ref q2), some (.ref D), x4, none] ∧ Same H H' ∧ ∃ ps, H' D = some (.dK ps) ∧ ps.map (·.1) = kys i ∧ HsAll K H' (fun a => H a = none ∧ a ≠ D) (ps.map (·.2)) ((es.map fun e => tr rows n e.2).take i)) ⟨none, rfl, Same.new hD, [], upd_same, rfl, .nil⟩ (fun _ _ _ _ h => let ⟨_, _, S, _⟩ := h; Same.tupl S hea) ?_ ?_
        · rintro i x σ H4 H5 hi ⟨x4, rfl, S4, ps4, e4, k4, a4⟩ ⟨rfl, hx⟩
          obtain ⟨d', hd', dxx⟩ := ae.getV hx
          rw [show rparts (Row.dct es) = es.map entD from rfl, List.getElem?_map] at hd'
          obtain ⟨e, he, rfl⟩ := Option.map_eq_some_iff.mp hd'
          have hm1 : (e.1, true) ∈ kids (Row.dct es) := List.mem_append_left _ (List.mem_map_of_mem (f := fun (e : Vl × Vl) => (e.1, true)) (List.mem_of_getElem? he))
          have hm2 : (e.2, false) ∈ kids (Row.dct es) := List.mem_append_right _ (List.mem_map_of_mem (f := fun (e : Vl × Vl) => (e.2, false)) (List.mem_of_getElem? he))
          have hk1 : e.1 = .int ((i : Nat) : Int) := by
            have h1 := rr.ks es rfl
            have h2 := congrArg (fun l => l[i]?) h1
            simp only [List.getElem?_map, he] at h2
            have hil : i < es.length := by
              rcases Nat.lt_or_ge i es.length with h | h
              · exact h
              · rw [List.getElem?_eq_none h] at he; cases he
            rw [List.getElem?_range hil] at h2
            exact Option.some.inj h2
          obtain ⟨qe, y1, y2, rfl, hqe, d1, d2⟩ := dt_ent (dxx.mono S4)
          rw [hk1] at d1
          obtain ⟨qk, ks, rfl, hqk, ak⟩ := d1.tuple_inv
          obtain ⟨k1, w1, rfl, dk1, ak1⟩ := ak.cons_inv
          obtain ⟨k2, w2, rfl, dk2, ak2⟩ := ak1.cons_inv
          cases dk2.int_inv
          refine ⟨_, rfl, _, rfl, qe, _, _, _, rfl, rfl, hqe, at1, hp, rows, _, e.2, rfl, listAt_mono L S4, d2, hR, (rr.kd _ hm2).1, hall _ hm2, fun v' H7 S7 h7 => ?_⟩
          have e7 := S7 _ _ e4
          have l4 := a4.length
          rw [List.length_take, List.length_map, List.length_map] at l4
          refine ⟨_, rfl, _, rfl, qe, _, _, _, rfl, rfl, Same.tupl S7 hqe, at0, qk, _, _, _, rfl, rfl, Same.tupl S7 hqk, at1, D, _, rfl, DPut.k (k := .inl ((i : Nat) : Int)) e7 (Nat.lt_of_le_of_lt (show ps4.length ≤ 1000 by omega) (by decide)), _, rfl, fun b u hb => by rw [upd_ne (ne_of_none hb hD)]; exact S7 _ _ (S4 _ _ hb), _, upd_same, ?_, ?_⟩
          · rw [putK_next k4, List.map_append, k4, kys_succ]; rfl
          rw [putK_next k4, List.map_append, List.take_succ, List.getElem?_map, he]
          have kt : KeepT K H7 (upd H7 D (.dK (ps4 ++ [(Sum.inl ((i : Nat) : Int), v')]))) := keepT_dK e7
          refine HsAll.app (.cons (h7.up (fun a u ha hu => by rw [upd_ne (fun h => by rw [h, e4] at ha; cases ha)]; exact hu) kt (fun a ha => ⟨same_none' S4 ha, fun h => by rw [h, e4] at ha; cases ha⟩)) .nil) ((a4.mono S7 (fun _ h => h)).up (fun a u ha hu => by rw [upd_ne ha.2]; exact hu) kt (fun _ h => h))
        rintro σ H4 ⟨x4, rfl, S4, ps4, e4, k4, a4⟩
        rw [show rparts (Row.dct es) = es.map entD from rfl, List.length_map] at lae
        rw [List.take_of_length_le (by rw [List.length_map]; omega)] at a4
        exact ⟨_, rfl, k _ _ S4 (.dct e4 hD (by rw [k4, List.length_map, lae]) (a4.mono (Same.refl _) fun _ h => h.1))⟩
end

section
--SPLIT
end
abbrev s_law_out : Stmt := top 31
abbrev N_law_out : List Str := ["heap", "value", "level", "size", "part"]
abbrev P_law_out : List Str := ["heap", "value", "level"]
theorem sc_law_out : FnScope N_law_out P_law_out (defScope s_law_out) := ⟨rfl, rfl, rfl, by decide +kernel, rfl, by decide +kernel, by decide +kernel⟩
section
variable {P : Program} {w : World} {K : PySem.W.Frag} {mg : Str → Option Value} {base : Heap}
theorem bnB_pos : ∀ n, 1 ≤ bnB (n + 1)
  | 0 => Nat.le_refl _
  | n + 1 => by show 1 ≤ 4 + 3 * bnB (n + 1); omega
theorem bnB_le : ∀ n, n ≤ 5 → bnB n ≤ 241 := by decide
theorem ct_int (rows : List Row) (n : Nat) (i : Int) : ct rows (n + 1) (.int i) = 1 := rfl
theorem ct_le {rows : List Row} (hR : HeapD rows) : ∀ (n : Nat) (x : Vl), gd rows n x = true → ct rows n x ≤ bnB n
  | 0, _, h => by cases h
  | n + 1, x, h => by
    by_cases c : ∃ k, x = .ref k
    · obtain ⟨k, rfl⟩ := c
      have h : (match rows[k]? with | some r => isC r && (kids r).all fun p => gd rows n p.1 | none => false) = true := h
      show (match rows[k]? with | some r => 1 + ((kids r).map fun (p : Vl × Bool) => ct rows n p.1).sum | none => 1) ≤ _
      cases er : rows[k]? with
      | none => rw [er] at h; cases h
      | some r =>
        rw [er] at h
        have h : (isC r && (kids r).all fun p => gd rows n p.1) = true := h
        show 1 + ((kids r).map fun (p : Vl × Bool) => ct rows n p.1).sum ≤ _
        rw [Bool.and_eq_true, List.all_eq_true] at h
        have rr : RD rows.length r := hR r (List.mem_of_getElem? er)
        have hl := rr.len
        cases n with
        | zero =>
          have : kids r = [] := by
            cases hk : kids r with
            | nil => rfl
            | cons a l => have := h.2 a (by rw [hk]; exact List.mem_cons_self ..); cases this
          rw [this]
          exact Nat.le_refl _
        | succ m =>
          have one : ∀ (l : List Vl), (∀ v ∈ l, gd rows (m + 1) v = true) → (l.map fun v => ct rows (m + 1) v).sum ≤ l.length * bnB (m + 1) := fun l hl => sum_le_of fun v hv => ct_le hR (m + 1) v (hl v hv)
          show _ ≤ 4 + 3 * bnB (m + 1)
          cases r with
          | oth z q => have := h.1; cases this
          | tup vs =>
            have h1 := one vs fun v hv => h.2 (v, false) (List.mem_map_of_mem (f := fun v => (v, false)) hv)
            have h2 := Nat.mul_le_mul_right (bnB (m + 1)) (show vs.length ≤ 3 from hl)
            have e : ((kids (.tup vs)).map fun (p : Vl × Bool) => ct rows (m + 1) p.1) = vs.map fun v => ct rows (m + 1) v := by show ((vs.map _).map _) = _; rw [List.map_map]; rfl
            rw [e]; omega
          | lst vs =>
            have h1 := one vs fun v hv => h.2 (v, false) (List.mem_map_of_mem (f := fun v => (v, false)) hv)
            have h2 := Nat.mul_le_mul_right (bnB (m + 1)) (show vs.length ≤ 3 from hl)
            have e : ((kids (.lst vs)).map fun (p : Vl × Bool) => ct rows (m + 1) p.1) = vs.map fun v => ct rows (m + 1) v := by show ((vs.map _).map _) = _; rw [List.map_map]; rfl
            rw [e]; omega
          | dct es =>
            have hl3 : es.length ≤ 3 := hl
            have h1 := one (es.map (·.2)) fun v hv => by
              obtain ⟨e, he, rfl⟩ := List.mem_map.mp hv
              exact h.2 (e.2, false) (List.mem_append_right _ (List.mem_map_of_mem (f := fun (e : Vl × Vl) => (e.2, false)) he))
            rw [List.length_map] at h1
            have h2 := Nat.mul_le_mul_right (bnB (m + 1)) hl3
            have h3 : (es.map fun e => ct rows (m + 1) e.1).sum ≤ es.length * 1 := sum_le_of fun e he => by
              have h4 : e.1 ∈ es.map (·.1) := List.mem_map_of_mem he
              rw [rr.ks es rfl] at h4
              obtain ⟨j, _, e4⟩ := List.mem_map.mp h4
              rw [← e4]
              exact Nat.le_refl _
            have e : ((kids (.dct es)).map fun (p : Vl × Bool) => ct rows (m + 1) p.1) = (es.map fun e => ct rows (m + 1) e.1) ++ (es.map (·.2)).map fun v => ct rows (m + 1) v := by show ((es.map _ ++ es.map _).map _) = _; rw [List.map_append, List.map_map, List.map_map, List.map_map]; rfl
            rw [e, List.sum_append]; omega
    · have e : ct rows (n + 1) x = 1 := by cases x <;> first | rfl | exact absurd ⟨_, rfl⟩ c
      rw [e]
      exact bnB_pos n
def outN (rows : List Row) (n : Nat) (x : Vl) : Nat := if gd rows n x = true then ct rows n x else 5000
def spOut (K : PySem.W.Frag) : Nat → Sp
  | 0 => fun _ _ _ _ => False
  | n + 1 => fun vs H Q _ => ∃ (hp : Addr) (rows : List Row) (v : V) (x : Vl) (l : Nat), vs = [.ref hp, v, .int ((l : Nat) : Int)] ∧ ListAt K H hp (rows.map rowD) ∧ Dt K H v (vlD x) ∧ HeapD rows ∧ VD rows.length x ∧ l + n = 7 ∧ 1 ≤ l ∧ ∀ H', Same H H' → Q (.int ((outN rows n x : Nat) : Int)) H'
theorem ok_lout {n : Nat} {f : Addr} {fd : FuncData} (F : Fun K "_law_out" "_law_out" s_law_out f fd) (T : Txt K mg) (U_law_out : Use P w K mg base CX0 "_law_out" (1 + n) P_law_out (spOut K n)) : FnG P w K mg base CX0 (1 + n + 1) f fd P_law_out (spOut K (n + 1)) := by
  refine okG0 F sc_law_out (fun vs H Q E h => ?_) fun cdv A outer s H vs Q E hr hg h => ?_
  · obtain ⟨hp, rows, v, x, l, rfl, _⟩ := h
    rfl
  · obtain ⟨hp, rows, v, x, l, rfl, L, dx, hR, hx, hln, hl1, k⟩ := h
    refine ⟨_, (pss_cons (ps_if (pt_cmpR op_gt (pv 2) pe_int (nomark _))
   (pss_one (ps_ret pe_int))
   pss_nil)
  (pss_cons (ps_if (pt_cmpR op_in_seq (pe_ix ix_tup (pv 1) pe_int (fun _ _ => rfl)) (pe_tup (pa_cons pe_str (pa_cons pe_str (pa_cons pe_str (pa_cons pe_str pa_nil))))) (by rfl))
   (pss_one (ps_ret pe_int))
   pss_nil)
  (pss_cons (ps_if (PW.pt (pw_or (pt_cmpR op_ne (pe_ix ix_tup (pv 1) pe_int (fun _ _ => rfl)) pe_str (nomark _)) (pw_or1 (pt_cmpR op_notIn_seq (pe_ix ix_tup (pe_ix ix_list (pv 0) (pe_ix ix_tup (pv 1) pe_int (fun _ _ => rfl)) (fun _ _ => rfl)) pe_int (fun _ _ => rfl)) (pe_tup (pa_cons pe_str (pa_cons pe_str (pa_cons pe_str pa_nil)))) (by rfl)))))
   (pss_one (ps_ret pe_int))
   pss_nil)
  (pss_cons (ps_set (i := 3) sc_law_out.nd rfl (Or.inl rfl) pe_int)
  (pss_cons (ps_for PassesOwn.never rfl (pi_tup (pe_ix ix_tup (pe_ix ix_list (pv 0) (pe_ix ix_tup (pv 1) pe_int (fun _ _ => rfl)) (fun _ _ => rfl)) pe_int (fun _ _ => rfl))) (pg_name (i := 4) sc_law_out.nd rfl (Or.inl rfl))
   (pss_cons (ps_if (pt_cmpR op_eq (pe_ix ix_tup (pe_ix ix_list (pv 0) (pe_ix ix_tup (pv 1) pe_int (fun _ _ => rfl)) (fun _ _ => rfl)) pe_int (fun _ _ => rfl)) pe_str (nomark _))
   (pss_one (ps_set (i := 3) sc_law_out.nd rfl (Or.inl rfl) (pe_op op_add (pe_op op_add (pv 3) (pe_use U_law_out (hr.mono (by omega)) hg rfl (pa_cons (pv 0) (pa_cons (pe_ix ix_tup (pv 4) pe_int (fun _ _ => rfl)) (pa_cons (pe_op op_add (pv 2) pe_int) pa_nil))))) (pe_use U_law_out (hr.mono (by omega)) hg rfl (pa_cons (pv 0) (pa_cons (pe_ix ix_tup (pv 4) pe_int (fun _ _ => rfl)) (pa_cons (pe_op op_add (pv 2) pe_int) pa_nil)))))))
   (pss_one (ps_set (i := 3) sc_law_out.nd rfl (Or.inl rfl) (pe_op op_add (pv 3) (pe_use U_law_out (hr.mono (by omega)) hg rfl (pa_cons (pv 0) (pa_cons (pv 4) (pa_cons (pe_op op_add (pv 2) pe_int) pa_nil))))))))
  (pss_one (ps_if (pt_cmpR op_gt (pv 3) pe_int (nomark _))
   (pss_one (ps_ret pe_int))
   pss_nil))))
  (pss_one (ps_ret (pv 3)))))))), ?_⟩
    have i4 : [V.str "none", V.str "bool", V.str "int", V.str "text"] = (["none", "bool", "int", "text"] : List Str).map V.str := rfl
    have i3 : [V.str "list", V.str "tuple", V.str "dict"] = (["list", "tuple", "dict"] : List Str).map V.str := rfl
    cases n with
    | zero =>
      refine ⟨_, rfl, _, _, rfl, rfl, _, rfl, iteTb (decide_eq_true (by omega)) ?_⟩
      exact k _ (Same.refl _)
    | succ m =>
      refine ⟨_, rfl, _, _, rfl, rfl, _, rfl, iteFb (decide_eq_false (by omega)) ?_⟩
      obtain ⟨q, ws, rfl, hq, aq⟩ := dvl dx
      refine ⟨_, rfl, q, _, _, _, rfl, rfl, hq, at0, sz_4, fun u hu => ⟨u, _, rfl, .inr (SqT.of upd_same), rfl, rfl, _, rfl, ?_⟩⟩
      rw [if_neg Bool.false_ne_true, i4, inV_strs]
      have S0 := Same.new (o := HO.tup ((["none", "bool", "int", "text"] : List Str).map V.str)) hu
      generalize upd H u (.tup ((["none", "bool", "int", "text"] : List Str).map V.str)) = H1 at S0
      by_cases cr : ∃ kk, x = .ref kk
      · obtain ⟨kk, rfl⟩ := cr
        have hq2s : SqT K H1 q [.str "ref", .int ((kk : Nat) : Int)] := by
          have h1 := aq
          obtain ⟨k2, w2, rfl, d2, a2⟩ := h1.cons_inv
          cases a2.nil_inv
          cases d2.int_inv
          exact Same.tupl S0 hq
        refine iteFb (show decide (("ref" : Str) ∈ (["none", "bool", "int", "text"] : List Str)) = false by decide +kernel) ?_
        refine ⟨_, rfl, q, _, _, _, rfl, rfl, hq2s, at0, rfl, _, rfl, iteFb (by decide +kernel) ?_⟩
        have hlt := hx.r kk rfl
        have er : rows[kk]? = some rows[kk] := List.getElem?_eq_getElem hlt
        generalize rows[kk] = r at er
        have rr : RD rows.length r := hR r (List.mem_of_getElem? er)
        have dx1 := dx.mono S0
        obtain ⟨q', zsh, y, qr, ws2, eq, hqx, ez, hy, rfl, hqr, dy⟩ := hd_row (listAt_mono L S0) er dx1
        cases eq
        refine ⟨_, rfl, _, rfl, q, _, _, _, rfl, rfl, hq2s, at1, hp, _, _, _, rfl, rfl, SqL.of ez, hy, qr, _, _, _, rfl, rfl, hqr, at0, sz_3, fun u2 hu2 => ⟨u2, _, rfl, .inr (SqT.of upd_same), rfl, rfl, _, rfl, ?_⟩⟩
        rw [if_pos rfl, i3, inV_strs]
        have S1 := S0.trans (Same.new (o := HO.tup ((["list", "tuple", "dict"] : List Str).map V.str)) hu2)
        have SS := Same.new (o := HO.tup ((["list", "tuple", "dict"] : List Str).map V.str)) hu2
        generalize upd H1 u2 (.tup ((["list", "tuple", "dict"] : List Str).map V.str)) = H2 at S1 SS
        have hq2s := Same.tupl SS hq2s
        have ez2 := SS _ _ ez
        have L2 := listAt_mono L S1
        clear hqr dy hqx
        cases hc : isC r with
        | false =>
          cases r with
          | oth z q0 =>
            obtain ⟨o1, o2, o3⟩ := rr.oth
            refine iteTb (show (!decide (z ∈ (["list", "tuple", "dict"] : List Str))) = true by rw [decide_eq_false (by simp [o1, o2, o3])]; rfl) ?_
            have := k H2 S1
            rw [show outN rows (m + 1) (.ref kk) = 5000 from if_neg (by
              show ¬ (match rows[kk]? with | some r => isC r && (kids r).all fun p => gd rows m p.1 | none => false) = true
              rw [er]
              exact Bool.false_ne_true)] at this
            exact this
          | _ => cases hc
        | true =>
          obtain ⟨q3, zs3, q4, x1, ea, xs, eq3, _, ez3, hy3, ⟨hqr2, _⟩, hea2, ae2⟩ := hd_parts' L2 er hc (dx.mono S1)
          rw [ez2] at ez3
          cases ez3
          rw [hy] at hy3
          cases hy3
          cases r with
          | oth z q0 => cases hc
          | lst vs =>
            refine ⟨_, rfl, _, rfl, q, _, _, _, rfl, rfl, hq2s, at1, hp, _, _, _, rfl, rfl, SqL.of ez2, hy, qr, _, _, _, rfl, rfl, hqr2, at1, ea, rfl, ⟨_, hea2⟩, ?_⟩
            have lae := ae2.length
            rw [show rparts (Row.lst vs) = vs.map vlD from rfl, List.length_map] at lae
            have hl3 : vs.length ≤ 3 := rr.len
            have hkm : ∀ e ∈ vs, (e, false) ∈ kids (Row.lst vs) := fun e he => List.mem_map_of_mem (f := fun v => (v, false)) he
            have eg : gd rows (m + 1) (.ref kk) = vs.all (gd rows m) := by
              show (match rows[kk]? with | some r => isC r && (kids r).all fun p => gd rows m p.1 | none => false) = _
              rw [er]
              show ((vs.map _).all _) = _
              rw [List.all_map]; rfl
            have ec : ct rows (m + 1) (.ref kk) = 1 + (vs.map (ct rows m)).sum := by
              show (match rows[kk]? with | some r => 1 + ((kids r).map fun (p : Vl × Bool) => ct rows m p.1).sum | none => 1) = _
              rw [er]
              show 1 + ((vs.map _).map _).sum = _
              rw [List.map_map]; rfl
            refine for_it (walk_tup (xs := xs)) (fun i σ H' => ∃ (x4 : Option V), σ = [some (.ref hp), some (.ref q), some (.int ((l : Nat) : Int)), some (.int ((1 + ((vs.take i).map (ct rows m)).sum : Nat) : Int)), x4] ∧ Same H2 H' ∧ (vs.take i).all (gd rows m) = true) ⟨none, rfl, Same.refl _, rfl⟩ (fun _ _ _ _ h => let ⟨_, _, S, _⟩ := h; Same.tupl S hea2) ?_ ?_
            · rintro i x σ H4 H5 hi ⟨x4, rfl, S4, hall⟩ ⟨rfl, hx⟩
              obtain ⟨d', hd', dxx⟩ := ae2.getV hx
              rw [show rparts (Row.lst vs) = vs.map vlD from rfl, List.getElem?_map] at hd'
              obtain ⟨e, he, rfl⟩ := Option.map_eq_some_iff.mp hd'
              have hem := List.mem_of_getElem? he
              refine ⟨_, rfl, _, rfl, q, _, _, _, rfl, rfl, Same.tupl S4 hq2s, at1, hp, _, _, _, rfl, rfl, SqL.of (S4 _ _ ez2), hy, qr, _, _, _, rfl, rfl, Same.tupl S4 hqr2, at0, rfl, _, rfl, iteFb (dec_str (show ("list" : Str) ≠ "dict" by decide +kernel)) ?_⟩
              have hbe : gd rows m e = true → ct rows m e ≤ 241 := fun h => Nat.le_trans (ct_le hR m e h) (bnB_le m (by omega))
              have hbt : ((vs.take i).map (ct rows m)).sum ≤ (vs.take i).length * 241 := sum_le_of fun y hy => Nat.le_trans (ct_le hR m y (List.all_eq_true.mp hall y hy)) (bnB_le m (by omega))
              rw [List.length_take] at hbt
              have hil : i < vs.length := by
                rcases Nat.lt_or_ge i vs.length with h | h
                · exact h
                · rw [List.getElem?_eq_none h] at he; cases he
              refine ⟨_, rfl, _, rfl, _, rfl, _, rfl, _, _, rfl, rfl, hp, rows, _, e, l + 1, rfl, listAt_mono L2 S4, dxx.mono S4, hR, (rr.kd _ (hkm e hem)).1, by omega, by omega, fun H6 S6 => ⟨_, _, rfl, rfl, ?_⟩⟩
              refine ⟨_, rfl, _, _, rfl, rfl, _, rfl, ?_⟩
              have etk : vs.take (i + 1) = vs.take i ++ [e] := by rw [List.take_succ, he]; rfl
              cases hge : gd rows m e with
              | true =>
                rw [show outN rows m e = ct rows m e from if_pos hge]
                have h1 := hbe hge
                refine iteFb (decide_eq_false (show ¬ (1000 : Int) < ((1 + ((vs.take i).map (ct rows m)).sum : Nat) : Int) + ((ct rows m e : Nat) : Int) by have : min i vs.length ≤ 2 := by omega
                                                                                                                                                            omega)) ?_
                refine ⟨some x, ?_, S4.trans S6, ?_⟩
                · rw [etk, List.map_append, List.sum_append]
                  rw [show (([e] : List Vl).map (ct rows m)).sum = ct rows m e by simp]
                  rw [show ((1 + (((vs.take i).map (ct rows m)).sum + ct rows m e) : Nat) : Int) = ((1 + ((vs.take i).map (ct rows m)).sum : Nat) : Int) + ((ct rows m e : Nat) : Int) by omega]
                  rfl
                · rw [etk, List.all_append, hall]
                  simp [hge]
              | false =>
                rw [show outN rows m e = 5000 from if_neg (by rw [hge]; exact Bool.false_ne_true)]
                refine iteTb (decide_eq_true (show (1000 : Int) < ((1 + ((vs.take i).map (ct rows m)).sum : Nat) : Int) + ((5000 : Nat) : Int) by omega)) ?_
                have := k _ (S1.trans (S4.trans S6))
                rw [show outN rows (m + 1) (.ref kk) = 5000 from if_neg (by
                  rw [eg]
                  intro h
                  have := List.all_eq_true.mp h e hem
                  rw [hge] at this
                  cases this)] at this
                exact this
            · rintro σ H4 ⟨x4, rfl, S4, hall⟩
              have := k _ (S1.trans S4)
              rw [show outN rows (m + 1) (.ref kk) = 1 + (vs.map (ct rows m)).sum by
                rw [List.take_of_length_le (by omega)] at hall
                unfold outN; rw [eg, hall, if_pos rfl, ec]] at this
              refine ⟨_, rfl, ?_⟩
              rw [List.take_of_length_le (by omega)]
              exact this
          | tup vs =>
            refine ⟨_, rfl, _, rfl, q, _, _, _, rfl, rfl, hq2s, at1, hp, _, _, _, rfl, rfl, SqL.of ez2, hy, qr, _, _, _, rfl, rfl, hqr2, at1, ea, rfl, ⟨_, hea2⟩, ?_⟩
            have lae := ae2.length
            rw [show rparts (Row.tup vs) = vs.map vlD from rfl, List.length_map] at lae
            have hl3 : vs.length ≤ 3 := rr.len
            have hkm : ∀ e ∈ vs, (e, false) ∈ kids (Row.tup vs) := fun e he => List.mem_map_of_mem (f := fun v => (v, false)) he
            have eg : gd rows (m + 1) (.ref kk) = vs.all (gd rows m) := by
              show (match rows[kk]? with | some r => isC r && (kids r).all fun p => gd rows m p.1 | none => false) = _
              rw [er]
              show ((vs.map _).all _) = _
              rw [List.all_map]; rfl
            have ec : ct rows (m + 1) (.ref kk) = 1 + (vs.map (ct rows m)).sum := by
              show (match rows[kk]? with | some r => 1 + ((kids r).map fun (p : Vl × Bool) => ct rows m p.1).sum | none => 1) = _
              rw [er]
              show 1 + ((vs.map _).map _).sum = _
              rw [List.map_map]; rfl
            refine for_it (walk_tup (xs := xs)) (fun i σ H' => ∃ (x4 : Option V), σ = [some (.ref hp), some (.ref q), some (.int ((l : Nat) : Int)), some (.int ((1 + ((vs.take i).map (ct rows m)).sum : Nat) : Int)), x4] ∧ Same H2 H' ∧ (vs.take i).all (gd rows m) = true) ⟨none, rfl, Same.refl _, rfl⟩ (fun _ _ _ _ h => let ⟨_, _, S, _⟩ := h; Same.tupl S hea2) ?_ ?_
            · rintro i x σ H4 H5 hi ⟨x4, rfl, S4, hall⟩ ⟨rfl, hx⟩
              obtain ⟨d', hd', dxx⟩ := ae2.getV hx
              rw [show rparts (Row.tup vs) = vs.map vlD from rfl, List.getElem?_map] at hd'
              obtain ⟨e, he, rfl⟩ := Option.map_eq_some_iff.mp hd'
              have hem := List.mem_of_getElem? he
              refine ⟨_, rfl, _, rfl, q, _, _, _, rfl, rfl, Same.tupl S4 hq2s, at1, hp, _, _, _, rfl, rfl, SqL.of (S4 _ _ ez2), hy, qr, _, _, _, rfl, rfl, Same.tupl S4 hqr2, at0, rfl, _, rfl, iteFb (dec_str (show ("tuple" : Str) ≠ "dict" by decide +kernel)) ?_⟩
              have hbe : gd rows m e = true → ct rows m e ≤ 241 := fun h => Nat.le_trans (ct_le hR m e h) (bnB_le m (by omega))
              have hbt : ((vs.take i).map (ct rows m)).sum ≤ (vs.take i).length * 241 := sum_le_of fun y hy => Nat.le_trans (ct_le hR m y (List.all_eq_true.mp hall y hy)) (bnB_le m (by omega))
              rw [List.length_take] at hbt
              have hil : i < vs.length := by
                rcases Nat.lt_or_ge i vs.length with h | h
                · exact h
                · rw [List.getElem?_eq_none h] at he; cases he
              refine ⟨_, rfl, _, rfl, _, rfl, _, rfl, _, _, rfl, rfl, hp, rows, _, e, l + 1, rfl, listAt_mono L2 S4, dxx.mono S4, hR, (rr.kd _ (hkm e hem)).1, by omega, by omega, fun H6 S6 => ⟨_, _, rfl, rfl, ?_⟩⟩
              refine ⟨_, rfl, _, _, rfl, rfl, _, rfl, ?_⟩
              have etk : vs.take (i + 1) = vs.take i ++ [e] := by rw [List.take_succ, he]; rfl
              cases hge : gd rows m e with
              | true =>
                rw [show outN rows m e = ct rows m e from if_pos hge]
                have h1 := hbe hge
                refine iteFb (decide_eq_false (show ¬ (1000 : Int) < ((1 + ((vs.take i).map (ct rows m)).sum : Nat) : Int) + ((ct rows m e : Nat) : Int) by have : min i vs.length ≤ 2 := by omega
                                                                                                                                                            omega)) ?_
                refine ⟨some x, ?_, S4.trans S6, ?_⟩
                · rw [etk, List.map_append, List.sum_append]
                  rw [show (([e] : List Vl).map (ct rows m)).sum = ct rows m e by simp]
                  rw [show ((1 + (((vs.take i).map (ct rows m)).sum + ct rows m e) : Nat) : Int) = ((1 + ((vs.take i).map (ct rows m)).sum : Nat) : Int) + ((ct rows m e : Nat) : Int) by omega]
                  rfl
                · rw [etk, List.all_append, hall]
                  simp [hge]
              | false =>
                rw [show outN rows m e = 5000 from if_neg (by rw [hge]; exact Bool.false_ne_true)]
                refine iteTb (decide_eq_true (show (1000 : Int) < ((1 + ((vs.take i).map (ct rows m)).sum : Nat) : Int) + ((5000 : Nat) : Int) by omega)) ?_
                have := k _ (S1.trans (S4.trans S6))
                rw [show outN rows (m + 1) (.ref kk) = 5000 from if_neg (by
                  rw [eg]
                  intro h
                  have := List.all_eq_true.mp h e hem
                  rw [hge] at this
                  cases this)] at this
                exact this
            · rintro σ H4 ⟨x4, rfl, S4, hall⟩
              have := k _ (S1.trans S4)
              rw [show outN rows (m + 1) (.ref kk) = 1 + (vs.map (ct rows m)).sum by
                rw [List.take_of_length_le (by omega)] at hall
                unfold outN; rw [eg, hall, if_pos rfl, ec]] at this
              refine ⟨_, rfl, ?_⟩
              rw [List.take_of_length_le (by omega)]
              exact this
          | dct es =>
            refine ⟨_, rfl, _, rfl, q, _, _, _, rfl, rfl, hq2s, at1, hp, _, _, _, rfl, rfl, SqL.of ez2, hy, qr, _, _, _, rfl, rfl, hqr2, at1, ea, rfl, ⟨_, hea2⟩, ?_⟩
            have lae := ae2.length
            rw [show rparts (Row.dct es) = es.map entD from rfl, List.length_map] at lae
            have hl3 : es.length ≤ 3 := rr.len
            have hkm1 : ∀ e ∈ es, (e.1, true) ∈ kids (Row.dct es) := fun e he => List.mem_append_left _ (List.mem_map_of_mem (f := fun (e : Vl × Vl) => (e.1, true)) he)
            have hkm2 : ∀ e ∈ es, (e.2, false) ∈ kids (Row.dct es) := fun e he => List.mem_append_right _ (List.mem_map_of_mem (f := fun (e : Vl × Vl) => (e.2, false)) he)
            have eg : gd rows (m + 1) (.ref kk) = (es.all (fun e => gd rows m e.1) && es.all fun e => gd rows m e.2) := by
              show (match rows[kk]? with | some r => isC r && (kids r).all fun p => gd rows m p.1 | none => false) = _
              rw [er]
              show ((es.map _ ++ es.map _).all _) = _
              rw [List.all_append, List.all_map, List.all_map]; rfl
            have ec : ct rows (m + 1) (.ref kk) = 1 + ((es.map fun e => ct rows m e.1).sum + (es.map fun e => ct rows m e.2).sum) := by
              show (match rows[kk]? with | some r => 1 + ((kids r).map fun (p : Vl × Bool) => ct rows m p.1).sum | none => 1) = _
              rw [er]
              show 1 + ((es.map _ ++ es.map _).map _).sum = _
              rw [List.map_append, List.sum_append, List.map_map, List.map_map]; rfl
            have hk1 : ∀ e ∈ es, ct rows m e.1 ≤ 1 := fun e he => by
              have h4 : e.1 ∈ es.map (·.1) := List.mem_map_of_mem he
              rw [rr.ks es rfl] at h4
              obtain ⟨j, _, e4⟩ := List.mem_map.mp h4
              rw [← e4]
              cases m with
              | zero => exact Nat.zero_le _
              | succ m => exact Nat.le_refl _
            refine for_it (walk_tup (xs := xs)) (fun i σ H' => ∃ (x4 : Option V), σ = [some (.ref hp), some (.ref q), some (.int ((l : Nat) : Int)), some (.int ((1 + (((es.take i).map fun e => ct rows m e.1).sum + ((es.take i).map fun e => ct rows m e.2).sum) : Nat) : Int)), x4] ∧ Same H2 H' ∧ (es.take i).all (fun e => gd rows m e.1) = true ∧ (es.take i).all (fun e => gd rows m e.2) = true) ⟨none, rfl, Same.refl _, rfl, rfl⟩ (fun _ _ _ _ h => let ⟨_, _, S, _⟩ := h; Same.tupl S hea2) ?_ ?_
            · rintro i x σ H4 H5 hi ⟨x4, rfl, S4, hall1, hall2⟩ ⟨rfl, hx⟩
              obtain ⟨d', hd', dxx⟩ := ae2.getV hx
              rw [show rparts (Row.dct es) = es.map entD from rfl, List.getElem?_map] at hd'
              obtain ⟨e, he, rfl⟩ := Option.map_eq_some_iff.mp hd'
              have hem := List.mem_of_getElem? he
              obtain ⟨qe, y1, y2, rfl, hqe, d1, d2⟩ := dt_ent (dxx.mono S4)
              have hbe : gd rows m e.2 = true → ct rows m e.2 ≤ 241 := fun h => Nat.le_trans (ct_le hR m e.2 h) (bnB_le m (by omega))
              have hbt : ((es.take i).map fun e => ct rows m e.2).sum ≤ (es.take i).length * 241 := sum_le_of fun y hy => Nat.le_trans (ct_le hR m y.2 (List.all_eq_true.mp hall2 y hy)) (bnB_le m (by omega))
              have hbk : ((es.take i).map fun e => ct rows m e.1).sum ≤ (es.take i).length * 1 := sum_le_of fun y hy => hk1 y (List.mem_of_mem_take hy)
              have hke := hk1 e hem
              rw [List.length_take] at hbt hbk
              have hil : i < es.length := by
                rcases Nat.lt_or_ge i es.length with h | h
                · exact h
                · rw [List.getElem?_eq_none h] at he; cases he
              refine ⟨_, rfl, _, rfl, q, _, _, _, rfl, rfl, Same.tupl S4 hq2s, at1, hp, _, _, _, rfl, rfl, SqL.of (S4 _ _ ez2), hy, qr, _, _, _, rfl, rfl, Same.tupl S4 hqr2, at0, rfl, _, rfl, iteTb (decide_eq_true rfl) ?_⟩
              refine ⟨_, rfl, _, rfl, _, rfl, qe, _, _, _, rfl, rfl, hqe, at0, _, rfl, _, _, rfl, rfl, hp, rows, _, e.1, l + 1, rfl, listAt_mono L2 S4, d1, hR, (rr.kd _ (hkm1 e hem)).1, by omega, by omega, fun H6 S6 => ⟨_, _, rfl, rfl, ?_⟩⟩
              refine ⟨_, rfl, _, rfl, qe, _, _, _, rfl, rfl, Same.tupl S6 hqe, at1, _, rfl, _, _, rfl, rfl, hp, rows, _, e.2, l + 1, rfl, listAt_mono (listAt_mono L2 S4) S6, d2.mono S6, hR, (rr.kd _ (hkm2 e hem)).1, by omega, by omega, fun H7 S7 => ⟨_, _, rfl, rfl, ?_⟩⟩
              refine ⟨_, rfl, _, _, rfl, rfl, _, rfl, ?_⟩
              have etk : es.take (i + 1) = es.take i ++ [e] := by rw [List.take_succ, he]; rfl
              cases hge : (gd rows m e.1 && gd rows m e.2) with
              | true =>
                rw [Bool.and_eq_true] at hge
                rw [show outN rows m e.1 = ct rows m e.1 from if_pos hge.1, show outN rows m e.2 = ct rows m e.2 from if_pos hge.2]
                have h1 := hbe hge.2
                have hmin : min i es.length ≤ 2 := by omega
                refine iteFb (decide_eq_false (show ¬ (1000 : Int) < ((1 + (((es.take i).map fun e => ct rows m e.1).sum + ((es.take i).map fun e => ct rows m e.2).sum) : Nat) : Int) + ((ct rows m e.1 : Nat) : Int) + ((ct rows m e.2 : Nat) : Int) by omega)) ?_
                refine ⟨some (.ref qe), ?_, (S4.trans S6).trans S7, ?_, ?_⟩
                · rw [etk, List.map_append, List.sum_append, List.map_append, List.sum_append]
                  rw [show (([e] : List (Vl × Vl)).map fun e => ct rows m e.1).sum = ct rows m e.1 by simp, show (([e] : List (Vl × Vl)).map fun e => ct rows m e.2).sum = ct rows m e.2 by simp]
                  rw [show ((1 + ((((es.take i).map fun e => ct rows m e.1).sum + ct rows m e.1) + (((es.take i).map fun e => ct rows m e.2).sum + ct rows m e.2)) : Nat) : Int) = ((1 + (((es.take i).map fun e => ct rows m e.1).sum + ((es.take i).map fun e => ct rows m e.2).sum) : Nat) : Int) + ((ct rows m e.1 : Nat) : Int) + ((ct rows m e.2 : Nat) : Int) by omega]
                  rfl
                · rw [etk, List.all_append, hall1]
                  simp [hge.1]
                · rw [etk, List.all_append, hall2]
                  simp [hge.2]
              | false =>
                have h5 : 5000 ≤ outN rows m e.1 + outN rows m e.2 := by
                  cases g1 : gd rows m e.1 with
                  | false => rw [show outN rows m e.1 = 5000 from if_neg (by rw [g1]; exact Bool.false_ne_true)]; omega
                  | true =>
                    rw [g1, Bool.true_and] at hge
                    rw [show outN rows m e.2 = 5000 from if_neg (by rw [hge]; exact Bool.false_ne_true)]; omega
                refine iteTb (decide_eq_true (show (1000 : Int) < ((1 + (((es.take i).map fun e => ct rows m e.1).sum + ((es.take i).map fun e => ct rows m e.2).sum) : Nat) : Int) + ((outN rows m e.1 : Nat) : Int) + ((outN rows m e.2 : Nat) : Int) by omega)) ?_
                have := k _ (S1.trans ((S4.trans S6).trans S7))
                rw [show outN rows (m + 1) (.ref kk) = 5000 from if_neg (by
                  rw [eg]
                  intro h
                  rw [Bool.and_eq_true] at h
                  rw [List.all_eq_true.mp h.1 e hem, List.all_eq_true.mp h.2 e hem] at hge
                  cases hge)] at this
                exact this
            · rintro σ H4 ⟨x4, rfl, S4, hall1, hall2⟩
              have := k _ (S1.trans S4)
              rw [show outN rows (m + 1) (.ref kk) = 1 + ((es.map fun e => ct rows m e.1).sum + (es.map fun e => ct rows m e.2).sum) by
                rw [List.take_of_length_le (by omega)] at hall1 hall2
                unfold outN; rw [eg, hall1, hall2, Bool.and_true, if_pos rfl, ec]] at this
              refine ⟨_, rfl, ?_⟩
              rw [List.take_of_length_le (by omega)]
              exact this
      · have nr : ∀ j, x ≠ .ref j := fun j h => cr ⟨j, h⟩
        have eg : gd rows (m + 1) x = lfG x := by cases x <;> first | rfl | exact absurd rfl (nr _)
        have ec : ct rows (m + 1) x = 1 := by cases x <;> first | rfl | exact absurd rfl (nr _)
        have ed : decide (knd x ∈ (["none", "bool", "int", "text"] : List Str)) = lfG x := by
          cases x with
          | non => exact (show decide (("none" : Str) ∈ (["none", "bool", "int", "text"] : List Str)) = true by decide +kernel)
          | bool b => exact (show decide (("bool" : Str) ∈ (["none", "bool", "int", "text"] : List Str)) = true by decide +kernel)
          | int i => exact (show decide (("int" : Str) ∈ (["none", "bool", "int", "text"] : List Str)) = true by decide +kernel)
          | text z => exact (show decide (("text" : Str) ∈ (["none", "bool", "int", "text"] : List Str)) = true by decide +kernel)
          | span a b => exact (show decide (("span" : Str) ∈ (["none", "bool", "int", "text"] : List Str)) = false by decide +kernel)
          | built z => exact (show decide (("built" : Str) ∈ (["none", "bool", "int", "text"] : List Str)) = false by decide +kernel)
          | host z => exact (show decide (("host" : Str) ∈ (["none", "bool", "int", "text"] : List Str)) = false by decide +kernel)
          | ref j => exact absurd rfl (nr j)
        rw [ed]
        cases hl : lfG x with
        | true =>
          refine iteTb rfl ?_
          have := k H1 S0
          rw [show outN rows (m + 1) x = 1 by unfold outN; rw [eg, hl, if_pos rfl, ec]] at this
          exact this
        | false =>
          refine iteFb rfl ?_
          refine ⟨_, rfl, q, _, _, _, rfl, rfl, Same.tupl S0 hq, at0, rfl, _, rfl, iteTb ?_ (iteTb rfl ?_)⟩
          · have n5 : kn x ≠ 5 := fun e => by cases x <;> simp [kn] at e; exact nr _ rfl
            have := (knd_is x 5 (by decide)).trans (decide_eq_false n5)
            show (!decide (V.str (knd x) = V.str (nmK 5))) = true
            rw [this]; rfl
          have := k H1 S0
          rw [show outN rows (m + 1) x = 5000 by unfold outN; rw [eg, hl, if_neg Bool.false_ne_true]] at this
          exact this
end

section
--SPLIT
end
abbrev s_law_alike : Stmt := top 28
abbrev N_law_alike : List Str := ["a", "b", "key", "k"]
abbrev P_law_alike : List Str := ["a", "b"]
theorem sc_law_alike : FnScope N_law_alike P_law_alike (defScope s_law_alike) := ⟨rfl, rfl, rfl, by decide +kernel, rfl, by decide +kernel, by decide +kernel⟩
section
variable {P : Program} {w : World} {K : PySem.W.Frag} {mg : Str → Option Value} {base : Heap}
inductive Wh : Nat → HT → Prop
  | non (n : Nat) : Wh (n + 1) .non
  | bl (n : Nat) (b : Bool) : Wh (n + 1) (.bl b)
  | int (n : Nat) (i : Int) : Wh (n + 1) (.int i)
  | str (n : Nat) (z : Str) : Wh (n + 1) (.str z)
  | lst {n : Nat} {ts : List HT} : ts.length ≤ 1000 → (∀ t ∈ ts, Wh n t) → Wh (n + 1) (.lst ts)
  | tup {n : Nat} {ts : List HT} : ts.length ≤ 1000 → (∀ t ∈ ts, Wh n t) → Wh (n + 1) (.tup ts)
  | dct {n : Nat} {ts : List HT} : ts.length ≤ 1000 → (∀ t ∈ ts, Wh (n + 1) t) → Wh (n + 3) (.dct ts)
def spAlikeH (K : PySem.W.Frag) (n : Nat) : Sp := fun vs H Q _ => ∃ (a b : V) (t : HT) (N N' : Addr → Prop), vs = [a, b] ∧ Hs K H N a t ∧ Hs K H N' b t ∧ Wh n t ∧ ∀ H', Same H H' → Q (.bl true) H'
def intsT (n : Nat) : List HT := (List.range n).map fun (j : Nat) => HT.int ((j : Nat) : Int)
theorem hs_keys {H : Hp} {N : Addr → Prop} : ∀ l : List Nat, HsAll K H N ((l.map fun (j : Nat) => (Sum.inl ((j : Nat) : Int) : Key)).map kV) (l.map fun (j : Nat) => HT.int ((j : Nat) : Int))
  | [] => .nil
  | j :: l => .cons (.int _) (hs_keys l)
theorem wh_ints (m n : Nat) (h : n ≤ 1000) : Wh (m + 2) (.lst (intsT n)) := .lst (by simp [intsT]; exact h) fun t ht => by
  obtain ⟨j, _, rfl⟩ := List.mem_map.mp ht
  exact .int _ _
theorem keysL {kvs : List (Key × V)} {n : Nat} (h : kvs.map (·.1) = kys n) : (kvs.map fun kv => kV kv.1) = (kys n).map kV := by rw [← h, List.map_map]; rfl
theorem valV_kys {kvs : List (Key × V)} {n i : Nat} {k : Key} {v : V} (h : kvs.map (·.1) = kys n) (e : kvs[i]? = some (k, v)) : valV kvs k = some v := by
  have at_ : ∀ j k' v', kvs[j]? = some (k', v') → k' = Sum.inl ((j : Nat) : Int) := fun j k' v' ej => by
    have h2 := congrArg (fun l => l[j]?) h
    simp only [List.getElem?_map, ej] at h2
    have hj : j < n := by
      have hl := congrArg List.length h
      rw [List.length_map, kys_len] at hl
      rcases Nat.lt_or_ge j kvs.length with c | c
      · omega
      · rw [List.getElem?_eq_none c] at ej; cases ej
    rw [kys, List.getElem?_map, List.getElem?_range hj] at h2
    exact Option.some.inj h2
  cases hv : valV kvs k with
  | none =>
    exfalso
    have h1 := valV_any k kvs
    rw [hv] at h1
    have h2 : (kvs.any fun kv => decide (kv.1 = k)) = true := List.any_eq_true.mpr ⟨(k, v), List.mem_of_getElem? e, decide_eq_true rfl⟩
    rw [h2] at h1
    cases h1
  | some u =>
    unfold valV at hv
    obtain ⟨q, hq, rfl⟩ := Option.map_eq_some_iff.mp hv
    have h0 := List.find?_some hq
    have h1 : q.1 = k := of_decide_eq_true h0
    obtain ⟨j, hj⟩ := List.mem_iff_getElem?.mp (List.mem_of_find?_eq_some hq)
    obtain ⟨qk, qv⟩ := q
    have h3 := at_ j qk qv hj
    have h4 := at_ i k v e
    have h1 : qk = k := h1
    rw [h3, h4] at h1
    have h5 := Sum.inl.inj h1
    have h6 : j = i := by omega
    subst h6
    rw [e] at hj
    cases hj
    rfl
theorem alike0 {vs : List V} {H : Hp} {Q : VK} {E : XK} (h : spAlikeH K 0 vs H Q E) : False := by
  obtain ⟨_, _, _, _, _, _, _, _, hw, _⟩ := h
  cases hw
theorem ok_lalike {n : Nat} {f : Addr} {fd : FuncData} (F : Fun K "_law_alike" "_law_alike" s_law_alike f fd) (T : Txt K mg) (U_law_is_integer : Use P w K mg base CX0 "_law_is_integer" 1 P_law_is_integer (spIsInt K)) (U_law_alike : Use P w K mg base CX0 "_law_alike" (1 + n) P_law_alike (spAlikeH K n)) : FnG P w K mg base CX0 (1 + n + 1) f fd P_law_alike (spAlikeH K (n + 1)) := by
  refine okG0 F sc_law_alike (fun vs H Q E h => ?_) fun cdv A outer s H vs Q E hr hg h => ?_
  · obtain ⟨a, b, t, N, N', rfl, _⟩ := h
    rfl
  · obtain ⟨a, b, t, N, N', rfl, ha, hb, ht, k⟩ := h
    have hu : (A.deeper (envOfC "_law_alike" (defScope s_law_alike) s.heap.objs.size f cdv)).units + 1 < cLine := Nat.lt_of_le_of_lt (by omega) hr.units
    cases ha with
    | non =>
      refine ⟨_, (pss_cons (ps_if (pt_cmpR op_isN (pv 1) pe_non (nomark _))
   (pss_one (ps_ret (pe_cmpR op_isN (pv 0) pe_non (nomark _))))
   pss_nil)
  pss_never), ?_⟩
      cases hb
      exact ⟨_, rfl, rfl, _, rfl, iteTb rfl ⟨_, rfl, rfl, k _ (Same.refl _)⟩⟩
    | bl x =>
      refine ⟨_, (pss_cons (ps_if (pt_cmpR op_isN (pv 1) pe_non (nomark _))
   pss_never
   pss_nil)
  (pss_cons (ps_if (pt_val (pe_callB call_isi (by rfl) T.b_isinstance (by decide +kernel) (pa_cons (pv 1) (pa_cons (pe_bltn (v := .ty "bool") (by rfl) T.b_bool (by decide +kernel) rfl) pa_nil))))
   (pss_one (ps_ret (pe_and (pe_callB call_isi (by rfl) T.b_isinstance (by decide +kernel) (pa_cons (pv 0) (pa_cons (pe_bltn (v := .ty "bool") (by rfl) T.b_bool (by decide +kernel) rfl) pa_nil))) (pe_one (pe_cmpR op_eq (pv 0) (pv 1) (nomark _))))))
   pss_nil)
  pss_never)), ?_⟩
      cases hb
      refine ⟨_, rfl, rfl, _, rfl, iteFb rfl ?_⟩
      refine ⟨_, rfl, _, _, _, _, true, rfl, .ty _, .base (.bl x), if_pos (beq_self_eq_true _), _, rfl, iteTb rfl ?_⟩
      refine ⟨_, rfl, _, _, _, _, true, rfl, .ty _, .base (.bl x), if_pos (beq_self_eq_true _), true, rfl, iteTb rfl ?_⟩
      refine ⟨_, rfl, _, rfl, rfl, ?_⟩
      rw [decide_eq_true rfl]
      exact k _ (Same.refl _)
    | int x =>
      refine ⟨_, (pss_cons (ps_if (pt_cmpR op_isN (pv 1) pe_non (nomark _))
   pss_never
   pss_nil)
  (pss_cons (ps_if (pt_val (pe_callB call_isi (by rfl) T.b_isinstance (by decide +kernel) (pa_cons (pv 1) (pa_cons (pe_bltn (v := .ty "bool") (by rfl) T.b_bool (by decide +kernel) rfl) pa_nil))))
   pss_never
   pss_nil)
  (pss_cons (ps_if (pt_val (pe_callB call_isi (by rfl) T.b_isinstance (by decide +kernel) (pa_cons (pv 1) (pa_cons (pe_bltn (v := .ty "int") (by rfl) T.b_int (by decide +kernel) rfl) pa_nil))))
   (pss_one (ps_ret (pe_and (pe_use U_law_is_integer (hr.mono (by omega)) hg rfl (pa_cons (pv 0) pa_nil)) (pe_one (pe_cmpR op_eq (pv 0) (pv 1) (nomark _))))))
   pss_nil)
  pss_never))), ?_⟩
      cases hb
      refine ⟨_, rfl, rfl, _, rfl, iteFb rfl ?_⟩
      refine ⟨_, rfl, _, _, _, _, false, rfl, .ty _, .base (.int x), kit_ty (by decide +kernel), _, rfl, iteFb rfl ?_⟩
      refine ⟨_, rfl, _, _, _, _, true, rfl, .ty _, .base (.int x), if_pos (beq_self_eq_true _), _, rfl, iteTb rfl ?_⟩
      refine ⟨_, rfl, x, rfl, true, rfl, iteTb rfl ?_⟩
      refine ⟨_, rfl, _, rfl, rfl, ?_⟩
      rw [decide_eq_true rfl]
      exact k _ (Same.refl _)
    | str x =>
      refine ⟨_, (pss_cons (ps_if (pt_cmpR op_isN (pv 1) pe_non (nomark _))
   pss_never
   pss_nil)
  (pss_cons (ps_if (pt_val (pe_callB call_isi (by rfl) T.b_isinstance (by decide +kernel) (pa_cons (pv 1) (pa_cons (pe_bltn (v := .ty "bool") (by rfl) T.b_bool (by decide +kernel) rfl) pa_nil))))
   pss_never
   pss_nil)
  (pss_cons (ps_if (pt_val (pe_callB call_isi (by rfl) T.b_isinstance (by decide +kernel) (pa_cons (pv 1) (pa_cons (pe_bltn (v := .ty "int") (by rfl) T.b_int (by decide +kernel) rfl) pa_nil))))
   pss_never
   pss_nil)
  (pss_cons (ps_if (pt_val (pe_callB call_isi (by rfl) T.b_isinstance (by decide +kernel) (pa_cons (pv 1) (pa_cons (pe_bltn (v := .ty "str") (by rfl) T.b_str (by decide +kernel) rfl) pa_nil))))
   (pss_one (ps_ret (pe_and (pe_callB call_isi (by rfl) T.b_isinstance (by decide +kernel) (pa_cons (pv 0) (pa_cons (pe_bltn (v := .ty "str") (by rfl) T.b_str (by decide +kernel) rfl) pa_nil))) (pe_one (pe_cmpR op_eq (pv 0) (pv 1) (nomark _))))))
   pss_nil)
  pss_never)))), ?_⟩
      cases hb
      refine ⟨_, rfl, rfl, _, rfl, iteFb rfl ?_⟩
      refine ⟨_, rfl, _, _, _, _, false, rfl, .ty _, .base (.str x), kit_ty (by decide +kernel), _, rfl, iteFb rfl ?_⟩
      refine ⟨_, rfl, _, _, _, _, false, rfl, .ty _, .base (.str x), kit_ty (by decide +kernel), _, rfl, iteFb rfl ?_⟩
      refine ⟨_, rfl, _, _, _, _, true, rfl, .ty _, .base (.str x), if_pos (beq_self_eq_true _), _, rfl, iteTb rfl ?_⟩
      refine ⟨_, rfl, _, _, _, _, true, rfl, .ty _, .base (.str x), if_pos (beq_self_eq_true _), true, rfl, iteTb rfl ?_⟩
      refine ⟨_, rfl, _, rfl, rfl, ?_⟩
      rw [decide_eq_true rfl]
      exact k _ (Same.refl _)
    | @lst p xs ts e1 h1 h2 =>
      refine ⟨_, (pss_cons (ps_if (pt_cmpR op_isN (pv 1) pe_non (nomark _))
   pss_never
   pss_nil)
  (pss_cons (ps_if (pt_val (pe_callB call_isi (by rfl) T.b_isinstance (by decide +kernel) (pa_cons (pv 1) (pa_cons (pe_bltn (v := .ty "bool") (by rfl) T.b_bool (by decide +kernel) rfl) pa_nil))))
   pss_never
   pss_nil)
  (pss_cons (ps_if (pt_val (pe_callB call_isi (by rfl) T.b_isinstance (by decide +kernel) (pa_cons (pv 1) (pa_cons (pe_bltn (v := .ty "int") (by rfl) T.b_int (by decide +kernel) rfl) pa_nil))))
   pss_never
   pss_nil)
  (pss_cons (ps_if (pt_val (pe_callB call_isi (by rfl) T.b_isinstance (by decide +kernel) (pa_cons (pv 1) (pa_cons (pe_bltn (v := .ty "str") (by rfl) T.b_str (by decide +kernel) rfl) pa_nil))))
   pss_never
   pss_nil)
  (pss_cons (ps_if (pt_val (pe_callB call_isi (by rfl) T.b_isinstance (by decide +kernel) (pa_cons (pv 1) (pa_cons (pe_bltn (v := .ty "dict") (by rfl) T.b_dict (by decide +kernel) rfl) pa_nil))))
   pss_never
   pss_nil)
  (pss_cons (ps_if (pt_val (pe_callB call_isi (by rfl) T.b_isinstance (by decide +kernel) (pa_cons (pv 1) (pa_cons (pe_bltn (v := .ty "list") (by rfl) T.b_list (by decide +kernel) rfl) pa_nil))))
   (pss_one (ps_if (PW.pt (pw_or (pt_not (pt_val (pe_callB call_isi (by rfl) T.b_isinstance (by decide +kernel) (pa_cons (pv 0) (pa_cons (pe_bltn (v := .ty "list") (by rfl) T.b_list (by decide +kernel) rfl) pa_nil))))) (pw_or1 (pt_cmpR op_ne (pe_callB call_len (by rfl) T.b_len PySem.boot_len (pa_cons (pv 0) pa_nil)) (pe_callB call_len (by rfl) T.b_len PySem.boot_len (pa_cons (pv 1) pa_nil)) (nomark _)))))
   (pss_one (ps_ret pe_bl))
   pss_nil))
   (pss_one (ps_if (PW.pt (pw_or (pt_not (pt_val (pe_callB call_isi (by rfl) T.b_isinstance (by decide +kernel) (pa_cons (pv 0) (pa_cons (pe_bltn (v := .ty "tuple") (by rfl) T.b_tuple (by decide +kernel) rfl) pa_nil))))) (pw_or1 (pt_cmpR op_ne (pe_callB call_len (by rfl) T.b_len PySem.boot_len (pa_cons (pv 0) pa_nil)) (pe_callB call_len (by rfl) T.b_len PySem.boot_len (pa_cons (pv 1) pa_nil)) (nomark _)))))
   (pss_one (ps_ret pe_bl))
   pss_nil)))
  (pss_cons (ps_for PassesOwn.never rfl (pi_range1 (by rfl) T.b_range (pa_cons (pe_callB call_len (by rfl) T.b_len PySem.boot_len (pa_cons (pv 1) pa_nil)) pa_nil)) (pg_name (i := 3) sc_law_alike.nd rfl (Or.inl rfl))
   (pss_one (ps_if (pt_not (pt_val (pe_use U_law_alike (hr.mono (by omega)) hg rfl (pa_cons (pe_ix ix_list (pv 0) (pv 3) (fun _ _ => rfl)) (pa_cons (pe_ix ix_list (pv 1) (pv 3) (fun _ _ => rfl)) pa_nil)))))
   (pss_one (ps_ret pe_bl))
   pss_nil)))
  (pss_one (ps_ret pe_bl))))))))), ?_⟩
      cases hb with
      | @lst p' ys _ e1' h1' h2' =>
        have lx := h2.length
        have ly := h2'.length
        cases ht with
        | lst hlen hw =>
        refine ⟨_, rfl, rfl, _, rfl, iteFb rfl ?_⟩
        refine ⟨_, rfl, _, _, _, _, false, rfl, .ty _, .base (.lst e1'), kit_ty (by decide +kernel), _, rfl, iteFb rfl ?_⟩
        refine ⟨_, rfl, _, _, _, _, false, rfl, .ty _, .base (.lst e1'), kit_ty (by decide +kernel), _, rfl, iteFb rfl ?_⟩
        refine ⟨_, rfl, _, _, _, _, false, rfl, .ty _, .base (.lst e1'), kit_ty (by decide +kernel), _, rfl, iteFb rfl ?_⟩
        refine ⟨_, rfl, _, _, _, _, false, rfl, .ty _, .base (.lst e1'), kit_ty (by decide +kernel), _, rfl, iteFb rfl ?_⟩
        refine ⟨_, rfl, _, _, _, _, true, rfl, .ty _, .base (.lst e1'), if_pos (beq_self_eq_true _), _, rfl, iteTb rfl ?_⟩
        refine ⟨_, rfl, _, _, _, _, true, rfl, .ty _, .base (.lst e1), if_pos (beq_self_eq_true _), _, rfl, iteFb rfl ?_⟩
        have hlen' : xs.length = ys.length := by rw [lx, ly]
        refine ⟨_, rfl, _, _, rfl, .inl ⟨xs, SqL.of e1, rfl⟩, _, rfl, _, _, rfl, .inl ⟨ys, SqL.of e1', rfl⟩, rfl, _, rfl, iteFb (by rw [hlen']; simp) ?_⟩
        refine ⟨_, rfl, _, _, rfl, .inl ⟨ys, SqL.of e1', rfl⟩, ys.length, rfl, by omega, by omega, ?_⟩
        rw [Int.toNat_natCast]
        refine for_range (lo := 0) (n := ys.length) (fun i σ H4 => ∃ x3, σ = [some (.ref p), some (.ref p'), none, x3] ∧ Same H H4) ⟨none, rfl, Same.refl _⟩ ?_ ?_
        · rintro i σ H4 hi ⟨x3, rfl, S4⟩
          have hti : ts[i]? = some ts[i] := List.getElem?_eq_getElem (by omega)
          have htm := List.getElem_mem (l := ts) (n := i) (by omega)
          generalize ts[i] = t at hti htm
          obtain ⟨x, hx, sx⟩ := h2.get hti
          obtain ⟨y, hy, sy⟩ := h2'.get hti
          refine ⟨_, rfl, _, rfl, p, xs, ((i : Nat) : Int), x, rfl, by rw [Int.zero_add], SqL.of (S4 _ _ e1), atI_nat hx, _, rfl, _, rfl, p', ys, ((i : Nat) : Int), y, rfl, by rw [Int.zero_add], SqL.of (S4 _ _ e1'), atI_nat hy, x, y, t, N, N', rfl, sx.mono S4 (fun _ h => h), sy.mono S4 (fun _ h => h), hw t htm, fun H5 S5 => ⟨_, rfl, iteFb rfl ⟨_, rfl, S4.trans S5⟩⟩⟩
        · rintro σ H4 ⟨x3, rfl, S4⟩
          exact k _ S4
    | @tup p xs ts e1 h2 =>
      refine ⟨_, (pss_cons (ps_if (pt_cmpR op_isN (pv 1) pe_non (nomark _))
   pss_never
   pss_nil)
  (pss_cons (ps_if (pt_val (pe_callB call_isi (by rfl) T.b_isinstance (by decide +kernel) (pa_cons (pv 1) (pa_cons (pe_bltn (v := .ty "bool") (by rfl) T.b_bool (by decide +kernel) rfl) pa_nil))))
   pss_never
   pss_nil)
  (pss_cons (ps_if (pt_val (pe_callB call_isi (by rfl) T.b_isinstance (by decide +kernel) (pa_cons (pv 1) (pa_cons (pe_bltn (v := .ty "int") (by rfl) T.b_int (by decide +kernel) rfl) pa_nil))))
   pss_never
   pss_nil)
  (pss_cons (ps_if (pt_val (pe_callB call_isi (by rfl) T.b_isinstance (by decide +kernel) (pa_cons (pv 1) (pa_cons (pe_bltn (v := .ty "str") (by rfl) T.b_str (by decide +kernel) rfl) pa_nil))))
   pss_never
   pss_nil)
  (pss_cons (ps_if (pt_val (pe_callB call_isi (by rfl) T.b_isinstance (by decide +kernel) (pa_cons (pv 1) (pa_cons (pe_bltn (v := .ty "dict") (by rfl) T.b_dict (by decide +kernel) rfl) pa_nil))))
   pss_never
   pss_nil)
  (pss_cons (ps_if (pt_val (pe_callB call_isi (by rfl) T.b_isinstance (by decide +kernel) (pa_cons (pv 1) (pa_cons (pe_bltn (v := .ty "list") (by rfl) T.b_list (by decide +kernel) rfl) pa_nil))))
   pss_never
   (pss_one (ps_if (PW.pt (pw_or (pt_not (pt_val (pe_callB call_isi (by rfl) T.b_isinstance (by decide +kernel) (pa_cons (pv 0) (pa_cons (pe_bltn (v := .ty "tuple") (by rfl) T.b_tuple (by decide +kernel) rfl) pa_nil))))) (pw_or1 (pt_cmpR op_ne (pe_callB call_len (by rfl) T.b_len PySem.boot_len (pa_cons (pv 0) pa_nil)) (pe_callB call_len (by rfl) T.b_len PySem.boot_len (pa_cons (pv 1) pa_nil)) (nomark _)))))
   (pss_one (ps_ret pe_bl))
   pss_nil)))
  (pss_cons (ps_for PassesOwn.never rfl (pi_range1 (by rfl) T.b_range (pa_cons (pe_callB call_len (by rfl) T.b_len PySem.boot_len (pa_cons (pv 1) pa_nil)) pa_nil)) (pg_name (i := 3) sc_law_alike.nd rfl (Or.inl rfl))
   (pss_one (ps_if (pt_not (pt_val (pe_use U_law_alike (hr.mono (by omega)) hg rfl (pa_cons (pe_ix ix_tup (pv 0) (pv 3) (fun _ _ => rfl)) (pa_cons (pe_ix ix_tup (pv 1) (pv 3) (fun _ _ => rfl)) pa_nil)))))
   (pss_one (ps_ret pe_bl))
   pss_nil)))
  (pss_one (ps_ret pe_bl))))))))), ?_⟩
      cases hb with
      | @tup p' ys _ e1' h2' =>
        have lx := h2.length
        have ly := h2'.length
        cases ht with
        | tup hlen hw =>
        refine ⟨_, rfl, rfl, _, rfl, iteFb rfl ?_⟩
        refine ⟨_, rfl, _, _, _, _, false, rfl, .ty _, SqT.tyX e1', kit_ty (by decide +kernel), _, rfl, iteFb rfl ?_⟩
        refine ⟨_, rfl, _, _, _, _, false, rfl, .ty _, SqT.tyX e1', kit_ty (by decide +kernel), _, rfl, iteFb rfl ?_⟩
        refine ⟨_, rfl, _, _, _, _, false, rfl, .ty _, SqT.tyX e1', kit_ty (by decide +kernel), _, rfl, iteFb rfl ?_⟩
        refine ⟨_, rfl, _, _, _, _, false, rfl, .ty _, SqT.tyX e1', kit_ty (by decide +kernel), _, rfl, iteFb rfl ?_⟩
        refine ⟨_, rfl, _, _, _, _, false, rfl, .ty _, SqT.tyX e1', kit_ty (by decide +kernel), _, rfl, iteFb rfl ?_⟩
        refine ⟨_, rfl, _, _, _, _, true, rfl, .ty _, SqT.tyX e1, if_pos (beq_self_eq_true _), _, rfl, iteFb rfl ?_⟩
        have hlen' : xs.length = ys.length := by rw [lx, ly]
        refine ⟨_, rfl, _, _, rfl, .inr ⟨xs, e1, rfl⟩, _, rfl, _, _, rfl, .inr ⟨ys, e1', rfl⟩, rfl, _, rfl, iteFb (by rw [hlen']; simp) ?_⟩
        refine ⟨_, rfl, _, _, rfl, .inr ⟨ys, e1', rfl⟩, ys.length, rfl, by omega, by omega, ?_⟩
        rw [Int.toNat_natCast]
        refine for_range (lo := 0) (n := ys.length) (fun i σ H4 => ∃ x3, σ = [some (.ref p), some (.ref p'), none, x3] ∧ Same H H4) ⟨none, rfl, Same.refl _⟩ ?_ ?_
        · rintro i σ H4 hi ⟨x3, rfl, S4⟩
          have hti : ts[i]? = some ts[i] := List.getElem?_eq_getElem (by omega)
          have htm := List.getElem_mem (l := ts) (n := i) (by omega)
          generalize ts[i] = t at hti htm
          obtain ⟨x, hx, sx⟩ := h2.get hti
          obtain ⟨y, hy, sy⟩ := h2'.get hti
          refine ⟨_, rfl, _, rfl, p, xs, ((i : Nat) : Int), x, rfl, by rw [Int.zero_add], Same.tupl S4 e1, atI_nat hx, _, rfl, _, rfl, p', ys, ((i : Nat) : Int), y, rfl, by rw [Int.zero_add], Same.tupl S4 e1', atI_nat hy, x, y, t, N, N', rfl, sx.mono S4 (fun _ h => h), sy.mono S4 (fun _ h => h), hw t htm, fun H5 S5 => ⟨_, rfl, iteFb rfl ⟨_, rfl, S4.trans S5⟩⟩⟩
        · rintro σ H4 ⟨x3, rfl, S4⟩
          exact k _ S4
    | @dct p kvs ts e1 h1 e2 h2 =>
      refine ⟨_, (pss_cons (ps_if (pt_cmpR op_isN (pv 1) pe_non (nomark _))
   pss_never
   pss_nil)
  (pss_cons (ps_if (pt_val (pe_callB call_isi (by rfl) T.b_isinstance (by decide +kernel) (pa_cons (pv 1) (pa_cons (pe_bltn (v := .ty "bool") (by rfl) T.b_bool (by decide +kernel) rfl) pa_nil))))
   pss_never
   pss_nil)
  (pss_cons (ps_if (pt_val (pe_callB call_isi (by rfl) T.b_isinstance (by decide +kernel) (pa_cons (pv 1) (pa_cons (pe_bltn (v := .ty "int") (by rfl) T.b_int (by decide +kernel) rfl) pa_nil))))
   pss_never
   pss_nil)
  (pss_cons (ps_if (pt_val (pe_callB call_isi (by rfl) T.b_isinstance (by decide +kernel) (pa_cons (pv 1) (pa_cons (pe_bltn (v := .ty "str") (by rfl) T.b_str (by decide +kernel) rfl) pa_nil))))
   pss_never
   pss_nil)
  (pss_cons (ps_if (pt_val (pe_callB call_isi (by rfl) T.b_isinstance (by decide +kernel) (pa_cons (pv 1) (pa_cons (pe_bltn (v := .ty "dict") (by rfl) T.b_dict (by decide +kernel) rfl) pa_nil))))
   (pss_cons (ps_if (PW.pt (pw_or (pt_not (pt_val (pe_callB call_isi (by rfl) T.b_isinstance (by decide +kernel) (pa_cons (pv 0) (pa_cons (pe_bltn (v := .ty "dict") (by rfl) T.b_dict (by decide +kernel) rfl) pa_nil))))) (pw_or1 (pt_not (pt_val (pe_use U_law_alike (hr.mono (by omega)) hg rfl (pa_cons (pe_callTy (call_listD rfl) (by rfl) T.b_list (by decide +kernel) (pa_cons (pv 0) pa_nil)) (pa_cons (pe_callTy (call_listD rfl) (by rfl) T.b_list (by decide +kernel) (pa_cons (pv 1) pa_nil)) pa_nil))))))))
   (pss_one (ps_ret pe_bl))
   pss_nil)
  (pss_one (ps_ret (pe_use U_law_alike (hr.mono (by omega)) hg rfl (pa_cons (pe_lock (pe_lc (own := [("key", 2)]) (g := (gName 2)) rfl sc_law_alike.nd (pi_keys (pv 0)) (blkOk_by (N := N_law_alike) (sc := defScope s_law_alike) (by decide +kernel)) (fun _ _ _ _ _ => (pg_name (i := 2) sc_law_alike.nd rfl (Or.inl rfl))) (fun _ _ _ _ _ => pts_nil) (fun _ _ _ _ _ => (pe_dget hu (pv 0) (pv 2) (fun _ _ => rfl))))) (pa_cons (pe_lock (pe_lc (own := [("key", 2)]) (g := (gName 2)) rfl sc_law_alike.nd (pi_keys (pv 1)) (blkOk_by (N := N_law_alike) (sc := defScope s_law_alike) (by decide +kernel)) (fun _ _ _ _ _ => (pg_name (i := 2) sc_law_alike.nd rfl (Or.inl rfl))) (fun _ _ _ _ _ => pts_nil) (fun _ _ _ _ _ => (pe_dget hu (pv 1) (pv 2) (fun _ _ => rfl))))) pa_nil))))))
   pss_nil)
  pss_never))))), ?_⟩
      cases hb with
      | @dct p' kvs' _ e1' h1' e2' h2' =>
        cases ht with
        | @dct m _ hlen hw =>
        refine ⟨_, rfl, rfl, _, rfl, iteFb rfl ?_⟩
        refine ⟨_, rfl, _, _, _, _, false, rfl, .ty _, .base (.dK e1'), kit_ty (by decide +kernel), _, rfl, iteFb rfl ?_⟩
        refine ⟨_, rfl, _, _, _, _, false, rfl, .ty _, .base (.dK e1'), kit_ty (by decide +kernel), _, rfl, iteFb rfl ?_⟩
        refine ⟨_, rfl, _, _, _, _, false, rfl, .ty _, .base (.dK e1'), kit_ty (by decide +kernel), _, rfl, iteFb rfl ?_⟩
        refine ⟨_, rfl, _, _, _, _, true, rfl, .ty _, .base (.dK e1'), if_pos (beq_self_eq_true _), _, rfl, iteTb rfl ?_⟩
        refine ⟨_, rfl, _, _, _, _, true, rfl, .ty _, .base (.dK e1), if_pos (beq_self_eq_true _), _, rfl, iteFb rfl ?_⟩
        refine ⟨_, rfl, p, kvs, rfl, .inl e1, fun q1 hq1 => ?_⟩
        refine ⟨_, rfl, p', kvs', rfl, .inl (Same.new hq1 _ _ e1'), fun q2 hq2 => ?_⟩
        have S1 := Same.new (o := .lst (kvs.map fun kv => kV kv.1)) hq1
        have eq1 := upd_same (H := H) (a := q1) (o := HO.lst (kvs.map fun kv => kV kv.1))
        generalize upd H q1 (.lst (kvs.map fun kv => kV kv.1)) = Ha at S1 eq1 hq2
        have S2 := Same.new (o := .lst (kvs'.map fun kv => kV kv.1)) hq2
        have eq2 := upd_same (H := Ha) (a := q2) (o := HO.lst (kvs'.map fun kv => kV kv.1))
        have eq1' := S2 _ _ eq1
        have S12 := S1.trans S2
        generalize upd Ha q2 (.lst (kvs'.map fun kv => kV kv.1)) = Hb at S2 eq2 eq1' S12
        refine ⟨_, _, .lst (intsT ts.length), fun _ => True, fun _ => True, rfl, .lst (by rw [eq1', keysL e2]; rfl) trivial (hs_keys _), .lst (by rw [eq2, keysL e2']; rfl) trivial (hs_keys _), wh_ints _ _ hlen, fun Hc S3 => ⟨_, rfl, iteFb rfl ?_⟩⟩
        have SC := S12.trans S3
        have ep := SC _ _ e1
        have lk : kvs.length = ts.length := by rw [← h2.length, List.length_map]
        have lk' : kvs'.length = ts.length := by rw [← h2'.length, List.length_map]
        refine ⟨p, .dK kvs, ep, trivial, fun od => ?_⟩
        refine ⟨_, rfl, p, od, rfl, .inl ⟨kvs, upd_same, fun D hD => ?_⟩⟩
        refine lc_it (walk_keys (d := p) (o := od) (kvs := kvs)) (fun i H' => H' D = some (.lst (((kvs).take i).map (·.2))) ∧ Same (upd Hc p (.frz od (.dK kvs))) H') ⟨upd_same, Same.new hD⟩ (fun _ _ _ h => h.2 _ _ upd_same) ?_ ?_
        · rintro i x H4 H5 hi ⟨e4, S4⟩ ⟨rfl, key, val, hx, rfl⟩
          refine ⟨rfl, ?_⟩
          unfold tYes
          refine iteTb rfl ?_
          refine ⟨_, rfl, _, rfl, p, val, rfl, .inl ⟨kvs, key, .inr ⟨od, S4 _ _ upd_same⟩, rfl, (valV_kys e2 hx).symm⟩, ?_⟩
          refine ⟨_, e4, Nat.lt_of_le_of_lt (show _ ≤ 1000 by rw [List.length_map, List.length_take]; omega) (by decide), ?_, fun b u hb => by rw [upd_ne (ne_of_none hb hD)]; exact S4 _ _ hb⟩
          rw [upd_same, List.take_succ, hx, List.map_append]; rfl
        rintro H4 ⟨e4, S4⟩
        rw [List.take_length] at e4
        refine ⟨S4 _ _ upd_same, ?_⟩
        have hDp : D ≠ p := fun h => by rw [h, upd_same] at hD; cases hD
        have hDc : Hc D = none := by rw [upd_ne hDp] at hD; exact hD
        have SD : Same Hc (upd H4 p (.dK kvs)) := fun b u hb => by
          by_cases c : b = p
          · subst c; rw [ep] at hb; rw [upd_same, hb]
          · rw [upd_ne c]; exact S4 _ _ (by rw [upd_ne c]; exact hb)
        have eD : (upd H4 p (.dK kvs)) D = some (.lst (kvs.map (·.2))) := by rw [upd_ne hDp]; exact e4
        generalize upd H4 p (.dK kvs) = Hd at SD eD
        clear e4 S4 hD hDp od H4
        have ep' := SD _ _ (SC _ _ e1')
        refine ⟨p', .dK kvs', ep', trivial, fun od => ?_⟩
        refine ⟨_, rfl, p', od, rfl, .inl ⟨kvs', upd_same, fun D2 hD2 => ?_⟩⟩
        refine lc_it (walk_keys (d := p') (o := od) (kvs := kvs')) (fun i H' => H' D2 = some (.lst (((kvs').take i).map (·.2))) ∧ Same (upd Hd p' (.frz od (.dK kvs'))) H') ⟨upd_same, Same.new hD2⟩ (fun _ _ _ h => h.2 _ _ upd_same) ?_ ?_
        · rintro i x H4 H5 hi ⟨e4, S4⟩ ⟨rfl, key, val, hx, rfl⟩
          refine ⟨rfl, ?_⟩
          unfold tYes
          refine iteTb rfl ?_
          refine ⟨_, rfl, _, rfl, p', val, rfl, .inl ⟨kvs', key, .inr ⟨od, S4 _ _ upd_same⟩, rfl, (valV_kys e2' hx).symm⟩, ?_⟩
          refine ⟨_, e4, Nat.lt_of_le_of_lt (show _ ≤ 1000 by rw [List.length_map, List.length_take]; omega) (by decide), ?_, fun b u hb => by rw [upd_ne (ne_of_none hb hD2)]; exact S4 _ _ hb⟩
          rw [upd_same, List.take_succ, hx, List.map_append]; rfl
        rintro H4 ⟨e4, S4⟩
        rw [List.take_length] at e4
        refine ⟨S4 _ _ upd_same, ?_⟩
        have hDp : D2 ≠ p' := fun h => by rw [h, upd_same] at hD2; cases hD2
        have SE : Same Hd (upd H4 p' (.dK kvs')) := fun b u hb => by
          by_cases c : b = p'
          · subst c; rw [ep'] at hb; rw [upd_same, hb]
          · rw [upd_ne c]; exact S4 _ _ (by rw [upd_ne c]; exact hb)
        have eE : (upd H4 p' (.dK kvs')) D2 = some (.lst (kvs'.map (·.2))) := by rw [upd_ne hDp]; exact e4
        generalize upd H4 p' (.dK kvs') = He at SE eE
        have SCE := SC.trans (SD.trans SE)
        exact ⟨_, _, .lst ts, fun _ => True, fun _ => True, rfl, .lst (SE _ _ eD) trivial (h2.mono SCE fun _ _ => trivial), .lst eE trivial (h2'.mono SCE fun _ _ => trivial), .lst hlen hw, fun Hf SF => k _ (SCE.trans SF)⟩
end

section
--SPLIT
end
abbrev s_law : Stmt := top 34
abbrev N_law : List Str := ["script", "box", "many", "strange", "heap", "k", "kept", "values", "good", "value", "goes_out", "back"]
abbrev P_law : List Str := ["script"]
theorem sc_law : FnScope N_law P_law (defScope s_law) := ⟨rfl, rfl, rfl, by decide +kernel, rfl, by decide +kernel, by decide +kernel⟩
section
variable {P : Program} {w : World} {K : PySem.W.Frag} {mg : Str → Option Value} {base : Heap}
theorem wh_up {n : Nat} {t : HT} (h : Wh n t) : ∀ {m : Nat}, n ≤ m → Wh m t := by
  induction h with
  | non n => intro m h; obtain ⟨k, rfl⟩ : ∃ k, m = k + 1 := ⟨m - 1, by omega⟩; exact .non _
  | bl n b => intro m h; obtain ⟨k, rfl⟩ : ∃ k, m = k + 1 := ⟨m - 1, by omega⟩; exact .bl _ _
  | int n i => intro m h; obtain ⟨k, rfl⟩ : ∃ k, m = k + 1 := ⟨m - 1, by omega⟩; exact .int _ _
  | str n z => intro m h; obtain ⟨k, rfl⟩ : ∃ k, m = k + 1 := ⟨m - 1, by omega⟩; exact .str _ _
  | lst hl _ ih => intro m h; obtain ⟨k, rfl⟩ : ∃ k, m = k + 1 := ⟨m - 1, by omega⟩; exact .lst hl fun t ht => ih t ht (by omega)
  | tup hl _ ih => intro m h; obtain ⟨k, rfl⟩ : ∃ k, m = k + 1 := ⟨m - 1, by omega⟩; exact .tup hl fun t ht => ih t ht (by omega)
  | dct hl _ ih => intro m h; obtain ⟨k, rfl⟩ : ∃ k, m = k + 3 := ⟨m - 3, by omega⟩; exact .dct hl fun t ht => ih t ht (by omega)
theorem wh_tr {rows : List Row} (hR : HeapD rows) : ∀ (n : Nat) (x : Vl), gd rows n x = true → Wh (3 * n) (tr rows n x)
  | 0, _, h => by cases h
  | n + 1, x, h => by
    cases x with
    | non => exact wh_up (.non 0) (by omega)
    | bool b => exact wh_up (.bl 0 b) (by omega)
    | int i => exact wh_up (.int 0 i) (by omega)
    | text z => exact wh_up (.str 0 z) (by omega)
    | span a b => cases h
    | built z => cases h
    | host z => cases h
    | ref k =>
      have h : (match rows[k]? with | some r => isC r && (kids r).all fun p => gd rows n p.1 | none => false) = true := h
      cases er : rows[k]? with
      | none => rw [er] at h; cases h
      | some r =>
        rw [er] at h
        have h : (isC r && (kids r).all fun p => gd rows n p.1) = true := h
        rw [Bool.and_eq_true, List.all_eq_true] at h
        rw [tr_ref er]
        have rr : RD rows.length r := hR r (List.mem_of_getElem? er)
        have hl := rr.len
        cases r with
        | oth z q => have := h.1; cases this
        | tup vs =>
          have hl3 : vs.length ≤ 3 := hl
          refine wh_up (n := 3 * n + 1) (.tup (by rw [List.length_map]; omega) fun t ht => ?_) (by omega)
          obtain ⟨v, hv, rfl⟩ := List.mem_map.mp ht
          exact wh_tr hR n v (h.2 (v, false) (List.mem_map_of_mem (f := fun v => (v, false)) hv))
        | lst vs =>
          have hl3 : vs.length ≤ 3 := hl
          refine wh_up (n := 3 * n + 1) (.lst (by rw [List.length_map]; omega) fun t ht => ?_) (by omega)
          obtain ⟨v, hv, rfl⟩ := List.mem_map.mp ht
          exact wh_tr hR n v (h.2 (v, false) (List.mem_map_of_mem (f := fun v => (v, false)) hv))
        | dct es =>
          have hl3 : es.length ≤ 3 := hl
          refine wh_up (n := 3 * n + 3) (.dct (by rw [List.length_map]; omega) fun t ht => ?_) (by omega)
          obtain ⟨e, he, rfl⟩ := List.mem_map.mp ht
          exact wh_up (wh_tr hR n e.2 (h.2 (e.2, false) (List.mem_append_right _ (List.mem_map_of_mem (f := fun (e : Vl × Vl) => (e.2, false)) he)))) (by omega)
theorem ct_1000 {rows : List Row} (hR : HeapD rows) (x : Vl) (h : gd rows 6 x = true) : ct rows 6 x ≤ 1000 := Nat.le_trans (ct_le hR 6 x h) (by decide)
theorem wd_vl (x : Vl) (n : Nat) : Wd (n + 1) (vlD x) := by
  cases x with
  | non => exact .tup (by simp) (Wd.c (.str _) Wd.e)
  | bool b => exact .tup (by simp) (Wd.c (.str _) (Wd.c (.bool _) Wd.e))
  | int i => exact .tup (by simp) (Wd.c (.str _) (Wd.c (.int _) Wd.e))
  | text z => exact .tup (by simp) (Wd.c (.str _) (Wd.c (.str _) Wd.e))
  | span a b => exact .tup (by simp) (Wd.c (.str _) (Wd.c (.int _) (Wd.c (.int _) Wd.e)))
  | ref k => exact .tup (by simp) (Wd.c (.str _) (Wd.c (.int _) Wd.e))
  | built z => exact .tup (by simp) (Wd.c (.str _) (Wd.c (.str _) Wd.e))
  | host z => exact .tup (by simp) (Wd.c (.str _) (Wd.c (.str _) Wd.e))
theorem wd_row {N : Nat} {r : Row} (h : RD N r) : Wd 6 (rowD r) := by
  have hl := h.len
  cases r with
  | oth z q => exact h.wo z q rfl
  | tup vs => exact .tup (by simp) (Wd.c (.str _) (Wd.c (.tup (by rw [List.length_map]; have : vs.length ≤ 3 := hl; omega) fun d hd => by obtain ⟨v, _, rfl⟩ := List.mem_map.mp hd; exact wd_vl v 3) Wd.e))
  | lst vs => exact .tup (by simp) (Wd.c (.str _) (Wd.c (.tup (by rw [List.length_map]; have : vs.length ≤ 3 := hl; omega) fun d hd => by obtain ⟨v, _, rfl⟩ := List.mem_map.mp hd; exact wd_vl v 3) Wd.e))
  | dct es => exact .tup (by simp) (Wd.c (.str _) (Wd.c (.tup (by rw [List.length_map]; have : es.length ≤ 3 := hl; omega) fun d hd => by obtain ⟨e, _, rfl⟩ := List.mem_map.mp hd; exact .tup (by simp) (Wd.c (wd_vl e.1 2) (Wd.c (wd_vl e.2 2) Wd.e))) Wd.e))
theorem and_v {σ : L2.St} {H : Hp} {Q : VK} {g d : Bool} {i : Nat} (e : σ[i]? = some (some (.bl d))) (h : Q (.bl (g && d)) H) : if g = true then tVar i σ H Q else Q (.bl false) H := by
  cases g with
  | false => exact h
  | true => exact ⟨_, e, h⟩
def spLaw (K : PySem.W.Frag) : Sp := fun vs H Q _ => ∃ (a : Addr) (ns : List Int), vs = [.ref a] ∧ SqL K H a (ns.map V.int) ∧ ns.length ≤ 63 ∧ ∀ H', Q (.bl true) H'
theorem ok_law {f : Addr} {fd : FuncData} (F : Fun K "law" "law" s_law f fd) (T : Txt K mg) (U_law_digits : Use P w K mg base CX0 "_law_digits" 2 P_law_digits (spDigits K)) (U_law_draw : Use P w K mg base CX0 "_law_draw" 1 P_law_draw (spDraw K)) (U_law_object : Use P w K mg base CX0 "_law_object" 4 P_law_object (spLObj K)) (U_law_value : Use P w K mg base CX0 "_law_value" 3 P_law_value (spLVal K))
    (U_law_out : Use P w K mg base CX0 "_law_out" (1 + 7) P_law_out (spOut K 7)) (U_law_taken : Use P w K mg base CX0 "_law_taken" 11 P_law_taken (spLTaken K)) (U_law_told : Use P w K mg base CX0 "_law_told" (1 + 6) P_law_told (spTold K 6)) (U_law_alike : Use P w K mg base CX0 "_law_alike" (1 + 18) P_law_alike (spAlikeH K 18)) (U_goes : Use P w K mg base CX0 "goes" 3 P_goes (spGoesA K)) (U_law_same : Use P w K mg base CX0 "_law_same" (1 + 8) P_law_same (spSameR K 8)) : FnG P w K mg base CX0 21 f fd P_law (spLaw K) := by
  refine okG0 F sc_law (fun vs H Q E h => ?_) fun cdv A outer s H vs Q E hr hg h => ?_
  · obtain ⟨a, ns, rfl, _⟩ := h
    rfl
  · obtain ⟨a, ns, rfl, hs, hn, k⟩ := h
    refine ⟨_, (pss_cons (ps_set (i := 1) sc_law.nd rfl (Or.inr rfl) (pe_lst (pa_cons (pe_use U_law_digits (hr.mono (by decide)) hg rfl (pa_cons (pv 0) (pa_cons pe_int (pa_cons pe_int pa_nil)))) (pa_cons pe_int pa_nil))))
  (pss_cons (ps_set (i := 2) sc_law.nd rfl (Or.inr rfl) (pe_op op_add pe_int (pe_use U_law_draw (hr.mono (by decide)) hg rfl (pa_cons (pv 1) (pa_cons pe_int pa_nil)))))
  (pss_cons (ps_set (i := 3) sc_law.nd rfl (Or.inr rfl) (pe_cmpR op_eq (pe_use U_law_draw (hr.mono (by decide)) hg rfl (pa_cons (pv 1) (pa_cons pe_int pa_nil))) pe_int (nomark _)))
  (pss_cons (ps_setLc (i := 4) (own := [("k", 5)]) (g := (gName 5)) rfl sc_law.nd rfl rfl (sw_true rfl rfl rfl (by decide +kernel)) (pi_range1 (by rfl) T.b_range (pa_cons (pv 2) pa_nil)) (blkOk_by (N := N_law) (sc := defScope s_law) (by decide +kernel)) (fun _ _ _ _ _ => (pg_name (i := 5) sc_law.nd rfl (Or.inl rfl))) (fun _ _ _ _ _ => pts_nil) (fun _ _ _ _ _ => (pe_use U_law_object (hr.mono (by decide)) hg rfl (pa_cons (pv 1) (pa_cons (pv 2) (pa_cons (pv 3) pa_nil))))))
  (C8.pss_cut (ps_if (pt_cmpR op_eq (pe_use U_law_draw (hr.mono (by decide)) hg rfl (pa_cons (pv 1) (pa_cons pe_int pa_nil))) pe_int (nomark _))
   (pss_cons (ps_set (i := 2) sc_law.nd rfl (Or.inr rfl) (pe_op op_add pe_int (pe_use U_law_draw (hr.mono (by decide)) hg rfl (pa_cons (pv 1) (pa_cons pe_int pa_nil)))))
  (pss_one (ps_set (i := 4) sc_law.nd rfl (Or.inl rfl) (pe_op op_cat (pe_lc (own := [("k", 5)]) (g := (gName 5)) rfl sc_law.nd (pi_range1 (by rfl) T.b_range (pa_cons (pe_op op_sub (pv 2) pe_int) pa_nil)) (blkOk_by (N := N_law) (sc := defScope s_law) (by decide +kernel)) (fun _ _ _ _ _ => (pg_name (i := 5) sc_law.nd rfl (Or.inl rfl))) (fun _ _ _ _ _ => pts_nil) (fun _ _ _ _ _ => (pe_tup (pa_cons pe_str (pa_cons (pe_tup (pa_cons (pe_tup (pa_cons pe_str (pa_cons (pe_op op_add (pv 5) pe_int) pa_nil))) pa_nil)) pa_nil))))) (pe_lst (pa_cons (pe_tup (pa_cons pe_str (pa_cons (pe_tup (pa_cons (pe_tup (pa_cons pe_str (pa_cons pe_int pa_nil))) pa_nil)) pa_nil))) pa_nil))))))
   pss_nil)
  (pss_cons (ps_set (i := 6) sc_law.nd rfl (Or.inl rfl) (pe_callTy call_list_of (by rfl) T.b_list (by decide +kernel) (pa_cons (pv 4) pa_nil)))
  (pss_cons (ps_set (i := 7) sc_law.nd rfl (Or.inl rfl) (pe_callTy call_tuple_of (by rfl) T.b_tuple (by decide +kernel) (pa_cons (pe_op op_cat (pe_lc (own := [("k", 5)]) (g := (gName 5)) rfl sc_law.nd (pi_range1 (by rfl) T.b_range (pa_cons (pe_use U_law_draw (hr.mono (by decide)) hg rfl (pa_cons (pv 1) (pa_cons pe_int pa_nil))) pa_nil)) (blkOk_by (N := N_law) (sc := defScope s_law) (by decide +kernel)) (fun _ _ _ _ _ => (pg_name (i := 5) sc_law.nd rfl (Or.inl rfl))) (fun _ _ _ _ _ => pts_nil) (fun _ _ _ _ _ => (pe_use U_law_value (hr.mono (by decide)) hg rfl (pa_cons (pv 1) (pa_cons (pv 2) pa_nil))))) (pe_lst (pa_cons (pe_tup (pa_cons pe_str (pa_cons pe_int pa_nil))) pa_nil))) pa_nil)))
  (pss_cons (ps_set (i := 8) sc_law.nd rfl (Or.inl rfl) pe_bl)
  (pss_cons (ps_for PassesOwn.never rfl (pi_tup (pv 7)) (pg_name (i := 9) sc_law.nd rfl (Or.inl rfl))
   (pss_cons (ps_set (i := 10) sc_law.nd rfl (Or.inl rfl) (pe_cmpR op_le (pe_use U_law_out (hr.mono (by decide)) hg rfl (pa_cons (pv 4) (pa_cons (pv 9) (pa_cons pe_int pa_nil)))) pe_int (nomark _)))
  (pss_cons (ps_set (i := 8) sc_law.nd rfl (Or.inl rfl) (pe_and (pv 8) (pe_one (pv 10))))
  (pss_cons (ps_set (i := 11) sc_law.nd rfl (Or.inl rfl) (pe_use U_law_taken (hr.mono (by decide)) hg rfl (pa_cons (pv 4) (pa_cons (pv 9) pa_nil))))
  (pss_cons (ps_if (PW.pt (pw_or (pt_cmpR op_ne (pe_callB call_len (by rfl) T.b_len PySem.boot_len (pa_cons (pv 11) pa_nil)) (pe_callTy call_int1 (by rfl) T.b_int (by decide +kernel) (pa_cons (pv 10) pa_nil)) (nomark _)) (pw_or1 (PW.pt (pw_and (pt_val (pv 10)) (pw_and1 (pt_not (pt_val (pe_use U_law_alike (hr.mono (by decide)) hg rfl (pa_cons (pe_ix ix_list (pv 11) pe_int (fun _ _ => rfl)) (pa_cons (pe_use U_law_told (hr.mono (by decide)) hg rfl (pa_cons (pv 4) (pa_cons (pv 9) pa_nil))) pa_nil)))))))))))
   (pss_one (ps_ret pe_bl))
   pss_nil)
  (pss_one (ps_if (pt_not (pt_val (pe_use U_law_same (hr.mono (by decide)) hg rfl (pa_cons (pe_use U_goes (hr.mono (by decide)) hg rfl (pa_cons (pv 4) (pa_cons (pe_tup (pa_cons (pv 9) pa_nil)) pa_nil))) (pa_cons (pv 10) pa_nil)))))
   (pss_one (ps_ret pe_bl))
   pss_nil)))))))
  (pss_one (ps_ret (pe_and (pe_use U_law_same (hr.mono (by decide)) hg rfl (pa_cons (pe_use U_goes (hr.mono (by decide)) hg rfl (pa_cons (pv 4) (pa_cons (pv 7) pa_nil))) (pa_cons (pv 8) pa_nil))) (pe_one (pe_use U_law_same (hr.mono (by decide)) hg rfl (pa_cons (pe_callTy call_tuple_of (by rfl) T.b_tuple (by decide +kernel) (pa_cons (pv 4) pa_nil)) (pa_cons (pe_callTy call_tuple_of (by rfl) T.b_tuple (by decide +kernel) (pa_cons (pv 6) pa_nil)) pa_nil)))))))))))))))), ?_⟩
    refine ⟨_, rfl, a, ns, 1, 50, rfl, hs, by decide, by decide, fun dl H1 nd D => ?_⟩
    obtain ⟨ds, hd, hl, hds, S1⟩ := D
    refine ⟨sz_2, fun p hp0 => ?_⟩
    have B0 : BoxAt (upd H1 p (.lst [.ref dl, .int 0])) p dl := ⟨ds, 0, upd_same, by decide, by rw [upd_ne (ne_of_none hd hp0)]; exact hd, hl, hds⟩
    generalize upd H1 p (.lst [.ref dl, .int 0]) = H2 at B0
    clear hd hds S1 hp0
    refine ⟨_, rfl, p, dl, 12, rfl, B0, by decide, fun r1 H3 q0 q1 B3 K3 => ⟨_, _, rfl, rfl, ?_⟩⟩
    obtain ⟨m, hm⟩ : ∃ m : Nat, 1 + r1 = ((m : Nat) : Int) := ⟨(1 + r1).toNat, by omega⟩
    show gName 2 (V.int (1 + r1)) _ _ _
    rw [hm]
    have hm1 : 1 ≤ m := by omega
    have hm2 : m ≤ 12 := by omega
    clear hm q0 q1
    refine ⟨_, rfl, p, dl, 2, rfl, B3, by decide, fun r2 H4 _ _ B4 K4 => ⟨rfl, ?_⟩⟩
    generalize decide (V.int r2 = V.int 0) = b
    refine ⟨_, rfl, m, rfl, by omega, by omega, fun D hD => ?_⟩
    rw [Int.toNat_natCast]
    obtain ⟨hDp, hDd⟩ := B4.ne_new hD
    refine lc_it (walk_range (lo := 0) (n := m)) (fun i H' => ∃ vs rows, H' D = some (.lst vs) ∧ DtAll K H' vs (rows.map rowD) ∧ rows.length = i ∧ (∀ r ∈ rows, RD m r) ∧ BoxAt H' p dl) ⟨[], [], upd_same, .nil, rfl, by simp, B4.same (Same.new hD)⟩ (fun _ _ _ _ => trivial) ?_ ?_
    · rintro i x H5 H6 hi ⟨vs, rows, e5, a5, hl5, hv5, B5⟩ ⟨rfl, rfl⟩
      refine ⟨rfl, tYes_of ?_⟩
      refine ⟨_, rfl, _, rfl, _, rfl, p, dl, m, b, rfl, B5, hm1, by omega, fun v r H7 hr7 dr B7 K7 => ?_⟩
      have e7 := K7 _ _ e5 hDp
      have kT := KeepT.upd (K := K) (o := .lst (vs ++ [v])) e7
      have lv := a5.length
      rw [List.length_map] at lv
      refine ⟨vs, e7, Nat.lt_of_le_of_lt (show vs.length ≤ 1000 by omega) (by decide), vs ++ [v], rows ++ [r], upd_same, ?_, by simp [hl5], fun y hy => ?_, B7.upd hDp hDd⟩
      · rw [List.map_append]
        exact DtAll.app ((a5.keepT (Keep.keepT K7 B5.at_)).keepT kT) (.cons (dr.keepT kT) .nil)
      · rcases List.mem_append.mp hy with hy | hy
        · exact hv5 y hy
        · rw [List.mem_singleton.mp hy]; exact hr7
    rintro H5 ⟨vs, rows, e5, a5, hl5, hv5, B5⟩
    refine ⟨fun σ H' => ∃ (hp : Addr) (rows : List Row), σ = [some (.ref a), some (.ref p), some (.int ((rows.length : Nat) : Int)), some (.bl b), some (.ref hp), none, none, none, none, none, none, none] ∧ ListAt K H' hp (rows.map rowD) ∧ 1 ≤ rows.length ∧ rows.length ≤ 12 ∧ HeapD rows ∧ hp ≠ p ∧ BoxAt H' p dl, ?_, ?_⟩
    · refine ⟨_, rfl, p, dl, 4, rfl, B5, by decide, fun r3 H6 _ _ B6 K6 => ⟨rfl, _, rfl, ?_⟩⟩
      have L6 : ListAt K H6 D (rows.map rowD) := ⟨vs, K6 _ _ e5 hDp, a5.keepT (Keep.keepT K6 B5.at_)⟩
      refine ite3 (fun _ => ?_) fun _ => ?_
      · refine ⟨_, rfl, p, dl, 9, rfl, B6, by decide, fun r4 H7 s0 s1 B7 K7 => ⟨_, _, rfl, rfl, ?_⟩⟩
        obtain ⟨j, rfl⟩ := Int.eq_ofNat_of_zero_le s0
        refine ⟨_, rfl, _, _, rfl, rfl, j, congrArg (fun z => [V.int z]) (show 1 + ((j : Nat) : Int) - 1 = _ by omega), by omega, by omega, fun D2 hD2 => ?_⟩
        rw [Int.toNat_natCast]
        refine lc_dt (K := K) (walk_range (lo := 0) (n := j)) hD2 ((List.range j).map fun i => rowD (.lst [.ref (i + 1)])) (by simp) (js_lt (by omega)) (fun _ _ => trivial) ?_ ?_ mono_name
        · rintro i x H8 H9 d Nx hi hd S8 ⟨acc, eacc⟩ ⟨rfl, rfl⟩ nx
          rw [List.getElem?_map, List.getElem?_range hi] at hd
          cases hd
          have e0 : (0 : Int) + ((i : Nat) : Int) + 1 = ((i + 1 : Nat) : Int) := by omega
          refine ⟨rfl, _, rfl, _, _, rfl, rfl, sz_2, fun q1 hq1 => ⟨sz_1, fun q2 hq2 => ⟨sz_2, fun q3 hq3 => ?_⟩⟩⟩
          have d1 : Dt K _ (.ref q1) (vlD (.ref (i + 1))) := Dt.made (K := K) hq1 (.cons (.str "ref") (.cons (show Dt K H9 (.int (0 + ((i : Nat) : Int) + 1)) (.int ((i + 1 : Nat) : Int)) by rw [e0]; exact .int _) .nil))
          have d2 := Dt.made (K := K) hq2 (.cons d1 .nil)
          exact nx _ _ (((Same.new hq1).trans (Same.new hq2)).trans (Same.new hq3)) (Dt.made hq3 (.cons (.str "list") (.cons d2 .nil)))
        rintro H8 acc S8 eacc aacc
        dsimp only
        refine mk_lst (K := K) (ds := [rowD (.lst [.int 7])]) (.cons (.pr (.str _) (.one (.pr (.str _) (.int _)))) .nil) (by decide) fun l H9 S9 hl9 L9 => ?_
        obtain ⟨zs, ez, az⟩ := L9
        have la := aacc.length
        have lz := az.length
        rw [List.length_map, List.length_range] at la
        refine ⟨D2, l, acc, zs, rfl, rfl, S9 _ _ eacc, ez, Nat.le_trans (show acc.length + zs.length ≤ 100 by rw [lz]; show _ + 1 ≤ 100; omega) (by decide), fun hp hhp => ?_⟩
        have B9 : BoxAt H9 p dl := (B7.same S8).same S9
        have hlen : ((List.range j).map (fun i => Row.lst [.ref (i + 1)]) ++ [Row.lst [.int 7]]).length = j + 1 := by simp
        refine ⟨hp, (List.range j).map (fun i => Row.lst [.ref (i + 1)]) ++ [.lst [.int 7]], ?_, ?_, by omega, by omega, ?_, (B9.ne_new hhp).1, B9.same (Same.new hhp)⟩
        · rw [hlen, show ((j + 1 : Nat) : Int) = 1 + ((j : Nat) : Int) by omega]
          rfl
        · have := listAt_made hhp (DtAll.app (DtAll.mono S9 aacc) az)
          rw [List.map_append, List.map_map]
          exact this
        · intro r hr
          rw [hlen]
          rcases List.mem_append.mp hr with hr | hr
          · obtain ⟨i, hi, rfl⟩ := List.mem_map.mp hr
            rw [List.mem_range] at hi
            refine rd_lst (by simp) fun x hx => ?_
            rw [List.mem_singleton.mp hx]
            exact ⟨fun _ h => by cases h; omega, fun _ h => (nomatch h), fun _ h => (nomatch h)⟩
          · rw [List.mem_singleton.mp hr]
            refine rd_lst (by simp) fun x hx => ?_
            rw [List.mem_singleton.mp hx]
            exact ⟨fun _ h => (nomatch h), fun _ h => by cases h; exact Nat.lt_of_lt_of_le (show 7 < 2 ^ 3 by decide) (Nat.pow_le_pow_right (by decide) (by decide)), fun _ h => (nomatch h)⟩
      · subst hl5
        exact ⟨D, rows, rfl, L6, hm1, hm2, hv5, hDp, B6⟩
    rintro _ H6 ⟨hp, rows, rfl, L6, hr1, hr2, hR, hpp, B6⟩
    clear B5 hv5 hl5 a5 e5
    obtain ⟨hxs, eh, ah⟩ := L6
    refine ⟨_, rfl, hp, hxs, rfl, .inl (SqL.of eh), fun kp hkp => ?_⟩
    have S7 := Same.new (o := .lst hxs) hkp
    have LK7 : ListAt K (upd H6 kp (.lst hxs)) kp (rows.map rowD) := listAt_made hkp ah
    have L7 := listAt_mono (p := hp) ⟨hxs, eh, ah⟩ S7
    have B7 := B6.same S7
    have hkpp : kp ≠ p := (B6.ne_new hkp).1
    generalize upd H6 kp (.lst hxs) = H7 at S7 LK7 L7 B7
    clear hkp eh ah S7 B6
    refine ⟨_, rfl, p, dl, 3, rfl, B7, by decide, fun r5 H8 t0 t1 B8 K8 => ?_⟩
    obtain ⟨n, rfl⟩ := Int.eq_ofNat_of_zero_le t0
    have kl : ∀ {q : Addr} {ds : List PyData} {H H' : Hp}, ListAt K H q ds → q ≠ p → BoxAt H p dl → Keep p H H' → ListAt K H' q ds := fun h hne B k => let ⟨xs, e, a⟩ := h; ⟨xs, k _ _ e hne, a.keepT (Keep.keepT k B.at_)⟩
    have L8 := kl L7 hpp B7 K8
    have LK8 := kl LK7 hkpp B7 K8
    refine ⟨n, rfl, by omega, by omega, fun D2 hD2 => ?_⟩
    rw [Int.toNat_natCast]
    obtain ⟨hDp2, hDd2⟩ := B8.ne_new hD2
    refine lc_it (walk_range (lo := 0) (n := n)) (fun i H' => ∃ vs xs, H' D2 = some (.lst vs) ∧ DtAll K H' vs (xs.map vlD) ∧ xs.length = i ∧ (∀ x ∈ xs, VD rows.length x) ∧ BoxAt H' p dl ∧ ListAt K H' hp (rows.map rowD) ∧ ListAt K H' kp (rows.map rowD)) ⟨[], [], upd_same, .nil, rfl, by simp, B8.same (Same.new hD2), listAt_mono L8 (Same.new hD2), listAt_mono LK8 (Same.new hD2)⟩ (fun _ _ _ _ => trivial) ?_ ?_
    · rintro i x H5 H6 hi ⟨vs, xs, e5, a5, hl5, hv5, B5, L5, LK5⟩ ⟨rfl, rfl⟩
      refine ⟨rfl, tYes_of ?_⟩
      refine ⟨_, rfl, _, rfl, p, dl, rows.length, rfl, B5, hr1, by omega, fun v x H7 hx dx B7 K7 => ?_⟩
      have e7 := K7 _ _ e5 hDp2
      have kT := KeepT.upd (K := K) (o := .lst (vs ++ [v])) e7
      have lv := a5.length
      rw [List.length_map] at lv
      have ul : ∀ {q : Addr}, ListAt K H7 q (rows.map rowD) → q ≠ D2 → ListAt K (upd H7 D2 (.lst (vs ++ [v]))) q (rows.map rowD) := fun h hne => let ⟨xs, e, a⟩ := h; ⟨xs, by rw [upd_ne hne]; exact e, a.keepT kT⟩
      have hne1 : hp ≠ D2 := by obtain ⟨_, e, _⟩ := L8; exact ne_of_none e hD2
      have hne2 : kp ≠ D2 := by obtain ⟨_, e, _⟩ := LK8; exact ne_of_none e hD2
      refine ⟨vs, e7, Nat.lt_of_le_of_lt (show vs.length ≤ 1000 by omega) (by decide), vs ++ [v], xs ++ [x], upd_same, ?_, by simp [hl5], fun y hy => ?_, B7.upd hDp2 hDd2, ul (kl L5 hpp B5 K7) hne1, ul (kl LK5 hkpp B5 K7) hne2⟩
      · rw [List.map_append]
        exact DtAll.app ((a5.keepT (Keep.keepT K7 B5.at_)).keepT kT) (.cons (dx.keepT kT) .nil)
      · rcases List.mem_append.mp hy with hy | hy
        · exact hv5 y hy
        · rw [List.mem_singleton.mp hy]; exact hx
    rintro H9 ⟨vs, xs0, e9, a9, hl9, hv9, B9, L9, LK9⟩
    dsimp only
    refine mk_lst (K := K) (ds := [vlD (.ref 0)]) (.cons (.pr (.str _) (.int _)) .nil) (by decide) fun l H10 S10 hl10 LL10 => ?_
    obtain ⟨zs1, ez1, az1⟩ := LL10
    have lz1 := az1.length
    have lv9 := a9.length
    rw [List.length_map] at lv9
    refine ⟨D2, l, vs, zs1, rfl, rfl, S10 _ _ e9, ez1, Nat.le_trans (show vs.length + zs1.length ≤ 100 by rw [lz1]; show _ + 1 ≤ 100; omega) (by decide), fun cl hcl => ⟨cl, _, rfl, .inl ⟨SqL.of upd_same, fun t ht => ?_⟩⟩⟩
    have S11 := (Same.new (o := .lst (vs ++ zs1)) hcl).trans (Same.new (o := .tup (vs ++ zs1)) ht)
    have et := upd_same (H := upd H10 cl (.lst (vs ++ zs1))) (a := t) (o := HO.tup (vs ++ zs1))
    have ad : DtAll K H10 (vs ++ zs1) ((xs0 ++ [Vl.ref 0]).map vlD) := by
      rw [List.map_append]
      exact DtAll.app (DtAll.mono S10 a9) az1
    have hyl : (xs0 ++ [Vl.ref 0]).length ≤ 3 := by simp; omega
    have hyv : ∀ y ∈ xs0 ++ [Vl.ref 0], VD rows.length y := fun y hy => by
      rcases List.mem_append.mp hy with hy | hy
      · exact hv9 y hy
      · rw [List.mem_singleton.mp hy]
        exact ⟨fun _ h => by cases h; omega, fun _ h => (nomatch h), fun _ h => (nomatch h)⟩
    have LA := listAt_mono (listAt_mono L9 S10) S11
    have LKA := listAt_mono (listAt_mono LK9 S10) S11
    have adA := DtAll.mono S11 ad
    have hta : SqT K (upd (upd H10 cl (.lst (vs ++ zs1))) t (.tup (vs ++ zs1))) t (vs ++ zs1) := SqT.of et
    generalize upd (upd H10 cl (.lst (vs ++ zs1))) t (.tup (vs ++ zs1)) = HA at LA LKA adA hta
    generalize vs ++ zs1 = xv at adA hta
    generalize xs0 ++ [Vl.ref 0] = ys at adA hyl hyv
    have lxy := adA.length
    rw [List.length_map] at lxy
    dsimp only [gName, tSeq, tAsg]
    refine ⟨_, rfl, t, rfl, ⟨_, hta⟩, ?_⟩
    refine for_it (walk_tup (xs := xv)) (fun i σ H' => ∃ x9 x10 x11, σ = [some (.ref a), some (.ref p), some (.int ((rows.length : Nat) : Int)), some (.bl b), some (.ref hp), none, some (.ref kp), some (.ref t), some (.bl ((ys.take i).all (gd rows 6))), x9, x10, x11] ∧ Same HA H') ⟨none, none, none, rfl, Same.refl _⟩ (fun _ _ _ _ h => let ⟨_, _, _, _, S⟩ := h; Same.tupl S hta) ?_ ?_
    · rintro i x σ H4 H5 hi ⟨x9, x10, x11, rfl, S4⟩ ⟨rfl, hx⟩
      obtain ⟨d', hd', dxx⟩ := adA.getV hx
      rw [List.getElem?_map] at hd'
      obtain ⟨y, hy, rfl⟩ := Option.map_eq_some_iff.mp hd'
      have vy := hyv y (List.mem_of_getElem? hy)
      have etk : (ys.take (i + 1)).all (gd rows 6) = ((ys.take i).all (gd rows 6) && gd rows 6 y) := by rw [List.take_succ, hy, List.all_append]; simp
      rw [etk]
      have eo : decide (((outN rows 6 y : Nat) : Int) ≤ 1000) = gd rows 6 y := by
        unfold outN
        cases hgd : gd rows 6 y with
        | true => rw [if_pos rfl]; exact decide_eq_true (by have := ct_1000 hR y hgd; omega)
        | false => rw [if_neg Bool.false_ne_true]; exact decide_eq_false (by decide)
      refine ⟨_, rfl, _, rfl, hp, rows, _, y, 1, rfl, listAt_mono LA S4, dxx.mono S4, hR, vy, rfl, Nat.le_refl _, fun H6 S6 => ⟨_, _, rfl, rfl, ?_⟩⟩
      show gName 10 (V.bl (decide (((outN rows 6 y : Nat) : Int) ≤ 1000))) _ _ _
      rw [eo]
      refine ⟨_, rfl, _, rfl, and_v rfl ?_⟩
      have S46 := S4.trans S6
      refine ⟨_, rfl, _, rfl, hp, rows, _, y, rfl, listAt_mono LA S46, dxx.mono S46, hR, ⟨vy, ct_1000 hR y⟩, ?_, ?_⟩
      · intro hgd q v' H7 S7 h7 e7
        have S47 := S46.trans S7
        rw [hgd]
        refine ⟨_, rfl, _, _, rfl, .inl ⟨_, SqL.of e7, rfl⟩, _, rfl, .inr ⟨true, rfl, rfl, _, rfl, iteFb (by simp) ?_⟩⟩
        refine ⟨_, rfl, _, rfl, iteTb rfl ?_⟩
        refine ⟨_, rfl, q, _, _, v', rfl, rfl, SqL.of e7, at0, _, rfl, _, rfl, hp, rows, _, y, rfl, listAt_mono LA S47, dxx.mono S47, hR, vy, hgd, fun v2 H8 S8 h8 => ?_⟩
        refine ⟨v', v2, tr rows 6 y, _, _, rfl, h7.mono S8 (fun _ h => h), h8, wh_tr hR 6 y hgd, fun H9 S9 => ⟨_, rfl, iteFb rfl ?_⟩⟩
        have S49 := (S47.trans S8).trans S9
        refine ⟨_, rfl, _, rfl, sz_1, fun u hu => ?_⟩
        have S4u := S49.trans (Same.new (o := .tup [x]) hu)
        refine ⟨hp, u, rows, [x], [y], rfl, listAt_mono LA S4u, SqT.of upd_same, .cons (dxx.mono S4u) .nil, hR, fun z hz => ?_, by simp, fun H10 S10 => ?_⟩
        · rw [List.mem_singleton.mp hz]; exact ⟨vy, ct_1000 hR y⟩
        rw [show [y].all (gd rows 6) = true by simp [hgd]]
        exact ⟨_, rfl, _, _, .bool true, rfl, .bl _, .bl _, .bool _, _, rfl, iteFb rfl ⟨_, _, _, rfl, S4u.trans S10⟩⟩
      · intro hgd q H7 S7 e7
        have S47 := S46.trans S7
        rw [hgd]
        refine ⟨_, rfl, _, _, rfl, .inl ⟨_, SqL.of e7, rfl⟩, _, rfl, .inr ⟨false, rfl, rfl, _, rfl, iteFb (by decide +kernel) ?_⟩⟩
        refine ⟨_, rfl, _, rfl, iteFb rfl (iteFb rfl ?_)⟩
        refine ⟨_, rfl, _, rfl, sz_1, fun u hu => ?_⟩
        have S4u := S47.trans (Same.new (o := .tup [x]) hu)
        refine ⟨hp, u, rows, [x], [y], rfl, listAt_mono LA S4u, SqT.of upd_same, .cons (dxx.mono S4u) .nil, hR, fun z hz => ?_, by simp, fun H10 S10 => ?_⟩
        · rw [List.mem_singleton.mp hz]; exact ⟨vy, ct_1000 hR y⟩
        rw [show [y].all (gd rows 6) = false by simp [hgd]]
        exact ⟨_, rfl, _, _, .bool false, rfl, .bl _, .bl _, .bool _, _, rfl, iteFb rfl ⟨_, _, _, rfl, S4u.trans S10⟩⟩
    · rintro σ H4 ⟨x9, x10, x11, rfl, S4⟩
      rw [List.take_of_length_le (by omega)]
      refine ⟨_, rfl, _, rfl, hp, t, rows, xv, ys, rfl, listAt_mono LA S4, Same.tupl S4 hta, DtAll.mono S4 adA, hR, fun y hy => ⟨hyv y hy, ct_1000 hR y⟩, by omega, fun H5 S5 => ?_⟩
      obtain ⟨hx5, eh5, ah5⟩ := listAt_mono (listAt_mono LA S4) S5
      obtain ⟨kx5, ek5, ak5⟩ := listAt_mono (listAt_mono LKA S4) S5
      refine ⟨_, rfl, _, _, .bool (ys.all (gd rows 6)), rfl, .bl _, .bl _, .bool _, _, rfl, iteTb rfl ?_⟩
      refine ⟨_, rfl, hp, _, rfl, .inl ⟨SqL.of eh5, fun q1 hq1 => ⟨_, rfl, kp, _, rfl, .inl ⟨SqL.of (Same.new hq1 _ _ ek5), fun q2 hq2 => ?_⟩⟩⟩⟩
      refine ⟨_, _, .tuple (rows.map rowD), rfl, (Dt.made hq1 ah5).mono (Same.new hq2), Dt.made hq2 (DtAll.mono (Same.new hq1) ak5), .tup (by rw [List.length_map]; omega) (fun d hd => ?_), k _⟩
      obtain ⟨r, hr, rfl⟩ := List.mem_map.mp hd
      exact wd_row (hR r hr)
end

theorem walk_mk {l : PySem.W.OpenLaw} {w : World} {K : PySem.W.Frag} {h : Heap} {mg : Str → Option Value} {fa : Addr} (X : K.In h) (G : h.Ns mainGlobals mg) (hfa : mg "law" = some (.ref fa))
    (f0 : HasFn K "_law_cell" s_law_cell)
    (f1 : HasFn K "_law_digits" s_law_digits)
    (f2 : HasFn K "_law_draw" s_law_draw)
    (f3 : HasFn K "_law_number" s_law_number)
    (f4 : HasFn K "_law_text" s_law_text)
    (f5 : HasFn K "_law_value" s_law_value)
    (f6 : HasFn K "_law_object" s_law_object)
    (f7 : HasFn K "_law_out" s_law_out)
    (f8 : HasFn K "sort_of" s_sort_of)
    (f9 : HasFn K "_is_leaf" s_is_leaf)
    (f10 : HasFn K "_goes_out" s_goes_out)
    (f11 : HasFn K "_taken" s_taken)
    (f12 : HasFn K "take_data" s_take_data)
    (f13 : HasFn K "_law_taken" s_law_taken)
    (f14 : HasFn K "_law_told" s_law_told)
    (f15 : HasFn K "_law_is_integer" s_law_is_integer)
    (f16 : HasFn K "_law_alike" s_law_alike)
    (f17 : HasFn K "goes" s_goes)
    (f18 : HasFn K "_law_same" s_law_same)
    (f19 : HasFn K "law" s_law)
    (c0 : HasInt K "MOST_ENTRIES" 1000)
    (c1 : HasInt K "MOST_LEVELS" 6)
    (c2 : HasInt K "MOST_SIZE" 1000)
    (c3 : HasInt K "INTEGER_END" (2 ^ 256))
    (c4 : HasStr K "CHARACTERS" (fun z => z = LK.chStr))
    (b_len : PySem.W.nsIn K mainGlobals "len" = some none)
    (b_int : PySem.W.nsIn K mainGlobals "int" = some none)
    (b_range : PySem.W.nsIn K mainGlobals "range" = some none)
    (b_list : PySem.W.nsIn K mainGlobals "list" = some none)
    (b_tuple : PySem.W.nsIn K mainGlobals "tuple" = some none)
    (b_str : PySem.W.nsIn K mainGlobals "str" = some none)
    (b_isinstance : PySem.W.nsIn K mainGlobals "isinstance" = some none)
    (b_all : PySem.W.nsIn K mainGlobals "all" = some none)
    (b_abs : PySem.W.nsIn K mainGlobals "abs" = some none)
    (b_bool : PySem.W.nsIn K mainGlobals "bool" = some none)
    (b_dict : PySem.W.nsIn K mainGlobals "dict" = some none)
    {C_BadData : Addr} (bdd : HasBd K C_BadData) :
    ∃ fd : FuncData, (∀ (s : Shared) (v : Value), BindsTo s fd ⟨[v], []⟩ [("script", v)]) ∧ ∀ base : Heap, K.In base → base.Ns mainGlobals mg → FnG l.prog w K mg base CX0 21 fa fd ["script"] (spLaw K) := by
  have T : Txt K mg := ⟨c0.g X G, c1.g X G, c2.g X G, c3.g X G, (by obtain ⟨z, g, e⟩ := c4.g X G; subst e; exact g), PySem.W.mg_none_of X G b_len, PySem.W.mg_none_of X G b_int, PySem.W.mg_none_of X G b_range, PySem.W.mg_none_of X G b_list, PySem.W.mg_none_of X G b_tuple, PySem.W.mg_none_of X G b_str, PySem.W.mg_none_of X G b_isinstance, PySem.W.mg_none_of X G b_all, PySem.W.mg_none_of X G b_abs, PySem.W.mg_none_of X G b_bool, PySem.W.mg_none_of X G b_dict⟩
  refine law_use f19 X G hfa (fun _ _ _ _ _ _ _ => rfl) fun base X' G' fd F => ?_
  obtain ⟨B_BadData, U_BadData⟩ := bdd.g X G
  have U_law_cell := mk_use (P := l.prog) (w := w) (mg := mg) (base := base) f0 X G (fun _ _ _ _ _ _ us hl => match us, hl with | [_, _], _ => rfl) fun f fd F => ok_cell F T
  have U_law_digits := mk_use (P := l.prog) (w := w) (mg := mg) (base := base) f1 X G (fun _ _ _ _ _ _ us hl => match us, hl with | [_, _, _], _ => rfl) fun f fd F => ok_digits F T (Use.up U_law_cell (by omega))
  have U_law_draw := mk_use (P := l.prog) (w := w) (mg := mg) (base := base) f2 X G (fun _ _ _ _ _ _ us hl => match us, hl with | [_, _], _ => rfl) fun f fd F => ok_draw F T
  have U_law_number := mk_use (P := l.prog) (w := w) (mg := mg) (base := base) f3 X G (fun _ _ _ _ _ _ us hl => match us, hl with | [_], _ => rfl) fun f fd F => ok_number F T (Use.up U_law_draw (by omega))
  have U_law_text := mk_use (P := l.prog) (w := w) (mg := mg) (base := base) f4 X G (fun _ _ _ _ _ _ us hl => match us, hl with | [_], _ => rfl) fun f fd F => ok_text7 F T (Use.up U_law_draw (by omega))
  have U_law_value := mk_use (P := l.prog) (w := w) (mg := mg) (base := base) f5 X G (fun _ _ _ _ _ _ us hl => match us, hl with | [_, _], _ => rfl) fun f fd F => ok_lvalue F T (Use.up U_law_draw (by omega)) (Use.up U_law_number (by omega)) (Use.up U_law_text (by omega))
  have U_law_object := mk_use (P := l.prog) (w := w) (mg := mg) (base := base) f6 X G (fun _ _ _ _ _ _ us hl => match us, hl with | [_, _, _], _ => rfl) fun f fd F => ok_lobject F T (Use.up U_law_draw (by omega)) (Use.up U_law_value (by omega))
  have U_law_out : Use l.prog w K mg base CX0 "_law_out" 8 P_law_out (spOut K 7) := mk_useG (P := l.prog) (w := w) (mg := mg) (base := base) (fun n => spOut K n) 1 1 f7.n X G (fun _ _ _ _ _ _ us hl => match us, hl with | [_, _, _], _ => rfl) (fun _ _ _ _ h => h) (fun n U_law_out f fd F => by
      have h := ok_lout (n := n) F T (Use.up U_law_out (by omega))
      have e : 1 + 1 * n + 1 = 1 + 1 * (n + 1) := by omega
      first | exact h | (rw [← e]; exact h) | (rw [Nat.one_mul]; exact h)) 7
  have U_sort_of := mk_use (P := l.prog) (w := w) (mg := mg) (base := base) f8 X G (fun _ _ _ _ _ _ us hl => match us, hl with | [_, _], _ => rfl) fun f fd F => ok_sort F T
  have U_is_leaf := mk_use (P := l.prog) (w := w) (mg := mg) (base := base) f9 X G (fun _ _ _ _ _ _ us hl => match us, hl with | [_, _], _ => rfl) fun f fd F => ok_isleaf F T
  have U_goes_out := mk_use (P := l.prog) (w := w) (mg := mg) (base := base) f10 X G (fun _ _ _ _ _ _ us hl => match us, hl with | [_, _], _ => rfl) fun f fd F => ok_goes1 F T (Use.up U_sort_of (by omega)) (Use.up U_is_leaf (by omega))
  have U_taken : Use l.prog w K mg base CX0 "_taken" 9 P_taken (spTaken K 6) := mk_useG (P := l.prog) (w := w) (mg := mg) (base := base) (fun n => spTaken K n) 3 1 f11.n X G (fun _ _ _ _ _ _ us hl => match us, hl with | [_, _], _ => rfl) (fun _ _ _ _ h => (taken0 h)) (fun n U_taken f fd F => by
      have h := ok_taken (n := n) F T (Use.up U_taken (by omega)) (Use.up U_sort_of (by omega))
      have e : 3 + 1 * n + 1 = 3 + 1 * (n + 1) := by omega
      first | exact h | (rw [← e]; exact h) | (rw [Nat.one_mul]; exact h)) 6
  have U_take_data := mk_use (P := l.prog) (w := w) (mg := mg) (base := base) f12 X G (fun _ _ _ _ _ _ us hl => match us, hl with | [_, _], _ => rfl) fun f fd F => ok_take F T U_BadData (Use.up U_goes_out (by omega)) (Use.up U_taken (by omega))
  have U_law_taken := mk_use (P := l.prog) (w := w) (mg := mg) (base := base) f13 X G (fun _ _ _ _ _ _ us hl => match us, hl with | [_, _], _ => rfl) fun f fd F => ok_ltaken F T U_BadData (Use.up U_take_data (by omega))
  have U_law_told : Use l.prog w K mg base CX0 "_law_told" 7 P_law_told (spTold K 6) := mk_useG (P := l.prog) (w := w) (mg := mg) (base := base) (fun n => spTold K n) 1 1 f14.n X G (fun _ _ _ _ _ _ us hl => match us, hl with | [_, _], _ => rfl) (fun _ _ _ _ h => (told0 h)) (fun n U_law_told f fd F => by
      have h := ok_told (n := n) F T (Use.up U_law_told (by omega))
      have e : 1 + 1 * n + 1 = 1 + 1 * (n + 1) := by omega
      first | exact h | (rw [← e]; exact h) | (rw [Nat.one_mul]; exact h)) 6
  have U_law_is_integer := mk_use (P := l.prog) (w := w) (mg := mg) (base := base) f15 X G (fun _ _ _ _ _ _ us hl => match us, hl with | [_], _ => rfl) fun f fd F => ok_isint F T
  have U_law_alike : Use l.prog w K mg base CX0 "_law_alike" 19 P_law_alike (spAlikeH K 18) := mk_useG (P := l.prog) (w := w) (mg := mg) (base := base) (fun n => spAlikeH K n) 1 1 f16.n X G (fun _ _ _ _ _ _ us hl => match us, hl with | [_, _], _ => rfl) (fun _ _ _ _ h => (alike0 h)) (fun n U_law_alike f fd F => by
      have h := ok_lalike (n := n) F T (Use.up U_law_is_integer (by omega)) (Use.up U_law_alike (by omega))
      have e : 1 + 1 * n + 1 = 1 + 1 * (n + 1) := by omega
      first | exact h | (rw [← e]; exact h) | (rw [Nat.one_mul]; exact h)) 18
  have U_goes := mk_use (P := l.prog) (w := w) (mg := mg) (base := base) f17 X G (fun _ _ _ _ _ _ us hl => match us, hl with | [_, _], _ => rfl) fun f fd F => ok_goes F T (Use.up U_goes_out (by omega))
  have U_law_same : Use l.prog w K mg base CX0 "_law_same" 9 P_law_same (spSameR K 8) := mk_useG (P := l.prog) (w := w) (mg := mg) (base := base) (fun n => spSameR K n) 1 1 f18.n X G (fun _ _ _ _ _ _ us hl => match us, hl with | [_, _], _ => rfl) (fun _ _ _ _ h => h) (fun n U_law_same f fd F => by
      have h := ok_sameR8 (n := n) F T (Use.up U_law_same (by omega)) (Use.up U_law_is_integer (by omega))
      have e : 1 + 1 * n + 1 = 1 + 1 * (n + 1) := by omega
      first | exact h | (rw [← e]; exact h) | (rw [Nat.one_mul]; exact h)) 8
  exact ok_law F T (Use.up U_law_digits (by omega)) (Use.up U_law_draw (by omega)) (Use.up U_law_object (by omega)) (Use.up U_law_value (by omega)) (Use.up U_law_out (by omega)) (Use.up U_law_taken (by omega)) (Use.up U_law_told (by omega)) (Use.up U_law_alike (by omega)) (Use.up U_goes (by omega)) (Use.up U_law_same (by omega))
end K89
open PySem PySem.W PyProof.Rows
set_option maxRecDepth 100000 in
set_option maxHeartbeats 0 in
theorem PySem.Challenge.cw_pyhold_k89_what_goes_out_holds : PySem.Challenge.rw_pyhold_k89_what_goes_out.Holds := by
  w_on; o_law; k_head; (case hw => w_witness2)
  k_fill
  refine LK.walkG (l := PySem.Challenge.rw_pyhold_k89_what_goes_out) (n := 63) (k := 21) (x := "script") (CX := L2.CX0) (sp := K89.spLaw) rfl (by decide) rfl ⟨rfl, by decide, by decide⟩ (fun w h Y => PySem.W.kIn_of Y) ?F (fun K H a ns hl _ hS => ⟨a, ns, rfl, hS, hl, fun _ => rfl⟩) (fun _ _ _ _ z => z)
  case F =>
    intro w mg fa h KX G hmg
    refine' K89.walk_mk KX G hmg ?f0 ?f1 ?f2 ?f3 ?f4 ?f5 ?f6 ?f7 ?f8 ?f9 ?f10 ?f11 ?f12 ?f13 ?f14 ?f15 ?f16 ?f17 ?f18 ?f19 ?c0 ?c1 ?c2 ?c3 ?c4 ?b_len ?b_int ?b_range ?b_list ?b_tuple ?b_str ?b_isinstance ?b_all ?b_abs ?b_bool ?b_dict ?bdd
    case f0 => refine' LK.HasFn.mk' ?a ?b ?c ?d; (case a => k_is); (case b => k_is); (case c => k_is); (case d => k_is)
    case f1 => refine' LK.HasFn.mk' ?a ?b ?c ?d; (case a => k_is); (case b => k_is); (case c => k_is); (case d => k_is)
    case f2 => refine' LK.HasFn.mk' ?a ?b ?c ?d; (case a => k_is); (case b => k_is); (case c => k_is); (case d => k_is)
    case f3 => refine' LK.HasFn.mk' ?a ?b ?c ?d; (case a => k_is); (case b => k_is); (case c => k_is); (case d => k_is)
    case f4 => refine' LK.HasFn.mk' ?a ?b ?c ?d; (case a => k_is); (case b => k_is); (case c => k_is); (case d => k_is)
    case f5 => refine' LK.HasFn.mk' ?a ?b ?c ?d; (case a => k_is); (case b => k_is); (case c => k_is); (case d => k_is)
    case f6 => refine' LK.HasFn.mk' ?a ?b ?c ?d; (case a => k_is); (case b => k_is); (case c => k_is); (case d => k_is)
    case f7 => refine' LK.HasFn.mk' ?a ?b ?c ?d; (case a => k_is); (case b => k_is); (case c => k_is); (case d => k_is)
    case f8 => refine' LK.HasFn.mk' ?a ?b ?c ?d; (case a => k_is); (case b => k_is); (case c => k_is); (case d => k_is)
    case f9 => refine' LK.HasFn.mk' ?a ?b ?c ?d; (case a => k_is); (case b => k_is); (case c => k_is); (case d => k_is)
    case f10 => refine' LK.HasFn.mk' ?a ?b ?c ?d; (case a => k_is); (case b => k_is); (case c => k_is); (case d => k_is)
    case f11 => refine' LK.HasFn.mk' ?a ?b ?c ?d; (case a => k_is); (case b => k_is); (case c => k_is); (case d => k_is)
    case f12 => refine' LK.HasFn.mk' ?a ?b ?c ?d; (case a => k_is); (case b => k_is); (case c => k_is); (case d => k_is)
    case f13 => refine' LK.HasFn.mk' ?a ?b ?c ?d; (case a => k_is); (case b => k_is); (case c => k_is); (case d => k_is)
    case f14 => refine' LK.HasFn.mk' ?a ?b ?c ?d; (case a => k_is); (case b => k_is); (case c => k_is); (case d => k_is)
    case f15 => refine' LK.HasFn.mk' ?a ?b ?c ?d; (case a => k_is); (case b => k_is); (case c => k_is); (case d => k_is)
    case f16 => refine' LK.HasFn.mk' ?a ?b ?c ?d; (case a => k_is); (case b => k_is); (case c => k_is); (case d => k_is)
    case f17 => refine' LK.HasFn.mk' ?a ?b ?c ?d; (case a => k_is); (case b => k_is); (case c => k_is); (case d => k_is)
    case f18 => refine' LK.HasFn.mk' ?a ?b ?c ?d; (case a => k_is); (case b => k_is); (case c => k_is); (case d => k_is)
    case f19 => refine' LK.HasFn.mk' ?a ?b ?c ?d; (case a => k_is); (case b => k_is); (case c => k_is); (case d => k_is)
    case c0 => refine' LK.HasInt.mk' ?a ?b; (case a => k_is); (case b => decide +kernel)
    case c1 => refine' LK.HasInt.mk' ?a ?b; (case a => k_is); (case b => decide +kernel)
    case c2 => refine' LK.HasInt.mk' ?a ?b; (case a => k_is); (case b => decide +kernel)
    case c3 => refine' LK.HasInt.mk' ?a ?b; (case a => k_is); (case b => decide +kernel)
    case c4 => refine' LK.HasStr.mk' ?a ?b; (case a => k_is); (case b => decide +kernel)
    case b_len => k_is
    case b_int => k_is
    case b_range => k_is
    case b_list => k_is
    case b_tuple => k_is
    case b_str => k_is
    case b_isinstance => k_is
    case b_all => k_is
    case b_abs => k_is
    case b_bool => k_is
    case b_dict => k_is
    case bdd => refine' LK.HasBd.mk' ?a1 ?a2 ?a3 ?a4 ?a5 ?a6 ?d1 ?d2 ?d3 ?d4 ?d5 ?d6 ?d7 ?e3 ?e4 ?e5 ?e6; (case a1 => k_is); (case a2 => k_is); (case a3 => k_exc); (case a4 => k_is); (case a5 => k_is); (case a6 => k_is); (case d1 => k_is); (case d2 => k_is); (case d3 => k_is); (case d4 => k_is); (case d5 => k_is); (case d6 => k_is); (case d7 => k_is); (case e3 => k_is); (case e4 => k_is); (case e5 => k_is); (case e6 => k_is)


