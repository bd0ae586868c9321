import PyProof.Rows.All
import Wide.All
import OpenK.AllK
import Wide.FinOn
import HandS.ForMost
import HandS.Wide
import HandS.WideMore
import HandS.TupAny
import HandS.TupLen
import HandS.Evl
import HandS.Codes
import PyProof.ReprLen
import PyProof.StrLawsRepr
import HandS.Walk
import HandS.Zip
import KE.GoesMore
import HandS.Style
import HandS.TupMul
import PyProof.StrOps2
import HandS.IsInst
import HandS.StrMore
import PySem.Challenge.RW_pyhold_k31_line_is_the_chain
set_option Elab.async false
set_option linter.all false
set_option maxRecDepth 100000
set_option maxHeartbeats 4000000
/-! A layer of one's own over the hand layer: defs by name, data, the helpers that the laws share. -/
namespace LK
open PySem PySem.Spec PyProof.Rows L2

/-! ### a def's promise where nothing is being shown (repr asks who is) -/
structure FnG (P : Program) (w : World) (K : PySem.W.Frag) (mg : Str → Option Value) (base : Heap) (CX : CXT) (k : Nat) (f : Addr) (fd : FuncData) (ps : List Str) (sp : Sp) : Prop where
  len : ∀ vs H Q E, sp vs H Q E → vs.length = ps.length
  run : ∀ (A : Around) (outer : List Env) (s : Shared) (H : Hp) (args : Args) (us : List Value) (vs : List V) (Q : VK) (E : XK), Room k A → A.guards = some [] →
    Env0 P w K mg base A outer s H → BindsTo s fd args (ps.zip us) → Vals vs us → sp vs H Q E → codeAny (model P w) A (.call (.ref f) args) (CR CX outer P w H s Q E) s
section
variable {P : Program} {w : World} {K : PySem.W.Frag} {mg : Str → Option Value} {base : Heap} {CX : CXT}
theorem FnG.imp {k : Nat} {f : Addr} {fd : FuncData} {ps : List Str} {sp sp' : Sp} (F : FnG P w K mg base CX k f fd ps sp) (h : ∀ vs H Q E, sp' vs H Q E → sp vs H Q E) : FnG P w K mg base CX k f fd ps sp' where
  len := fun vs H Q E q => F.len vs H Q E (h vs H Q E q)
  run := fun A outer s H args us vs Q E hr hg he hb hv hs => F.run A outer s H args us vs Q E hr hg he hb hv (h vs H Q E hs)
/-- the rule for a def: its body as a term of rules, and the reading of that term -/
theorem okG {x qual : Str} {st : Stmt} {f : Addr} {fd : FuncData} {N ps : List Str} {k : Nat} {sp : Sp} (F : Fun K x qual st f fd) (S : FnScope N ps (defScope st)) (len : ∀ vs H Q E, sp vs H Q E → vs.length = ps.length)
    (body : ∀ (cdv : Value) (A : Around) (outer : List Env) (s : Shared) (H : Hp) (vs : List V) (Q : VK) (E : XK), Room k (A.deeper (envOfC qual (defScope st) s.heap.objs.size f cdv)) →
      (A.deeper (envOfC qual (defScope st) s.heap.objs.size f cdv)).guards = some [] → sp vs H Q E →
      ∃ t, PSs (cxOf CX P w K mg base N qual (defScope st) f cdv A outer s H E) (defBody st) t ∧ t { nx := fun _ H' => Q .non H', rt := Q } (start N vs) H) :
    FnG P w K mg base CX (k + 1) f fd ps sp := by
  obtain ⟨oc, od, kV, doc, pm, an, cdv, ct, osl, rfl, lk, hcd⟩ := F.ex
  refine ⟨len, fun A outer s H args us vs Q E hr hgd e0 hb r hsp => ?_⟩
  have inn : K.In s.heap := e0.mod.kin.keeps fun b o e => (e0.bs b o e).1
  refine codeAny_call_function hr.depth (inn _ _ lk) rfl S.co S.gen rfl (PySem.W.codeRec_of inn hcd) (hb _ _ _ _ ?_)
  refine wpAny_newFunctionEnv_cells S.kind (fun y hy => ?_) fun env he s1 made => ?_
  · obtain ⟨n, v⟩ := y
    exact (S.par n (List.of_mem_zip hy).1).elim .inl fun q => .inr ⟨q, PySem.W.cellsFrom_some _ _ _ (.inl q)⟩
  · subst he
    have lim : s.heap.NoLimit := e0.mod.nolimit.keeps fun b o e => (e0.bs b o e).1
    refine ⟨lim.keeps made.toInCall.keep, codeAny_func ?_⟩
    obtain ⟨t, ht, hq⟩ := body cdv A outer s H vs Q E (hr.deeper _) hgd hsp
    refine wpAny_mono (ht.run [] s1 (start N vs) H _ (inv_start S hr.hd e0 (len _ _ _ _ hsp) r made) hq) (fun fl s' hs => ?_) fun e s' hs => hs
    cases fl with
    | ret u => exact let ⟨v, _, H', J, rv, q⟩ := hs; ⟨v, H', J.os, J.bare, J.base, J.hok, rv, q⟩
    | next => exact let ⟨_, H', J, q⟩ := hs; ⟨V.non, H', J.os, J.bare, J.base, J.hok, rfl, q⟩
    | brk => exact let ⟨_, _, _, q⟩ := hs; q.elim
    | cont => exact let ⟨_, _, _, q⟩ := hs; q.elim
/-- .. whose body lets no exception out -/
theorem okG0 {x qual : Str} {st : Stmt} {f : Addr} {fd : FuncData} {N ps : List Str} {k : Nat} {sp : Sp} (F : Fun K x qual st f fd) (S : FnScope N ps (defScope st)) (len : ∀ vs H Q E, sp vs H Q E → vs.length = ps.length)
    (body : ∀ (cdv : Value) (A : Around) (outer : List Env) (s : Shared) (H : Hp) (vs : List V) (Q : VK) (E : XK), Room k (A.deeper (envOfC qual (defScope st) s.heap.objs.size f cdv)) →
      (A.deeper (envOfC qual (defScope st) s.heap.objs.size f cdv)).guards = some [] → sp vs H Q E →
      ∃ t, PSs (cxOf CX0 P w K mg base N qual (defScope st) f cdv A outer s H E).nox (defBody st) t ∧ t { nx := fun _ H' => Q .non H', rt := Q } (start N vs) H) :
    FnG P w K mg base CX0 (k + 1) f fd ps sp :=
  okG F S len fun cdv A outer s H vs Q E hr hg hs => let ⟨t, ht, q⟩ := body cdv A outer s H vs Q E hr hg hs; ⟨t, ht.nox, q⟩
end
section
variable {X : Cx} {CX : CXT} {k : Nat} {f : Addr} {fd : FuncData} {ps : List Str} {sp : Sp} {E : XK} {x : Str} {p pos : Pos} {e : Expr} {es : List Expr} {t : TA}
theorem run_fnG {pins : List (Addr × Obj)} {σ : L2.St} {H : Hp} {s : Shared} {Q : VK} {us : List Value} {vs : List V} (F : FnG X.prog X.w X.K X.mg X.base CX k f fd ps sp) (hr : Room k X.A) (hg : X.A.guards = some []) (hb : Binds X.K fd ps [])
    (hx : Passes CX X E) (I : Inv X pins σ H s) (r : Vals vs us) (h : sp vs H Q E) : wpAny (model X.prog X.w) X.A (call (.ref f) us) (EP X pins σ Q) X.xe s := by
  have hl : (us ++ []).length = ps.length := by rw [List.append_nil, ← r.length, F.len _ _ _ _ h]
  have hbs := hb s us I.kIn hl
  rw [List.append_nil] at hbs
  refine wpAny_call (codeAny_mono (F.run X.A X.stack s H ⟨us, []⟩ us vs Q E hr hg I.env0 hbs r h) fun res s' hq => ?_)
  match res, hq with
  | .error e, hq => exact hx pins σ H s e s' I hq
  | .ok (.ret u), hq => exact I.after hq
  | .ok .next, hq => exact hq.elim
  | .ok .brk, hq => exact hq.elim
  | .ok .cont, hq => exact hq.elim
end

/-! ### defs of the text, by name -/
/-- what the top has left of the def x, whose statement is st -/
def HasFn (K : PySem.W.Frag) (x : Str) (st : Stmt) : Prop := ∃ (f : Addr) (oc : Value) (od an : Option Addr) (kV doc pm cdv ct : Value) (osl : Array (Option Value)),
  PySem.W.nsIn K mainGlobals x = some (some (.ref f)) ∧ K.lookup f = some ⟨oc, od, .func (PySem.W.fnOf x x (defArgs st) (defBody st) (defScope st) .none kV doc pm an cdv ct), osl⟩ ∧
  PySem.W.codeIn K cdv x = true ∧ PySem.W.keepIn K (.ref f) = true
/-- the def x may be called: its promise sp, by level k -/
structure Use (P : Program) (w : World) (K : PySem.W.Frag) (mg : Str → Option Value) (base : Heap) (CX : CXT) (x : Str) (k : Nat) (ps : List Str) (sp : Sp) : Prop where
  ex : ∃ (f : Addr) (fd : FuncData), FnG P w K mg base CX k f fd ps sp ∧ mg x = some (.ref f) ∧ PySem.W.keepIn K (.ref f) = true ∧ Binds K fd ps []
section
variable {P : Program} {w : World} {K : PySem.W.Frag} {mg : Str → Option Value} {base h : Heap} {CX : CXT}
theorem mk_use {x : Str} {st : Stmt} {k : Nat} {ps : List Str} {sp : Sp} (F : HasFn K x st) (X : K.In h) (G : h.Ns mainGlobals mg)
    (hb : ∀ (kV doc pm : Value) (an : Option Addr) (cdv ct : Value) (us : List Value), us.length = ps.length → bindArgs (PySem.W.fnOf x x (defArgs st) (defBody st) (defScope st) .none kV doc pm an cdv ct) ⟨us, []⟩ = pure (ps.zip us))
    (ok : ∀ (f : Addr) (fd : FuncData), Fun K x x st f fd → FnG P w K mg base CX k f fd ps sp) : Use P w K mg base CX x k ps sp := by
  obtain ⟨f, oc, od, an, kV, doc, pm, cdv, ct, osl, e, l, c, kp⟩ := F
  have Fn := fun_mk (st := st) l c kp
  exact ⟨f, _, ok f _ Fn, PySem.W.mg_of X G e, kp, Fn.binds hb⟩
theorem Use.imp {x : Str} {k : Nat} {ps : List Str} {sp sp' : Sp} (U : Use P w K mg base CX x k ps sp) (h : ∀ vs H Q E, sp' vs H Q E → sp vs H Q E) : Use P w K mg base CX x k ps sp' := by
  obtain ⟨f, fd, ok, r⟩ := U.ex
  exact ⟨f, fd, ok.imp h, r⟩
end
section
variable {X : Cx} {CX : CXT} {E : XK} {k : Nat} {x : Str} {ps : List Str} {sp : Sp} {p pos : Pos} {e : Expr} {es : List Expr} {t : TA}
theorem pe_useX (U : Use X.prog X.w X.K X.mg X.base CX x k ps sp) (hx : Passes CX X E) (hr : Room k X.A) (gd : X.A.guards = some []) (hg : Gl X x) (ha : PA X (e :: es) t) (hdb : (x == ("__debug__" : Str)) = false := by decide)
    (he : starEach (e :: es) X.env = (false, eval e X.env) :: starEach es X.env := by rfl) (hpl : (backTo pos (starEach es X.env)).any (·.1) = false := by rfl) : PE X (.Call (.Name x p) (e :: es) [] pos) (fun σ H Q => t σ H fun vs H1 => sp vs H1 Q E) := by
  obtain ⟨f, fd, ok, hm, kp, hb⟩ := U.ex
  refine ⟨fun pins s σ H Q I h => wpAny_Call_Name_kw (ld_glob I hg hm ?_ hdb)⟩
  exact PySem.W.callWith_K (h₀ := X.base) I.ok.mod.kin kp (thn (ha.run pos pins s σ H _ I h) fun us s1 ⟨vs, H1, I1, r, q⟩ => ⟨I1.kIn, run_fnG ok hr gd hb hx I1 r q⟩) he hpl
def tUse (sp : Sp) (E : XK) (t : TA) : TE := fun σ H Q => t σ H fun vs H1 => sp vs H1 Q E
theorem pe_use (U : Use X.prog X.w X.K X.mg X.base CX0 x k ps sp) (hr : Room k X.A) (gd : X.A.guards = some []) (hg : Gl X x) (ha : PA X (e :: es) t) (hdb : (x == ("__debug__" : Str)) = false := by decide)
    (he : starEach (e :: es) X.env = (false, eval e X.env) :: starEach es X.env := by rfl) (hpl : (backTo pos (starEach es X.env)).any (·.1) = false := by rfl) : PE X (.Call (.Name x p) (e :: es) [] pos) (tUse sp E0 t) := pe_useX U pass0 hr gd hg ha hdb he hpl
theorem pe_use0 (U : Use X.prog X.w X.K X.mg X.base CX0 x k ps sp) (hr : Room k X.A) (gd : X.A.guards = some []) (hg : Gl X x) (hdb : (x == ("__debug__" : Str)) = false := by decide) : PE X (.Call (.Name x p) [] [] pos) (tUse sp E0 tNil) := by
  obtain ⟨f, fd, ok, hm, kp, hb⟩ := U.ex
  exact ⟨fun pins s σ H Q I h => wpAny_Call_Name_kw (ld_glob I hg hm (PySem.W.callWith_K0 I.kIn kp (run_fnG (us := []) ok hr gd hb pass0 I .nil h)) hdb)⟩
end

/-! ### what stays -/
theorem Same.new {H : Hp} {p : Addr} {o : HO} (h : H p = none) : Same H (upd H p o) := fun b u e => by
  rw [upd_ne (ne_of_none e h)]; exact e
theorem Same.rd {H H' : Hp} {a : Addr} {u : HO} (e : Same H H') (h : Rd H a u) : Rd H' a u := by
  rcases h with h | ⟨o, h⟩
  · exact .inl (e _ _ h)
  · exact .inr ⟨o, e _ _ h⟩
theorem Same.tupl {K : PySem.W.Frag} {H H' : Hp} {a : Addr} {xs : List V} (e : Same H H') (h : SqT K H a xs) : SqT K H' a xs := by
  rcases h with h | h
  · exact .inl (Same.rd e h)
  · exact .inr h
theorem SqT.mono {K : PySem.W.Frag} {H H' : Hp} {a : Addr} {xs : List V} (h : SqT K H a xs) (e : Same H H') : SqT K H' a xs := Same.tupl e h
theorem SqL.mono {K : PySem.W.Frag} {H H' : Hp} {a : Addr} {xs : List V} (h : SqL K H a xs) (e : Same H H') : SqL K H' a xs := e.seq h

/-! ### data: none, bools, ints, texts, tuples (and lists that stand still) -/
mutual
theorem Dp.mono {K : PySem.W.Frag} {H H' : Hp} (e : Same H H') : ∀ {v : V} {d : PyData}, Dp K H v d → Dp K H' v d
  | _, _, .non => .non
  | _, _, .bl b => .bl b
  | _, _, .int i => .int i
  | _, _, .str x => .str x
  | _, _, .lst h a => .lst (e.seq h) (DpAll.mono e a)
  | _, _, .tup h a => .tup (Same.tupl e h) (DpAll.mono e a)
theorem DpAll.mono {K : PySem.W.Frag} {H H' : Hp} (e : Same H H') : ∀ {vs : List V} {ds : List PyData}, DpAll K H vs ds → DpAll K H' vs ds
  | _, _, .nil => .nil
  | _, _, .cons h a => .cons (Dp.mono e h) (DpAll.mono e a)
end
/-- a tuple just made -/
theorem Dp.made {K : PySem.W.Frag} {H : Hp} {p : Addr} {xs : List V} {ds : List PyData} (hp : H p = none) (h : DpAll K H xs ds) : Dp K (upd H p (.tup xs)) (.ref p) (.tuple ds) :=
  .tup (SqT.of upd_same) (DpAll.mono (Same.new hp) h)
theorem DpAll.length {K : PySem.W.Frag} {H : Hp} : ∀ {vs : List V} {ds : List PyData}, DpAll K H vs ds → vs.length = ds.length
  | _, _, .nil => rfl
  | _, _, .cons _ t => by simp [DpAll.length t]
theorem DpAll.app {K : PySem.W.Frag} {H : Hp} : ∀ {vs ws : List V} {ds es : List PyData}, DpAll K H vs ds → DpAll K H ws es → DpAll K H (vs ++ ws) (ds ++ es)
  | _, _, _, _, .nil, t => t
  | _, _, _, _, .cons h a, t => .cons h (DpAll.app a t)

/-! ### repr of data -/
mutual
theorem Dp.noDict {K : PySem.W.Frag} {H : Hp} : ∀ {v : V} {d : PyData}, Dp K H v d → d.hasDict = false
  | _, _, .non => rfl
  | _, _, .bl _ => rfl
  | _, _, .int _ => rfl
  | _, _, .str _ => rfl
  | _, _, .lst _ a => by simp only [PyData.hasDict]; exact DpAll.noDict a
  | _, _, .tup _ a => by simp only [PyData.hasDict]; exact DpAll.noDict a
theorem DpAll.noDict {K : PySem.W.Frag} {H : Hp} : ∀ {vs : List V} {ds : List PyData}, DpAll K H vs ds → PyData.hasDictAll ds = false
  | _, _, .nil => rfl
  | _, _, .cons h a => by simp only [PyData.hasDictAll, Dp.noDict h, DpAll.noDict a, Bool.or_self]
end
/-- what repr asks of data -/
structure ShowOk (d : PyData) : Prop where
  ok : d.showable = true
  dp : d.depth ≤ 60
  sz : d.shown.length ≤ sizeLine
def rRepr (K : PySem.W.Frag) : List V → Hp → VK → Prop := fun xs H Q => ∃ v d, xs = [v] ∧ Dp K H v d ∧ ShowOk d ∧ Q (.str d.shown) H
section
variable {X : Cx}
theorem call_repr_data (hg : X.A.guards = some []) (hu : X.A.units + 64 < cLine) : CallR X (.builtin "repr") (rRepr X.K) := by
  intro pins s σ H xs us Q I r h
  obtain ⟨v, d, rfl, hd, ⟨hs, hdp, hsz⟩, q⟩ := h
  obtain ⟨u, rfl, rv⟩ := vals1 r
  obtain ⟨as, rr⟩ := Dp.reads I d v u hd rv
  have nd := Dp.noDict hd
  cases d with
  | none => cases rr; exact PySem.P.repr_of_none ⟨.str _, H, I.tok _, ⟨_, rfl⟩, q⟩
  | bool b => cases rr; exact PySem.P.repr_of_bool ⟨.str _, H, I.tok _, ⟨_, rfl⟩, by simpa [PyData.shown] using q⟩
  | int i => cases rr; exact PySem.P.repr_of_int (of_decide_eq_true (by simpa [PyData.showable] using hs)) ⟨.str _, H, I.tok _, ⟨_, rfl⟩, by simpa [PyData.shown] using q⟩
  | str x => cases rr; exact PySem.P.repr_of_str (hsz := by simpa [PyData.shown] using hsz) ⟨.str _, H, I.tok _, ⟨_, rfl⟩, by simpa [PyData.shown] using q⟩
  | list ds =>
    obtain ⟨a, rfl⟩ := PyProof.Rows.isRef_of_reads rr rfl
    exact repr_of_reads' rr hs (PyData.noDict_hsm nd) hg (by omega) (fun _ _ e => e) (fun h' u tk hk => ⟨.str _, H, I.kept hk, ⟨_, rfl⟩, q⟩) hsz
  | tuple ds =>
    obtain ⟨a, rfl⟩ := PyProof.Rows.isRef_of_reads rr rfl
    exact repr_of_reads' rr hs (PyData.noDict_hsm nd) hg (by omega) (fun _ _ e => e) (fun h' u tk hk => ⟨.str _, H, I.kept hk, ⟨_, rfl⟩, q⟩) hsz
  | dict kv => cases hd
end

/-! ### the law's own call -/
/-- the heap behind the top, seen with the script at a locked, or with nothing tracked -/
theorem law_callG {P : Program} {w : World} {K : PySem.W.Frag} {mg mb : Str → Option Value} {CX : CXT} {k : Nat} {fa a : Addr} {fd : FuncData} {x : Str} {sp : Sp} {s₁ : Shared} {vs : List Value} {ns : List Int}
    (inn : K.In s₁.heap) (hns : s₁.heap.Ns mainGlobals mg) (hb : s₁.heap.Ns builtinsNs mb) (hbb : ∀ x : Str, x ≠ "__name__" → mb x = bootBuiltins x) (hlim : s₁.heap.NoLimit) (hgens : s₁.gens = #[])
    (ha : s₁.heap.get? a = some { cls := .type "list", data := .seq vs.toArray }) (hi : IntsAre vs ns) (hl : ns.length ≤ sizeLine) (hr : Room k callerA)
    (F : ∀ base : Heap, K.In base → base.Ns mainGlobals mg → FnG P w K mg base CX k fa fd [x] sp) (hbind : ∀ (s : Shared) (u : Value), BindsTo s fd ⟨[u], []⟩ [(x, u)])
    (hsp : ∀ H : Hp, Only H → SqL K H a (ns.map V.int) → sp [.ref a] H (fun v _ => v = .bl true) fun _ _ _ => False)
    (hCX : ∀ H e s', CX [] H s₁ (fun _ _ _ => False) e s' → False) :
    codeAny (model P w) callerA (.call (.ref fa) ⟨[.ref a], []⟩) (fun r s' => r = .ok (.ret (.bool true)) ∧ OldK s₁.heap s'.heap ∧ s'.os = s₁.os ∧ AllBare s'.gens) s₁ := by
  have rv := vals_ints hi
  have run : ∀ H : Hp, Only H → SqL K H a (ns.map V.int) → HOk P w H s₁.heap → (∀ b u, H b = some u → b = a ∧ K.lookup a = none) →
      codeAny (model P w) callerA (.call (.ref fa) ⟨[.ref a], []⟩) (fun r s' => r = .ok (.ret (.bool true)) ∧ OldK s₁.heap s'.heap ∧ s'.os = s₁.os ∧ AllBare s'.gens) s₁ := by
    intro H only hS hok at_a
    -- what is no list stays in the base
    have free : ∀ {b : Addr} {o : Obj}, s₁.heap.get? b = some o → (∀ its n, o.data ≠ .seq its n) → H b = none := fun {b o} e hd => by
      cases q : H b with
      | none => rfl
      | some u =>
        obtain ⟨rfl, _⟩ := at_a b u q
        rw [ha] at e; cases e
        exact absurd rfl (hd _ _)
    have names : ∀ {b : Addr} {m : Str → Option Value}, s₁.heap.Ns b m → (hidT s₁.heap H).Ns b m := fun {b m} hn => by
      obtain ⟨o, es, ep, e, d, r⟩ := hn
      exact ⟨o, es, ep, hidT_get e (free e fun its n z => by rw [d] at z; cases z), d, r⟩
    have inb : K.In (hidT s₁.heap H) := fun b o e => by
      refine hidT_get (inn b o e) ?_
      cases q : H b with
      | none => rfl
      | some u =>
        obtain ⟨rfl, hk⟩ := at_a b u q
        rw [e] at hk; cases hk
    have md : Mod K mg (hidT s₁.heap H) := by
      obtain ⟨mc, h1, h2⟩ := hlim
      exact ⟨inb, names hns, ⟨mb, names hb, hbb⟩, ⟨mc, names h1, h2⟩⟩
    have none_in : ∀ b : Addr, b ∉ ([] : List Addr) := fun b z => nomatch z
    have e0 : Env0 P w K mg (hidT s₁.heap H) callerA [] s₁ H := ⟨rfl, md, fun b o e => of_hidT e, Nat.le_of_eq (hidT_size _ _), trivial, fun b z => absurd z (none_in b), hok, .of_eq hgens⟩
    refine codeAny_mono ((F _ inb (names hns)).run callerA [] s₁ H ⟨[.ref a], []⟩ [.ref a] [.ref a] _ _ hr rfl e0 (hbind s₁ (.ref a)) (.cons rfl .nil) (hsp H only hS)) fun r s' h => ?_
    match r, h with
    | .error e, h => exact (hCX H e s' h).elim
    | .ok .next, h => exact False.elim h
    | .ok .brk, h => exact False.elim h
    | .ok .cont, h => exact False.elim h
    | .ok (.ret u), h =>
      obtain ⟨v, H', os, bare, un, hok', r', q⟩ := h
      obtain rfl : v = V.bl true := q
      obtain rfl : u = Value.bool true := r'
      refine ⟨rfl, OldK.of_keep fun b o e => ?_, os, bare⟩
      cases q : H b with
      | none => exact un.keep b o e q (none_in b) (none_in b)
      | some u =>
        rcases only b with z | ⟨ob, xs, z⟩
        · rw [q] at z; cases z
        · have e1 : s₁.heap.get? b = some ob := (hok b _ z).1
          rw [e] at e1; cases e1
          exact (hok' b _ (un.frzs b o _ z)).1
  cases hk : K.lookup a with
  | some o =>
    have e := inn a o hk
    rw [ha] at e; cases e
    have sz : vs.toArray.size ≤ sizeLine := by rw [List.size_toArray, hi.length]; exact hl
    exact run (fun _ => none) (fun _ => .inl rfl) (.inr ⟨_, vs.toArray, _, hk, rfl, rfl, rfl, sz, by simpa using rv⟩) (fun b u z => nomatch (show (none : Option HO) = some u from z)) fun b u z => nomatch (show (none : Option HO) = some u from z)
  | none =>
    let u0 : HO := .frz { cls := .type "list", data := .seq vs.toArray } (.lst (ns.map V.int))
    have at1 : ∀ b u, upd (fun _ => none) a u0 b = some u → b = a ∧ u = u0 := fun b u z => by
      by_cases hb : b = a
      · subst hb; rw [upd_same] at z; exact ⟨rfl, (Option.some.inj z).symm⟩
      · rw [upd_ne hb] at z; cases z
    refine run (upd (fun _ => none) a u0) (fun b => ?_) (.inl (.inr ⟨_, upd_same⟩)) (fun b u z => ?_) fun b u z => ⟨(at1 b u z).1, hk⟩
    · by_cases hb : b = a
      · subst hb; exact .inr ⟨_, _, upd_same⟩
      · exact .inl (by rw [upd_ne hb])
    · obtain ⟨rfl, rfl⟩ := at1 b u z
      exact ⟨ha, by rw [List.length_map]; exact hl, vs, _, rv, ha⟩
theorem walkG {l : PySem.W.OpenLaw} {n k : Nat} {q : Program} {loose : List Str} {XP : (Str → Option Value) → Heap → Prop} {YP : World → Heap → Prop} {d : DefRec} {K : Params → PySem.W.Frag} {CX : CXT} {sp : PySem.W.Frag → Sp} {x : Str}
    (hn : l.most = some n) (hn2 : n ≤ sizeLine) (hdf : d.params.defaults = []) (hr : Room k callerA)
    (hY : ∀ (w : World) (h : Heap), YP w h → (K w.params).In h)
    (F : ∀ (w : World) (mg : Str → Option Value) (fa : Addr) (h : Heap), (K w.params).In h → h.Ns mainGlobals mg → mg d.name = some (.ref fa) →
      ∃ fd : FuncData, (∀ (s : Shared) (u : Value), BindsTo s fd ⟨[u], []⟩ [(x, u)]) ∧
        ∀ base : Heap, (K w.params).In base → base.Ns mainGlobals mg → FnG l.prog w (K w.params) mg base CX k fa fd [x] (sp (K w.params)))
    (hsp : ∀ (K : PySem.W.Frag) (H : Hp) (a : Addr) (ns : List Int), ns.length ≤ n → Only H → SqL K H a (ns.map V.int) → sp K [.ref a] H (fun v _ => v = .bl true) fun _ _ _ => False)
    (hCX : ∀ (H : Hp) (s : Shared) (e : Value) (s' : Shared), CX [] H s (fun _ _ _ => False) e s' → False) :
    PySem.W.WalkO q loose XP YP l.row.toRowW d [] (fun f vs => PySem.call f vs) :=
  Att.attach_call hn hdf fun w s₀ s₁ mg mb fa o pm cd doc a vs ns G Y ho hd hcd hmg hobj hints hlen hg =>
    let ⟨fd, hb, hF⟩ := F w mg fa _ (hY w _ Y) G.T.g hmg
    law_callG (hY w _ Y) G.T.g G.T.b G.T.builtins G.T.nolimit hg hobj hints (Nat.le_trans hlen hn2) hr hF hb (fun H hO hS => hsp (K w.params) H a ns hlen hO hS) fun H e s' => hCX H s₁ e s'
/-- from the top's facts: the law's def and its arguments -/
theorem law_use {P : Program} {w : World} {K : PySem.W.Frag} {mg : Str → Option Value} {h : Heap} {CX : CXT} {k : Nat} {fa : Addr} {st : Stmt} {x : Str} {sp : Sp} (L : HasFn K "law" st) (X : K.In h) (G : h.Ns mainGlobals mg) (hfa : mg "law" = some (.ref fa))
    (hb : ∀ (kV doc pm : Value) (an : Option Addr) (cdv ct v : Value), bindArgs (PySem.W.fnOf "law" "law" (defArgs st) (defBody st) (defScope st) .none kV doc pm an cdv ct) ⟨[v], []⟩ = pure [(x, v)])
    (ok : ∀ base : Heap, K.In base → base.Ns mainGlobals mg → ∀ fd, Fun K "law" "law" st fa fd → FnG P w K mg base CX k fa fd [x] sp) :
    ∃ fd : FuncData, (∀ (s : Shared) (v : Value), BindsTo s fd ⟨[v], []⟩ [(x, v)]) ∧ ∀ base : Heap, K.In base → base.Ns mainGlobals mg → FnG P w K mg base CX k fa fd [x] sp := by
  obtain ⟨f, oc, od, an, kV, doc, pm, cdv, ct, osl, e, l, c, kp⟩ := L
  have z := hfa.symm.trans (PySem.W.mg_of X G e)
  cases z
  have Fn := fun_mk (st := st) l c kp
  exact ⟨_, fun s v => .of_eq (hb ..), fun base h1 h2 => ok base h1 h2 _ Fn⟩

/-! ### tests whose answer is known -/
theorem iteFb {c : Bool} {A B : Prop} (h : c = false) (b : B) : if c = true then A else B := by rw [h]; exact iteF b
theorem iteTb {c : Bool} {A B : Prop} (h : c = true) (a : A) : if c = true then A else B := by rw [h]; exact iteT a
theorem ite3 {c : Bool} {A B : Prop} (h1 : c = true → A) (h2 : c = false → B) : if c = true then A else B := by
  cases c with
  | true => exact iteT (h1 rfl)
  | false => exact iteF (h2 rfl)

/-! ### constants of the top -/
def HasInt (K : PySem.W.Frag) (x : Str) (n : Int) : Prop := ∃ (t : Tok) (m : Int), PySem.W.nsIn K mainGlobals x = some (some (.int m t)) ∧ m = n
def KTup (K : PySem.W.Frag) (a : Addr) (xs : List V) : Prop := ∃ (od : Option Addr) (its : Array Value) (n : Nat) (sl : Array (Option Value)), K.lookup a = some ⟨.type "tuple", od, .seq its n, sl⟩ ∧ its.size ≤ sizeLine ∧ Vals xs its.toList
def HasTup (K : PySem.W.Frag) (x : Str) (xs : List V) : Prop := ∃ a, PySem.W.nsIn K mainGlobals x = some (some (.ref a)) ∧ KTup K a xs
theorem KTup.sq {K : PySem.W.Frag} {a : Addr} {xs : List V} (h : KTup K a xs) (H : Hp) : SqT K H a xs := by
  obtain ⟨od, its, n, sl, e, z, v⟩ := h
  exact .inr ⟨_, its, n, e, rfl, rfl, z, v⟩
/-- the module's names, as the defs see them -/
def GInt (mg : Str → Option Value) (x : Str) (n : Int) : Prop := ∃ t, mg x = some (.int n t)
def GTup (K : PySem.W.Frag) (mg : Str → Option Value) (x : Str) (xs : List V) : Prop := ∃ a, mg x = some (.ref a) ∧ KTup K a xs
theorem HasInt.g {K : PySem.W.Frag} {mg : Str → Option Value} {h : Heap} {x : Str} {n : Int} (i : HasInt K x n) (X : K.In h) (G : h.Ns mainGlobals mg) : GInt mg x n := by
  obtain ⟨t, m, e, rfl⟩ := i
  exact ⟨t, PySem.W.mg_of X G e⟩
theorem HasTup.g {K : PySem.W.Frag} {mg : Str → Option Value} {h : Heap} {x : Str} {xs : List V} (i : HasTup K x xs) (X : K.In h) (G : h.Ns mainGlobals mg) : GTup K mg x xs := by
  obtain ⟨a, e, k⟩ := i
  exact ⟨a, PySem.W.mg_of X G e, k⟩
section
variable {X : Cx} {x : Str} {pos : Pos}
theorem pe_globI {n : Int} (h : GInt X.mg x n) (hg : Gl X x) (hd : (x == ("__debug__" : Str)) = false := by decide) : PE X (.Name x pos) (tC (.int n)) := by
  obtain ⟨t, e⟩ := h
  exact pe_glob hg e ⟨t, rfl⟩ hd
/-- a tuple of the top: it is read as xs, wherever it stands -/
def tGT (K : PySem.W.Frag) (xs : List V) : TE := fun _ H Q => ∀ a, KTup K a xs → Q (.ref a) H
theorem pe_globT {xs : List V} (h : GTup X.K X.mg x xs) (hg : Gl X x) (hd : (x == ("__debug__" : Str)) = false := by decide) : PE X (.Name x pos) (tGT X.K xs) := by
  obtain ⟨a, e, k⟩ := h
  exact ⟨fun pins s σ H Q I q => (pe_glob (v := .ref a) hg e rfl hd).run pins s σ H Q I (q a k)⟩
end

/-! ### // by any divisor but 0 -/
def CDivX (_ j : Int) : Prop := j ≠ 0 ∧ j.natAbs.log2 < 9000
theorem op_fdivX {X : Cx} : OpR X (binaryOp .FloorDiv) (rI CDivX fun i j => .int (i.fdiv j)) := opI fun _ _ _ _ _ _ _ hc q => floordiv_int hc.1 q (.inl (PyProof.noPylong_of_log2 hc.2))
theorem fdiv_le_pos (i : Int) {j : Int} (hj : 0 < j) : (i.fdiv j).natAbs ≤ i.natAbs + 1 := by
  have e := Int.mul_fdiv_add_fmod i j
  have h0 := Int.fmod_nonneg_of_pos i hj
  have h1 := Int.fmod_lt_of_pos i hj
  have a : (i.fdiv j).natAbs ≤ (j * i.fdiv j).natAbs := by
    rw [Int.natAbs_mul]; exact Nat.le_mul_of_pos_left _ (by omega)
  by_cases hi : 0 ≤ i
  · have : 0 ≤ i.fdiv j := Int.fdiv_nonneg hi (by omega)
    have : 0 ≤ j * i.fdiv j := Int.mul_nonneg (by omega) this
    omega
  · have q : i.fdiv j ≤ -1 := by
      by_cases z : 0 ≤ i.fdiv j
      · have := Int.mul_nonneg (show 0 ≤ j by omega) z
        omega
      · omega
    have r : -1 + i ≤ i.fdiv j := by
      have : i.fdiv j * (j - 1) ≤ (-1) * (j - 1) := Int.mul_le_mul_of_nonneg_right q (by omega)
      have e2 : j * i.fdiv j = i.fdiv j * (j - 1) + i.fdiv j := by rw [Int.mul_sub, Int.mul_one, Int.mul_comm]; omega
      omega
    omega
theorem fdiv_le (i j : Int) : (i.fdiv j).natAbs ≤ i.natAbs + 1 := by
  by_cases h : 0 < j
  · exact fdiv_le_pos i h
  · by_cases h2 : j = 0
    · subst h2; rw [Int.fdiv_zero]; omega
    · have e : i.fdiv j = (-i).fdiv (-j) := by rw [Int.neg_fdiv_neg]
      have := fdiv_le_pos (-i) (show 0 < -j by omega)
      rw [e]; omega

/-! ### how long a shown thing is at most -/
structure Sm (d : PyData) (dp N : Nat) : Prop where
  ok : d.showable = true
  dp : d.depth ≤ dp
  sz : d.shown.length ≤ N
structure SmAll (ds : List PyData) (dp n N : Nat) : Prop where
  ok : PyData.showableAll ds = true
  dp : PyData.depthAll ds ≤ dp
  len : ds.length ≤ n
  sz : ((PyData.shownAll ds).map (·.length)).sum ≤ N
theorem Sm.show {d : PyData} {dp N : Nat} (h : Sm d dp N) (h1 : dp ≤ 60) (h2 : N ≤ sizeLine) : ShowOk d := ⟨h.ok, Nat.le_trans h.dp h1, Nat.le_trans h.sz h2⟩
theorem Sm.mono {d : PyData} {dp N dp' N' : Nat} (h : Sm d dp N) (h1 : dp ≤ dp') (h2 : N ≤ N') : Sm d dp' N' := ⟨h.ok, Nat.le_trans h.dp h1, Nat.le_trans h.sz h2⟩
theorem shownAll_length : ∀ ds : List PyData, (PyData.shownAll ds).length = ds.length
  | [] => rfl
  | d :: ds => by simp [PyData.shownAll, shownAll_length ds]
theorem Sm.int {i : Int} (h : i.natAbs < 2 ^ 1900) : Sm (.int i) 0 2000 := by
  have hl : i.natAbs.log2 < 1900 := PySem.Flt.log2_lt_of (by decide) h
  refine ⟨?_, Nat.le_refl 0, ?_⟩
  · simp only [PyData.showable, decide_eq_true_eq]; omega
  · have e := int_text_length_le (k := 1900) (by decide) hl
    show (Str.ofString (toString i)).length ≤ 2000
    rw [PySem.ofString_length]; omega
theorem Sm.bool (b : Bool) : Sm (.bool b) 0 10 := ⟨rfl, Nat.le_refl 0, by cases b <;> decide +kernel⟩
theorem Sm.none : Sm .none 0 10 := ⟨rfl, Nat.le_refl 0, by decide +kernel⟩
theorem Sm.str {x : Str} {n : Nat} (h : x.length ≤ n) (hc : ∀ c ∈ x.cps.toList, c < 16 ^ 8) : Sm (.str x) 0 (10 * n + 2) := ⟨rfl, Nat.le_refl 0, by
  have e := PySem.StrLaws.reprText_len x hc
  show (reprText x).length ≤ _
  omega⟩
theorem SmAll.nil : SmAll [] 0 0 0 := ⟨rfl, Nat.le_refl 0, Nat.le_refl 0, Nat.le_refl 0⟩
theorem SmAll.cons {d : PyData} {ds : List PyData} {dp dp' n N M : Nat} (h : Sm d dp N) (t : SmAll ds dp' n M) : SmAll (d :: ds) (max dp dp') (n + 1) (N + M) := by
  have h1 := h.dp
  have h2 := t.dp
  refine ⟨by simp [PyData.showableAll, h.ok, t.ok], ?_, by have := t.len; simp; omega, ?_⟩
  · simp only [PyData.depthAll]; omega
  · have := h.sz
    have := t.sz
    simp only [PyData.shownAll, List.map_cons, List.sum_cons]; omega
theorem Sm.tup {ds : List PyData} {dp n N : Nat} (h : SmAll ds dp n N) : Sm (.tuple ds) (dp + 1) (N + 2 * n + 3) := by
  refine ⟨by simpa [PyData.showable] using h.ok, by simp only [PyData.depth]; have := h.dp; omega, ?_⟩
  have e := tupleText_len_le (PyData.shownAll ds)
  have := h.sz
  have := h.len
  rw [shownAll_length] at e
  show (tupleText (PyData.shownAll ds)).length ≤ _
  omega
theorem Sm.lst {ds : List PyData} {dp n N : Nat} (h : SmAll ds dp n N) : Sm (.list ds) (dp + 1) (N + 2 * n + 3) := by
  refine ⟨by simpa [PyData.showable] using h.ok, by simp only [PyData.depth]; have := h.dp; omega, ?_⟩
  have e := listText_len_le (PyData.shownAll ds)
  have := h.sz
  have := h.len
  rw [shownAll_length] at e
  show (listText (PyData.shownAll ds)).length ≤ _
  omega
theorem SmAll.many {dp N : Nat} : ∀ {ds : List PyData}, (∀ d ∈ ds, Sm d dp N) → SmAll ds dp ds.length (N * ds.length)
  | [], _ => ⟨rfl, Nat.zero_le _, Nat.le_refl 0, Nat.zero_le _⟩
  | d :: ds, h => by
    have t := SmAll.cons (h d (by simp)) (SmAll.many (fun e he => h e (List.mem_cons_of_mem _ he)))
    rw [Nat.max_self] at t
    refine ⟨t.ok, t.dp, t.len, Nat.le_trans t.sz ?_⟩
    rw [List.length_cons, Nat.mul_succ]; omega
theorem sz_0 : (0 : Nat) ≤ sizeLine := by decide
theorem sz_1 : (1 : Nat) ≤ sizeLine := by decide
theorem sz_2 : (2 : Nat) ≤ sizeLine := by decide
theorem sz_3 : (3 : Nat) ≤ sizeLine := by decide
theorem sz_4 : (4 : Nat) ≤ sizeLine := by decide
theorem sz_5 : (5 : Nat) ≤ sizeLine := by decide
/-! ### the ends: each premise a fact that k_is finds -/
theorem HasFn.mk' {K : PySem.W.Frag} {x : Str} {st : Stmt} {f : Addr} {oc : Value} {od an : Option Addr} {kV doc pm cdv ct : Value} {osl : Array (Option Value)} (a : PySem.W.nsIn K mainGlobals x = some (some (.ref f)))
    (b : K.lookup f = some ⟨oc, od, .func (PySem.W.fnOf x x (defArgs st) (defBody st) (defScope st) .none kV doc pm an cdv ct), osl⟩) (c : PySem.W.codeIn K cdv x = true) (d : PySem.W.keepIn K (.ref f) = true) : HasFn K x st :=
  ⟨f, oc, od, an, kV, doc, pm, cdv, ct, osl, a, b, c, d⟩
theorem HasInt.mk' {K : PySem.W.Frag} {x : Str} {n m : Int} {t : Tok} (a : PySem.W.nsIn K mainGlobals x = some (some (.int m t))) (e : m = n) : HasInt K x n := ⟨t, m, a, e⟩
theorem HasTup.mk' {K : PySem.W.Frag} {x : Str} {xs : List V} {a : Addr} {od : Option Addr} {its : Array Value} {n : Nat} {sl : Array (Option Value)} (h : PySem.W.nsIn K mainGlobals x = some (some (.ref a)))
    (b : K.lookup a = some ⟨.type "tuple", od, .seq its n, sl⟩) (z : its.size ≤ sizeLine) (v : Vals xs its.toList) : HasTup K x xs := ⟨a, h, od, its, n, sl, b, z, v⟩
/-! ### what the laws' helpers promise -/
/-! the digits and the place -/
def BoxAt (H : Hp) (p dl : Addr) : Prop := ∃ (ds : List Int) (k : Int), H p = some (.lst [.ref dl, .int k]) ∧ 0 ≤ k ∧ H dl = some (.lst (ds.map V.int)) ∧ ds.length ≤ 4000 ∧ ∀ d ∈ ds, 0 ≤ d ∧ d < 1000
theorem BoxAt.at_ {H : Hp} {p dl : Addr} (h : BoxAt H p dl) : ∃ xs, H p = some (.lst xs) := let ⟨_, _, a, _⟩ := h; ⟨_, a⟩
theorem BoxAt.dg {H : Hp} {p dl : Addr} (h : BoxAt H p dl) : ∃ xs, H dl = some (.lst xs) := let ⟨_, _, _, _, c, _⟩ := h; ⟨_, c⟩
def Keep (p : Addr) (H H' : Hp) : Prop := ∀ b o, H b = some o → b ≠ p → H' b = some o
def spDraw (K : PySem.W.Frag) : Sp := fun vs H Q _ => ∃ (p dl : Addr) (m : Int), vs = [.ref p, .int m] ∧ BoxAt H p dl ∧ 0 < m ∧ ∀ r H', 0 ≤ r → r < m → BoxAt H' p dl → Keep p H H' → Q (.int r) H'
def spCell (K : PySem.W.Frag) : Sp := fun vs H Q _ => ∃ (a : Addr) (ns : List Int) (i : Int), vs = [.ref a, .int i] ∧ SqL K H a (ns.map V.int) ∧ 0 ≤ i ∧ ∀ r, Q (.int r) H
def DigAt (H0 H : Hp) (dl : Addr) (n : Nat) : Prop := ∃ ds : List Int, H dl = some (.lst (ds.map V.int)) ∧ ds.length ≤ n ∧ (∀ d ∈ ds, 0 ≤ d ∧ d < 1000) ∧ Same H0 H
theorem DigAt.mono {H0 H : Hp} {dl : Addr} {n m : Nat} (h : DigAt H0 H dl n) (l : n ≤ m) : DigAt H0 H dl m := let ⟨ds, a, b, c, d⟩ := h; ⟨ds, a, by omega, c, d⟩
theorem DigAt.add {H0 H : Hp} {dl : Addr} {n : Nat} {r : Int} {xs : List V} (h : DigAt H0 H dl n) (hx : H dl = some (.lst xs)) (nd : H0 dl = none) (h0 : 0 ≤ r) (h1 : r < 1000) : DigAt H0 (upd H dl (.lst (xs ++ [.int r]))) dl (n + 1) := by
  obtain ⟨ds, a, b, c, d⟩ := h
  rw [hx] at a
  obtain rfl := HO.lst.inj (Option.some.inj a)
  refine ⟨ds ++ [r], by rw [upd_same, List.map_append]; rfl, by simp; omega, fun z hz => ?_, fun q o e => by rw [upd_ne (ne_of_none e nd)]; exact d q o e⟩
  rcases List.mem_append.mp hz with hz | hz
  · exact c z hz
  · have : z = r := by simpa using hz
    omega
def spDigits (K : PySem.W.Frag) : Sp := fun vs H Q _ => ∃ (a : Addr) (ns : List Int) (lo hi : Nat), vs = [.ref a, .int lo, .int hi] ∧ SqL K H a (ns.map V.int) ∧ lo ≤ hi ∧ hi ≤ 64 ∧
  ∀ (p : Addr) (H' : Hp), H p = none → DigAt H H' p 4000 → Q (.ref p) H'
def spBound : Sp := fun vs H Q _ => vs = [] ∧ Q (.int (2 ^ 256)) H
theorem Keep.trans {p : Addr} {H H1 H2 : Hp} (a : Keep p H H1) (b : Keep p H1 H2) : Keep p H H2 := fun c o h ne => b c o (a c o h ne) ne
theorem Keep.refl (p : Addr) (H : Hp) : Keep p H H := fun _ _ h _ => h
def Sgn (z : Int) : Prop := z = 1 ∨ z = -1
theorem Sgn.mul {z n : Int} (h : Sgn z) : (z * n).natAbs = n.natAbs := by
  rcases h with rfl | rfl <;> omega
theorem Sgn.wide {z n : Int} (h : Sgn z) (hn : n.natAbs < 2 ^ 300) : CMulW z n := wide_mul (a := 2) (b := 300) (by rcases h with rfl | rfl <;> decide) hn (by decide) (by decide) (by decide)
def spNumber (K : PySem.W.Frag) : Sp := fun vs H Q _ => ∃ (p dl : Addr), vs = [.ref p] ∧ BoxAt H p dl ∧ ∀ (n : Int) H', n.natAbs < 2 ^ 260 → BoxAt H' p dl → Keep p H H' → Q (.int n) H'
def spSame (K : PySem.W.Frag) : Sp := fun vs H Q _ => ∃ (x y : V) (d : PyData), vs = [x, y] ∧ Dp K H x d ∧ Dp K H y d ∧ ShowOk d ∧ Q (.bl true) H
theorem Same.keep {p : Addr} {H H' : Hp} (e : Same H H') : Keep p H H' := fun b o h _ => e b o h
theorem BoxAt.same {p dl : Addr} {H H' : Hp} (h : BoxAt H p dl) (e : Same H H') : BoxAt H' p dl := by
  obtain ⟨ds, k, a, b, c, d⟩ := h
  exact ⟨ds, k, e _ _ a, b, e _ _ c, d⟩
theorem BoxAt.upd {p dl l : Addr} {H : Hp} {o : HO} (h : BoxAt H p dl) (h1 : l ≠ p) (h2 : l ≠ dl) : BoxAt (L2.upd H l o) p dl := by
  obtain ⟨ds, k, a, b, c, d⟩ := h
  exact ⟨ds, k, by rw [upd_ne (Ne.symm h1)]; exact a, b, by rw [upd_ne (Ne.symm h2)]; exact c, d⟩
theorem strOk (s : Str) (h : s.cps.toList.all (fun c => decide (c < 16 ^ 8)) = true) : ∀ c ∈ s.cps.toList, c < 16 ^ 8 := fun c hc => of_decide_eq_true (List.all_eq_true.mp h c hc)

/-! ### data without lists: what no change of a list can reach -/
mutual
inductive Dt (K : PySem.W.Frag) (H : Hp) : V → PyData → Prop
  | non : Dt K H .non .none
  | bl (b : Bool) : Dt K H (.bl b) (.bool b)
  | int (i : Int) : Dt K H (.int i) (.int i)
  | str (x : Str) : Dt K H (.str x) (.str x)
  | tup {a : Addr} {xs : List V} {ds : List PyData} : SqT K H a xs → DtAll K H xs ds → Dt K H (.ref a) (.tuple ds)
inductive DtAll (K : PySem.W.Frag) (H : Hp) : List V → List PyData → Prop
  | nil : DtAll K H [] []
  | cons {v : V} {vs : List V} {d : PyData} {ds : List PyData} : Dt K H v d → DtAll K H vs ds → DtAll K H (v :: vs) (d :: ds)
end
mutual
theorem Dt.dp {K : PySem.W.Frag} {H : Hp} : ∀ {v : V} {d : PyData}, Dt K H v d → Dp K H v d
  | _, _, .non => .non
  | _, _, .bl b => .bl b
  | _, _, .int i => .int i
  | _, _, .str x => .str x
  | _, _, .tup h a => .tup h (DtAll.dp a)
theorem DtAll.dp {K : PySem.W.Frag} {H : Hp} : ∀ {vs : List V} {ds : List PyData}, DtAll K H vs ds → DpAll K H vs ds
  | _, _, .nil => .nil
  | _, _, .cons h a => .cons (Dt.dp h) (DtAll.dp a)
end
/-- every tuple that H reads H' reads as well -/
def KeepT (K : PySem.W.Frag) (H H' : Hp) : Prop := ∀ a xs, SqT K H a xs → SqT K H' a xs
mutual
theorem Dt.keepT {K : PySem.W.Frag} {H H' : Hp} (e : KeepT K H H') : ∀ {v : V} {d : PyData}, Dt K H v d → Dt K H' v d
  | _, _, .non => .non
  | _, _, .bl b => .bl b
  | _, _, .int i => .int i
  | _, _, .str x => .str x
  | _, _, .tup h a => .tup (e _ _ h) (DtAll.keepT e a)
theorem DtAll.keepT {K : PySem.W.Frag} {H H' : Hp} (e : KeepT K H H') : ∀ {vs : List V} {ds : List PyData}, DtAll K H vs ds → DtAll K H' vs ds
  | _, _, .nil => .nil
  | _, _, .cons h a => .cons (Dt.keepT e h) (DtAll.keepT e a)
end
theorem KeepT.refl (K : PySem.W.Frag) (H : Hp) : KeepT K H H := fun _ _ h => h
theorem KeepT.trans {K : PySem.W.Frag} {H H1 H2 : Hp} (a : KeepT K H H1) (b : KeepT K H1 H2) : KeepT K H H2 := fun c xs h => b c xs (a c xs h)
theorem Same.keepT {K : PySem.W.Frag} {H H' : Hp} (e : Same H H') : KeepT K H H' := fun _ _ h => Same.tupl e h
theorem Keep.keepT {K : PySem.W.Frag} {p : Addr} {H H' : Hp} (e : Keep p H H') (hp : ∃ xs, H p = some (.lst xs)) : KeepT K H H' := fun a xs h => by
  obtain ⟨ys, hp⟩ := hp
  rcases h with (h | ⟨o, h⟩) | h
  · exact .inl (.inl (e _ _ h (ne_of h hp (by intro z; cases z))))
  · exact .inl (.inr ⟨o, e _ _ h (ne_of h hp (by intro z; cases z))⟩)
  · exact .inr h
theorem KeepT.upd {K : PySem.W.Frag} {p : Addr} {H : Hp} {o : HO} {xs : List V} (hp : H p = some (.lst xs)) : KeepT K H (upd H p o) :=
  Keep.keepT (p := p) (fun b u e hb => by rw [upd_ne hb]; exact e) ⟨xs, hp⟩
theorem Dt.mono {K : PySem.W.Frag} {H H' : Hp} {v : V} {d : PyData} (e : Same H H') (h : Dt K H v d) : Dt K H' v d := h.keepT (Same.keepT e)
theorem DtAll.mono {K : PySem.W.Frag} {H H' : Hp} {v : List V} {d : List PyData} (e : Same H H') (h : DtAll K H v d) : DtAll K H' v d := h.keepT (Same.keepT e)
theorem Dt.made {K : PySem.W.Frag} {H : Hp} {p : Addr} {xs : List V} {ds : List PyData} (hp : H p = none) (h : DtAll K H xs ds) : Dt K (L2.upd H p (.tup xs)) (.ref p) (.tuple ds) := .tup (SqT.of upd_same) (DtAll.mono (Same.new hp) h)
theorem DtAll.length {K : PySem.W.Frag} {H : Hp} {vs : List V} {ds : List PyData} (h : DtAll K H vs ds) : vs.length = ds.length := LK.DpAll.length h.dp
theorem DtAll.app {K : PySem.W.Frag} {H : Hp} : ∀ {vs ws : List V} {ds es : List PyData}, DtAll K H vs ds → DtAll K H ws es → DtAll K H (vs ++ ws) (ds ++ es)
  | _, _, _, _, .nil, t => t
  | _, _, _, _, .cons h a, t => .cons h (DtAll.app a t)
theorem DtAll.get {K : PySem.W.Frag} {H : Hp} : ∀ {vs : List V} {ds : List PyData} {i : Nat} {d : PyData}, DtAll K H vs ds → ds[i]? = some d → ∃ v, vs[i]? = some v ∧ Dt K H v d
  | _, _, 0, _, .cons h _, e => ⟨_, rfl, Option.some.inj e ▸ h⟩
  | _, _, i + 1, _, .cons _ a, e => DtAll.get (i := i) a e
theorem DtAll.getV {K : PySem.W.Frag} {H : Hp} : ∀ {vs : List V} {ds : List PyData} {i : Nat} {v : V}, DtAll K H vs ds → vs[i]? = some v → ∃ d, ds[i]? = some d ∧ Dt K H v d
  | _, _, 0, _, .cons h _, e => ⟨_, rfl, Option.some.inj e ▸ h⟩
  | _, _, i + 1, _, .cons _ a, e => DtAll.getV (i := i) a e
theorem Dt.tuple_inv {K : PySem.W.Frag} {H : Hp} {v : V} {ds : List PyData} (h : Dt K H v (.tuple ds)) : ∃ a xs, v = .ref a ∧ SqT K H a xs ∧ DtAll K H xs ds := by
  cases h with
  | tup h a => exact ⟨_, _, rfl, h, a⟩
theorem DtAll.cons_inv {K : PySem.W.Frag} {H : Hp} {vs : List V} {d : PyData} {ds : List PyData} (h : DtAll K H vs (d :: ds)) : ∃ v ws, vs = v :: ws ∧ Dt K H v d ∧ DtAll K H ws ds := by
  cases h with
  | cons h a => exact ⟨_, _, rfl, h, a⟩
theorem DtAll.nil_inv {K : PySem.W.Frag} {H : Hp} {vs : List V} (h : DtAll K H vs []) : vs = [] := by cases h; rfl
theorem Dt.int_inv {K : PySem.W.Frag} {H : Hp} {v : V} {i : Int} (h : Dt K H v (.int i)) : v = .int i := by cases h; rfl
theorem Dt.str_inv {K : PySem.W.Frag} {H : Hp} {v : V} {x : Str} (h : Dt K H v (.str x)) : v = .str x := by cases h; rfl
theorem Dt.bool_inv {K : PySem.W.Frag} {H : Hp} {v : V} {b : Bool} (h : Dt K H v (.bool b)) : v = .bl b := by cases h; rfl
theorem dtStrs {K : PySem.W.Frag} {H : Hp} : ∀ xs : List Str, DtAll K H (xs.map V.str) (xs.map PyData.str)
  | [] => .nil
  | x :: xs => .cons (.str x) (dtStrs xs)
end LK

set_option Elab.async false
set_option linter.all false
set_option maxRecDepth 100000
set_option maxHeartbeats 4000000
/-! enumerate of a tuple. -/
namespace LK
open PySem PySem.Spec PyProof.Rows L2
open AutoSeq1 (wpAny_loadPart')
open Sem (wp)
def enumObj (it : Addr) : Obj := { cls := .type "enumerate", data := .fields #[.none, .bool false, .ref it, rawInt 0, .none, .none] }
def tupIt (t : Addr) : Obj := { cls := .type "tuple_iterator", data := .fields #[.ref t, .int 0 0] }
theorem meets_enumT (t : Addr) (items : Array Value) (n : Nat) (dct : Option Addr) (sl : Array (Option Value)) :
    Meets (Builtin.«enumerate.__new__» ⟨[.type "enumerate", .ref t], []⟩) (fun _ R s => s.heap.get? t = some { cls := .type "tuple", dict := dct, data := .seq items n, slots := sl } ∧
      R (.ok (.ret (.ref (s.heap.push (tupIt t)).objs.size))) { s with heap := (s.heap.push (tupIt t)).push (enumObj s.heap.objs.size) }) :=
  .of_wp fun prog w A R s h => by
    obtain ⟨hp, g, d, tk, os⟩ := s
    obtain ⟨hl, h⟩ := h
    have hsub := sub_enumerate
    have hT : Heap.IsTuple (Shared.heap ⟨hp, g, d, tk, os⟩) t items := ⟨_, hl, rfl, n, rfl⟩
    wp_walk using wpAny_loadPart' hl
    refine wpAny_stack_any fun st => wpAny_pure ?_
    split
    · rename_i c _ _ _ _ _
      cases (c == Value.type "enumerate") <;> (wp_walk using wpAny_loadPart' hl, wpAny_pyIter_tuple hT; exact ⟨_, rfl, h⟩)
    · wp_walk using wpAny_loadPart' hl, wpAny_pyIter_tuple hT
      exact ⟨_, rfl, h⟩
section
variable {prog : Program} {w : World} {A : Around} {E : Value → Shared → Prop} {s : Shared}
theorem call_enumT {t : Addr} {items : Array Value} {Q : Value → Shared → Prop} (hT : s.heap.IsTuple t items)
    (h : ∀ h', IsEnum h' (s.heap.objs.size + 1) s.heap.objs.size 0 .none → h'.IsTupleIter s.heap.objs.size t 0 → (∀ b o, s.heap.get? b = some o → h'.get? b = some o) → Q (.ref (s.heap.objs.size + 1)) { s with heap := h' }) :
    wpAny (model prog w) A (call (.type "enumerate") [.ref t]) Q E s := by
  obtain ⟨⟨c, dct, dt, sl⟩, hl, hc, n, hd⟩ := hT
  obtain rfl : c = .type "tuple" := hc
  obtain rfl : dt = .seq items n := hd
  refine callType_new F.called_enumerate (by decide) (F.typeCall_enumerate_1 _) (F.newCall_enumerate_1 _) (fun obj => F.args_object_init_2 obj _) F.entry_enumerate_new (meets_enumT t items n dct sl) ⟨hl, ?_⟩
  have hz : (s.heap.push (tupIt t)).objs.size = s.heap.objs.size + 1 := Heap.size_push ..
  have he : IsEnum ((s.heap.push (tupIt t)).push (enumObj s.heap.objs.size)) (s.heap.objs.size + 1) s.heap.objs.size 0 .none := by
    have q := Heap.get?_push_size (s.heap.push (tupIt t)) (o := enumObj s.heap.objs.size) rfl
    rw [hz] at q
    exact q
  show _ ∧ _
  rw [hz]
  exact ⟨⟨_, he, rfl⟩, h _ he (Heap.get?_push_of_some _ (Heap.get?_push_size _ rfl) |> fun q => ⟨_, q, rfl, rfl⟩) fun b o x => Heap.get?_push_of_some _ (Heap.get?_push_of_some _ x)⟩
end
/-- the tuple at a, each item in a new pair with its place -/
def IteT (K : PySem.W.Frag) (a : Addr) : It where
  go := fun i H => ∃ (xs : List V) (x : V), SqT K H a xs ∧ xs[i]? = some x
  yld := fun i H v H' => ∃ T x, v = .ref T ∧ H T = none ∧ H' = upd H T (.tup [.int (i : Nat), x]) ∧ ∀ xs, SqT K H a xs → xs[i]? = some x
  stop := fun i H => ∃ xs : List V, SqT K H a xs ∧ xs.length = i
theorem turn_enumT {P : Program} {w : World} {K : PySem.W.Frag} {elts : List Expr} {kk : Nat} {tpos : Pos} (a e it : Addr) :
    Turn P w K (.Tuple elts kk tpos) (IteT K a) [e, it] e (fun i h => (∃ old, IsEnum h e it ((i : Nat) : Int) old) ∧ h.IsTupleIter it a i ∧ e ≠ it) where
  mem := List.mem_cons_self
  obj := fun i h st b hb => by
    obtain ⟨⟨old, he⟩, ⟨o, ho, hc, hd⟩, _⟩ := st
    have hb : b = e ∨ b = it := by simpa using hb
    rcases hb with rfl | rfl
    · exact ⟨_, he, fun v q => nomatch q⟩
    · exact ⟨o, ho, fun v q => by rw [hd] at q; cases q⟩
  keep := fun i h h' st k => by
    obtain ⟨⟨old, he⟩, hi, hne⟩ := st
    exact ⟨⟨old, k e (by simp) _ he⟩, hi.at fun o q => k it (by simp) o q, hne⟩
  item := by
    intro X hP hw hK hc i pins s σ H E I hf st hg
    subst hP hw hK
    obtain ⟨⟨old, he⟩, hit, hne⟩ := st
    obtain ⟨xs, x, hq, hx⟩ := hg
    obtain ⟨its, rv, p, hz⟩ := I.tuple hq
    obtain ⟨u, hu, ru⟩ := rv.get hx
    have hel : e < s.heap.objs.size := Heap.lt_size he
    have hil : it < s.heap.objs.size := by obtain ⟨_, q, _⟩ := hit; exact Heap.lt_size q
    have hat : a ≠ it := by
      intro z
      subst z
      obtain ⟨o, q1, c1, _⟩ := hit
      obtain ⟨o', q2, c2, _⟩ := p
      rw [q1] at q2; cases q2
      exact absurd (Value.type.inj (c1.symm.trans c2)) (by decide)
    have D := Draws.tuple (prog := X.prog) (w := X.w) (A := X.A.in1) (I.ok.hd hc) it a hat its.toArray
    have Dst : (fun i (h : Heap) => h.IsTupleIter it a i ∧ h.IsTuple a its.toArray) i s.heap := ⟨hit, p⟩
    have eat : e ≠ a := by
      intro z
      subst z
      obtain ⟨o', q2, c2, _⟩ := p
      rw [he] at q2; cases q2
      exact absurd (Value.type.inj c2) (by decide)
    have hi : i < its.toArray.size := by
      have := (List.getElem?_eq_some_iff.mp hu).1
      simpa using this
    refine wpAny_pyNext_enum_itemD D he Dst hi hne (by simp [hne, eat]) fun v h' tk hv ho hst hT hsz hk => ?_
    obtain rfl : v = u := by
      have hv : its.toArray[i]? = some v := hv
      rw [show its.toArray[i]? = some u by simpa using hu] at hv
      exact (Option.some.inj hv).symm
    refine ⟨_, rfl, wpAny_letOwnedTupleGo_enum (s := { s with heap := h', toks := tk + 1 }) ho fun h'' he' sb => ?_⟩
    have hT2 := (sb.2 _ (Nat.ne_of_gt hel)).trans hT
    have new : ObjOk X.prog X.w (upd H s.heap.objs.size (.tup [.int (i : Nat), x])) h'' s.heap.objs.size (.tup [.int (i : Nat), x]) :=
      ⟨by show 2 ≤ sizeLine; decide, [.int i tk, v], .cons ⟨_, rfl⟩ (.cons ru .nil), ⟨_, hT2, rfl, _, rfl⟩⟩
    have I1 : Inv X pins σ (upd H s.heap.objs.size (.tup [.int (i : Nat), x])) { s with heap := h'', toks := tk + 1 } :=
      I.turnedNew (ch := [e, it]) (fun b ob hb q => (sb.2 b (fun z => hb (by simp [z]))).trans (hk b ob (fun z => hb (by simp [z])) (fun z => hb (by simp [z])) q)) hf (Nat.le_refl _) new
    refine ⟨.ref s.heap.objs.size, _, I1, rfl, ⟨_, x, rfl, I.hok.fresh (Nat.le_refl _), rfl, fun ys hy => by rw [I.tuple_inj hy hq]; exact hx⟩, ⟨⟨v, ?_⟩, hst.1.at fun o q => (sb.2 it (Ne.symm hne)).trans q, hne⟩, fun b hb => ?_⟩
    · rw [show ((i + 1 : Nat) : Int) = (i : Int) + 1 by omega]
      exact he'
    · have hb' : b < s.heap.objs.size := by
        have z : b = e ∨ b = it := by simpa using hb
        rcases z with rfl | rfl <;> assumption
      rw [upd_ne (Nat.ne_of_lt hb')]
      exact (hf b hb).1
  done := by
    intro X hP hw hK hc i pins s σ H E I hf st hg
    subst hP hw hK
    obtain ⟨⟨old, he⟩, hit, hne⟩ := st
    obtain ⟨xs, hq, hx⟩ := hg
    obtain ⟨its, rv, p, hz⟩ := I.tuple hq
    obtain ⟨f0, f1, f2, f3, f4, f5⟩ := hf it (by simp)
    have hl := rv.length
    have hat : a ≠ it := by
      intro z
      subst z
      obtain ⟨o, q1, c1, _⟩ := hit
      obtain ⟨o', q2, c2, _⟩ := p
      rw [q1] at q2; cases q2
      exact absurd (Value.type.inj (c1.symm.trans c2)) (by decide)
    have D := Draws.tuple (prog := X.prog) (w := X.w) (A := X.A.in1) (I.ok.hd hc) it a hat its.toArray
    have hn : i = its.toArray.size := by simp; omega
    subst hn
    exact wpAny_pyNext_enum_endD D he ⟨hit, p⟩ fun h' eb => ⟨rfl, I.turned (t' := s.toks) (fun b o hb q => eb b o hb q) f0 f1 f3 f4 f5⟩
  self := fun A i s Q E st h => let ⟨⟨_, he⟩, _⟩ := st; wpAny_pyIter_enum he h
def iEnumT (K : PySem.W.Frag) (ta : TA) : TI := fun σ H R => ta σ H fun vs H1 => ∃ a xs, vs = [.ref a] ∧ SqT K H1 a xs ∧ R (IteT K a) H1
theorem pi_enumT {X : Cx} {e : Expr} {ta : TA} {p pos tpos : Pos} {elts : List Expr} {kk : Nat} (hg : Gl X "enumerate") (hm : X.mg "enumerate" = none) (ha : PA X [e] ta) (hs : starEach [e] X.env = [(false, eval e X.env)] := by rfl) :
    PI X (.Tuple elts kk tpos) (.Call (.Name "enumerate" p) [e] [] pos) (iEnumT X.K ta) := by
  refine ⟨fun pins s σ H R I h => ?_⟩
  refine Call_ (ld_blt I hg hm boot_enumerate (PyProof.Rows.callWith_type1 (thn (ha.run pos pins s σ H _ I h) fun us s1 ⟨vs, H1, I1, r1, q1⟩ => ?_) hs rfl))
  obtain ⟨a, xs, rfl, hq, q⟩ := q1
  cases r1 with
  | cons r rr =>
    cases rr
    cases r
    obtain ⟨its, rv, p', hz⟩ := I1.tuple hq
    refine call_enumT (show s1.heap.IsTuple a its.toArray from p') fun h' he hit hk => wpAny_pyIter_enum he ?_
    refine ⟨s1.heap.objs.size + 1, [s1.heap.objs.size + 1, s1.heap.objs.size], _, _, H1, rfl, I1.kept (t' := s1.toks) hk, turn_enumT a (s1.heap.objs.size + 1) s1.heap.objs.size, ⟨⟨.none, he⟩, hit, Nat.succ_ne_self _⟩, fun b hb => ?_, q⟩
    have hle : s1.heap.objs.size ≤ b := by
      have z : b = s1.heap.objs.size + 1 ∨ b = s1.heap.objs.size := by simpa using hb
      rcases z with rfl | rfl <;> omega
    exact I1.fpOk hle (I1.hok.fresh hle)
theorem walk_enumT {K : PySem.W.Frag} {a : Addr} {xs : List V} : Walk (IteT K a) xs.length (fun H => SqT K H a xs) (YPair (fun i => some (.int (i : Nat))) (fun i => xs[i]?)) := by
  refine ⟨fun i _ hi q => ⟨xs, xs[i], q, by simp [hi]⟩, fun _ q => ⟨xs, q, rfl⟩, fun i H v H' _ q y => ?_⟩
  obtain ⟨T, x, h1, h2, h3, h4⟩ := y
  exact ⟨T, .int (i : Nat), x, h1, h2, h3, rfl, h4 xs q⟩

/-! ### comprehensions whose items are data -/
theorem tYes_of {σ : L2.St} {H : Hp} {P R : Hp → Prop} (h : P H) : tYes σ H fun b H3 => if b = true then P H3 else R H3 := by
  show (if true = true then P H else R H)
  rw [if_pos rfl]
  exact h
/-- each turn gives data and leaves what stood; no test -/
theorem lc_dt {K : PySem.W.Frag} {J : It} {n : Nat} {G : Hp → Prop} {Y : Nat → Hp → V → Hp → Prop} (w : Walk J n G Y) {g : TG} {te : TE} {vs : List Nat} {σ : L2.St} {H : Hp} {D : Addr} {Qd : Hp → Prop} (hD : H D = none) (ds : List PyData) (hn : ds.length = n) (hz : n < sizeLine)
    (hG : ∀ H', Same H H' → G H')
    (hs : ∀ i x H1 H2 d (Nx : V → Hp → Prop), i < n → ds[i]? = some d → Same H H1 → (∃ acc, H1 D = some (.lst acc)) → Y i H1 x H2 → (∀ y H5, Same H1 H5 → Dt K H5 y d → Nx y H5) →
      g x (wipe σ vs) H2 fun σ2 H3 => wipe σ2 vs = wipe σ vs ∧ te σ2 H3 Nx)
    (hd : ∀ H' acc, Same H H' → H' D = some (.lst acc) → DtAll K H' acc ds → Qd H')
    (mono : ∀ x σ H Q Q', (∀ σ' H', Q σ' H' → Q' σ' H') → g x σ H Q → g x σ H Q') :
    ∃ W : Nat → Nat → Hp → Prop, (∃ m, W 0 m (upd H D (.lst []))) ∧ ∀ i m H, W i m H →
      (J.stop i H ∧ Qd H) ∨ (J.go i H ∧ ∃ Nx : Hp → Prop, (∀ H', Nx H' → ∃ m', m' < m ∧ W (i + 1) m' H') ∧ ∀ x H', J.yld i H x H' → g x (wipe σ vs) H' fun σ2 H2 => wipe σ2 vs = wipe σ vs ∧ tYes σ2 H2 fun b H3 =>
        if b = true then te σ2 H3 fun y H4 => ∃ acc, H4 D = some (.lst acc) ∧ acc.length < sizeLine ∧ Nx (upd H4 D (.lst (acc ++ [y]))) else Nx H3) := by
  refine lc_it w (fun i H' => ∃ acc, H' D = some (.lst acc) ∧ DtAll K H' acc (ds.take i) ∧ Same H H') ⟨[], upd_same, .nil, Same.new hD⟩ (fun i H' _ h => let ⟨_, _, _, s⟩ := h; hG H' s) (fun i x H1 H2 hi h y => ?_) fun H' h => ?_
  · obtain ⟨acc, a1, a2, a3⟩ := h
    have hi' : i < ds.length := by omega
    have hg := hs i x H1 H2 ds[i] (fun y H4 => ∃ acc, H4 D = some (.lst acc) ∧ acc.length < sizeLine ∧ ∃ acc', upd H4 D (.lst (acc ++ [y])) D = some (.lst acc') ∧ DtAll K (upd H4 D (.lst (acc ++ [y]))) acc' (ds.take (i + 1)) ∧ Same H (upd H4 D (.lst (acc ++ [y]))))
      hi (List.getElem?_eq_getElem hi') a3 ⟨acc, a1⟩ y fun y H5 s hy => ?_
    · exact mono _ _ _ _ _ (fun σ2 H3 q => ⟨q.1, tYes_of q.2⟩) hg
    · have b1 := s _ _ a1
      have kt : KeepT K H5 (upd H5 D (.lst (acc ++ [y]))) := KeepT.upd b1
      refine ⟨acc, b1, ?_, _, upd_same, ?_, fun b o e => ?_⟩
      · rw [a2.length, List.length_take]; omega
      · rw [List.take_succ, List.getElem?_eq_getElem hi']
        exact DtAll.app (DtAll.keepT (KeepT.trans (Same.keepT s) kt) a2) (.cons (Dt.keepT kt hy) .nil)
      · rw [upd_ne (ne_of_none e hD)]
        exact s _ _ (a3 _ _ e)
  · obtain ⟨acc, a1, a2, a3⟩ := h
    rw [← hn, List.take_length] at a2
    exact hd H' acc a3 a1 a2
theorem mono_name {i : Nat} : ∀ x (σ : L2.St) (H : Hp) (Q Q' : L2.St → Hp → Prop), (∀ σ' H', Q σ' H' → Q' σ' H') → gName i x σ H Q → gName i x σ H Q' := fun _ _ _ _ _ h q => h _ _ q
theorem mono_tup2 {K : PySem.W.Frag} {i j n : Nat} : ∀ x (σ : L2.St) (H : Hp) (Q Q' : L2.St → Hp → Prop), (∀ σ' H', Q σ' H' → Q' σ' H') → gTup K n (gCons (gName i) (gCons (gName j) gNil)) x σ H Q → gTup K n (gCons (gName i) (gCons (gName j) gNil)) x σ H Q' := by
  rintro x σ H Q Q' h ⟨a, xs, e1, e2, e3, v, r, e4, v', r', e5, e6, q⟩
  exact ⟨a, xs, e1, e2, e3, v, r, e4, v', r', e5, e6, h _ _ q⟩
end LK

set_option Elab.async false
set_option linter.all false
set_option maxRecDepth 100000
set_option maxHeartbeats 4000000
set_option exponentiation.threshold 3000
/-! More rules: text * int, two rules at one place, what == says of data. -/
namespace LK
open PySem PySem.Spec PyProof.Rows L2
theorem at_of' {α : Type} {xs : List α} {z : Int} {j : Nat} {v : α} (e : z = (j : Int)) (h : xs[j]? = some v) : atI xs z = some v := by
  rw [e]
  exact atI_nat h
/-- z repeated k times, by its codes -/
def repC (z : List Nat) (k : Int) : List Nat := (List.replicate k.toNat z).flatten
def repS (z : Str) (k : Int) : Str := ⟨(repC z.cps.toList k).toArray⟩
theorem repC_length (z : List Nat) (k : Int) : (repC z k).length = k.toNat * z.length := by simp [repC]
theorem foldl_arr (z : Array Nat) : ∀ (n : Nat) (acc : Array Nat), (List.replicate n z).foldl (· ++ ·) acc = acc ++ (List.replicate n z.toList).flatten.toArray
  | 0, acc => by simp
  | n + 1, acc => by
    rw [List.replicate_succ, List.foldl_cons, foldl_arr z n, List.replicate_succ, List.flatten_cons]
    apply Array.ext'
    simp
def rRepS : R2 := fun x y H Q => ∃ (z : Str) (k : Int), x = .str z ∧ y = .int k ∧ -1000000000000 ≤ k ∧ k < 1000000000000 ∧ z.length * k.toNat ≤ 1000000 ∧ Q (.str (repS z k)) H
theorem repS_arr (z : Str) (k : Int) : (⟨(List.replicate k.toNat z.cps).foldl (· ++ ·) #[]⟩ : Str) = repS z k := by
  rw [foldl_arr]
  simp [repS, repC]
theorem op_rep_str {X : Cx} : OpR X (binaryOp .Mult) rRepS := by
  intro pins s σ H x y v u Q I rx ry h
  obtain ⟨z, k, rfl, rfl, h1, h2, h3, q⟩ := h
  obtain ⟨t, rfl⟩ := rx
  obtain ⟨t', rfl⟩ := ry
  have szl : (1000000 : Nat) ≤ sizeLine := by decide
  have e1 : ¬ k < 1 → k = (k.toNat : Int) := fun h => by omega
  refine PySem.P.mul_str ?_ (fun hk hz => ?_) (fun hk hz => ?_) ?_
  · rw [decide_eq_false (by omega), decide_eq_false (by omega)]; rfl
  · have e0 : z.length ≠ 0 := fun e => by rw [e] at hz; simp at hz
    have hd : (9223372036854775807 : Int) / k ≥ 1000000 := by
      apply Int.le_ediv_of_mul_le (by omega)
      have hlen : k.toNat ≤ 1000000 := Nat.le_trans (Nat.le_mul_of_pos_left _ (by omega)) h3
      omega
    have hl : z.length ≤ 1000000 := Nat.le_trans (Nat.le_mul_of_pos_right _ (by omega)) h3
    show ¬ ((z.length : Int) > 9223372036854775807 / k)
    omega
  · unfold Builtin.Str.tooLong
    simp
    omega
  · split
    · rename_i hk
      have e : repS z k = Str.empty := by
        have : k.toNat = 0 := by omega
        simp [repS, repC, this]; rfl
      refine ⟨by decide, .str _, H, I.tok _, ⟨_, rfl⟩, ?_⟩
      rw [← e]; exact q
    · rename_i hk
      split
      · rename_i hz
        have e : repS z k = z := by
          rcases Bool.or_eq_true_iff.mp hz with h | h
          · have : k = 1 := by simpa using h
            subst this
            simp [repS, repC]
          · have : z.cps.toList = [] := by
              have : z.cps.size = 0 := by simpa [Str.length] using h
              exact List.eq_nil_of_length_eq_zero (by simpa using this)
            have e2 : (List.replicate k.toNat ([] : List Nat)).flatten = [] := by simp
            unfold repS repC
            rw [this, e2]
            cases z with
            | mk c =>
              have : c = #[] := Array.toList_inj.mp (by simpa using this)
              subst this; rfl
        refine ⟨.str _, H, I, ⟨t, rfl⟩, ?_⟩
        rw [← e]; exact q
      · rw [repS_arr]
        refine ⟨?_, .str _, H, I.tok _, ⟨_, rfl⟩, q⟩
        show (repC z.cps.toList k).toArray.size ≤ sizeLine
        rw [List.size_toArray, repC_length]
        have : z.cps.toList.length = z.length := by simp [Str.length]
        rw [this, Nat.mul_comm]; omega
/-! ### the objects at the beginning -/
def clsNames : List Str := ["Exception", "ArithmeticError", "ZeroDivisionError", "OverflowError", "LookupError", "IndexError", "KeyError", "NameError", "AttributeError", "TypeError", "ValueError", "StopIteration", "RuntimeError", "RecursionError", "MemoryError", "HostError"]
def clsBases : List Int := [-1, 1, 2, 2, 1, 5, 5, 1, 1, 1, 1, 1, 1, 13, 1, 1]
def builtNames : List Str := ["print", "len", "range", "repr", "str", "int", "list", "tuple", "dict", "iter", "next", "isinstance", "abs"]
def clsVar (i : Nat) (n : Str) : PyData := .tuple [.str n, .tuple [.str "ref", .int ((i : Int) + 1)]]
def nameVar (k n : Str) : PyData := .tuple [.str n, .tuple [.str k, .str n]]
def clsObj (n : Str) (b : Int) : PyData := .tuple [.str "class", .str n, .int b, .tuple []]
def clsVars : List PyData := clsNames.mapIdx clsVar
def startVars (hs : List Str) : List PyData := clsVars ++ builtNames.map (nameVar "built") ++ hs.map (nameVar "host")
def startD (hs : List Str) : List PyData := .tuple [.str "scope", .tuple (startVars hs), .tuple [], .tuple [], .int (-1), .bool false] :: List.zipWith clsObj clsNames clsBases
/-- a list at p, of the data ds -/
def ListAt (K : PySem.W.Frag) (H : Hp) (p : Addr) (ds : List PyData) : Prop := ∃ xs, H p = some (.lst xs) ∧ DtAll K H xs ds
def spStart (K : PySem.W.Frag) : Sp := fun vs H Q _ => ∃ (t : Addr) (hs : List Str), vs = [.ref t] ∧ SqT K H t (hs.map V.str) ∧ hs.length ≤ 1000 ∧
  ∀ (p : Addr) (H' : Hp), H p = none → Same H H' → ListAt K H' p (startD hs) → Q (.ref p) H'
theorem at0 {α : Type} {x : α} {ws : List α} : atI (x :: ws) 0 = some x := at_of' (j := 0) rfl rfl
theorem at1 {α : Type} {x y : α} {ws : List α} : atI (x :: y :: ws) 1 = some y := at_of' (j := 1) rfl rfl
theorem at2 {α : Type} {x y z : α} {ws : List α} : atI (x :: y :: z :: ws) 2 = some z := at_of' (j := 2) rfl rfl
/-- a written pair, triple as it is read -/
theorem Dt.head {K : PySem.W.Frag} {H : Hp} {v : V} {z : Str} {rest : List PyData} (h : Dt K H v (.tuple (.str z :: rest))) : ∃ a ws, v = .ref a ∧ SqT K H a (.str z :: ws) ∧ DtAll K H ws rest := by
  obtain ⟨q, xs, rfl, hs, ha⟩ := h.tuple_inv
  obtain ⟨x, ws, rfl, h1, hw⟩ := ha.cons_inv
  cases h1.str_inv
  exact ⟨q, ws, rfl, hs, hw⟩
theorem Dt.pair {K : PySem.W.Frag} {H : Hp} {v : V} {z : Str} {d : PyData} (h : Dt K H v (.tuple [.str z, d])) : ∃ a x, v = .ref a ∧ SqT K H a [.str z, x] ∧ Dt K H x d := by
  obtain ⟨a, ws, rfl, hs, hw⟩ := h.head
  obtain ⟨x, ws', rfl, h1, hn⟩ := hw.cons_inv
  cases hn.nil_inv
  exact ⟨a, x, rfl, hs, h1⟩
theorem Dt.triple {K : PySem.W.Frag} {H : Hp} {v : V} {z : Str} {d e : PyData} (h : Dt K H v (.tuple [.str z, d, e])) : ∃ a x y, v = .ref a ∧ SqT K H a [.str z, x, y] ∧ Dt K H x d ∧ Dt K H y e := by
  obtain ⟨a, ws, rfl, hs, hw⟩ := h.head
  obtain ⟨x, ws', rfl, h1, hn⟩ := hw.cons_inv
  obtain ⟨y, ws'', rfl, h2, hn2⟩ := hn.cons_inv
  cases hn2.nil_inv
  exact ⟨a, x, y, rfl, hs, h1, h2⟩
theorem listAt_mono {K : PySem.W.Frag} {H H' : Hp} {p : Addr} {ds : List PyData} (h : ListAt K H p ds) (e : Same H H') : ListAt K H' p ds := by
  obtain ⟨xs, hx, ax⟩ := h
  exact ⟨xs, e _ _ hx, DtAll.mono e ax⟩
theorem eqv_nil (ds : List PyData) : PyData.eqv (.tuple ds) (.tuple []) = ds.isEmpty := by
  cases ds <;> simp [PyData.eqv, PyData.eqvAll]
theorem listAt_upd {K : PySem.W.Frag} {H : Hp} {l l' : Addr} {ds : List PyData} {xs : List V} {o : HO} (h : ListAt K H l ds) (ne : l ≠ l') (hl : H l' = some (.lst xs)) : ListAt K (upd H l' o) l ds := by
  obtain ⟨ys, hy, ay⟩ := h
  exact ⟨ys, by rw [upd_ne ne]; exact hy, DtAll.keepT (KeepT.upd hl) ay⟩
theorem listAt_app {K : PySem.W.Frag} {H : Hp} {l : Addr} {ds : List PyData} {xs : List V} {v : V} {d : PyData} (h : ListAt K H l ds) (hl : H l = some (.lst xs)) (hd : Dt K H v d) : ListAt K (upd H l (.lst (xs ++ [v]))) l (ds ++ [d]) := by
  obtain ⟨ys, hy, ay⟩ := h
  rw [hl] at hy
  obtain rfl := HO.lst.inj (Option.some.inj hy)
  exact ⟨_, upd_same, DtAll.app (DtAll.keepT (KeepT.upd hl) ay) (.cons (Dt.keepT (KeepT.upd hl) hd) .nil)⟩
theorem listAt_keep {K : PySem.W.Frag} {H H' : Hp} {l p : Addr} {ds : List PyData} (h : ListAt K H l ds) (e : Keep p H H') (ne : l ≠ p) (hp : ∃ xs, H p = some (.lst xs)) : ListAt K H' l ds := by
  obtain ⟨ys, hy, ay⟩ := h
  exact ⟨ys, e _ _ hy ne, DtAll.keepT (Keep.keepT e hp) ay⟩
theorem listAt_made {K : PySem.W.Frag} {H : Hp} {l : Addr} {xs : List V} {ds : List PyData} (hl : H l = none) (h : DtAll K H xs ds) : ListAt K (upd H l (.lst xs)) l ds := ⟨xs, upd_same, DtAll.mono (Same.new hl) h⟩
/-! how long the objects at the beginning are, shown -/
def shortS (n : Str) : Bool := decide (n.length ≤ 40) && n.cps.toList.all (fun c => decide (c < 16 ^ 8))
theorem Sm.short {n : Str} (h : shortS n = true) : Sm (.str n) 0 500 := by
  obtain ⟨h1, h2⟩ := Bool.and_eq_true_iff.mp h
  exact (Sm.str (of_decide_eq_true h1) (strOk n h2)).mono (by decide) (by decide)
theorem cls_short : ∀ n ∈ clsNames, shortS n = true := by decide +kernel
theorem built_short : ∀ n ∈ builtNames, shortS n = true := by decide +kernel
theorem Sm.nm {k n : Str} (hk : shortS k = true) (hn : shortS n = true) : Sm (nameVar k n) 3 4000 :=
  (Sm.tup (.cons (Sm.short hn) (.cons (Sm.tup (.cons (Sm.short hk) (.cons (Sm.short hn) .nil))) .nil))).mono (by decide) (by decide)
theorem Sm.cv {i : Nat} {n : Str} (hi : i < 1000) (hn : shortS n = true) : Sm (clsVar i n) 3 4000 :=
  (Sm.tup (.cons (Sm.short hn) (.cons (Sm.tup (.cons (Sm.short (n := "ref") (by decide +kernel)) (.cons (Sm.int (Nat.lt_of_lt_of_le (show ((i : Int) + 1).natAbs < 2 ^ 20 by omega) (Nat.pow_le_pow_right (by decide) (by decide)))) .nil))) .nil))).mono (by decide) (by decide)
theorem Sm.co {b : Int} {n : Str} (hb : b.natAbs < 1000) (hn : shortS n = true) : Sm (clsObj n b) 3 4000 :=
  (Sm.tup (.cons (Sm.short (n := "class") (by decide +kernel)) (.cons (Sm.short hn) (.cons (Sm.int (Nat.lt_of_lt_of_le (show b.natAbs < 2 ^ 20 by omega) (Nat.pow_le_pow_right (by decide) (by decide)))) (.cons (Sm.tup .nil) .nil))))).mono (by decide) (by decide)
theorem SmAll.mem {ds : List PyData} {dp n N m M : Nat} (h : SmAll ds dp n N) (h1 : n ≤ m) (h2 : N ≤ M) : SmAll ds dp m M := ⟨h.ok, h.dp, Nat.le_trans h.len h1, Nat.le_trans h.sz h2⟩
theorem sm_vars {hs : List Str} {L : Nat} (h : ∀ n ∈ hs, shortS n = true) (hl : hs.length ≤ L) : SmAll (startVars hs) 3 (29 + L) (4000 * (29 + L)) := by
  have h1 : ∀ d ∈ startVars hs, Sm d 3 4000 := fun d hd => by
    rcases List.mem_append.mp hd with hd | hd
    · rcases List.mem_append.mp hd with hd | hd
      · obtain ⟨i, hi, rfl⟩ := List.mem_mapIdx.mp hd
        exact Sm.cv (Nat.lt_trans hi (by decide)) (cls_short _ (List.getElem_mem hi))
      · obtain ⟨n, hn, rfl⟩ := List.mem_map.mp hd
        exact Sm.nm (by decide +kernel) (built_short n hn)
    · obtain ⟨n, hn, rfl⟩ := List.mem_map.mp hd
      exact Sm.nm (by decide +kernel) (h n hn)
  have hlen : (startVars hs).length = 29 + hs.length := by
    simp only [startVars, List.length_append, List.length_map]
    have : clsVars.length = 16 := by decide
    have : builtNames.length = 13 := by decide
    omega
  exact (SmAll.many h1).mem (by omega) (by omega)
theorem sm_start {hs : List Str} {L : Nat} (h : ∀ n ∈ hs, shortS n = true) (hl : hs.length ≤ L) : ∀ d ∈ startD hs, Sm d 5 (5000 * (30 + L)) := fun d hd => by
  rcases List.mem_cons.mp hd with rfl | hd
  · exact (Sm.tup (.cons (Sm.short (n := "scope") (by decide +kernel)) (.cons (Sm.tup (sm_vars h hl)) (.cons (Sm.tup .nil) (.cons (Sm.tup .nil) (.cons (Sm.int (by decide)) (.cons (Sm.bool false) .nil))))))).mono (by decide) (by omega)
  · have : ∃ n b, d = clsObj n b ∧ n ∈ clsNames ∧ b.natAbs < 1000 := by
      have key : ∀ q ∈ List.zip clsNames clsBases, q.1 ∈ clsNames ∧ q.2.natAbs < 1000 := by decide +kernel
      rw [← List.map_uncurry_zip_eq_zipWith] at hd
      obtain ⟨q, hq, rfl⟩ := List.mem_map.mp hd
      exact ⟨q.1, q.2, rfl, key q hq⟩
    obtain ⟨n, b, rfl, hn, hb⟩ := this
    exact (Sm.co hb (cls_short n hn)).mono (by decide) (by omega)
theorem start_cls {hs : List Str} {k : Nat} (h1 : 1 ≤ k) (h2 : k ≤ 16) : ∃ rest, (startD hs)[k]? = some (.tuple (.str "class" :: rest)) := by
  obtain ⟨j, rfl⟩ : ∃ j, k = j + 1 := ⟨k - 1, by omega⟩
  have l1 : clsNames.length = 16 := by decide
  have l2 : clsBases.length = 16 := by decide
  refine ⟨[.str clsNames[j]!, .int clsBases[j]!, .tuple []], ?_⟩
  have e1 : clsNames[j]? = some clsNames[j]! := by rw [List.getElem!_eq_getElem?_getD]; rw [List.getElem?_eq_getElem (by omega)]; rfl
  have e2 : clsBases[j]? = some clsBases[j]! := by rw [List.getElem!_eq_getElem?_getD]; rw [List.getElem?_eq_getElem (by omega)]; rfl
  show (List.zipWith clsObj clsNames clsBases)[j]? = _
  rw [List.getElem?_zipWith, e1, e2]
  rfl
end LK

set_option Elab.async false
set_option linter.all false
set_option maxRecDepth 100000
set_option maxHeartbeats 4000000
set_option exponentiation.threshold 3000
/-! tuple * 1; rows: texts or tuples at one place; the type of what is read as a tuple; data equal to itself. -/
namespace LK
open PySem PySem.Spec PyProof.Rows L2
theorem tuple_mul1 (l : Addr) (items : Array Value) (n : Nat) (dd : Option Addr) (sl : Array (Option Value)) (u : Tok) :
    Meets (Builtin.«tuple.__mul__» ⟨[.ref l, .int 1 u], []⟩) (fun _ R s => s.heap.get? l = some { cls := .type "tuple", dict := dd, data := .seq items n, slots := sl } ∧ R (.ok (.ret (Value.ref l))) s) :=
  .of_wp fun prog w A R s h => by
    obtain ⟨hp, g, d, tk, os⟩ := s
    obtain ⟨hl, h⟩ := h
    have f1 := AutoSeq1.idx_int
    have c0 : (decide ((1 : Int) < -(2 ^ 63)) || decide ((1 : Int) ≥ 2 ^ 63)) = false := by decide
    have c1 : (items.isEmpty || (1 : Int) == 1) = true := by simp
    wp_walk using wpAny_loadPart' hl
    exact ⟨_, rfl, h⟩
/-- a tuple times an int from 1 to 1000 -/
def rRepTA (K : PySem.W.Frag) : R2 := fun x y H Q => ∃ l k xs, x = .ref l ∧ y = .int k ∧ SqT K H l xs ∧ xs ≠ [] ∧ 1 ≤ k ∧ k ≤ 1000 ∧ xs.length ≤ 1000 ∧ (k = 1 → Q (.ref l) H) ∧ (k ≠ 1 → ∀ p, H p = none → Q (.ref p) (upd H p (.tup (List.replicate k.toNat xs).flatten)))
section
variable {X : Cx}
theorem op_repTA : OpR X (binaryOp .Mult) (rRepTA X.K) := by
  intro pins s σ H x y v u Q I rx ry h
  obtain ⟨l, k, xs, rfl, rfl, hT, hne, h1, h2, hz, q1, q2⟩ := h
  by_cases hk : k = 1
  · subst hk
    cases rx
    obtain ⟨t, rfl⟩ := ry
    obtain ⟨its, r, ⟨⟨cls, dd, data, sl⟩, ho, hc, n, hd⟩, hs⟩ := I.tuple hT
    simp only at hc hd
    subst hc hd
    refine wpAny_binaryOp_repeat_ref (T := "tuple") (U := "int") (by decide) ⟨_, ho, rfl⟩ (fun s' => typeIs_int s' 1 t) noFill_tuple_mul F.fills_int_mul F.slot_int_rmul repeat_tuple F.slot_int_index.lookup
      (call_meets F.slot_int_rmul (typeIs_int s 1 t) F.entry_int_rmul (F.args_int_rmul_2 _ _) (int_rmul_tuple 1 t l its.toArray n dd sl)
        ⟨ho, rfl, ⟨_, ho, rfl⟩, call_meets F.slot_tuple_mul ⟨_, ho, rfl⟩ F.entry_tuple_mul (F.args_tuple_mul_2 _ _) (tuple_mul1 l its.toArray n dd sl t) ⟨ho, ?_⟩⟩)
    exact ⟨.ref l, H, I, rfl, q1 rfl⟩
  · exact op_repT pins s σ H _ _ v u Q I rx ry ⟨l, k, xs, rfl, rfl, hT, hne, by omega, h2, hz, q2 hk⟩
end
theorem SqT.tyX {K : PySem.W.Frag} {H : Hp} {a : Addr} {xs : List V} (h : SqT K H a xs) : TyX K H (.ref a) (.type "tuple") := by
  rcases h with (h | ⟨o, h⟩) | ⟨o, its, n, e, c, _⟩
  · exact .base (.tup h)
  · exact .fTuple h
  · exact .kTuple e c
/-! ### data equal to itself -/
mutual
theorem eqv_self : ∀ {d : PyData}, d.canLay0 = true → PyData.eqv d d = true
  | .none, _ => by simp [PyData.eqv]
  | .bool _, _ => by simp [PyData.eqv]
  | .int _, _ => by simp [PyData.eqv]
  | .str _, _ => by simp [PyData.eqv]
  | .list xs, h => by rw [PyData.eqv]; exact eqvAll_self (by simpa [PyData.canLay0] using h)
  | .tuple xs, h => by rw [PyData.eqv]; exact eqvAll_self (by simpa [PyData.canLay0] using h)
  | .dict _, h => absurd h (by simp [PyData.canLay0])
theorem eqvAll_self : ∀ {xs : List PyData}, PyData.canLayAll0 xs = true → PyData.eqvAll xs xs = true
  | [], _ => by simp [PyData.eqvAll]
  | x :: xs, h => by
    rw [PyData.canLayAll0, Bool.and_eq_true] at h
    rw [PyData.eqvAll, eqv_self h.1, eqvAll_self h.2]; rfl
end
theorem canLayAll0_of {ds : List PyData} (h : ∀ d ∈ ds, d.canLay0 = true) : PyData.canLayAll0 ds = true := by
  induction ds with
  | nil => rfl
  | cons d ds ih => rw [PyData.canLayAll0, h d (by simp), ih fun e he => h e (List.mem_cons_of_mem _ he)]; rfl
theorem depthAll_of {ds : List PyData} {n : Nat} (h : ∀ d ∈ ds, d.depth ≤ n) : PyData.depthAll ds ≤ n := by
  induction ds with
  | nil => exact Nat.zero_le _
  | cons d ds ih => rw [PyData.depthAll]; exact Nat.max_le.mpr ⟨h d (by simp), ih fun e he => h e (List.mem_cons_of_mem _ he)⟩
/-! ### rows: a text, or a tuple of small ints -/
def Item (d : PyData) : Prop := ∃ i : Int, d = .tuple [.str "int", .int i] ∧ 0 ≤ i ∧ i < 11
def Low (z : Str) : Prop := ∀ c ∈ z.cps.toList, c < 128
inductive Row : Bool → PyData → Nat → Prop
  | txt {z : Str} {n : Nat} : z.length = n → Low z → Row true (.str z) n
  | tup {ds : List PyData} {n : Nat} : ds.length = n → (∀ d ∈ ds, Item d) → Row false (.tuple ds) n
def catD : PyData → PyData → PyData
  | .str a, .str b => .str (a ++ b)
  | .tuple a, .tuple b => .tuple (a ++ b)
  | a, _ => a
def repD (d : PyData) (k : Int) : PyData := match d with
  | .str a => .str (repS a k)
  | .tuple a => .tuple (List.replicate k.toNat a).flatten
  | a => a
def noneD : PyData → PyData
  | .str a => .str (cutS a none (some 0))
  | .tuple _ => .tuple []
  | a => a
theorem len_app (a b : Str) : (a ++ b).length = a.length + b.length := strLen_append a b
theorem len_rep (z : Str) (k : Int) : (repS z k).length = z.length * k.toNat := by
  show (repC z.cps.toList k).toArray.size = _
  rw [List.size_toArray, repC_length, Nat.mul_comm]
  simp [Str.length]
theorem Low.app {a b : Str} (h : Low a) (g : Low b) : Low (a ++ b) := by
  intro c hc
  have e : (a ++ b).cps.toList = a.cps.toList ++ b.cps.toList := by
    show (a.cps ++ b.cps).toList = _
    simp
  rw [e] at hc
  rcases List.mem_append.mp hc with hc | hc
  · exact h c hc
  · exact g c hc
theorem Low.rep {a : Str} (h : Low a) (k : Int) : Low (repS a k) := by
  intro c hc
  have hc : c ∈ (List.replicate k.toNat a.cps.toList).flatten := by simpa [repS, repC] using hc
  obtain ⟨l, hl, hcl⟩ := List.mem_flatten.mp hc
  exact h c (List.eq_of_mem_replicate hl ▸ hcl)
theorem Low.cut {a : Str} (h : Low a) (lo hi : Option Int) : Low (cutS a lo hi) := by
  intro c hc
  have hc : c ∈ (a.cps.toList.drop (HT.sIx a.length 0 lo)).take (HT.sIx a.length a.length hi - HT.sIx a.length 0 lo) := hc
  exact h c (List.mem_of_mem_drop (List.mem_of_mem_take hc))
theorem cut_to (a : Str) (m : Nat) : (cutS a none (some (m : Int))).length ≤ m := by
  show ((a.cps.toList.drop (HT.sIx a.length 0 none)).take (HT.sIx a.length a.length (some (m : Int)) - HT.sIx a.length 0 none)).toArray.size ≤ m
  rw [List.size_toArray, List.length_take, HT.sIx_nat]
  omega
theorem Row.cat {t : Bool} {a b : PyData} {n m : Nat} (h : Row t a n) (g : Row t b m) : Row t (catD a b) (n + m) := by
  cases h with
  | txt e l =>
    cases g with
    | txt e2 l2 => exact .txt (by rw [len_app, e, e2]) (l.app l2)
  | tup e l =>
    cases g with
    | tup e2 l2 => exact .tup (by rw [List.length_append, e, e2]) fun d hd => (List.mem_append.mp hd).elim (l d) (l2 d)
theorem Row.rep {t : Bool} {a : PyData} {n : Nat} (h : Row t a n) (k : Int) : Row t (repD a k) (n * k.toNat) := by
  cases h with
  | txt e l => exact .txt (by rw [len_rep, e]) (l.rep k)
  | tup e l =>
    refine .tup (by rw [PyProof.Rows.lm_len_rep_flat, e, Nat.mul_comm]) fun d hd => ?_
    obtain ⟨x, hx, hdx⟩ := List.mem_flatten.mp hd
    exact l d (List.eq_of_mem_replicate hx ▸ hdx)
theorem Row.none {t : Bool} {a : PyData} {n : Nat} (h : Row t a n) : Row t (noneD a) 0 := by
  cases h with
  | @txt z _ e l => exact .txt (Nat.le_zero.mp (cut_to z 0)) (l.cut _ _)
  | tup e l => exact .tup rfl fun d hd => by cases hd
theorem Item.sm {d : PyData} (h : Item d) : Sm d 1 3000 := by
  obtain ⟨i, rfl, h0, h1⟩ := h
  exact (Sm.tup (.cons (Sm.short (n := "int") (by decide +kernel)) (.cons (Sm.int (Nat.lt_of_lt_of_le (show i.natAbs < 2 ^ 20 by omega) (Nat.pow_le_pow_right (by decide) (by decide)))) .nil))).mono (by decide) (by decide)
theorem Row.sm {t : Bool} {d : PyData} {n : Nat} (h : Row t d n) (hn : n ≤ 1000) : Sm d 2 3100000 := by
  cases h with
  | txt e l => exact (Sm.str (n := 1000) (by omega) fun c hc => Nat.lt_of_lt_of_le (l c hc) (by decide)).mono (by decide) (by decide)
  | tup e l => exact (Sm.tup ((SmAll.many fun d hd => (l d hd).sm).mem (m := 1000) (M := 3000000) (by omega) (by omega))).mono (by decide) (by decide)
theorem Row.lay {t : Bool} {d : PyData} {n : Nat} (h : Row t d n) : d.canLay0 = true := by
  cases h with
  | @txt z _ e l =>
    rw [PyData.canLay0]
    exact Array.all_eq_true_iff_forall_mem.mpr fun c hc => by
      have := l c (Array.mem_toList_iff.mpr hc)
      exact decide_eq_true (by omega)
  | tup e l =>
    rw [PyData.canLay0]
    exact canLayAll0_of fun d hd => by obtain ⟨i, rfl, _⟩ := l d hd; simp only [PyData.canLay0, PyData.canLayAll0, Bool.and_true]; decide +kernel
section
variable {X : Cx}
/-- a + b, two rows -/
def rCatD (K : PySem.W.Frag) : R2 := fun x y H Q => ∃ (t : Bool) (a b : PyData) (n m : Nat), Row t a n ∧ Row t b m ∧ Dt K H x a ∧ Dt K H y b ∧ n + m ≤ 2000 ∧ ∀ v H', Same H H' → Dt K H' v (catD a b) → Q v H'
theorem op_catD : OpR X (binaryOp .Add) (rCatD X.K) := by
  intro pins s σ H x y v u Q I rx ry h
  obtain ⟨t, a, b, n, m, ha, hb, da, db, hz, q⟩ := h
  cases ha with
  | txt e l =>
    cases hb with
    | txt e2 l2 =>
      cases da.str_inv; cases db.str_inv
      exact op_add_str pins s σ H _ _ v u Q I rx ry ⟨_, _, rfl, rfl, by rw [e, e2]; exact Nat.le_trans hz (by decide), q _ _ (Same.refl _) (.str _)⟩
  | @tup ds _ e l =>
    cases hb with
    | @tup es _ e2 l2 =>
      obtain ⟨p, xs, rfl, hs, ax⟩ := da.tuple_inv
      obtain ⟨p2, ys, rfl, hs2, ay⟩ := db.tuple_inv
      have lx := ax.length
      have ly := ay.length
      refine op_catA pins s σ H _ _ v u Q I rx ry ⟨p, p2, xs, ys, rfl, rfl, hs, hs2, by rw [lx, ly, e, e2]; exact Nat.le_trans hz (by decide), fun h0 => ?_, fun _ h0 => ?_, fun _ _ z hz => ?_⟩
      · subst h0
        have : ds = [] := List.eq_nil_of_length_eq_zero (by rw [← lx]; rfl)
        subst this
        exact q _ _ (Same.refl _) db
      · subst h0
        have : es = [] := List.eq_nil_of_length_eq_zero (by rw [← ly]; rfl)
        subst this
        refine q _ _ (Same.refl _) ?_
        show Dt X.K H (.ref p) (.tuple (ds ++ []))
        rw [List.append_nil]; exact da
      · exact q _ _ (Same.new hz) (Dt.made hz (DtAll.app ax ay))
/-- a * k, a row and an int -/
def rRepD (K : PySem.W.Frag) : R2 := fun x y H Q => ∃ (t : Bool) (a : PyData) (n : Nat) (k : Int), Row t a n ∧ Dt K H x a ∧ y = .int k ∧ 1 ≤ n ∧ 1 ≤ k ∧ n * k ≤ 1000 ∧ ∀ v H', Same H H' → Dt K H' v (repD a k) → Q v H'
theorem dtRep {K : PySem.W.Frag} {H : Hp} {xs : List V} {ds : List PyData} (h : DtAll K H xs ds) : ∀ m : Nat, DtAll K H (List.replicate m xs).flatten (List.replicate m ds).flatten
  | 0 => .nil
  | m + 1 => by
    rw [List.replicate_succ, List.flatten_cons, List.replicate_succ, List.flatten_cons]
    exact DtAll.app h (dtRep h m)
theorem op_repD : OpR X (binaryOp .Mult) (rRepD X.K) := by
  intro pins s σ H x y v u Q I rx ry h
  obtain ⟨t, a, n, k, ha, da, rfl, hn, hk, hz, q⟩ := h
  have k1 : k ≤ 1000 := by
    have : 1 * k ≤ n * k := Int.mul_le_mul_of_nonneg_right (by omega) (by omega)
    omega
  have n1 : n ≤ 1000 := by
    have : (n : Int) * 1 ≤ n * k := Int.mul_le_mul_of_nonneg_left hk (by omega)
    omega
  cases ha with
  | txt e l =>
    cases da.str_inv
    refine op_rep_str pins s σ H _ _ v u Q I rx ry ⟨_, k, rfl, rfl, by omega, by omega, ?_, q _ _ (Same.refl _) (.str _)⟩
    rw [e]
    exact Nat.le_trans (Nat.mul_le_mul n1 (show k.toNat ≤ 1000 by omega)) (by decide)
  | @tup ds _ e l =>
    obtain ⟨p, xs, rfl, hs, ax⟩ := da.tuple_inv
    have lx := ax.length
    refine op_repTA pins s σ H _ _ v u Q I rx ry ⟨p, k, xs, rfl, rfl, hs, fun z => ?_, hk, k1, by omega, fun h1 => ?_, fun h1 z hz => ?_⟩
    · subst z
      rw [List.length_nil] at lx
      omega
    · subst h1
      refine q _ _ (Same.refl _) ?_
      show Dt X.K H (.ref p) (.tuple (List.replicate 1 ds).flatten)
      rw [show (List.replicate 1 ds).flatten = ds by simp]
      exact da
    · exact q _ _ (Same.new hz) (Dt.made hz (dtRep ax _))
/-- a[:0], a row -/
def rNoneD (K : PySem.W.Frag) : V → Option Int → Option Int → Hp → VK → Prop := fun x lo hi H Q => ∃ (t : Bool) (a : PyData) (n : Nat), Row t a n ∧ Dt K H x a ∧ n ≤ 2000 ∧ lo = none ∧ hi = some 0 ∧ ∀ v H', Same H H' → Dt K H' v (noneD a) → Q v H'
theorem sl_noneD : SlR X (rNoneD X.K) := by
  intro pins s σ H x v vl vu lo hi sl Q I rx hs pl pu h
  obtain ⟨t, a, n, ha, da, hn, rfl, rfl, q⟩ := h
  cases ha with
  | txt e l =>
    cases da.str_inv
    exact sl_str pins s σ H _ v vl vu _ _ sl Q I rx hs pl pu ⟨_, rfl, by rw [e]; exact Nat.le_trans hn (by decide), q _ _ (Same.refl _) (.str _)⟩
  | @tup ds _ e l =>
    obtain ⟨p, xs, rfl, hq, ax⟩ := da.tuple_inv
    have lx := ax.length
    refine sl_tupA pins s σ H _ v vl vu _ _ sl Q I rx hs pl pu ⟨p, xs, rfl, hq, fun hw => ?_, fun _ z hz => ?_⟩
    · have h0 : ds.length = 0 := by
        have := hw.2
        rw [show (some (0 : Int)) = some ((0 : Nat) : Int) from rfl, HT.sIx_nat] at this
        omega
      have := List.eq_nil_of_length_eq_zero h0
      subst this
      exact q _ _ (Same.refl _) da
    · refine q _ _ (Same.new hz) (Dt.made hz ?_)
      have : cutV xs none (some 0) = [] := by
        apply List.eq_nil_of_length_eq_zero
        unfold cutV
        rw [List.length_take, show (some (0 : Int)) = some ((0 : Nat) : Int) from rfl, HT.sIx_nat]
        omega
      rw [this]
      exact .nil
/-- len(a), a row -/
def rLenD (K : PySem.W.Frag) : List V → Hp → VK → Prop := fun vs H Q => ∃ (v : V) (t : Bool) (a : PyData) (n : Nat), vs = [v] ∧ Row t a n ∧ Dt K H v a ∧ n ≤ 2000 ∧ Q (.int (n : Int)) H
theorem call_lenD' : CallR X (.builtin "len") (rLenD X.K) := by
  intro pins s σ H xs us Q I r h
  obtain ⟨v, t, a, n, rfl, ha, da, hn, q⟩ := h
  cases ha with
  | txt e l =>
    cases da.str_inv
    exact call_len pins s σ H _ us Q I r ⟨_, n, rfl, ⟨by rw [e]; exact Nat.le_trans hn (by decide), e.symm⟩, q⟩
  | @tup ds _ e l =>
    obtain ⟨p, ys, rfl, hq, ax⟩ := da.tuple_inv
    exact call_len pins s σ H _ us Q I r ⟨_, n, rfl, .inr ⟨_, hq, by rw [ax.length, e]⟩, q⟩
end
end LK

set_option Elab.async false
set_option linter.all false
set_option maxRecDepth 100000
set_option maxHeartbeats 4000000
set_option exponentiation.threshold 3000
/-! Letters, digits, underscores; texts of the top. -/
namespace LK
open PySem PySem.Spec PyProof.Rows L2 SX
def isD (c : Nat) : Bool := decide (48 ≤ c) && decide (c ≤ 57)
def isL (c : Nat) : Bool := (decide (65 ≤ c) && decide (c ≤ 90)) || (decide (97 ≤ c) && decide (c ≤ 122)) || c == 95
def isW (c : Nat) : Bool := isD c || isL c
theorem isW_lt {c : Nat} (h : isW c = true) : c < 128 := by
  simp [isW, isD, isL] at h; omega
theorem uni_alpha : ∀ c < 128, Unicode.isAlpha c = (isL c && c != 95) := by decide +kernel
theorem uni_digit : ∀ c < 128, Unicode.isDigit c = isD c := by decide +kernel
theorem uni_alnum : ∀ c < 128, Unicode.isAlnum c = (isW c && c != 95) := by decide +kernel
theorem alpha1 {c : Nat} (h : c < 128) : Txt.isalpha (S [c]) = (isL c && c != 95) := by
  show (decide ((S [c]).length > 0) && (S [c]).cps.all Unicode.isAlpha) = _
  rw [S_len]; simp [S, uni_alpha c h]
theorem digit1 {c : Nat} (h : c < 128) : Txt.isdigit (S [c]) = isD c := by
  show (decide ((S [c]).length > 0) && (S [c]).cps.all Unicode.isDigit) = _
  rw [S_len]; simp [S, uni_digit c h]
theorem alnum1 {c : Nat} (h : c < 128) : Txt.isalnum (S [c]) = (isW c && c != 95) := by
  show (decide ((S [c]).length > 0) && (S [c]).cps.all Unicode.isAlnum) = _
  rw [S_len]; simp [S, uni_alnum c h]
theorem digitS {a : List Nat} (h : ∀ c ∈ a, c < 128) (hne : a ≠ []) : Txt.isdigit (S a) = a.all isD := by
  show (decide ((S a).length > 0) && (S a).cps.all Unicode.isDigit) = _
  have : 0 < a.length := List.length_pos_iff.mpr hne
  rw [S_len, decide_eq_true this, Bool.true_and]
  show a.toArray.all Unicode.isDigit = _
  rw [List.all_toArray]
  apply Bool.eq_iff_iff.mpr
  rw [List.all_eq_true, List.all_eq_true]
  exact ⟨fun g c hc => uni_digit c (h c hc) ▸ g c hc, fun g c hc => (uni_digit c (h c hc)).symm ▸ g c hc⟩
/-! texts of the top -/
def GStr (mg : Str → Option Value) (x : Str) (z : Str) : Prop := ∃ t, mg x = some (.str z t)
def HasStr (K : PySem.W.Frag) (x : Str) (p : Str → Prop) : Prop := ∃ (z : Str) (t : Tok), PySem.W.nsIn K mainGlobals x = some (some (.str z t)) ∧ p z
theorem HasStr.mk' {K : PySem.W.Frag} {x : Str} {p : Str → Prop} {z : Str} {t : Tok} (a : PySem.W.nsIn K mainGlobals x = some (some (.str z t))) (b : p z) : HasStr K x p := ⟨z, t, a, b⟩
theorem HasStr.g {K : PySem.W.Frag} {mg : Str → Option Value} {h : Heap} {x : Str} {p : Str → Prop} (i : HasStr K x p) (X : K.In h) (G : h.Ns mainGlobals mg) : ∃ z, GStr mg x z ∧ p z := by
  obtain ⟨z, t, e, hp⟩ := i
  exact ⟨z, ⟨t, PySem.W.mg_of X G e⟩, hp⟩
theorem pe_globS {X : Cx} {x z : Str} {pos : Pos} (h : GStr X.mg x z) (hg : Gl X x) (hd : (x == ("__debug__" : Str)) = false := by decide) : PE X (.Name x pos) (tC (.str z)) := by
  obtain ⟨t, e⟩ := h
  exact pe_glob hg e ⟨t, rfl⟩ hd
theorem split1 {a : List Nat} {c : Nat} (h : c ∉ a) (hc : c < 256) : Txt.split (S a) (S [c]) = [S a] := by
  rw [split_S (by simp) (by simpa using hc)]
  have := SX.spl_join (c := c) (sep := []) (parts := [a]) (by simp) (by simpa using h)
  have e : TL.joinL [c] [a] = a := by simp [TL.joinL]
  rw [e] at this
  rw [this]; rfl
theorem lstrip1 {a : List Nat} {b : List Nat} (h : ∀ c, a.head? = some c → c ∉ b) : Txt.lstripChars (S a) (S b) = S a := by
  have e1 : (S a).cps.toList.takeWhile (S b).cps.contains = [] := tw0 a fun c hc => by
    have := h c hc
    show b.toArray.contains c = false
    rw [List.contains_toArray]
    simpa using this
  have e0 : stripLo (S b).cps.contains true (S a) = 0 := by
    unfold stripLo
    rw [if_pos rfl, e1] <;> rfl
  have e3 : stripHi (S b).cps.contains false (S a) 0 = (S a).length := by
    unfold stripHi
    rw [if_neg Bool.false_ne_true]
  unfold Txt.lstripChars Txt.stripBy stripSame
  rw [e0, e3]
  exact if_pos (by simp)
/-! while, its test's reading made monotone -/
def tUp (c : TT) : TT := fun σ H Q => ∃ P : Bool → Hp → Prop, c σ H P ∧ ∀ b H1, P b H1 → Q b H1
theorem pt_up {X : Cx} {e : Expr} {c : TT} (h : PT X e c) : PT X e (tUp c) :=
  ⟨fun pins s σ H Q I ⟨P, hP, k⟩ => thn (h.run pins s σ H P I hP) fun b s1 ⟨H1, I1, q⟩ => ⟨H1, I1, k _ _ q⟩⟩
theorem while_up {c : TT} {tb : TS} {D : Ends} {σ : L2.St} {H : Hp} (Pv : L2.St → Hp → Prop) (μ : L2.St → Hp → Nat) (h0 : Pv σ H)
    (hs : ∀ σ H, Pv σ H → c σ H fun b H1 => if b = true then tb { D with nx := fun σ' H' => Pv σ' H' ∧ μ σ' H' < μ σ H, ct := fun σ' H' => Pv σ' H' ∧ μ σ' H' < μ σ H, bk := D.nx } σ H1 else D.nx σ H1) : tWhile (tUp c) tb D σ H :=
  while_by Pv μ h0 (fun σ H p => ⟨_, hs σ H p, fun _ _ h => h⟩) (fun σ H Q Q' hq ⟨P, hP, k⟩ => ⟨P, hP, fun b H1 h => hq b H1 (k b H1 h)⟩)
theorem nl_S : ("\n" : Str) = S [10] := by decide +kernel
theorem us_S : ("_" : Str) = S [95] := by decide +kernel
theorem sp_S : (" " : Str) = S [32] := by decide +kernel
theorem hash_S : ("#" : Str) = S [35] := by decide +kernel
theorem sign_eq {c d : Nat} : decide (V.str ⟨#[c]⟩ = V.str (S [d])) = decide (c = d) := by
  by_cases h : c = d
  · subst h; rw [decide_eq_true rfl, decide_eq_true rfl]
  · rw [decide_eq_false h, decide_eq_false]
    intro e
    have := S_inj (a := [c]) (b := [d]) (V.str.inj e)
    exact h (by simpa using this)
theorem str_eq {a b : List Nat} : decide (V.str (S a) = V.str (S b)) = decide (a = b) := by
  by_cases h : a = b
  · subst h; rw [decide_eq_true rfl, decide_eq_true rfl]
  · rw [decide_eq_false h, decide_eq_false]
    intro e
    exact h (S_inj (V.str.inj e))
theorem starts1 {c d : Nat} {r : List Nat} : Txt.startswith (S (c :: r)) (S [d]) = decide (c = d) := by
  show (decide (0 + (S [d]).length ≤ (S (c :: r)).length) && ((c :: r).toArray.extract 0 (0 + (S [d]).length) == [d].toArray)) = _
  rw [S_len, S_len]
  have e : (c :: r).toArray.extract 0 (0 + [d].length) = #[c] := by simp
  rw [e]
  by_cases h : c = d
  · subst h; simp
  · simp [h]
theorem at_S {a : List Nat} {j c : Nat} (h : a[j]? = some c) : atI (S a).cps.toList (j : Int) = some c := atI_nat h
theorem cut_all {a : List Nat} : cutS (S a) (some 0) (some ((a.length : Nat) : Int)) = S a := by
  unfold cutS
  rw [S_len, show (some (0 : Int)) = some ((0 : Nat) : Int) from rfl, HT.sIx_nat, HT.sIx_nat]
  show (⟨((a.drop (min 0 a.length)).take (min a.length a.length - min 0 a.length)).toArray⟩ : Str) = ⟨a.toArray⟩
  rw [Nat.zero_min, List.drop_zero, Nat.min_self, Nat.sub_zero, List.take_length]
/-! a promise at a higher level -/
theorem FnG.mono {P : Program} {w : World} {K : PySem.W.Frag} {mg : Str → Option Value} {base : Heap} {CX : CXT} {j k : Nat} {f : Addr} {fd : FuncData} {ps : List Str} {sp : Sp} (F : FnG P w K mg base CX j f fd ps sp) (h : j ≤ k) : FnG P w K mg base CX k f fd ps sp :=
  ⟨F.len, fun A outer s H args us vs Q E hr => F.run A outer s H args us vs Q E (hr.mono h)⟩
theorem Use.mono {P : Program} {w : World} {K : PySem.W.Frag} {mg : Str → Option Value} {base : Heap} {CX : CXT} {x : Str} {j k : Nat} {ps : List Str} {sp : Sp} (U : Use P w K mg base CX x j ps sp) (h : j ≤ k) : Use P w K mg base CX x k ps sp := by
  obtain ⟨f, fd, ok, r⟩ := U.ex
  exact ⟨f, fd, ok.mono h, r⟩
/-! the signs that a program may hold -/
def okC (c : Nat) : Bool := c == 10 || (decide (32 ≤ c) && decide (c ≤ 126) && c != 37)
theorem okC_lt {c : Nat} (h : okC c = true) : c < 128 := by
  simp [okC] at h; omega
theorem lstrip_sp (a : List Nat) : Txt.lstripChars (S a) (S [32]) = S (a.dropWhile (· == 32)) := by
  have e1 : (S a).cps.toList.takeWhile (S [32]).cps.contains = a.takeWhile (· == 32) := by
    show a.takeWhile _ = _
    congr 1
    funext c
    show #[32].contains c = _
    simp [Array.contains, BEq.comm]
  have el : (a.takeWhile (· == 32)).length ≤ a.length := (List.takeWhile_prefix _).length_le
  have ed : a.drop (a.takeWhile (· == 32)).length = a.dropWhile (· == 32) := by
    have h := List.takeWhile_append_dropWhile (p := (· == 32)) (l := a)
    have : (a.takeWhile (· == 32) ++ a.dropWhile (· == 32)).drop (a.takeWhile (· == 32)).length = a.dropWhile (· == 32) := List.drop_left
    rwa [h] at this
  have e0 : stripLo (S [32]).cps.contains true (S a) = (a.takeWhile (· == 32)).length := by
    unfold stripLo
    rw [if_pos rfl, e1] <;> rfl
  have e3 : stripHi (S [32]).cps.contains false (S a) (a.takeWhile (· == 32)).length = (S a).length := by
    unfold stripHi
    rw [if_neg Bool.false_ne_true]
  unfold Txt.lstripChars Txt.stripBy stripSame stripped
  rw [e0, e3]
  split
  · rename_i h
    simp at h
    have : (a.takeWhile (· == 32)).length = 0 := by simpa using h
    rw [this, List.drop_zero] at ed
    rw [← ed]
  · show (⟨a.toArray.extract (a.takeWhile (· == 32)).length (S a).length⟩ : Str) = _
    rw [S_len, ← ed]
    congr 1
    apply Array.toList_inj.mp
    simp only [Array.toList_extract, List.extract_eq_drop_take]
    exact List.take_of_length_le (by rw [List.length_drop]; omega)
/-- z[i:j] by codes -/
theorem cut_S {a : List Nat} {i j : Nat} (hi : i ≤ a.length) (hj : j ≤ a.length) : cutS (S a) (some ((i : Nat) : Int)) (some ((j : Nat) : Int)) = S ((a.drop i).take (j - i)) := by
  unfold cutS
  rw [S_len, HT.sIx_nat, HT.sIx_nat, Nat.min_eq_left hi, Nat.min_eq_left hj]
/-- a line: so many spaces, and perhaps a word -/
def lnT (s : Nat) (w : List Nat) : List Nat := List.replicate s 32 ++ w
theorem lnT_len (s : Nat) (w : List Nat) : (lnT s w).length = s + w.length := by simp [lnT]
theorem lnT_sp {s : Nat} {w : List Nat} {i : Nat} (h : i < s) : (lnT s w)[i]? = some 32 := by
  unfold lnT
  rw [List.getElem?_append_left (by simpa using h), List.getElem?_replicate, if_pos h]
theorem lnT_w {s : Nat} {w : List Nat} {i : Nat} : (lnT s w)[s + i]? = w[i]? := by
  unfold lnT
  rw [List.getElem?_append_right (by simp), List.length_replicate, Nat.add_sub_cancel_left]
theorem lnT_drop (s : Nat) (w : List Nat) : (lnT s w).drop s = w := by
  unfold lnT
  rw [List.drop_append_of_le_length (by simp)]
  simp
end LK

set_option Elab.async false
set_option linter.all false
set_option maxRecDepth 100000
set_option maxHeartbeats 4000000
set_option exponentiation.threshold 3000
namespace K31
open PySem PySem.Spec PyProof.Rows LK SX
open L2
def top (i : Nat) : Stmt := PySem.Challenge.pw_pyhold_k31_line_is_the_chain.main.body.getD i (.Pass ⟨0, 0, 0, 0⟩)
structure Txt (K : PySem.W.Frag) (mg : Str → Option Value) : Prop where
  c_MOST_BASES : GInt mg "MOST_BASES" 60
  b_len : mg "len" = none
  b_int : mg "int" = none
  b_range : mg "range" = none
  b_list : mg "list" = none
  b_tuple : mg "tuple" = none
  b_repr : mg "repr" = none
abbrev s_law_cell : Stmt := top 11
abbrev N_law_cell : List Str := ["script", "k"]
abbrev P_law_cell : List Str := ["script", "k"]
theorem sc_law_cell : FnScope N_law_cell P_law_cell (defScope s_law_cell) := ⟨rfl, rfl, rfl, by decide +kernel, rfl, by decide +kernel, by decide +kernel⟩
abbrev s_law_digits : Stmt := top 12
abbrev N_law_digits : List Str := ["script", "first", "last", "digits", "k", "cell", "turn", "seed"]
abbrev P_law_digits : List Str := ["script", "first", "last"]
theorem sc_law_digits : FnScope N_law_digits P_law_digits (defScope s_law_digits) := ⟨rfl, rfl, rfl, by decide +kernel, rfl, by decide +kernel, by decide +kernel⟩
abbrev s_law_draw : Stmt := top 13
abbrev N_law_draw : List Str := ["box", "many", "at"]
abbrev P_law_draw : List Str := ["box", "many"]
theorem sc_law_draw : FnScope N_law_draw P_law_draw (defScope s_law_draw) := ⟨rfl, rfl, rfl, by decide +kernel, rfl, by decide +kernel, by decide +kernel⟩
section
variable {P : Program} {w : World} {K : PySem.W.Frag} {mg : Str → Option Value} {base : Heap}
theorem ok_draw {f : Addr} {fd : FuncData} (F : Fun K "_law_draw" "_law_draw" s_law_draw f fd) (T : Txt K mg) : FnG P w K mg base CX0 1 f fd P_law_draw (spDraw K) := by
  refine okG0 F sc_law_draw (fun vs H Q E h => ?_) fun cdv A outer s H vs Q E hr hg h => ?_
  · obtain ⟨p, dl, m, rfl, _⟩ := h
    rfl
  · obtain ⟨p, dl, m, rfl, B, hm, k⟩ := h
    obtain ⟨ds, n, hp, hn, hd, hl, hds⟩ := id B
    refine ⟨_, (pss_cons (ps_set (i := 2) sc_law_draw.nd rfl (Or.inl rfl) (pe_ix ix_list (pv 0) pe_int (fun _ _ => rfl)))
  (pss_cons (ps_asg (pe_op op_add (pv 2) pe_int) (pg_sub (pv 0) pe_int set_list))
  (pss_cons (ps_if (pt_cmpR op_lt (pv 2) (pe_callB call_len (by rfl) T.b_len PySem.boot_len (pa_cons (pe_ix ix_list (pv 0) pe_int (fun _ _ => rfl)) pa_nil)) (nomark _))
   (pss_one (ps_ret (pe_op op_mod (pe_callTy call_int1 (by rfl) T.b_int (by decide +kernel) (pa_cons (pe_ix ix_list (pe_ix ix_list (pv 0) pe_int (fun _ _ => rfl)) (pv 2) (fun _ _ => rfl)) pa_nil)) (pv 1))))
   pss_nil)
  (pss_one (ps_ret (pe_op op_mod (pe_callTy call_int1 (by rfl) T.b_int (by decide +kernel) (pa_cons (pe_op op_add (pe_op op_mul (pv 2) pe_int) pe_int) pa_nil)) (pv 1))))))), ?_⟩
    -- at = box[1]; box[1] = at + 1
    refine ⟨_, rfl, p, _, _, _, rfl, rfl, SqL.of hp, rfl, ?_⟩
    refine ⟨_, rfl, _, _, rfl, rfl, _, rfl, p, _, _, _, rfl, rfl, hp, rfl, ?_⟩
    have npd : dl ≠ p := by
      intro e
      subst e
      rw [hp] at hd
      have e := HO.lst.inj (Option.some.inj hd)
      cases ds with
      | nil => cases e
      | cons d ds => cases (List.cons.inj e).1
    have B' : BoxAt (upd H p (.lst [.ref dl, .int (n + 1)])) p dl := ⟨ds, n + 1, upd_same, by omega, by rw [upd_ne npd]; exact hd, hl, hds⟩
    have kp : Keep p H (upd H p (.lst [.ref dl, .int (n + 1)])) := fun b o e hb => by rw [upd_ne hb]; exact e
    have hd' : upd H p (.lst [.ref dl, .int (n + 1)]) dl = some (.lst (ds.map V.int)) := by rw [upd_ne npd]; exact hd
    -- if at < len(box[0])
    refine ⟨_, rfl, _, rfl, p, _, _, _, rfl, rfl, SqL.of upd_same, rfl, _, _, rfl, .inl ⟨_, SqL.of hd', rfl⟩, ?_⟩
    refine ⟨_, _, rfl, rfl, _, rfl, ?_⟩
    refine ite2 (fun c => ?_) fun c => ?_
    · have c1 : n < (ds.length : Int) := by simpa using c
      have c2 : n.toNat < ds.length := by omega
      have mem := hds _ (List.getElem_mem c2)
      refine ⟨_, rfl, p, _, _, _, rfl, rfl, SqL.of upd_same, rfl, _, rfl, dl, _, _, .int ds[n.toNat], rfl, rfl, SqL.of hd', ?_, .inl ⟨_, rfl, ?_⟩⟩
      · have e : n = ((n.toNat : Nat) : Int) := by omega
        exact at_of e (by simp [c2])
      · refine ⟨_, rfl, _, _, rfl, rfl, hm, ?_⟩
        exact k _ _ (Int.emod_nonneg _ (by omega)) (Int.emod_lt_of_pos _ hm) B' kp
    · refine ⟨_, rfl, _, _, rfl, rfl, .inr ⟨by decide, by decide⟩, _, _, rfl, rfl, .inl ⟨_, rfl, _, rfl, _, _, rfl, rfl, hm, ?_⟩⟩
      exact k _ _ (Int.emod_nonneg _ (by omega)) (Int.emod_lt_of_pos _ hm) B' kp
theorem ok_cell {f : Addr} {fd : FuncData} (F : Fun K "_law_cell" "_law_cell" s_law_cell f fd) (T : Txt K mg) : FnG P w K mg base CX0 1 f fd P_law_cell (spCell K) := by
  refine okG0 F sc_law_cell (fun vs H Q E h => ?_) fun cdv A outer s H vs Q E hr hg h => ?_
  · obtain ⟨a, ns, i, rfl, _⟩ := h
    rfl
  · obtain ⟨a, ns, i, rfl, hs, hi, k⟩ := h
    refine ⟨_, (pss_cons (ps_if (pt_cmpR op_lt (pv 1) (pe_callB call_len (by rfl) T.b_len PySem.boot_len (pa_cons (pv 0) pa_nil)) (nomark _))
   (pss_one (ps_ret (pe_ix ix_list (pv 0) (pv 1) (fun _ _ => rfl))))
   pss_nil)
  (pss_one (ps_ret pe_int))), ?_⟩
    refine ⟨_, rfl, _, rfl, _, _, rfl, .inl ⟨_, hs, rfl⟩, _, _, rfl, rfl, _, rfl, ?_⟩
    refine ite3 (fun c => ?_) fun _ => k 0
    have c1 : i < (ns.length : Int) := by simpa using c
    have c2 : i.toNat < ns.length := by omega
    exact ⟨_, rfl, _, rfl, a, _, _, .int ns[i.toNat], rfl, rfl, hs, at_of (show i = ((i.toNat : Nat) : Int) by omega) (by simp [c2]), k _⟩
theorem ok_digits {f : Addr} {fd : FuncData} (F : Fun K "_law_digits" "_law_digits" s_law_digits f fd) (T : Txt K mg) (U_law_cell : Use P w K mg base CX0 "_law_cell" 1 P_law_cell (spCell K)) : FnG P w K mg base CX0 2 f fd P_law_digits (spDigits K) := by
  refine okG0 F sc_law_digits (fun vs H Q E h => ?_) fun cdv A outer s H vs Q E hr hg h => ?_
  · obtain ⟨a, ns, lo, hi, rfl, _⟩ := h
    rfl
  · obtain ⟨a, ns, lo, hi, rfl, hs, hlo, hhi, k⟩ := h
    refine ⟨_, (pss_cons (ps_set (i := 3) sc_law_digits.nd rfl (Or.inl rfl) (pe_lst pa_nil))
  (pss_cons (ps_for PassesOwn.never rfl (pi_range2 (by rfl) T.b_range (pa_cons (pv 1) (pa_cons (pv 2) pa_nil))) (pg_name (i := 4) sc_law_digits.nd rfl (Or.inl rfl))
   (pss_cons (ps_set (i := 5) sc_law_digits.nd rfl (Or.inl rfl) (pe_use U_law_cell (hr.mono (by decide)) hg rfl (pa_cons (pv 0) (pa_cons (pv 4) pa_nil))))
  (C8.pss_cut (ps_if (pt_cmpR op_lt (pv 5) pe_int (nomark _))
   (pss_one (ps_set (i := 5) sc_law_digits.nd rfl (Or.inl rfl) (pe_op op_sub pe_int (pe_op op_mul pe_int (pv 5)))))
   pss_nil)
  (pss_one (ps_if (pt_cmpR op_ge (pv 5) (pe_op op_pow pe_int pe_int) (nomark _))
   (pss_one (ps_for PassesOwn.never rfl (pi_range1 (by rfl) T.b_range (pa_cons pe_int pa_nil)) (pg_name (i := 6) sc_law_digits.nd rfl (Or.inl rfl))
   (pss_one (ps_if (pt_cmpR op_gt (pv 5) pe_int (nomark _))
   (pss_cons (ps_expr (pe_bm PySem.F.plainAttrs_list PySem.F.slot_list_append PySem.F.type_list_append mt_append (pv 3) (pa_cons (pe_op op_mod (pe_callTy call_int1 (by rfl) T.b_int (by decide +kernel) (pa_cons (pv 5) pa_nil)) pe_int) pa_nil)))
  (pss_one (ps_set (i := 5) sc_law_digits.nd rfl (Or.inl rfl) (pe_op op_fdiv (pv 5) pe_int))))
   pss_nil))))
   (pss_cons (ps_set (i := 7) sc_law_digits.nd rfl (Or.inl rfl) (pe_op op_mod (pe_callTy call_int1 (by rfl) T.b_int (by decide +kernel) (pa_cons (pe_op op_add (pe_op op_add (pe_op op_mul (pv 5) pe_int) (pe_op op_mul (pv 4) pe_int)) pe_int) pa_nil)) pe_int))
  (pss_one (ps_for PassesOwn.never rfl (pi_range1 (by rfl) T.b_range (pa_cons pe_int pa_nil)) (pg_name (i := 6) sc_law_digits.nd rfl (Or.inl rfl))
   (pss_cons (ps_set (i := 7) sc_law_digits.nd rfl (Or.inl rfl) (pe_op op_mod (pe_callTy call_int1 (by rfl) T.b_int (by decide +kernel) (pa_cons (pe_op op_add (pe_op op_add (pe_op op_mul (pv 7) pe_int) (pe_op op_mul pe_int (pv 6))) pe_int) pa_nil)) pe_int))
  (pss_one (ps_expr (pe_bm PySem.F.plainAttrs_list PySem.F.slot_list_append PySem.F.type_list_append mt_append (pv 3) (pa_cons (pe_op op_mod (pe_callTy call_int1 (by rfl) T.b_int (by decide +kernel) (pa_cons (pe_op op_fdiv (pv 7) pe_int) pa_nil)) pe_int) pa_nil)))))))))))))
  (pss_one (ps_ret (pv 3))))), ?_⟩
    refine ⟨by decide, fun dl nd => ?_⟩
    have sz : (4000 : Nat) < sizeLine := by decide
    -- for k in range(first, last)
    refine ⟨_, rfl, _, rfl, _, _, rfl, ⟨by omega, by omega, by omega, by omega⟩, ?_⟩
    refine for_range (lo := (lo : Int)) (n := ((hi : Int) - (lo : Int)).toNat) (fun i σ H1 => ∃ x5 x6 x7 x4, σ = [some (.ref a), some (.int lo), some (.int hi), some (.ref dl), x4, x5, x6, x7] ∧ DigAt H H1 dl (60 * i)) ?_ ?_ ?_
    · exact ⟨none, none, none, none, rfl, [], upd_same, by simp, by simp, Same.new nd⟩
    · rintro i σ H1 hi' ⟨x5, x6, x7, x4, rfl, D⟩
      have S1 : Same H H1 := let ⟨_, _, _, _, z⟩ := D; z
      -- cell = _law_cell(script, k)
      refine ⟨_, rfl, _, rfl, a, ns, _, rfl, S1.seq hs, by omega, fun cell => ?_⟩
      -- if cell < 0: cell = 1 - 2 * cell
      refine ⟨fun σ H2 => ∃ c : Int, σ = [some (.ref a), some (.int lo), some (.int hi), some (.ref dl), some (.int ((lo : Int) + i)), some (.int c), x6, x7] ∧ H2 = H1, ?_, ?_⟩
      · refine ⟨_, rfl, _, _, rfl, rfl, _, rfl, ?_⟩
        refine ite3 (fun _ => ?_) fun _ => ⟨cell, rfl, rfl⟩
        exact ⟨_, rfl, _, _, rfl, rfl, .inl ⟨by decide, by decide⟩, _, _, rfl, rfl, _, rfl, rfl⟩
      · rintro _ _ ⟨c, rfl, rfl⟩
        -- if cell >= 10 ** 18
        refine ⟨_, rfl, _, _, rfl, rfl, ⟨by decide, by decide, by decide⟩, _, _, rfl, rfl, _, rfl, ?_⟩
        refine ite3 (fun hc => ?_) fun hc => ?_
        · refine ⟨_, rfl, by decide, by decide, ?_⟩
          refine for_range (lo := 0) (n := 60) (fun j σ H1 => ∃ (c : Int) (y6 : Option V), σ = [some (.ref a), some (.int lo), some (.int hi), some (.ref dl), some (.int ((lo : Int) + i)), some (.int c), y6, x7] ∧ DigAt H H1 dl (60 * i + j)) ⟨c, x6, rfl, D⟩ ?_ ?_
          · rintro j σ H2 hj ⟨c, y6, rfl, D2⟩
            obtain ⟨ds, hd, hl, _⟩ := id D2
            refine ⟨_, rfl, _, _, rfl, rfl, _, rfl, ?_⟩
            refine ite3 (fun hp => ?_) fun _ => ⟨c, _, rfl, D2.mono (by omega)⟩
            have hp : 0 < c := by simpa using hp
            refine ⟨_, rfl, .inl ⟨rfl, _, SqL.of hd⟩, _, rfl, .inl ⟨_, rfl, _, _, rfl, rfl, (by show (0 : Int) < 1000; decide), dl, _, _, rfl, rfl, hd, (by simp; omega), ?_⟩⟩
            refine ⟨_, rfl, _, _, rfl, rfl, ⟨by decide, by decide⟩, ?_⟩
            exact ⟨_, _, rfl, D2.add hd nd (Int.emod_nonneg _ (by decide)) (Int.emod_lt_of_pos _ (by decide))⟩
          · rintro σ H2 ⟨c, y6, rfl, D2⟩
            exact ⟨_, _, _, _, rfl, D2.mono (by omega)⟩
        · refine ⟨_, rfl, _, _, rfl, rfl, .inr ⟨by decide, by decide⟩, _, rfl, _, _, rfl, rfl, .inr ⟨by decide, by decide⟩, _, _, rfl, rfl, _, _, rfl, rfl, .inl ⟨_, rfl, _, _, rfl, rfl, (by show (0 : Int) < 2147483647; decide), ?_⟩⟩
          refine ⟨_, rfl, by decide, by decide, ?_⟩
          refine for_range (lo := 0) (n := 12) (fun j σ H1 => ∃ (sd : Int) (y6 : Option V), σ = [some (.ref a), some (.int lo), some (.int hi), some (.ref dl), some (.int ((lo : Int) + i)), some (.int c), y6, some (.int sd)] ∧ DigAt H H1 dl (60 * i + j)) ⟨_, x6, rfl, D⟩ ?_ ?_
          · rintro j σ H2 hj ⟨sd, y6, rfl, D2⟩
            obtain ⟨ds, hd, hl, _⟩ := id D2
            refine ⟨_, rfl, _, _, rfl, rfl, .inr ⟨by decide, by decide⟩, _, rfl, _, _, rfl, rfl, .inl ⟨by decide, by decide⟩, _, _, rfl, rfl, _, _, rfl, rfl, .inl ⟨_, rfl, _, _, rfl, rfl, (by show (0 : Int) < 2147483647; decide), ?_⟩⟩
            refine ⟨_, rfl, .inl ⟨rfl, _, SqL.of hd⟩, _, rfl, _, _, rfl, rfl, ⟨by decide, by decide⟩, .inl ⟨_, rfl, _, _, rfl, rfl, (by show (0 : Int) < 1000; decide), dl, _, _, rfl, rfl, hd, (by simp; omega), ?_⟩⟩
            exact ⟨_, _, rfl, D2.add hd nd (Int.emod_nonneg _ (by decide)) (Int.emod_lt_of_pos _ (by decide))⟩
          · rintro σ H2 ⟨sd, y6, rfl, D2⟩
            exact ⟨_, _, _, _, rfl, D2.mono (by omega)⟩
    · rintro σ H1 ⟨x5, x6, x7, x4, rfl, D⟩
      exact ⟨_, rfl, k dl H1 nd (D.mono (by omega))⟩
end

section
/-! data whose texts are texts and that are not deep -/
def Shp (n : Nat) (d : PyData) : Prop := d.canLay0 = true ∧ d.depth ≤ n
theorem Shp.all {n : Nat} : ∀ {ds : List PyData}, (∀ d ∈ ds, Shp n d) → PyData.canLayAll0 ds = true ∧ PyData.depthAll ds ≤ n
  | [], _ => ⟨rfl, Nat.zero_le _⟩
  | d :: r, h => by
    obtain ⟨a, b⟩ := h d (by simp)
    obtain ⟨c, e⟩ := Shp.all (ds := r) fun x hx => h x (List.mem_cons_of_mem _ hx)
    exact ⟨by simp only [PyData.canLayAll0, a, c]; rfl, Nat.max_le.mpr ⟨b, e⟩⟩
theorem Shp.tup {n : Nat} {ds : List PyData} (h : ∀ d ∈ ds, Shp n d) : Shp (n + 1) (.tuple ds) := by
  obtain ⟨a, b⟩ := Shp.all h
  exact ⟨by simp only [PyData.canLay0]; exact a, show PyData.depthAll ds + 1 ≤ n + 1 by omega⟩
theorem Shp.lst {n : Nat} {ds : List PyData} (h : ∀ d ∈ ds, Shp n d) : Shp (n + 1) (.list ds) := by
  obtain ⟨a, b⟩ := Shp.all h
  exact ⟨by simp only [PyData.canLay0]; exact a, show PyData.depthAll ds + 1 ≤ n + 1 by omega⟩
theorem Shp.sh {n : Nat} {d : PyData} (h : Shp n d) (hn : n ≤ 64) : SeqAt.shaped d = true := by
  unfold SeqAt.shaped
  rw [h.1, decide_eq_true (Nat.le_trans h.2 hn)]; rfl
theorem Shp.mono {n m : Nat} {d : PyData} (h : Shp n d) (l : n ≤ m) : Shp m d := ⟨h.1, Nat.le_trans h.2 l⟩
theorem Shp.str {n : Nat} {x : Str} (h : PyData.canLay0 (.str x) = true) : Shp n (.str x) := ⟨h, Nat.zero_le _⟩
theorem Shp.int (n : Nat) (i : Int) : Shp n (.int i) := ⟨rfl, Nat.zero_le _⟩
theorem Shp.bool (n : Nat) (b : Bool) : Shp n (.bool b) := ⟨rfl, Nat.zero_le _⟩
theorem Shp.nil : Shp 1 (.tuple []) := Shp.tup (n := 0) fun _ h => by cases h
theorem Shp.cons2 {n : Nat} {d : PyData} {ds : List PyData} (h : Shp n d) (t : ∀ x ∈ ds, Shp n x) : ∀ x ∈ d :: ds, Shp n x := fun x hx => by
  rcases List.mem_cons.mp hx with rfl | hx
  · exact h
  · exact t x hx
theorem Shp.none2 {n : Nat} : ∀ x ∈ ([] : List PyData), Shp n x := fun _ h => by cases h
theorem Shp.strS {n : Nat} {a : List Nat} (h : ∀ c ∈ a, c < 128) : Shp n (.str (S a)) := by
  refine Shp.str ?_
  rw [PyData.canLay0]
  exact Array.all_eq_true_iff_forall_mem.mpr fun c hc => by
    have := h c (by simpa [S] using hc)
    exact decide_eq_true (by omega)
end

abbrev s_law_same : Stmt := top 16
abbrev N_law_same : List Str := ["actual", "due"]
abbrev P_law_same : List Str := ["actual", "due"]
theorem sc_law_same : FnScope N_law_same P_law_same (defScope s_law_same) := ⟨rfl, rfl, rfl, by decide +kernel, rfl, by decide +kernel, by decide +kernel⟩
section
variable {P : Program} {w : World} {K : PySem.W.Frag} {mg : Str → Option Value} {base : Heap}
theorem ok_same {f : Addr} {fd : FuncData} (F : Fun K "_law_same" "_law_same" s_law_same f fd) (T : Txt K mg) : FnG P w K mg base CX0 1 f fd P_law_same (spSame K) := by
  refine okG0 F sc_law_same (fun vs H Q E h => ?_) fun cdv A outer s H vs Q E hr hg h => ?_
  · obtain ⟨x, y, d, rfl, _⟩ := h
    rfl
  · obtain ⟨x, y, d, rfl, hx, hy, hs, k⟩ := h
    refine ⟨_, (pss_one (ps_ret (pe_cmpR op_eq (pe_callB (call_repr_data hg hr.units) (by rfl) T.b_repr (by decide +kernel) (pa_cons (pv 0) pa_nil)) (pe_callB (call_repr_data hg hr.units) (by rfl) T.b_repr (by decide +kernel) (pa_cons (pv 1) pa_nil)) (nomark _)))), ?_⟩
    refine ⟨_, rfl, _, d, rfl, hx, hs, _, rfl, _, d, rfl, hy, hs, rfl, ?_⟩
    rw [decide_eq_true rfl]
    exact k
end

abbrev s_law_names : Stmt := top 14
abbrev N_law_names : List Str := ["box", "letters", "first", "place", "names", "k", "letter"]
abbrev P_law_names : List Str := ["box"]
theorem sc_law_names : FnScope N_law_names P_law_names (defScope s_law_names) := ⟨rfl, rfl, rfl, by decide +kernel, rfl, by decide +kernel, by decide +kernel⟩
abbrev s_law_value : Stmt := top 15
abbrev N_law_value : List Str := ["box", "kind"]
abbrev P_law_value : List Str := ["box"]
theorem sc_law_value : FnScope N_law_value P_law_value (defScope s_law_value) := ⟨rfl, rfl, rfl, by decide +kernel, rfl, by decide +kernel, by decide +kernel⟩
section
variable {P : Program} {w : World} {K : PySem.W.Frag} {mg : Str → Option Value} {base : Heap}
structure NameOk (x : Str) : Prop where
  ex : ∃ a : List Nat, x = S a ∧ a.length ≤ 10 ∧ ∀ c ∈ a, c < 128
theorem NameOk.len {x : Str} (h : NameOk x) : x.length ≤ 10 := by
  obtain ⟨a, rfl, h1, _⟩ := h.ex
  rw [S_len]; exact h1
theorem NameOk.sm {x : Str} (h : NameOk x) : Sm (.str x) 0 200 := by
  obtain ⟨a, rfl, h1, h2⟩ := h.ex
  refine (Sm.str (n := 10) (by rw [S_len]; exact h1) fun c hc => ?_).mono (Nat.le_refl _) (by omega)
  have := h2 c (by simpa [S] using hc)
  omega
theorem NameOk.shp {n : Nat} {x : Str} (h : NameOk x) : Shp n (.str x) := by
  obtain ⟨a, rfl, _, h2⟩ := h.ex
  exact Shp.strS h2
def spNames (K : PySem.W.Frag) : Sp := fun vs H Q _ => ∃ p dl, vs = [.ref p] ∧ BoxAt H p dl ∧ ∀ (np : Addr) (ns : List Str) (H' : Hp), H np = none → BoxAt H' p dl → Keep p H H' → H' np = some (.lst (ns.map V.str)) → ns.length = 8 → (∀ x ∈ ns, NameOk x) → Q (.ref np) H'
def lets : List Nat := ("abcdefghijklmnopqrstuvwxyz" : Str).cps.toList
theorem cut_xyz {r : Int} (h0 : 0 ≤ r) (h1 : r < 4) : ∃ u v : List Nat, cutS "xyz" none (some r) = S u ∧ cutS "xyz" (some r) none = S v ∧ u.length ≤ 3 ∧ v.length ≤ 3 ∧ (∀ c ∈ u, c < 128) ∧ (∀ c ∈ v, c < 128) := by
  obtain ⟨i, rfl⟩ := Int.eq_ofNat_of_zero_le h0
  match i, h1 with
  | 0, _ => exact ⟨[], [120, 121, 122], by decide +kernel, by decide +kernel, by decide, by decide, by decide, by decide⟩
  | 1, _ => exact ⟨[120], [121, 122], by decide +kernel, by decide +kernel, by decide, by decide, by decide, by decide⟩
  | 2, _ => exact ⟨[120, 121], [122], by decide +kernel, by decide +kernel, by decide, by decide, by decide, by decide⟩
  | 3, _ => exact ⟨[120, 121, 122], [], by decide +kernel, by decide +kernel, by decide, by decide, by decide, by decide⟩
  | i + 4, h => omega
theorem none_back {p np : Addr} {H H' : Hp} (K1 : Keep p H H') (B : ∃ xs, H' p = some (.lst xs)) (h : H' np = none) : H np = none := by
  cases e : H np with
  | none => rfl
  | some o =>
    by_cases ep : np = p
    · subst ep
      obtain ⟨xs, g⟩ := B
      rw [g] at h; cases h
    · rw [K1 _ _ e ep] at h; cases h
theorem ok_names {f : Addr} {fd : FuncData} (F : Fun K "_law_names" "_law_names" s_law_names f fd) (T : Txt K mg) (U_law_draw : Use P w K mg base CX0 "_law_draw" 1 P_law_draw (spDraw K)) : FnG P w K mg base CX0 2 f fd P_law_names (spNames K) := by
  refine okG0 F sc_law_names (fun vs H Q E h => ?_) fun cdv A outer s H vs Q E hr hg h => ?_
  · obtain ⟨p, dl, rfl, _⟩ := h
    rfl
  · obtain ⟨p, dl, rfl, B, k⟩ := h
    refine ⟨_, (pss_cons (ps_set (i := 1) sc_law_names.nd rfl (Or.inl rfl) pe_str)
  (pss_cons (ps_set (i := 2) sc_law_names.nd rfl (Or.inl rfl) (pe_use U_law_draw (hr.mono (by decide)) hg rfl (pa_cons (pv 0) (pa_cons pe_int pa_nil))))
  (pss_cons (ps_set (i := 3) sc_law_names.nd rfl (Or.inl rfl) (pe_use U_law_draw (hr.mono (by decide)) hg rfl (pa_cons (pv 0) (pa_cons pe_int pa_nil))))
  (pss_cons (ps_set (i := 4) sc_law_names.nd rfl (Or.inl rfl) (pe_lst pa_nil))
  (pss_cons (ps_for PassesOwn.never rfl (pi_range1 (by rfl) T.b_range (pa_cons pe_int pa_nil)) (pg_name (i := 5) sc_law_names.nd rfl (Or.inl rfl))
   (pss_cons (ps_set (i := 6) sc_law_names.nd rfl (Or.inl rfl) (pe_ix ix_str (pv 1) (pe_op op_mod (pe_callTy call_int1 (by rfl) T.b_int (by decide +kernel) (pa_cons (pe_op op_add (pv 2) (pe_op op_mul pe_int (pv 5))) pa_nil)) pe_int) (fun _ _ => rfl)))
  (pss_one (ps_expr (pe_bm PySem.F.plainAttrs_list PySem.F.slot_list_append PySem.F.type_list_append mt_append (pv 4) (pa_cons (pe_op op_add_str (pe_op op_add_str (pe_op op_add_str pe_str (pe_slice sl_str pe_str po_none (po_some (pv 3)))) (pv 6)) (pe_slice sl_str pe_str (po_some (pv 3)) po_none)) pa_nil))))))
  (pss_one (ps_ret (pv 4)))))))), ?_⟩
    refine ⟨_, rfl, p, dl, 26, rfl, B, by decide, fun t H1 t0 t1 B1 K1 => ?_⟩
    refine ⟨_, rfl, p, dl, 4, rfl, B1, by decide, fun r H2 r0 r1 B2 K2 => ?_⟩
    obtain ⟨u, v, eu, ev, lu, lv, hu, hv⟩ := cut_xyz r0 r1
    refine ⟨sz_0, fun np hnp => ?_⟩
    refine ⟨_, rfl, by decide, by decide, ?_⟩
    have hnp0 : H np = none := none_back (K1.trans K2) B2.at_ hnp
    have npp : np ≠ p := fun e => by subst e; obtain ⟨xs, g⟩ := B2.at_; rw [g] at hnp; cases hnp
    have npd : np ≠ dl := fun e => by subst e; obtain ⟨xs, g⟩ := B2.dg; rw [g] at hnp; cases hnp
    refine for_range (lo := 0) (n := 8) (fun i σ H3 => ∃ (ns : List Str) (x5 x6 : Option V), σ = [some (.ref p), some (.str "abcdefghijklmnopqrstuvwxyz"), some (.int t), some (.int r), some (.ref np), x5, x6] ∧ ns.length = i ∧ (∀ x ∈ ns, NameOk x) ∧ H3 np = some (.lst (ns.map V.str)) ∧ BoxAt H3 p dl ∧ (∀ b o, H2 b = some o → H3 b = some o)) ⟨[], none, none, rfl, rfl, by simp, upd_same, B2.upd npp npd, Same.new hnp⟩ ?_ ?_
    · rintro i σ H3 hi ⟨ns, x5, x6, rfl, hl, hok, en, B3, S3⟩
      have hLets : ("abcdefghijklmnopqrstuvwxyz" : Str) = S lets := by decide +kernel
      have hLl : lets.length = 26 := by decide +kernel
      have hL128 : ∀ c ∈ lets, c < 128 := by decide +kernel
      obtain ⟨j, hj⟩ : ∃ j : Nat, (t + 3 * (0 + (i : Int))) % 26 = (j : Int) := ⟨_, (Int.toNat_of_nonneg (Int.emod_nonneg _ (by decide))).symm⟩
      have hj26 : j < lets.length := by
        have := Int.emod_lt_of_pos (t + 3 * (0 + (i : Int))) (show (0 : Int) < 26 by decide)
        omega
      have hc : lets[j]? = some lets[j] := List.getElem?_eq_getElem hj26
      have hcm := hL128 _ (List.getElem_mem hj26)
      generalize lets[j] = c at hc hcm
      have hq : ("n" : Str) = S [110] := by decide +kernel
      have hc1 : (⟨#[c]⟩ : Str) = S [c] := rfl
      have h3 : ("xyz" : Str).length ≤ sizeLine := by decide +kernel
      have sz : ∀ a b : List Nat, a.length + b.length ≤ 100 → (S a).length + (S b).length ≤ sizeLine := fun a b h => by rw [S_len, S_len]; exact Nat.le_trans h (by decide)
      have e : ("n" : Str) ++ cutS "xyz" none (some r) ++ (⟨#[c]⟩ : Str) ++ cutS "xyz" (some r) none = S ([110] ++ u ++ [c] ++ v) := by
        rw [hq, eu, ev, hc1, S_cat, S_cat, S_cat]
      refine ⟨_, rfl, _, rfl, _, rfl, _, _, rfl, rfl, .inl ⟨by decide, by decide⟩, _, _, rfl, rfl, .inl ⟨_, rfl, _, _, rfl, rfl, (by show (0 : Int) < 26; decide), S lets, (j : Int), c, by rw [hLets], congrArg V.int hj, by rw [S_len, hLl]; decide, at_S hc, ?_⟩⟩
      refine ⟨_, rfl, .inl ⟨rfl, _, SqL.of en⟩, _, rfl, _, rfl, _, rfl, h3, _, _, rfl, rfl, by rw [hq, eu]; exact sz _ _ (by simp; omega), ?_⟩
      refine ⟨_, rfl, _, _, rfl, rfl, by rw [hq, eu, hc1, S_cat]; exact sz _ _ (by simp; omega), ?_⟩
      refine ⟨_, rfl, _, rfl, _, rfl, h3, _, _, rfl, rfl, by rw [hq, eu, ev, hc1, S_cat, S_cat]; exact sz _ _ (by simp; omega), ?_⟩
      refine ⟨np, _, _, rfl, rfl, en, by rw [List.length_map, hl]; exact Nat.lt_of_lt_of_le hi (by decide), ?_⟩
      rw [e]
      refine ⟨ns ++ [S ([110] ++ u ++ [c] ++ v)], _, _, rfl, by simp; omega, fun x hx => ?_, by rw [upd_same, List.map_append]; rfl, B3.upd npp npd, fun b o hb => ?_⟩
      · rcases List.mem_append.mp hx with hx | hx
        · exact hok x hx
        · rw [List.mem_singleton.mp hx]
          refine ⟨_, rfl, by simp; omega, fun d hd => ?_⟩
          simp only [List.mem_append, List.mem_singleton] at hd
          rcases hd with ((rfl | hd) | rfl) | hd
          · decide
          · exact hu d hd
          · exact hcm
          · exact hv d hd
      · rw [upd_ne (ne_of_none hb hnp)]; exact S3 b o hb
    · rintro σ H3 ⟨ns, x5, x6, rfl, hl, hok, en, B3, S3⟩
      exact ⟨_, rfl, k np ns H3 hnp0 B3 ((K1.trans K2).trans (Same.keep S3)) en hl hok⟩
/-- a drawn value -/
structure VOk (d : PyData) : Prop where
  tup : ∃ z r, d = .tuple (.str z :: r) ∧ z ≠ ""
  sm : Sm d 1 3000
  shp : Shp 1 d
def spValue (K : PySem.W.Frag) : Sp := fun vs H Q _ => ∃ p dl, vs = [.ref p] ∧ BoxAt H p dl ∧ ∀ v d H', BoxAt H' p dl → Keep p H H' → Dt K H' v d → VOk d → Q v H'
theorem vok1 {z x : Str} (h1 : shortS z = true) (h2 : shortS x = true) (h3 : PyData.canLay0 (.str z) = true) (h4 : PyData.canLay0 (.str x) = true) (hz : z ≠ "") : VOk (.tuple [.str z, .str x]) :=
  ⟨⟨_, _, rfl, hz⟩, (Sm.tup (.cons (Sm.short h1) (.cons (Sm.short h2) .nil))).mono (by decide) (by decide), Shp.tup (Shp.cons2 (Shp.str h3) (Shp.cons2 (Shp.str h4) Shp.none2))⟩
theorem ten_val : ∀ n : Nat, NumText.digitsVal (49 :: List.replicate n 48) = 10 ^ n
  | 0 => rfl
  | n + 1 => by
    rw [List.replicate_succ', ← List.cons_append]
    have h : ∀ (cs : List Nat) (c : Nat), NumText.digitsVal (cs ++ [c]) = NumText.digitsVal cs * 10 + (c - 48) := fun cs c => by
      unfold NumText.digitsVal
      rw [List.foldl_append]
      rfl
    rw [h, ten_val n, Nat.pow_succ]
    simp
theorem ten_S (n : Nat) (hn : n ≤ 100) : PySem.intText? (S ([49] ++ List.replicate n 48)) = some ((10 : Int) ^ n) := by
  have h : ([49] ++ List.replicate n 48).all (fun c => decide (48 ≤ c) && decide (c ≤ 57)) = true := List.all_eq_true.mpr fun c hc => by
    rcases List.mem_append.mp hc with hc | hc
    · rw [List.mem_singleton.mp hc]; rfl
    · rw [List.eq_of_mem_replicate hc]; rfl
  rw [int_S h (by simp) (by simp; omega)]
  have e : NumText.digitsVal ([49] ++ List.replicate n 48) = 10 ^ n := ten_val n
  rw [e]
  congr 1
theorem ok_value {f : Addr} {fd : FuncData} (F : Fun K "_law_value" "_law_value" s_law_value f fd) (T : Txt K mg) (U_law_draw : Use P w K mg base CX0 "_law_draw" 1 P_law_draw (spDraw K)) : FnG P w K mg base CX0 2 f fd P_law_value (spValue K) := by
  refine okG0 F sc_law_value (fun vs H Q E h => ?_) fun cdv A outer s H vs Q E hr hg h => ?_
  · obtain ⟨p, dl, rfl, _⟩ := h
    rfl
  · obtain ⟨p, dl, rfl, B, k⟩ := h
    refine ⟨_, (pss_cons (ps_set (i := 1) sc_law_value.nd rfl (Or.inl rfl) (pe_use U_law_draw (hr.mono (by decide)) hg rfl (pa_cons (pv 0) (pa_cons pe_int pa_nil))))
  (pss_cons (ps_if (pt_cmpR op_eq (pv 1) pe_int (nomark _))
   (pss_one (ps_ret (pe_tup (pa_cons pe_str pa_nil))))
   pss_nil)
  (pss_cons (ps_if (pt_cmpR op_eq (pv 1) pe_int (nomark _))
   (pss_one (ps_ret (pe_tup (pa_cons pe_str (pa_cons (pe_cmpR op_eq (pe_use U_law_draw (hr.mono (by decide)) hg rfl (pa_cons (pv 0) (pa_cons pe_int pa_nil))) pe_int (nomark _)) pa_nil)))))
   pss_nil)
  (pss_cons (ps_if (pt_cmpR op_eq (pv 1) pe_int (nomark _))
   (pss_one (ps_ret (pe_tup (pa_cons pe_str (pa_cons (pe_slice sl_str pe_str po_none (po_some (pe_use U_law_draw (hr.mono (by decide)) hg rfl (pa_cons (pv 0) (pa_cons pe_int pa_nil))))) pa_nil)))))
   pss_nil)
  (pss_cons (ps_if (pt_cmpR op_eq (pv 1) pe_int (nomark _))
   (pss_one (ps_ret (pe_tup (pa_cons pe_str (pa_cons (pe_ix ix_list (pe_lst (pa_cons pe_str (pa_cons pe_str (pa_cons pe_str pa_nil)))) (pe_use U_law_draw (hr.mono (by decide)) hg rfl (pa_cons (pv 0) (pa_cons pe_int pa_nil))) (fun _ _ => rfl)) pa_nil)))))
   pss_nil)
  (pss_one (ps_ret (pe_tup (pa_cons pe_str (pa_cons (pe_op op_sub (pe_op op_mulW (pe_use U_law_draw (hr.mono (by decide)) hg rfl (pa_cons (pv 0) (pa_cons pe_int pa_nil))) (pe_callTy call_int_str (by rfl) T.b_int (by decide +kernel) (pa_cons (pe_op op_add_str pe_str (pe_op op_rep_str pe_str (pe_use U_law_draw (hr.mono (by decide)) hg rfl (pa_cons (pv 0) (pa_cons pe_int pa_nil))))) pa_nil))) (pe_use U_law_draw (hr.mono (by decide)) hg rfl (pa_cons (pv 0) (pa_cons pe_int pa_nil)))) pa_nil)))))))))), ?_⟩
    refine ⟨_, rfl, p, dl, 6, rfl, B, by decide, fun kind H1 k0 k1 B1 K1 => ?_⟩
    refine ⟨_, rfl, rfl, _, rfl, ?_⟩
    refine ite3 (fun _ => ?_) fun _ => ?_
    · refine ⟨sz_1, fun u hu => k _ _ _ (B1.same (Same.new hu)) (K1.trans (Same.keep (Same.new hu))) (Dt.made hu (.cons (.str _) .nil)) ⟨⟨_, _, rfl, by decide +kernel⟩, (Sm.tup (.cons (Sm.short (by decide +kernel)) .nil)).mono (by decide) (by decide), Shp.tup (Shp.cons2 (Shp.str (by decide +kernel)) Shp.none2)⟩⟩
    refine ⟨_, rfl, rfl, _, rfl, ?_⟩
    refine ite3 (fun _ => ?_) fun _ => ?_
    · refine ⟨_, rfl, p, dl, 2, rfl, B1, by decide, fun r H2 r0 r1 B2 K2 => ?_⟩
      refine ⟨rfl, sz_2, fun u hu => k _ _ _ (B2.same (Same.new hu)) ((K1.trans K2).trans (Same.keep (Same.new hu))) (Dt.made hu (.cons (.str _) (.cons (.bl _) .nil))) ⟨⟨_, _, rfl, by decide +kernel⟩, (Sm.tup (.cons (Sm.short (by decide +kernel)) (.cons (Sm.bool _) .nil))).mono (by decide) (by decide), Shp.tup (Shp.cons2 (Shp.str (by decide +kernel)) (Shp.cons2 (Shp.bool _ _) Shp.none2))⟩⟩
    refine ⟨_, rfl, rfl, _, rfl, ?_⟩
    refine ite3 (fun _ => ?_) fun _ => ?_
    · refine ⟨_, rfl, p, dl, 3, rfl, B1, by decide, fun r H2 r0 r1 B2 K2 => ?_⟩
      obtain ⟨z, ez, z1, z2⟩ : ∃ z, cutS "ab" none (some r) = z ∧ shortS z = true ∧ PyData.canLay0 (.str z) = true := by
        obtain ⟨i, rfl⟩ := Int.eq_ofNat_of_zero_le r0
        match i, r1 with
        | 0, _ => exact ⟨"", by decide +kernel, by decide +kernel, by decide +kernel⟩
        | 1, _ => exact ⟨"a", by decide +kernel, by decide +kernel, by decide +kernel⟩
        | 2, _ => exact ⟨"ab", by decide +kernel, by decide +kernel, by decide +kernel⟩
        | i + 3, h => omega
      refine ⟨_, rfl, _, rfl, by decide +kernel, sz_2, fun u hu => ?_⟩
      rw [ez]
      exact k _ _ _ (B2.same (Same.new hu)) ((K1.trans K2).trans (Same.keep (Same.new hu))) (Dt.made hu (.cons (.str _) (.cons (.str _) .nil))) (vok1 (by decide +kernel) z1 (by decide +kernel) z2 (by decide +kernel))
    refine ⟨_, rfl, rfl, _, rfl, ?_⟩
    refine ite3 (fun _ => ?_) fun _ => ?_
    · refine ⟨sz_3, fun l hl => ?_⟩
      have S1 := Same.new (o := .lst [.str "len", .str "print", .str "abs"]) hl
      have lp : l ≠ p := fun e => by subst e; obtain ⟨xs, g⟩ := B1.at_; rw [g] at hl; cases hl
      have el := upd_same (H := H1) (a := l) (o := HO.lst [.str "len", .str "print", .str "abs"])
      have B1' := B1.same S1
      generalize upd H1 l _ = H1' at S1 el B1'
      refine ⟨_, rfl, p, dl, 3, rfl, B1', by decide, fun r H2 r0 r1 B2 K2 => ?_⟩
      obtain ⟨z, ez, z1, z2⟩ : ∃ z, atI [V.str "len", V.str "print", V.str "abs"] r = some (.str z) ∧ shortS z = true ∧ PyData.canLay0 (.str z) = true := by
        obtain ⟨i, rfl⟩ := Int.eq_ofNat_of_zero_le r0
        match i, r1 with
        | 0, _ => exact ⟨"len", at0, by decide +kernel, by decide +kernel⟩
        | 1, _ => exact ⟨"print", at1, by decide +kernel, by decide +kernel⟩
        | 2, _ => exact ⟨"abs", at2, by decide +kernel, by decide +kernel⟩
        | i + 3, h => omega
      refine ⟨l, _, _, _, rfl, rfl, SqL.of (K2 _ _ el lp), ez, sz_2, fun u hu => ?_⟩
      exact k _ _ _ (B2.same (Same.new hu)) (((K1.trans (Same.keep S1)).trans K2).trans (Same.keep (Same.new hu))) (Dt.made hu (.cons (.str _) (.cons (.str _) .nil))) (vok1 (by decide +kernel) z1 (by decide +kernel) z2 (by decide +kernel))
    refine ⟨_, rfl, p, dl, 1000, rfl, B1, by decide, fun r H2 r0 r1 B2 K2 => ?_⟩
    refine ⟨_, rfl, p, dl, 60, rfl, B2, by decide, fun m H3 m0 m1 B3 K3 => ?_⟩
    obtain ⟨n, rfl⟩ := Int.eq_ofNat_of_zero_le m0
    have l0 : ("0" : Str).length = 1 := by decide +kernel
    have e0 : repS "0" (n : Int) = S (List.replicate n 48) := by
      show (⟨(repC ("0" : Str).cps.toList (n : Int)).toArray⟩ : Str) = _
      rw [show ("0" : Str).cps.toList = [48] by decide +kernel]
      have : repC [48] (n : Int) = List.replicate n 48 := by
        show (List.replicate (n : Int).toNat [48]).flatten = List.replicate n 48
        rw [Int.toNat_natCast]
        clear m0 m1
        induction n with
        | zero => rfl
        | succ n ih => rw [List.replicate_succ, List.flatten_cons, ih, List.replicate_succ]; rfl
      rw [this]
    refine ⟨_, _, rfl, rfl, by omega, by omega, by rw [l0]; omega, ?_⟩
    rw [e0, show ("1" : Str) = S [49] by decide +kernel]
    refine ⟨_, _, rfl, rfl, by rw [S_len, S_len]; exact Nat.le_trans (show _ ≤ 100 by simp; omega) (by decide), ?_⟩
    rw [S_cat]
    refine ⟨_, _, rfl, ten_S n (by omega), by rw [S_len]; simp; omega, ?_⟩
    have hb : ((10 : Int) ^ n).natAbs < 2 ^ 250 := by
      have h1 : (10 : Nat) ^ n ≤ 10 ^ 60 := Nat.pow_le_pow_right (by decide) (by omega)
      have h2 : (10 : Nat) ^ 60 < 2 ^ 250 := by decide +kernel
      have h3 : ((10 : Int) ^ n).natAbs = 10 ^ n := by
        rw [Int.natAbs_pow]; rfl
      omega
    refine ⟨_, _, rfl, rfl, wide_mul (a := 10) (b := 250) (by omega) hb (by decide) (by decide) (by decide), ?_⟩
    refine ⟨_, rfl, p, dl, 3, rfl, B3, by decide, fun q H4 q0 q1 B4 K4 => ?_⟩
    refine ⟨_, _, rfl, rfl, sz_2, fun u hu => ?_⟩
    have hi : (r * 10 ^ n - q).natAbs < 2 ^ 1900 := by
      have h1 : (r * 10 ^ n).natAbs < 2 ^ 10 * 2 ^ 250 := by
        rw [Int.natAbs_mul]
        exact Nat.mul_lt_mul'' (by omega) hb
      have h2 : (2 : Nat) ^ 10 * 2 ^ 250 + 3 < 2 ^ 1900 := by decide +kernel
      omega
    exact k _ _ _ (B4.same (Same.new hu)) ((((K1.trans K2).trans K3).trans K4).trans (Same.keep (Same.new hu))) (Dt.made hu (.cons (.str _) (.cons (.int _) .nil))) ⟨⟨_, _, rfl, by decide +kernel⟩, (Sm.tup (.cons (Sm.short (by decide +kernel)) (.cons (Sm.int hi) .nil))).mono (by decide) (by decide), Shp.tup (Shp.cons2 (Shp.str (by decide +kernel)) (Shp.cons2 (Shp.int _ _) Shp.none2))⟩
end

abbrev s_paired : Stmt := top 2
abbrev N_paired : List Str := ["pairs", "x", "name", "value"]
abbrev P_paired : List Str := ["pairs", "x"]
theorem sc_paired : FnScope N_paired P_paired (defScope s_paired) := ⟨rfl, rfl, rfl, by decide +kernel, rfl, by decide +kernel, by decide +kernel⟩
abbrev s_object_kind : Stmt := top 4
abbrev N_object_kind : List Str := ["heap", "value"]
abbrev P_object_kind : List Str := ["heap", "value"]
theorem sc_object_kind : FnScope N_object_kind P_object_kind (defScope s_object_kind) := ⟨rfl, rfl, rfl, by decide +kernel, rfl, by decide +kernel, by decide +kernel⟩
abbrev s_class_line : Stmt := top 6
abbrev N_class_line : List Str := ["heap", "k", "line"]
abbrev P_class_line : List Str := ["heap", "k"]
theorem sc_class_line : FnScope N_class_line P_class_line (defScope s_class_line) := ⟨rfl, rfl, rfl, by decide +kernel, rfl, by decide +kernel, by decide +kernel⟩
abbrev s_member : Stmt := top 8
abbrev N_member : List Str := ["heap", "k", "x", "each", "found"]
abbrev P_member : List Str := ["heap", "k", "x"]
theorem sc_member : FnScope N_member P_member (defScope s_member) := ⟨rfl, rfl, rfl, by decide +kernel, rfl, by decide +kernel, by decide +kernel⟩
section
variable {P : Program} {w : World} {K : PySem.W.Frag} {mg : Str → Option Value} {base : Heap}
abbrev Ms := List (Str × PyData)
def memD (p : Str × PyData) : PyData := .tuple [.str p.1, p.2]
def find : Ms → Str → Option PyData
  | [], _ => none
  | (y, n) :: r, x => if y = x then some n else find r x
def pairD : Option PyData → PyData
  | some d => d
  | none => .tuple []
theorem find_skip {x : Str} : ∀ {vs : Ms} {i : Nat}, (∀ j, j < i → ∀ p, vs[j]? = some p → p.1 ≠ x) → find vs x = find (vs.drop i) x
  | [], i, _ => by simp
  | (y, n) :: r, 0, _ => by simp
  | (y, n) :: r, i + 1, h => by
    have h0 := h 0 (by omega) (y, n) rfl
    show (if y = x then some n else find r x) = find (r.drop i) x
    rw [if_neg h0]
    exact find_skip fun j hj p hp => h (j + 1) (by omega) p hp
theorem find_mem {x : Str} {d : PyData} : ∀ {vs : Ms}, find vs x = some d → ∃ p ∈ vs, p.2 = d
  | [], h => by cases h
  | (y, n) :: r, h => by
    have h : (if y = x then some n else find r x) = some d := h
    split at h
    · exact ⟨_, List.mem_cons_self, Option.some.inj h⟩
    · obtain ⟨p, hp, e⟩ := find_mem h
      exact ⟨p, List.mem_cons_of_mem _ hp, e⟩
theorem find_at {x : Str} {vs : Ms} {i : Nat} {z : Str} {d : PyData} (hall : ∀ j, j < i → ∀ p, vs[j]? = some p → p.1 ≠ x) (hi : vs[i]? = some (z, d)) (c : z = x) : find vs x = some d := by
  have hl : i < vs.length := (List.getElem?_eq_some_iff.mp hi).1
  rw [find_skip (i := i) hall, List.drop_eq_getElem_cons hl]
  have e : vs[i] = (z, d) := Option.some.inj ((List.getElem?_eq_getElem hl).symm.trans hi)
  rw [e]
  show (if z = x then some d else _) = _
  rw [if_pos c]
theorem all_next {x : Str} {vs : Ms} {i : Nat} {z : Str} {d : PyData} (hall : ∀ j, j < i → ∀ p, vs[j]? = some p → p.1 ≠ x) (hi : vs[i]? = some (z, d)) (c : z ≠ x) : ∀ j, j < i + 1 → ∀ p, vs[j]? = some p → p.1 ≠ x := fun j hj p hp => by
  by_cases e : j = i
  · subst e
    rw [hi] at hp
    obtain rfl := Option.some.inj hp
    exact c
  · exact hall j (by omega) p hp
theorem find_none {x : Str} {vs : Ms} (hall : ∀ j, j < vs.length → ∀ p, vs[j]? = some p → p.1 ≠ x) : find vs x = none := by
  rw [find_skip (i := vs.length) hall, List.drop_length]
  rfl
theorem memD_at {H : Hp} {xs : List V} {ms : Ms} {i : Nat} {y : V} (ha : DtAll K H xs (ms.map memD)) (hy : xs[i]? = some y) : ∃ z d q u, ms[i]? = some (z, d) ∧ y = .ref q ∧ SqT K H q [.str z, u] ∧ Dt K H u d := by
  have hl := ha.length
  rw [List.length_map] at hl
  have hi : i < ms.length := by have := (List.getElem?_eq_some_iff.mp hy).1; omega
  have hvi : ms[i]? = some ms[i] := List.getElem?_eq_getElem hi
  generalize ms[i] = p at hvi
  obtain ⟨z, n⟩ := p
  have hd : (ms.map memD)[i]? = some (memD (z, n)) := by rw [List.getElem?_map, hvi]; rfl
  obtain ⟨y', hy', dy⟩ := ha.get hd
  rw [hy] at hy'
  obtain rfl := Option.some.inj hy'
  obtain ⟨q2, u, rfl, hq2, du⟩ := Dt.pair dy
  exact ⟨z, n, q2, u, hvi, rfl, hq2, du⟩
def spPaired (K : PySem.W.Frag) : Sp := fun vs H Q _ => ∃ v vars x, vs = [v, .str x] ∧ Dt K H v (.tuple (vars.map memD)) ∧ ∀ v' H', Same H H' → Dt K H' v' (pairD (find vars x)) → Q v' H'
theorem ok_paired {f : Addr} {fd : FuncData} (F : Fun K "paired" "paired" s_paired f fd) (T : Txt K mg) : FnG P w K mg base CX0 1 f fd P_paired (spPaired K) := by
  refine okG0 F sc_paired (fun vs H Q E h => ?_) fun cdv A outer s H vs Q E hr hg h => ?_
  · obtain ⟨v, vars, x, rfl, _⟩ := h
    rfl
  · obtain ⟨v, vars, x, rfl, hv, k⟩ := h
    refine ⟨_, (pss_cons (ps_for PassesOwn.never rfl (pi_tup (pv 0)) (pg_tup (by rfl) (pgs_cons (pg_name (i := 2) sc_paired.nd rfl (Or.inl rfl)) (pgs_cons (pg_name (i := 3) sc_paired.nd rfl (Or.inl rfl)) pgs_nil)))
   (pss_one (ps_if (pt_cmpR op_eq (pv 2) (pv 1) (nomark _))
   (pss_one (ps_ret (pv 3)))
   pss_nil)))
  (pss_one (ps_ret (pe_tup pa_nil)))), ?_⟩
    obtain ⟨q, xs, rfl, hq, ha⟩ := hv.tuple_inv
    have hl := ha.length
    rw [List.length_map] at hl
    refine ⟨_, rfl, q, rfl, ⟨_, hq⟩, ?_⟩
    refine for_tup (xs := xs) (fun i σ H1 => ∃ x2 x3, σ = [some (.ref q), some (.str x), x2, x3] ∧ H1 = H ∧ (∀ j, j < i → ∀ p, vars[j]? = some p → p.1 ≠ x)) ⟨none, none, rfl, rfl, by simp⟩ ?_ ?_ ?_
    · rintro i σ H1 hi ⟨x2, x3, rfl, rfl, _⟩
      exact hq
    · rintro i y σ H1 hy ⟨x2, x3, rfl, rfl, hall⟩
      obtain ⟨z, n, q2, u, hvi, rfl, hq2, du⟩ := memD_at ha hy
      refine ⟨q2, _, rfl, hq2, rfl, _, _, rfl, _, _, rfl, rfl, ?_⟩
      refine ⟨_, rfl, _, rfl, rfl, _, rfl, ?_⟩
      refine ite3 (fun c => ?_) fun c => ?_
      · have c := V.str.inj (of_decide_eq_true c)
        rw [find_at hall hvi c] at k
        exact ⟨_, rfl, k _ _ (fun _ _ h => h) du⟩
      · have c := of_decide_eq_false c
        exact ⟨_, _, rfl, rfl, all_next hall hvi fun h => c (congrArg V.str h)⟩
    · rintro σ H1 ⟨x2, x3, rfl, rfl, hall⟩
      rw [find_none (by rw [← hl]; exact hall)] at k
      exact ⟨sz_0, fun u hu => k _ _ (Same.new hu) (Dt.made hu .nil)⟩
/-! objects -/
inductive Ob
  | cls (n : Str) (b : Int) (ms : Ms)
  | inst (k : Int) (ms : Ms)
  | other (z : Str) (r : List PyData)
def obD : Ob → PyData
  | .cls n b ms => .tuple [.str "class", .str n, .int b, .tuple (ms.map memD)]
  | .inst k ms => .tuple [.str "inst", .int k, .tuple (ms.map memD)]
  | .other z r => .tuple (.str z :: r)
def tagOf : Ob → Str
  | .cls _ _ _ => "class"
  | .inst _ _ => "inst"
  | .other z _ => z
theorem obD_inv {H : Hp} {v : V} {o : Ob} (h : Dt K H v (obD o)) : ∃ q ws, v = .ref q ∧ SqT K H q (.str (tagOf o) :: ws) := by
  cases o with
  | cls n b ms => obtain ⟨q, ws, e, hs, _⟩ := Dt.head h; exact ⟨q, ws, e, hs⟩
  | inst k ms => obtain ⟨q, ws, e, hs, _⟩ := Dt.head h; exact ⟨q, ws, e, hs⟩
  | other z r => obtain ⟨q, ws, e, hs, _⟩ := Dt.head h; exact ⟨q, ws, e, hs⟩
theorem cls_inv {H : Hp} {v : V} {n : Str} {b : Int} {ms : Ms} (h : Dt K H v (obD (.cls n b ms))) : ∃ q u, v = .ref q ∧ SqT K H q [.str "class", .str n, .int b, u] ∧ Dt K H u (.tuple (ms.map memD)) := by
  obtain ⟨q, ws, rfl, hs, hw⟩ := Dt.head h
  obtain ⟨x1, ws1, rfl, h1, hw⟩ := hw.cons_inv
  obtain ⟨x2, ws2, rfl, h2, hw⟩ := hw.cons_inv
  obtain ⟨x3, ws3, rfl, h3, hw⟩ := hw.cons_inv
  cases hw.nil_inv
  cases h1.str_inv
  cases h2.int_inv
  exact ⟨q, x3, rfl, hs, h3⟩
theorem inst_inv {H : Hp} {v : V} {k : Int} {ms : Ms} (h : Dt K H v (obD (.inst k ms))) : ∃ q u, v = .ref q ∧ SqT K H q [.str "inst", .int k, u] ∧ Dt K H u (.tuple (ms.map memD)) := by
  obtain ⟨q, ws, rfl, hs, hw⟩ := Dt.head h
  obtain ⟨x1, ws1, rfl, h1, hw⟩ := hw.cons_inv
  obtain ⟨x2, ws2, rfl, h2, hw⟩ := hw.cons_inv
  cases hw.nil_inv
  cases h1.int_inv
  exact ⟨q, x2, rfl, hs, h2⟩
theorem ob_at {H : Hp} {hp : Addr} {obs : List Ob} {j : Nat} {o : Ob} (L : ListAt K H hp (obs.map obD)) (h : obs[j]? = some o) : ∃ zs y, H hp = some (.lst zs) ∧ zs[j]? = some y ∧ Dt K H y (obD o) := by
  obtain ⟨zs, ez, az⟩ := L
  obtain ⟨y, hy, dy⟩ := az.get (show (obs.map obD)[j]? = some (obD o) by rw [List.getElem?_map, h]; rfl)
  exact ⟨zs, y, ez, hy, dy⟩
/-- a value, seen with the objects: the kind of the object that it refers to -/
inductive ValK (obs : List Ob) : PyData → Str → Prop
  | ref (j : Nat) (o : Ob) : obs[j]? = some o → ValK obs (.tuple [.str "ref", .int (j : Nat)]) (tagOf o)
  | val (z : Str) (r : List PyData) : z ≠ "ref" → ValK obs (.tuple (.str z :: r)) ""
def spKind (K : PySem.W.Frag) : Sp := fun vs H Q _ => ∃ hp obs v d t, vs = [.ref hp, v] ∧ ListAt K H hp (obs.map obD) ∧ Dt K H v d ∧ ValK obs d t ∧ Q (.str t) H
theorem ok_kind {f : Addr} {fd : FuncData} (F : Fun K "object_kind" "object_kind" s_object_kind f fd) (T : Txt K mg) : FnG P w K mg base CX0 1 f fd P_object_kind (spKind K) := by
  refine okG0 F sc_object_kind (fun vs H Q E h => ?_) fun cdv A outer s H vs Q E hr hg h => ?_
  · obtain ⟨hp, obs, v, d, t, rfl, _⟩ := h
    rfl
  · obtain ⟨hp, obs, v, d, t, rfl, L, dv, hk, k⟩ := h
    refine ⟨_, (pss_cons (ps_if (pt_cmpR op_ne (pe_ix ix_tup (pv 1) pe_int (fun _ _ => rfl)) pe_str (nomark _))
   (pss_one (ps_ret pe_str))
   pss_nil)
  (pss_one (ps_ret (pe_ix ix_tup (pe_ix ix_list (pv 0) (pe_ix ix_tup (pv 1) pe_int (fun _ _ => rfl)) (fun _ _ => rfl)) pe_int (fun _ _ => rfl))))), ?_⟩
    cases hk with
    | ref j o ho =>
      obtain ⟨q, x, rfl, hq, hx⟩ := Dt.pair dv
      cases hx.int_inv
      obtain ⟨zs, y, ez, hy, dy⟩ := ob_at L ho
      obtain ⟨q2, ws, rfl, hq2⟩ := obD_inv dy
      refine ⟨_, rfl, q, _, _, _, rfl, rfl, hq, at0, rfl, _, rfl, iteFb (by decide +kernel) ?_⟩
      exact ⟨_, rfl, _, rfl, q, _, _, _, rfl, rfl, hq, at1, hp, _, _, _, rfl, rfl, SqL.of ez, atI_nat hy, q2, _, _, _, rfl, rfl, hq2, at0, k⟩
    | val z r hz =>
      obtain ⟨q, ws, rfl, hq, _⟩ := Dt.head dv
      refine ⟨_, rfl, q, _, _, _, rfl, rfl, hq, at0, rfl, _, rfl, iteTb ?_ k⟩
      show (!decide (V.str z = V.str "ref")) = true
      rw [decide_eq_false fun h => hz (V.str.inj h)]; rfl
/-! the line of a class -/
inductive Chain (obs : List Ob) : Int → List Int → Prop
  | stop {k : Int} : k < 0 → Chain obs k []
  | next {k : Nat} {n : Str} {b : Int} {ms : Ms} {r : List Int} : obs[k]? = some (.cls n b ms) → b < (k : Int) → Chain obs b r → Chain obs (k : Nat) ((k : Int) :: r)
theorem Chain.mem {obs : List Ob} {k : Int} {l : List Int} (h : Chain obs k l) : ∀ x ∈ l, ∃ (j : Nat) (n : Str) (b : Int) (ms : Ms), x = (j : Int) ∧ obs[j]? = some (.cls n b ms) := by
  induction h with
  | stop _ => intro x hx; cases hx
  | next hk hb _ ih =>
    intro x hx
    rcases List.mem_cons.mp hx with rfl | hx
    · exact ⟨_, _, _, _, rfl, hk⟩
    · exact ih x hx
theorem Chain.len {obs : List Ob} {k : Int} {l : List Int} (h : Chain obs k l) : (l.length : Int) ≤ k + 1 ∨ k < 0 := by
  induction h with
  | stop h => exact .inr h
  | next hk hb hr ih =>
    left
    rw [List.length_cons]
    rcases ih with ih | ih
    · omega
    · cases hr with
      | stop _ => simp; omega
      | next _ _ _ => omega
def spLine (K : PySem.W.Frag) : Sp := fun vs H Q _ => ∃ hp obs k line, vs = [.ref hp, .int k] ∧ ListAt K H hp (obs.map obD) ∧ Chain obs k line ∧ line.length ≤ 1000 ∧ ∀ a H', Same H H' → SqT K H' a (line.map V.int) → Q (.ref a) H'
theorem ok_line {f : Addr} {fd : FuncData} (F : Fun K "class_line" "class_line" s_class_line f fd) (T : Txt K mg) : FnG P w K mg base CX0 1 f fd P_class_line (spLine K) := by
  refine okG0 F sc_class_line (fun vs H Q E h => ?_) fun cdv A outer s H vs Q E hr hg h => ?_
  · obtain ⟨hp, obs, k0, line, rfl, _⟩ := h
    rfl
  · obtain ⟨hp, obs, k0, line, rfl, L, hc, hll, k⟩ := h
    refine ⟨_, (pss_cons (ps_set (i := 2) sc_class_line.nd rfl (Or.inl rfl) (pe_lst pa_nil))
  (pss_cons (ps_while PassesOwn.never (pt_up (pt_cmpR op_ge (pv 1) pe_int (nomark _)))
   (pss_cons (ps_expr (pe_bm PySem.F.plainAttrs_list PySem.F.slot_list_append PySem.F.type_list_append mt_append (pv 2) (pa_cons (pv 1) pa_nil)))
  (pss_one (ps_set (i := 1) sc_class_line.nd rfl (Or.inl rfl) (pe_ix ix_tup (pe_ix ix_list (pv 0) (pv 1) (fun _ _ => rfl)) pe_int (fun _ _ => rfl))))))
  (pss_one (ps_ret (pe_callTy call_tuple_of (by rfl) T.b_tuple (by decide +kernel) (pa_cons (pv 2) pa_nil)))))), ?_⟩
    refine ⟨sz_0, fun la hla => ?_⟩
    have lah : hp ≠ la := by obtain ⟨zs, ez, _⟩ := L; exact ne_of_none ez hla
    refine while_up (fun σ H1 => ∃ (k1 : Int) (dn rest : List Int), σ = [some (.ref hp), some (.int k1), some (.ref la)] ∧ dn ++ rest = line ∧ Chain obs k1 rest ∧ H1 la = some (.lst (dn.map V.int)) ∧ Same H H1)
      (fun (σ : L2.St) (_ : Hp) => match σ[1]? with | some (some (V.int j)) => (j + 1).toNat | _ => 0) ⟨k0, [], line, rfl, rfl, hc, upd_same, Same.new hla⟩ ?_
    rintro σ H1 ⟨k1, dn, rest, rfl, hdr, hc1, e1, S1⟩
    refine ⟨_, rfl, _, _, rfl, rfl, _, rfl, ?_⟩
    cases hc1 with
    | stop hk =>
      refine iteFb (decide_eq_false (by omega)) ?_
      rw [List.append_nil] at hdr
      subst hdr
      exact ⟨_, rfl, la, _, rfl, .inl ⟨SqL.of e1, fun t ht => k t _ (S1.trans (Same.new ht)) (SqT.of upd_same)⟩⟩
    | @next j n b ms r hj hb hr =>
      refine iteTb (decide_eq_true (by omega)) ?_
      have hdl : dn.length ≤ 1000 := by rw [← hdr, List.length_append] at hll; omega
      refine ⟨_, rfl, .inl ⟨rfl, _, SqL.of e1⟩, _, rfl, la, _, _, rfl, rfl, e1, by rw [List.length_map]; exact Nat.lt_of_le_of_lt hdl (by decide), ?_⟩
      have S2 : Same H (upd H1 la (.lst (dn.map V.int ++ [.int (j : Nat)]))) := fun b o hb => by rw [upd_ne (ne_of_none hb hla)]; exact S1 b o hb
      obtain ⟨zs, y, ez, hy, dy⟩ := ob_at (listAt_mono L S2) hj
      obtain ⟨q, u, rfl, hq, du⟩ := cls_inv dy
      refine ⟨_, rfl, _, rfl, hp, _, _, _, rfl, rfl, SqL.of ez, atI_nat hy, q, _, _, _, rfl, rfl, hq, at2, ?_⟩
      refine ⟨⟨b, dn ++ [(j : Int)], r, rfl, by rw [List.append_assoc]; exact hdr, hr, by rw [upd_same, List.map_append]; rfl, S2⟩, ?_⟩
      show (b + 1).toNat < ((j : Int) + 1).toNat
      omega
/-! members -/
def msOf (obs : List Ob) (k : Int) : Ms := match obs[k.toNat]? with
  | some (.cls _ _ ms) => ms
  | _ => []
def memF (obs : List Ob) : List Int → Str → Option PyData
  | [], _ => none
  | k :: r, x => match find (msOf obs k) x with
    | some d => some d
    | none => memF obs r x
theorem msOf_cls {obs : List Ob} {j : Nat} {n : Str} {b : Int} {ms : Ms} (h : obs[j]? = some (.cls n b ms)) : msOf obs (j : Int) = ms := by
  unfold msOf
  rw [Int.toNat_natCast, h]
theorem eqv_pair {o : Option PyData} (h : ∀ d, o = some d → VOk d) : PyData.eqv (pairD o) (.tuple []) = o.isNone := by
  cases o with
  | none => rw [show pairD none = .tuple [] from rfl, eqv_nil]; rfl
  | some d =>
    obtain ⟨z, r, rfl, _⟩ := (h d rfl).tup
    rw [show pairD (some (PyData.tuple (.str z :: r))) = .tuple (.str z :: r) from rfl, eqv_nil]; rfl
theorem shp_pair {o : Option PyData} (h : ∀ d, o = some d → VOk d) : SeqAt.shaped (pairD o) = true := by
  cases o with
  | none => rfl
  | some d => exact (h d rfl).shp.sh (by decide)
/-- each member of each class is a value -/
def MOk (obs : List Ob) : Prop := ∀ (j : Nat) (n : Str) (b : Int) (ms : Ms), obs[j]? = some (.cls n b ms) → ∀ p ∈ ms, VOk p.2
theorem MOk.find {obs : List Ob} (h : MOk obs) {k : Int} {x : Str} : ∀ d, find (msOf obs k) x = some d → VOk d := fun d hd => by
  obtain ⟨p, hp, rfl⟩ := find_mem hd
  unfold msOf at hp
  split at hp
  · next e => exact h _ _ _ _ e p hp
  · cases hp
theorem memF_ok {obs : List Ob} (h : MOk obs) {x : Str} : ∀ {l : List Int} d, memF obs l x = some d → VOk d
  | [], d, hd => by cases hd
  | k :: r, d, hd => by
    have hd : (match find (msOf obs k) x with | some d => some d | none => memF obs r x) = some d := hd
    cases hf : find (msOf obs k) x with
    | some e => rw [hf] at hd; exact h.find d (hf.trans hd)
    | none => rw [hf] at hd; exact memF_ok h d hd
def spMember (K : PySem.W.Frag) : Sp := fun vs H Q _ => ∃ hp obs k line x, vs = [.ref hp, .int k, .str x] ∧ ListAt K H hp (obs.map obD) ∧ Chain obs k line ∧ line.length ≤ 1000 ∧ MOk obs ∧ ∀ v H', Same H H' → Dt K H' v (pairD (memF obs line x)) → Q v H'
theorem ok_member {f : Addr} {fd : FuncData} (F : Fun K "member" "member" s_member f fd) (T : Txt K mg) (U_class_line : Use P w K mg base CX0 "class_line" 1 P_class_line (spLine K)) (U_paired : Use P w K mg base CX0 "paired" 1 P_paired (spPaired K)) :
    FnG P w K mg base CX0 2 f fd P_member (spMember K) := by
  refine okG0 F sc_member (fun vs H Q E h => ?_) fun cdv A outer s H vs Q E hr hg h => ?_
  · obtain ⟨hp, obs, k0, line, x, rfl, _⟩ := h
    rfl
  · obtain ⟨hp, obs, k0, line, x, rfl, L, hc, hll, hM, k⟩ := h
    refine ⟨_, (pss_cons (ps_for PassesOwn.never rfl (pi_tup (pe_use U_class_line (hr.mono (by decide)) hg rfl (pa_cons (pv 0) (pa_cons (pv 1) pa_nil)))) (pg_name (i := 3) sc_member.nd rfl (Or.inl rfl))
   (pss_cons (ps_set (i := 4) sc_member.nd rfl (Or.inl rfl) (pe_use U_paired (hr.mono (by decide)) hg rfl (pa_cons (pe_ix ix_tup (pe_ix ix_list (pv 0) (pv 3) (fun _ _ => rfl)) pe_int (fun _ _ => rfl)) (pa_cons (pv 2) pa_nil))))
  (pss_one (ps_if (pt_cmpR (op_neD hr.units) (pv 4) (pe_tup pa_nil) (nomark _))
   (pss_one (ps_ret (pv 4)))
   pss_nil))))
  (pss_one (ps_ret (pe_tup pa_nil)))), ?_⟩
    refine ⟨_, rfl, _, rfl, hp, obs, k0, line, rfl, L, hc, hll, fun la H1 S1 hla => ?_⟩
    refine ⟨la, rfl, ⟨_, hla⟩, ?_⟩
    refine for_tup (xs := line.map V.int) (fun i σ H2 => ∃ x3 x4, σ = [some (.ref hp), some (.int k0), some (.str x), x3, x4] ∧ Same H1 H2 ∧ memF obs line x = memF obs (line.drop i) x) ⟨none, none, rfl, fun _ _ h => h, by simp⟩ ?_ ?_ ?_
    · rintro i σ H2 hi ⟨x3, x4, rfl, S2, _⟩
      exact Same.tupl S2 hla
    · rintro i y σ H2 hy ⟨x3, x4, rfl, S2, hm⟩
      rw [List.getElem?_map] at hy
      obtain ⟨e, he, rfl⟩ := Option.map_eq_some_iff.mp hy
      obtain ⟨j, n, b, ms, rfl, hj⟩ := hc.mem e (List.mem_of_getElem? he)
      have hil : i < line.length := (List.getElem?_eq_some_iff.mp he).1
      have hdr : line.drop i = (j : Int) :: line.drop (i + 1) := by
        rw [List.drop_eq_getElem_cons hil]
        congr 1
        exact Option.some.inj ((List.getElem?_eq_getElem hil).symm.trans he)
      have hstep : memF obs (line.drop i) x = (match find ms x with | some d => some d | none => memF obs (line.drop (i + 1)) x) := by
        rw [hdr]
        show (match find (msOf obs (j : Int)) x with | some d => some d | none => memF obs (line.drop (i + 1)) x) = _
        rw [msOf_cls hj]
      rw [hstep] at hm
      have hfok : ∀ d, find ms x = some d → VOk d := fun d hd => hM.find (k := (j : Int)) d (by rw [msOf_cls hj]; exact hd)
      obtain ⟨zs, y, ez, hy2, dy⟩ := ob_at (listAt_mono L (S1.trans S2)) hj
      obtain ⟨q, u, rfl, hq, du⟩ := cls_inv dy
      refine ⟨_, rfl, _, rfl, hp, _, _, _, rfl, rfl, SqL.of ez, atI_nat hy2, q, _, _, _, rfl, rfl, hq, at_of' (j := 3) rfl rfl, _, rfl, u, ms, x, rfl, du, fun v1 H3 S3 d1 => ?_⟩
      refine ⟨_, rfl, sz_0, fun u2 hu2 => ?_⟩
      have S4 := Same.new (o := .tup []) hu2
      refine ⟨_, _, (d1.mono S4).dp, (Dt.made hu2 .nil).dp, shp_pair hfok, rfl, ?_⟩
      rw [eqv_pair hfok]
      cases hf : find ms x with
      | some d =>
        rw [hf] at hm d1
        refine ⟨_, rfl, iteTb rfl ?_⟩
        rw [hm] at k
        exact ⟨_, rfl, k _ _ (((S1.trans S2).trans S3).trans S4) (d1.mono S4)⟩
      | none =>
        rw [hf] at hm
        refine ⟨_, rfl, iteFb rfl ?_⟩
        exact ⟨_, _, rfl, (S2.trans S3).trans S4, hm⟩
    · rintro σ H2 ⟨x3, x4, rfl, S2, hm⟩
      rw [List.length_map, List.drop_length] at hm
      rw [hm] at k
      exact ⟨sz_0, fun u hu => k _ _ ((S1.trans S2).trans (Same.new hu)) (Dt.made hu .nil)⟩
end

abbrev s_is_kind : Stmt := top 7
abbrev N_is_kind : List Str := ["heap", "value", "k"]
abbrev P_is_kind : List Str := ["heap", "value", "k"]
theorem sc_is_kind : FnScope N_is_kind P_is_kind (defScope s_is_kind) := ⟨rfl, rfl, rfl, by decide +kernel, rfl, by decide +kernel, by decide +kernel⟩
abbrev s_base_refusal : Stmt := top 9
abbrev N_base_refusal : List Str := ["heap", "base"]
abbrev P_base_refusal : List Str := ["heap", "base"]
theorem sc_base_refusal : FnScope N_base_refusal P_base_refusal (defScope s_base_refusal) := ⟨rfl, rfl, rfl, by decide +kernel, rfl, by decide +kernel, by decide +kernel⟩
abbrev s_law_chain : Stmt := top 17
abbrev N_law_chain : List Str := ["bases", "k", "chain", "at", "turn"]
abbrev P_law_chain : List Str := ["bases", "k"]
theorem sc_law_chain : FnScope N_law_chain P_law_chain (defScope s_law_chain) := ⟨rfl, rfl, rfl, by decide +kernel, rfl, by decide +kernel, by decide +kernel⟩
abbrev s_law_member : Stmt := top 18
abbrev N_law_member : List Str := ["heap", "chain", "name", "k", "pair"]
abbrev P_law_member : List Str := ["heap", "chain", "name"]
theorem sc_law_member : FnScope N_law_member P_law_member (defScope s_law_member) := ⟨rfl, rfl, rfl, by decide +kernel, rfl, by decide +kernel, by decide +kernel⟩
abbrev s_law_members : Stmt := top 19
abbrev N_law_members : List Str := ["box", "names", "rows", "k", "name", "pair"]
abbrev P_law_members : List Str := ["box", "names"]
theorem sc_law_members : FnScope N_law_members P_law_members (defScope s_law_members) := ⟨rfl, rfl, rfl, by decide +kernel, rfl, by decide +kernel, by decide +kernel⟩
abbrev s_law_long : Stmt := top 20
abbrev N_law_long : List Str := ["many", "heap", "k", "due", "value"]
abbrev P_law_long : List Str := ["many"]
theorem sc_law_long : FnScope N_law_long P_law_long (defScope s_law_long) := ⟨rfl, rfl, rfl, by decide +kernel, rfl, by decide +kernel, by decide +kernel⟩
abbrev s_law : Stmt := top 21
abbrev N_law : List Str := ["script", "box", "names", "heap", "bases", "k", "many", "owners", "kept", "chain", "name", "other"]
abbrev P_law : List Str := ["script"]
theorem sc_law : FnScope N_law P_law (defScope s_law) := ⟨rfl, rfl, rfl, by decide +kernel, rfl, by decide +kernel, by decide +kernel⟩
section
variable {P : Program} {w : World} {K : PySem.W.Frag} {mg : Str → Option Value} {base : Heap}
inductive KindIs (obs : List Ob) (k : Int) : PyData → Bool → Prop
  | inst (j : Nat) (c : Int) (ms : Ms) (line : List Int) : obs[j]? = some (.inst c ms) → Chain obs c line → line.length ≤ 1000 → KindIs obs k (.tuple [.str "ref", .int (j : Nat)]) (decide (k ∈ line))
  | not (d : PyData) (t : Str) : ValK obs d t → t ≠ "inst" → KindIs obs k d false
theorem inV_int {x : Int} (ys : List Int) : inV (.int x) (ys.map V.int) = decide (x ∈ ys) := by
  unfold inV
  induction ys with
  | nil => rfl
  | cons y r ih =>
    rw [List.map_cons, List.any_cons, ih]
    have : eqV (.int y) (.int x) = decide (y = x) := by
      show (y == x) = _
      by_cases e : y = x
      · subst e; simp
      · simp [e]
    rw [this]
    by_cases e : y = x
    · subst e; simp
    · have : x ≠ y := fun h => e h.symm
      simp [e, this]
theorem flat_int (ys : List Int) : (ys.map V.int).all flatV = true := by
  rw [List.all_map]
  exact List.all_eq_true.mpr fun _ _ => rfl
def spIsKind (K : PySem.W.Frag) : Sp := fun vs H Q _ => ∃ hp obs v d k b, vs = [.ref hp, v, .int k] ∧ ListAt K H hp (obs.map obD) ∧ Dt K H v d ∧ KindIs obs k d b ∧ ∀ H', Same H H' → Q (.bl b) H'
theorem ok_iskind {f : Addr} {fd : FuncData} (F : Fun K "is_kind" "is_kind" s_is_kind f fd) (T : Txt K mg) (U_object_kind : Use P w K mg base CX0 "object_kind" 1 P_object_kind (spKind K)) (U_class_line : Use P w K mg base CX0 "class_line" 1 P_class_line (spLine K)) :
    FnG P w K mg base CX0 2 f fd P_is_kind (spIsKind K) := by
  refine okG0 F sc_is_kind (fun vs H Q E h => ?_) fun cdv A outer s H vs Q E hr hg h => ?_
  · obtain ⟨hp, obs, v, d, kk, b, rfl, _⟩ := h
    rfl
  · obtain ⟨hp, obs, v, d, kk, b, rfl, L, dv, hk, k⟩ := h
    refine ⟨_, (pss_one (ps_ret (pe_and (pe_cmpR op_eq (pe_use U_object_kind (hr.mono (by decide)) hg rfl (pa_cons (pv 0) (pa_cons (pv 1) pa_nil))) pe_str (nomark _)) (pe_one (pe_cmpR op_in_seq (pv 2) (pe_use U_class_line (hr.mono (by decide)) hg rfl (pa_cons (pv 0) (pa_cons (pe_ix ix_tup (pe_ix ix_list (pv 0) (pe_ix ix_tup (pv 1) pe_int (fun _ _ => rfl)) (fun _ _ => rfl)) pe_int (fun _ _ => rfl)) pa_nil))) (by rfl)))))), ?_⟩
    cases hk with
    | inst j c ms line ho hc hl =>
      refine ⟨_, rfl, _, rfl, hp, obs, v, _, _, rfl, L, dv, .ref j _ ho, rfl, _, rfl, iteTb (decide_eq_true rfl) ?_⟩
      obtain ⟨q, x, rfl, hq, hx⟩ := Dt.pair dv
      cases hx.int_inv
      obtain ⟨zs, y, ez, hy, dy⟩ := ob_at L ho
      obtain ⟨q2, u, rfl, hq2, du⟩ := inst_inv dy
      refine ⟨_, rfl, _, rfl, _, rfl, _, rfl, q, _, _, _, rfl, rfl, hq, at1, hp, _, _, _, rfl, rfl, SqL.of ez, atI_nat hy, q2, _, _, _, rfl, rfl, hq2, at1, hp, obs, c, line, rfl, L, hc, hl, fun la H1 S1 hla => ?_⟩
      refine ⟨la, _, rfl, .inr hla, rfl, flat_int _, ?_⟩
      have e : (if false = true then !inV (.int kk) (line.map V.int) else inV (.int kk) (line.map V.int)) = decide (kk ∈ line) := inV_int _
      rw [e]
      exact k _ S1
    | not d t hv ht =>
      refine ⟨_, rfl, _, rfl, hp, obs, v, _, _, rfl, L, dv, hv, rfl, _, rfl, iteFb (decide_eq_false fun h => ht (V.str.inj h)) ?_⟩
      exact k H fun _ _ h => h
inductive BaseIs (obs : List Ob) : PyData → Str → Prop
  | not (d : PyData) (t : Str) : ValK obs d t → t ≠ "class" → BaseIs obs d "not a class"
  | cls (j : Nat) (n : Str) (b : Int) (ms : Ms) (line : List Int) : obs[j]? = some (.cls n b ms) → Chain obs j line → line.length ≤ 1000 → BaseIs obs (.tuple [.str "ref", .int (j : Nat)]) (if 60 ≤ line.length then "too many bases" else "")
def spBase (K : PySem.W.Frag) : Sp := fun vs H Q _ => ∃ hp obs v d t, vs = [.ref hp, v] ∧ ListAt K H hp (obs.map obD) ∧ Dt K H v d ∧ BaseIs obs d t ∧ ∀ H', Same H H' → Q (.str t) H'
theorem ok_base {f : Addr} {fd : FuncData} (F : Fun K "base_refusal" "base_refusal" s_base_refusal f fd) (T : Txt K mg) (U_object_kind : Use P w K mg base CX0 "object_kind" 1 P_object_kind (spKind K)) (U_class_line : Use P w K mg base CX0 "class_line" 1 P_class_line (spLine K)) :
    FnG P w K mg base CX0 2 f fd P_base_refusal (spBase K) := by
  refine okG0 F sc_base_refusal (fun vs H Q E h => ?_) fun cdv A outer s H vs Q E hr hg h => ?_
  · obtain ⟨hp, obs, v, d, t, rfl, _⟩ := h
    rfl
  · obtain ⟨hp, obs, v, d, t, rfl, L, dv, hk, k⟩ := h
    refine ⟨_, (pss_cons (ps_if (pt_cmpR op_ne (pe_use U_object_kind (hr.mono (by decide)) hg rfl (pa_cons (pv 0) (pa_cons (pv 1) pa_nil))) pe_str (nomark _))
   (pss_one (ps_ret pe_str))
   pss_nil)
  (pss_cons (ps_if (pt_cmpR op_ge (pe_callB call_len (by rfl) T.b_len PySem.boot_len (pa_cons (pe_use U_class_line (hr.mono (by decide)) hg rfl (pa_cons (pv 0) (pa_cons (pe_ix ix_tup (pv 1) pe_int (fun _ _ => rfl)) pa_nil))) pa_nil)) (pe_globI T.c_MOST_BASES (by rfl)) (nomark _))
   (pss_one (ps_ret pe_str))
   pss_nil)
  (pss_one (ps_ret pe_str)))), ?_⟩
    cases hk with
    | cls j n b ms line ho hc hl =>
      refine ⟨_, rfl, _, rfl, hp, obs, v, _, _, rfl, L, dv, .ref j _ ho, rfl, _, rfl, iteFb (by show (!decide (V.str "class" = V.str "class")) = false; rw [decide_eq_true rfl]; rfl) ?_⟩
      obtain ⟨q, x, rfl, hq, hx⟩ := Dt.pair dv
      cases hx.int_inv
      refine ⟨_, rfl, _, rfl, q, _, _, _, rfl, rfl, hq, at1, hp, obs, _, line, rfl, L, hc, hl, fun la H1 S1 hla => ?_⟩
      refine ⟨_, _, rfl, .inr ⟨_, hla, rfl⟩, ?_⟩
      rw [List.length_map]
      refine ⟨_, _, rfl, rfl, _, rfl, ?_⟩
      by_cases h60 : 60 ≤ line.length
      · rw [if_pos h60] at k
        exact iteTb (decide_eq_true (by omega)) (k _ S1)
      · rw [if_neg h60] at k
        exact iteFb (decide_eq_false (by omega)) (k _ S1)
    | not d t hv ht =>
      refine ⟨_, rfl, _, rfl, hp, obs, v, _, _, rfl, L, dv, hv, rfl, _, rfl, iteTb ?_ (k H fun _ _ h => h)⟩
      show (!decide (V.str t = V.str "class")) = true
      rw [decide_eq_false fun h => ht (V.str.inj h)]; rfl
/-! the law -/
def spLChain (K : PySem.W.Frag) : Sp := fun vs H Q _ => ∃ (bp : Addr) (bs : List Int) (obs : List Ob) (k : Int) (line : List Int), vs = [.ref bp, .int k] ∧ H bp = some (.lst (bs.map V.int)) ∧ Chain obs k line ∧ (∀ (j : Nat) (n : Str) (b : Int) (ms : Ms), obs[j]? = some (.cls n b ms) → bs[j]? = some b) ∧ line.length ≤ bs.length ∧ bs.length ≤ 1000 ∧
  ∀ la H', H la = none → Same H H' → H' la = some (.lst (line.map V.int)) → Q (.ref la) H'
theorem ok_chain {f : Addr} {fd : FuncData} (F : Fun K "_law_chain" "_law_chain" s_law_chain f fd) (T : Txt K mg) : FnG P w K mg base CX0 1 f fd P_law_chain (spLChain K) := by
  refine okG0 F sc_law_chain (fun vs H Q E h => ?_) fun cdv A outer s H vs Q E hr hg h => ?_
  · obtain ⟨bp, bs, obs, k0, line, rfl, _⟩ := h
    rfl
  · obtain ⟨bp, bs, obs, k0, line, rfl, eb, hc, hbs, hll, hbl, k⟩ := h
    refine ⟨_, (pss_cons (ps_set (i := 2) sc_law_chain.nd rfl (Or.inl rfl) (pe_lst pa_nil))
  (pss_cons (ps_set (i := 3) sc_law_chain.nd rfl (Or.inl rfl) (pv 1))
  (pss_cons (ps_for PassesOwn.never rfl (pi_range1 (by rfl) T.b_range (pa_cons (pe_op op_add (pe_callB call_len (by rfl) T.b_len PySem.boot_len (pa_cons (pv 0) pa_nil)) pe_int) pa_nil)) (pg_name (i := 4) sc_law_chain.nd rfl (Or.inl rfl))
   (pss_one (ps_if (pt_cmpR op_ge (pv 3) pe_int (nomark _))
   (pss_cons (ps_expr (pe_bm PySem.F.plainAttrs_list PySem.F.slot_list_append PySem.F.type_list_append mt_append (pv 2) (pa_cons (pv 3) pa_nil)))
  (pss_one (ps_set (i := 3) sc_law_chain.nd rfl (Or.inl rfl) (pe_ix ix_list (pv 0) (pv 3) (fun _ _ => rfl)))))
   pss_nil)))
  (pss_one (ps_ret (pv 2)))))), ?_⟩
    refine ⟨sz_0, fun la hla => ?_⟩
    have S0 := Same.new (o := .lst []) hla
    have hbla : bp ≠ la := ne_of_none eb hla
    refine ⟨_, rfl, _, rfl, _, _, rfl, .inl ⟨_, SqL.of (S0 _ _ eb), rfl⟩, _, _, rfl, rfl, _, rfl, by rw [List.length_map]; omega, by rw [List.length_map]; omega, ?_⟩
    have en : ((((bs.map V.int).length : Nat) : Int) + 1).toNat = bs.length + 1 := by rw [List.length_map]; omega
    rw [en]
    refine for_range (lo := 0) (n := bs.length + 1) (fun i σ H1 => ∃ (a : Int) (dn rest : List Int) (x4 : Option V), σ = [some (.ref bp), some (.int k0), some (.ref la), some (.int a), x4] ∧ dn ++ rest = line ∧ Chain obs a rest ∧ (rest = [] ∨ dn.length = i) ∧ H1 la = some (.lst (dn.map V.int)) ∧ Same H H1) ⟨k0, [], line, none, rfl, rfl, hc, .inr rfl, upd_same, S0⟩ ?_ ?_
    · rintro i σ H1 hi ⟨a, dn, rest, x4, rfl, hdr, hca, hor, el, S1⟩
      refine ⟨_, rfl, _, _, rfl, rfl, _, rfl, ?_⟩
      cases hca with
      | stop hk =>
        refine iteFb (decide_eq_false (by omega)) ?_
        exact ⟨a, dn, [], _, rfl, hdr, .stop hk, .inl rfl, el, S1⟩
      | @next j n b ms r hj hb hr =>
        refine iteTb (decide_eq_true (by omega)) ?_
        have hdl : dn.length = i := by
          rcases hor with h | h
          · cases h
          · exact h
        have hb2 := hbs _ _ _ _ hj
        refine ⟨_, rfl, .inl ⟨rfl, _, SqL.of el⟩, _, rfl, la, _, _, rfl, rfl, el, by rw [List.length_map]; exact Nat.lt_of_le_of_lt (show dn.length ≤ 1001 by omega) (by decide), ?_⟩
        have S2 : Same H (upd H1 la (.lst (dn.map V.int ++ [.int (j : Nat)]))) := fun c o hc => by rw [upd_ne (ne_of_none hc hla)]; exact S1 c o hc
        refine ⟨_, rfl, _, rfl, bp, _, _, _, rfl, rfl, SqL.of (S2 _ _ eb), atI_nat (by rw [List.getElem?_map, hb2]; rfl), ?_⟩
        exact ⟨b, dn ++ [(j : Int)], r, _, rfl, by rw [List.append_assoc]; exact hdr, hr, .inr (by simp; omega), by rw [upd_same, List.map_append]; rfl, S2⟩
    · rintro σ H1 ⟨a, dn, rest, x4, rfl, hdr, hca, hor, el, S1⟩
      have hr : rest = [] := by
        rcases hor with h | h
        · exact h
        · have : dn.length ≤ line.length := by rw [← hdr, List.length_append]; omega
          omega
      rw [hr, List.append_nil] at hdr
      subst hdr
      exact ⟨_, rfl, k la H1 hla S1 el⟩
def spLMember (K : PySem.W.Frag) : Sp := fun vs H Q _ => ∃ hp cp obs k line x, vs = [.ref hp, .ref cp, .str x] ∧ ListAt K H hp (obs.map obD) ∧ H cp = some (.lst (line.map V.int)) ∧ Chain obs k line ∧ ∀ v H', Same H H' → Dt K H' v (pairD (memF obs line x)) → Q v H'
theorem ok_lmember {f : Addr} {fd : FuncData} (F : Fun K "_law_member" "_law_member" s_law_member f fd) (T : Txt K mg) : FnG P w K mg base CX0 1 f fd P_law_member (spLMember K) := by
  refine okG0 F sc_law_member (fun vs H Q E h => ?_) fun cdv A outer s H vs Q E hr hg h => ?_
  · obtain ⟨hp, cp, obs, k0, line, x, rfl, _⟩ := h
    rfl
  · obtain ⟨hp, cp, obs, k0, line, x, rfl, L, ec, hc, k⟩ := h
    refine ⟨_, (pss_cons (ps_for PassesOwn.never rfl (pi_list (pv 1)) (pg_name (i := 3) sc_law_member.nd rfl (Or.inl rfl))
   (pss_one (ps_for PassesOwn.never rfl (pi_tup (pe_ix ix_tup (pe_ix ix_list (pv 0) (pv 3) (fun _ _ => rfl)) pe_int (fun _ _ => rfl))) (pg_name (i := 4) sc_law_member.nd rfl (Or.inl rfl))
   (pss_one (ps_if (pt_cmpR op_eq (pe_ix ix_tup (pv 4) pe_int (fun _ _ => rfl)) (pv 2) (nomark _))
   (pss_one (ps_ret (pe_ix ix_tup (pv 4) pe_int (fun _ _ => rfl))))
   pss_nil)))))
  (pss_one (ps_ret (pe_tup pa_nil)))), ?_⟩
    refine ⟨_, rfl, cp, rfl, ⟨_, SqL.of ec⟩, ?_⟩
    refine for_list (xs := line.map V.int) (fun i σ H2 => ∃ x3 x4, σ = [some (.ref hp), some (.ref cp), some (.str x), x3, x4] ∧ H2 = H ∧ memF obs line x = memF obs (line.drop i) x) ⟨none, none, rfl, rfl, by simp⟩ ?_ ?_ ?_
    · rintro i σ H2 hi ⟨x3, x4, rfl, rfl, _⟩
      exact SqL.of ec
    · rintro i y σ H2 hy ⟨x3, x4, rfl, rfl, hm⟩
      rw [List.getElem?_map] at hy
      obtain ⟨e, he, rfl⟩ := Option.map_eq_some_iff.mp hy
      obtain ⟨j, n, b, ms, rfl, hj⟩ := hc.mem e (List.mem_of_getElem? he)
      have hil : i < line.length := (List.getElem?_eq_some_iff.mp he).1
      have hdr : line.drop i = (j : Int) :: line.drop (i + 1) := by
        rw [List.drop_eq_getElem_cons hil]
        congr 1
        exact Option.some.inj ((List.getElem?_eq_getElem hil).symm.trans he)
      have hstep : memF obs (line.drop i) x = (match find ms x with | some d => some d | none => memF obs (line.drop (i + 1)) x) := by
        rw [hdr]
        show (match find (msOf obs (j : Int)) x with | some d => some d | none => memF obs (line.drop (i + 1)) x) = _
        rw [msOf_cls hj]
      rw [hstep] at hm
      obtain ⟨zs, y, ez, hy2, dy⟩ := ob_at L hj
      obtain ⟨q, u, rfl, hq, du⟩ := cls_inv dy
      obtain ⟨q3, xs, rfl, hq3, ha⟩ := du.tuple_inv
      refine ⟨_, rfl, _, rfl, hp, _, _, _, rfl, rfl, SqL.of ez, atI_nat hy2, q, _, _, _, rfl, rfl, hq, at_of' (j := 3) rfl rfl, q3, rfl, ⟨_, hq3⟩, ?_⟩
      refine for_tup (xs := xs) (fun t σ H3 => ∃ x4, σ = [some (.ref hp), some (.ref cp), some (.str x), some (.int (j : Nat)), x4] ∧ H3 = H2 ∧ (∀ j, j < t → ∀ p, ms[j]? = some p → p.1 ≠ x)) ⟨x4, rfl, rfl, by simp⟩ ?_ ?_ ?_
      · rintro t σ H3 ht ⟨x4, rfl, rfl, _⟩
        exact hq3
      · rintro t y σ H3 hy3 ⟨x4, rfl, rfl, hall⟩
        obtain ⟨z, d, q2, u2, hvi, rfl, hq2, du2⟩ := memD_at ha hy3
        refine ⟨_, rfl, q2, _, _, _, rfl, rfl, hq2, at0, _, rfl, rfl, _, rfl, ?_⟩
        refine ite3 (fun c => ?_) fun c => ?_
        · have c := V.str.inj (of_decide_eq_true c)
          rw [find_at hall hvi c] at hm
          rw [hm] at k
          exact ⟨_, rfl, q2, _, _, _, rfl, rfl, hq2, at1, k _ _ (fun _ _ h => h) du2⟩
        · have c := of_decide_eq_false c
          exact ⟨_, rfl, rfl, all_next hall hvi fun h => c (congrArg V.str h)⟩
      · rintro σ H3 ⟨x4, rfl, rfl, hall⟩
        have hl := ha.length
        rw [List.length_map] at hl
        rw [find_none (by rw [← hl]; exact hall)] at hm
        exact ⟨_, _, rfl, rfl, hm⟩
    · rintro σ H2 ⟨x3, x4, rfl, rfl, hm⟩
      rw [List.length_map, List.drop_length] at hm
      rw [hm] at k
      exact ⟨sz_0, fun u hu => k _ _ (Same.new hu) (Dt.made hu .nil)⟩
structure MsOk (ms : Ms) : Prop where
  nm : ∀ p ∈ ms, NameOk p.1
  vl : ∀ p ∈ ms, VOk p.2
  len : ms.length ≤ 4
theorem flat_strs (ys : List Str) : (ys.map V.str).all flatV = true := by
  rw [List.all_map]
  exact List.all_eq_true.mpr fun _ _ => rfl
def spLMembers (K : PySem.W.Frag) : Sp := fun vs H Q _ => ∃ (p dl np : Addr) (ns : List Str), vs = [.ref p, .ref np] ∧ BoxAt H p dl ∧ H np = some (.lst (ns.map V.str)) ∧ ns.length = 8 ∧ (∀ x ∈ ns, NameOk x) ∧ np ≠ p ∧ ∀ v ms H', MsOk ms → Dt K H' v (.tuple (ms.map memD)) → BoxAt H' p dl → Keep p H H' → Q v H'
theorem ok_lmembers {f : Addr} {fd : FuncData} (F : Fun K "_law_members" "_law_members" s_law_members f fd) (T : Txt K mg) (U_law_draw : Use P w K mg base CX0 "_law_draw" 1 P_law_draw (spDraw K)) (U_law_value : Use P w K mg base CX0 "_law_value" 2 P_law_value (spValue K)) : FnG P w K mg base CX0 3 f fd P_law_members (spLMembers K) := by
  refine okG0 F sc_law_members (fun vs H Q E h => ?_) fun cdv A outer s H vs Q E hr hg h => ?_
  · obtain ⟨p, dl, np, ns, rfl, _⟩ := h
    rfl
  · obtain ⟨p, dl, np, ns, rfl, B, en, hnl, hno, hnp, k⟩ := h
    refine ⟨_, (pss_cons (ps_set (i := 2) sc_law_members.nd rfl (Or.inl rfl) (pe_lst pa_nil))
  (pss_cons (ps_for PassesOwn.never rfl (pi_range1 (by rfl) T.b_range (pa_cons (pe_use U_law_draw (hr.mono (by decide)) hg rfl (pa_cons (pv 0) (pa_cons pe_int pa_nil))) pa_nil)) (pg_name (i := 3) sc_law_members.nd rfl (Or.inl rfl))
   (pss_cons (ps_set (i := 4) sc_law_members.nd rfl (Or.inl rfl) (pe_ix ix_list (pv 1) (pe_use U_law_draw (hr.mono (by decide)) hg rfl (pa_cons (pv 0) (pa_cons pe_int pa_nil))) (fun _ _ => rfl)))
  (pss_one (ps_if (pt_cmpR op_notIn_seq (pv 4) (pe_lc (own := [("pair", 5)]) (g := (gName 5)) rfl sc_law_members.nd (pi_list (pv 2)) (blkOk_by (N := N_law_members) (sc := defScope s_law_members) (by decide +kernel)) (fun _ _ _ _ _ => (pg_name (i := 5) sc_law_members.nd rfl (Or.inl rfl))) (fun _ _ _ _ _ => pts_nil) (fun _ _ _ _ _ => (pe_ix (ix_tup : IxR _ (rIxT K)) (pv 5) pe_int (fun _ _ => rfl)))) (by rfl))
   (pss_one (ps_expr (pe_bm PySem.F.plainAttrs_list PySem.F.slot_list_append PySem.F.type_list_append mt_append (pv 2) (pa_cons (pe_tup (pa_cons (pv 4) (pa_cons (pe_use U_law_value (hr.mono (by decide)) hg rfl (pa_cons (pv 0) pa_nil)) pa_nil))) pa_nil))))
   pss_nil))))
  (pss_one (ps_ret (pe_callTy call_tuple_of (by rfl) T.b_tuple (by decide +kernel) (pa_cons (pv 2) pa_nil)))))), ?_⟩
    refine ⟨sz_0, fun rp hrp => ?_⟩
    have S0 := Same.new (o := .lst []) hrp
    have B0 := B.same S0
    have hrpp : rp ≠ p := fun e => by subst e; obtain ⟨xs, g⟩ := B.at_; rw [g] at hrp; cases hrp
    have hrpd : rp ≠ dl := fun e => by subst e; obtain ⟨xs, g⟩ := B.dg; rw [g] at hrp; cases hrp
    have hrpn : rp ≠ np := fun e => by subst e; rw [en] at hrp; cases hrp
    refine ⟨_, rfl, p, dl, 5, rfl, B0, by decide, fun r H1 r0 r1 B1 K1 => ?_⟩
    obtain ⟨N, rfl⟩ := Int.eq_ofNat_of_zero_le r0
    refine ⟨_, rfl, by omega, by omega, ?_⟩
    rw [show ((N : Nat) : Int).toNat = N from Int.toNat_natCast _]
    refine for_range (lo := 0) (n := N) (fun i σ H2 => ∃ (ms : Ms) (x3 x4 : Option V), σ = [some (.ref p), some (.ref np), some (.ref rp), x3, x4, none] ∧ ms.length ≤ i ∧ (∀ p ∈ ms, NameOk p.1) ∧ (∀ p ∈ ms, VOk p.2) ∧ ListAt K H2 rp (ms.map memD) ∧ BoxAt H2 p dl ∧ Keep p H H2) ⟨[], none, none, rfl, by simp, by simp, by simp, ⟨[], K1 _ _ upd_same hrpp, .nil⟩, B1, (Same.keep S0).trans K1⟩ ?_ ?_
    · rintro i σ H2 hi ⟨ms, x3, x4, rfl, hl, hm1, hm2, L2, B2, K2⟩
      refine ⟨_, rfl, _, rfl, p, dl, 8, rfl, B2, by decide, fun r H3 r0 r1 B3 K3 => ?_⟩
      have K23 := K2.trans K3
      obtain ⟨j, rfl⟩ := Int.eq_ofNat_of_zero_le r0
      have hx : ns[j]? = some ns[j] := List.getElem?_eq_getElem (by omega)
      have hxo := hno _ (List.getElem_mem (show j < ns.length by omega))
      generalize ns[j] = x at hx hxo
      have L3 := listAt_keep L2 K3 hrpp B2.at_
      refine ⟨np, _, _, _, rfl, rfl, SqL.of (K23 _ _ en hnp), atI_nat (by rw [List.getElem?_map, hx]; rfl), ?_⟩
      obtain ⟨zs, ez, az⟩ := id L3
      have lz := az.length
      rw [List.length_map] at lz
      refine ⟨_, rfl, _, rfl, rp, rfl, ⟨_, SqL.of ez⟩, fun D hD => ?_⟩
      have hDr : rp ≠ D := ne_of_none ez hD
      refine lc_it (walk_list (xs := zs)) (fun t H' => ∃ ys : List Str, H' D = some (.lst (ys.map V.str)) ∧ ys.length = t ∧ Same H3 H') ⟨[], upd_same, rfl, Same.new hD⟩ (fun _ _ _ h => let ⟨_, _, _, s⟩ := h; SqL.of (s _ _ ez)) ?_ ?_
      · rintro t y H4 H5 ht ⟨ys, eD, hyl, S4⟩ ⟨rfl, hy⟩
        obtain ⟨z, d, q2, u2, hvi, rfl, hq2, du2⟩ := memD_at (DtAll.mono S4 az) hy
        refine ⟨rfl, tYes_of ?_⟩
        refine ⟨_, rfl, q2, _, _, _, rfl, rfl, hq2, at0, ys.map V.str, eD, by rw [List.length_map]; exact Nat.lt_of_le_of_lt (show ys.length ≤ 10 by omega) (by decide), ys ++ [z], by rw [upd_same, List.map_append]; rfl, by simp; omega, fun b o hb => by rw [upd_ne (ne_of_none hb hD)]; exact S4 b o hb⟩
      · rintro H4 ⟨ys, eD, hyl, S4⟩
        refine ⟨D, _, rfl, .inl (SqL.of eD), rfl, flat_strs ys, _, rfl, ?_⟩
        have ez4 := S4 _ _ ez
        have B4 := B3.same S4
        have K4 := K23.trans (Same.keep S4)
        have L4 := listAt_mono L3 S4
        refine ite3 (fun _ => ?_) fun _ => ⟨ms, _, _, rfl, by omega, hm1, hm2, L4, B4, K4⟩
        refine ⟨_, rfl, .inl ⟨rfl, _, SqL.of ez4⟩, _, rfl, _, rfl, p, dl, rfl, B4, fun v d H5 B5 K5 dv hv => ⟨sz_2, fun u hu => ?_⟩⟩
        have L5 := listAt_keep L4 K5 hrpp B4.at_
        have S6 := Same.new (o := .tup [.str x, v]) hu
        have ez6 := S6 _ _ (K5 _ _ ez4 hrpp)
        refine ⟨rp, _, _, rfl, rfl, ez6, Nat.lt_of_le_of_lt (show zs.length ≤ 10 by omega) (by decide), ?_⟩
        refine ⟨ms ++ [(x, d)], _, _, rfl, by simp; omega, fun y hy => ?_, fun y hy => ?_, ?_, (B5.same S6).upd hrpp hrpd, fun b o hb hne => ?_⟩
        · rcases List.mem_append.mp hy with hy | hy
          · exact hm1 y hy
          · rw [List.mem_singleton.mp hy]; exact hxo
        · rcases List.mem_append.mp hy with hy | hy
          · exact hm2 y hy
          · rw [List.mem_singleton.mp hy]; exact hv
        · rw [List.map_append]
          exact listAt_app (listAt_mono L5 S6) ez6 (Dt.made hu (.cons (.str _) (.cons dv .nil)))
        · rw [upd_ne (ne_of_none hb hrp)]
          exact S6 _ _ ((K4.trans K5) b o hb hne)
    · rintro σ H2 ⟨ms, x3, x4, rfl, hl, hm1, hm2, L2, B2, K2⟩
      obtain ⟨zs, ez, az⟩ := id L2
      exact ⟨_, rfl, rp, _, rfl, .inl ⟨SqL.of ez, fun t ht => k _ ms _ ⟨hm1, hm2, by omega⟩ (Dt.made ht az) (B2.same (Same.new ht)) (K2.trans (Same.keep (Same.new ht)))⟩⟩
def longOb (k : Nat) : Ob := .cls "C" ((k : Int) - 1) []
def longObs (many : Nat) : List Ob := (List.range many).map longOb ++ [.inst 0 []]
theorem long_at {many k : Nat} (h : k < many) : (longObs many)[k]? = some (.cls "C" ((k : Int) - 1) []) := by
  unfold longObs
  rw [List.getElem?_append_left (by simpa using h), List.getElem?_map, List.getElem?_range h]
  rfl
theorem long_chain {many : Nat} : ∀ k : Nat, k < many → ∃ line, Chain (longObs many) (k : Int) line ∧ line.length = k + 1
  | 0, h => ⟨[((0 : Nat) : Int)], .next (k := 0) (long_at h) (by omega) (.stop (by omega)), rfl⟩
  | k + 1, h => by
    obtain ⟨line, hc, hl⟩ := long_chain (many := many) k (by omega)
    have hc : Chain (longObs many) (((k + 1 : Nat) : Int) - 1) line := by
      rw [show ((k + 1 : Nat) : Int) - 1 = (k : Int) by omega]
      exact hc
    exact ⟨_, .next (k := k + 1) (long_at h) (by omega) hc, by simp; omega⟩
def spLong (K : PySem.W.Frag) : Sp := fun vs H Q _ => ∃ many : Nat, vs = [.int (many : Nat)] ∧ many ≤ 200 ∧ ∀ H', Q (.bl true) H'
theorem ok_long {f : Addr} {fd : FuncData} (F : Fun K "_law_long" "_law_long" s_law_long f fd) (T : Txt K mg) (U_base_refusal : Use P w K mg base CX0 "base_refusal" 2 P_base_refusal (spBase K)) (U_class_line : Use P w K mg base CX0 "class_line" 1 P_class_line (spLine K)) :
    FnG P w K mg base CX0 3 f fd P_law_long (spLong K) := by
  refine okG0 F sc_law_long (fun vs H Q E h => ?_) fun cdv A outer s H vs Q E hr hg h => ?_
  · obtain ⟨many, rfl, _⟩ := h
    rfl
  · obtain ⟨many, rfl, hm, k⟩ := h
    refine ⟨_, (pss_cons (ps_setLc (i := 1) (own := [("k", 2)]) (g := (gName 2)) rfl sc_law_long.nd rfl rfl (sw_true rfl rfl rfl (by decide +kernel)) (pi_range1 (by rfl) T.b_range (pa_cons (pv 0) pa_nil)) (blkOk_by (N := N_law_long) (sc := defScope s_law_long) (by decide +kernel)) (fun _ _ _ _ _ => (pg_name (i := 2) sc_law_long.nd rfl (Or.inl rfl))) (fun _ _ _ _ _ => pts_nil) (fun _ _ _ _ _ => (pe_tup (pa_cons pe_str (pa_cons pe_str (pa_cons (pe_op op_sub (pv 2) pe_int) (pa_cons (pe_tup pa_nil) pa_nil)))))))
  (pss_cons (ps_expr (pe_bm PySem.F.plainAttrs_list PySem.F.slot_list_append PySem.F.type_list_append mt_append (pv 1) (pa_cons (pe_tup (pa_cons pe_str (pa_cons pe_int (pa_cons (pe_tup pa_nil) pa_nil)))) pa_nil)))
  (pss_cons (ps_for PassesOwn.never rfl (pi_range1 (by rfl) T.b_range (pa_cons (pv 0) pa_nil)) (pg_name (i := 2) sc_law_long.nd rfl (Or.inl rfl))
   (pss_cons (ps_set (i := 3) sc_law_long.nd rfl (Or.inl rfl) pe_str)
  (C8.pss_cut (ps_if (pt_cmpR op_ge (pv 2) pe_int (nomark _))
   (pss_one (ps_set (i := 3) sc_law_long.nd rfl (Or.inl rfl) pe_str))
   pss_nil)
  (pss_one (ps_if (PW.pt (pw_or (pt_cmpR op_ne (pe_use U_base_refusal (hr.mono (by decide)) hg rfl (pa_cons (pv 1) (pa_cons (pe_tup (pa_cons pe_str (pa_cons (pv 2) pa_nil))) pa_nil))) (pv 3) (nomark _)) (pw_or1 (pt_cmpR op_ne (pe_callB call_len (by rfl) T.b_len PySem.boot_len (pa_cons (pe_use U_class_line (hr.mono (by decide)) hg rfl (pa_cons (pv 1) (pa_cons (pv 2) pa_nil))) pa_nil)) (pe_op op_add (pv 2) pe_int) (nomark _)))))
   (pss_one (ps_ret pe_bl))
   pss_nil)))))
  (pss_cons (ps_for PassesOwn.never rfl (pi_list (pe_lst (pa_cons (pe_tup (pa_cons pe_str pa_nil)) (pa_cons (pe_tup (pa_cons pe_str (pa_cons pe_int pa_nil))) (pa_cons (pe_tup (pa_cons pe_str (pa_cons pe_str pa_nil))) (pa_cons (pe_tup (pa_cons pe_str (pa_cons (pv 0) pa_nil))) pa_nil)))))) (pg_name (i := 4) sc_law_long.nd rfl (Or.inl rfl))
   (pss_one (ps_if (pt_cmpR op_ne (pe_use U_base_refusal (hr.mono (by decide)) hg rfl (pa_cons (pv 1) (pa_cons (pv 4) pa_nil))) pe_str (nomark _))
   (pss_one (ps_ret pe_bl))
   pss_nil)))
  (pss_one (ps_ret pe_bl)))))), ?_⟩
    refine ⟨_, rfl, _, rfl, by omega, by omega, fun hp hhp => ?_⟩
    rw [show ((many : Nat) : Int).toNat = many from Int.toNat_natCast _]
    refine lc_dt (K := K) (walk_range (lo := 0) (n := many)) hhp ((List.range many).map fun k => obD (longOb k)) (by simp) (Nat.lt_of_le_of_lt hm (by decide)) (fun _ _ => trivial) ?_ ?_ mono_name
    · rintro i x H1 H2 d Nx hi hd S1 ⟨acc, ea⟩ ⟨rfl, rfl⟩ hN
      rw [List.getElem?_map, List.getElem?_range hi] at hd
      obtain rfl := Option.some.inj hd
      refine ⟨rfl, ?_⟩
      refine ⟨_, rfl, _, _, rfl, rfl, sz_0, fun u hu => ⟨(show 4 ≤ sizeLine by decide), fun u2 hu2 => ?_⟩⟩
      have d1 : Dt K _ (.ref u) (.tuple []) := Dt.made hu .nil
      refine hN _ _ ((Same.new hu).trans (Same.new hu2)) ?_
      have e : (0 : Int) + (i : Int) - 1 = (i : Int) - 1 := by omega
      dsimp only
      rw [e]
      exact Dt.made hu2 (.cons (.str _) (.cons (.str _) (.cons (.int _) (.cons d1 .nil))))
    · intro H1 acc S1 ea ha
      refine ⟨_, rfl, .inl ⟨rfl, _, SqL.of ea⟩, sz_0, fun u hu => ⟨sz_3, fun u2 hu2 => ?_⟩⟩
      have la := ha.length
      have T1 := Same.new (o := .tup []) hu
      have T2 := Same.new (o := .tup [.str "inst", .int 0, .ref u]) hu2
      have ea2 := T2 _ _ (T1 _ _ ea)
      refine ⟨hp, _, _, rfl, rfl, ea2, Nat.lt_of_le_of_lt (show acc.length ≤ 200 by rw [la]; simpa using hm) (by decide), ?_⟩
      have d1 : Dt K _ (.ref u2) (obD (.inst 0 [])) := Dt.made hu2 (.cons (.str _) (.cons (.int _) (.cons (Dt.made hu .nil) .nil)))
      have L0 : ListAt K (upd (upd (upd H1 u (.tup [])) u2 (.tup [.str "inst", .int 0, .ref u])) hp (.lst (acc ++ [.ref u2]))) hp ((longObs many).map obD) := by
        unfold longObs
        rw [List.map_append, List.map_map]
        exact listAt_app ⟨acc, ea2, (DtAll.mono T2 (DtAll.mono T1 ha))⟩ ea2 d1
      generalize upd (upd (upd H1 u (.tup [])) u2 _) hp _ = H2 at L0
      refine ⟨_, rfl, _, rfl, by omega, by omega, ?_⟩
      rw [show ((many : Nat) : Int).toNat = many from Int.toNat_natCast _]
      refine for_range (lo := 0) (n := many) (fun i σ H3 => ∃ x2 x3, σ = [some (.int (many : Nat)), some (.ref hp), x2, x3, none] ∧ Same H2 H3) ⟨none, none, rfl, fun _ _ h => h⟩ ?_ ?_
      · rintro i σ H3 hi ⟨x2, x3, rfl, S3⟩
        have L3 := listAt_mono L0 S3
        obtain ⟨line, hc, hll⟩ := long_chain i hi
        rw [Int.zero_add]
        refine ⟨fun σ H4 => σ = [some (.int (many : Nat)), some (.ref hp), some (.int (i : Nat)), some (.str (if 60 ≤ line.length then "too many bases" else "")), none] ∧ H4 = H3, ?_, ?_⟩
        · refine ⟨_, rfl, _, _, rfl, rfl, _, rfl, ?_⟩
          refine ite3 (fun c => ?_) fun c => ?_
          · have c := of_decide_eq_true c
            refine ⟨?_, rfl⟩
            rw [if_pos (show 60 ≤ line.length by omega)]
            rfl
          · have c := of_decide_eq_false c
            refine ⟨?_, rfl⟩
            rw [if_neg (show ¬ 60 ≤ line.length by omega)]
            rfl
        · rintro _ H4 ⟨rfl, rfl⟩
          refine ⟨_, rfl, _, rfl, sz_2, fun u hu => ?_⟩
          have T4 := Same.new (o := .tup [.str "ref", .int (i : Nat)]) hu
          refine ⟨hp, _, .ref u, _, _, rfl, listAt_mono L3 T4, Dt.made hu (.cons (.str _) (.cons (.int _) .nil)), .cls i _ _ _ line (long_at hi) hc (by omega), fun H5 S5 => ?_⟩
          refine ⟨_, rfl, rfl, _, rfl, iteFb (by rw [decide_eq_true rfl]; rfl) ?_⟩
          refine ⟨_, rfl, _, rfl, hp, _, _, line, rfl, listAt_mono (listAt_mono L3 T4) S5, hc, by omega, fun la H6 S6 hla => ?_⟩
          refine ⟨_, _, rfl, .inr ⟨_, hla, rfl⟩, _, rfl, _, _, rfl, rfl, rfl, _, rfl, iteFb ?_ ?_⟩
          · rw [List.length_map, hll]
            rw [decide_eq_true (show V.int ((i + 1 : Nat) : Int) = V.int ((i : Int) + 1) from congrArg V.int (by omega))]
            rfl
          · exact ⟨_, _, rfl, ((S3.trans T4).trans S5).trans S6⟩
      · rintro σ H3 ⟨x2, x3, rfl, S3⟩
        refine ⟨sz_1, fun u1 hu1 => ⟨sz_2, fun u2 hu2 => ⟨sz_2, fun u3 hu3 => ⟨_, rfl, sz_2, fun u4 hu4 => ⟨(show 4 ≤ sizeLine by decide), fun l hl => ?_⟩⟩⟩⟩⟩
        have T1 := Same.new (o := .tup [.str "none"]) hu1
        have T2 := Same.new (o := .tup [.str "int", .int 0]) hu2
        have T3 := Same.new (o := .tup [.str "built", .str "int"]) hu3
        have T4 := Same.new (o := .tup [.str "ref", .int (many : Nat)]) hu4
        have T5 := Same.new (o := .lst [.ref u1, .ref u2, .ref u3, .ref u4]) hl
        have el := upd_same (H := upd (upd (upd (upd H3 u1 (.tup [.str "none"])) u2 (.tup [.str "int", .int 0])) u3 (.tup [.str "built", .str "int"])) u4 (.tup [.str "ref", .int (many : Nat)])) (a := l) (o := HO.lst [.ref u1, .ref u2, .ref u3, .ref u4])
        have d1 : Dt K _ (.ref u1) (.tuple [.str "none"]) := ((((Dt.made hu1 (.cons (.str _) .nil)).mono T2).mono T3).mono T4).mono T5
        have d2 : Dt K _ (.ref u2) (.tuple [.str "int", .int 0]) := (((Dt.made hu2 (.cons (.str _) (.cons (.int _) .nil))).mono T3).mono T4).mono T5
        have d3 : Dt K _ (.ref u3) (.tuple [.str "built", .str "int"]) := ((Dt.made hu3 (.cons (.str _) (.cons (.str _) .nil))).mono T4).mono T5
        have d4 : Dt K _ (.ref u4) (.tuple [.str "ref", .int (many : Nat)]) := (Dt.made hu4 (.cons (.str _) (.cons (.int _) .nil))).mono T5
        have S8 := ((((S3.trans T1).trans T2).trans T3).trans T4).trans T5
        generalize upd (upd (upd (upd (upd H3 u1 _) u2 _) u3 _) u4 _) l _ = H8 at el d1 d2 d3 d4 S8
        have key : ∀ (i : Nat) (y : V), [V.ref u1, V.ref u2, V.ref u3, V.ref u4][i]? = some y → ∃ d t, Dt K H8 y d ∧ ValK (longObs many) d t ∧ t ≠ "class" := fun i y hy => by
          rcases i with _ | _ | _ | _ | i
          · obtain rfl := Option.some.inj hy; exact ⟨_, _, d1, .val _ _ (by decide +kernel), by decide +kernel⟩
          · obtain rfl := Option.some.inj hy; exact ⟨_, _, d2, .val _ _ (by decide +kernel), by decide +kernel⟩
          · obtain rfl := Option.some.inj hy; exact ⟨_, _, d3, .val _ _ (by decide +kernel), by decide +kernel⟩
          · obtain rfl := Option.some.inj hy
            refine ⟨_, _, d4, .ref many (.inst 0 []) ?_, (by show ("inst" : Str) ≠ "class"; decide +kernel)⟩
            unfold longObs
            rw [List.getElem?_append_right (by simp)]
            simp
          · simp at hy
        refine ⟨l, rfl, ⟨_, SqL.of el⟩, ?_⟩
        refine for_list (xs := [.ref u1, .ref u2, .ref u3, .ref u4]) (fun i σ H9 => ∃ x4, σ = [some (.int (many : Nat)), some (.ref hp), x2, x3, x4] ∧ Same H8 H9) ⟨none, rfl, fun _ _ h => h⟩ ?_ ?_ ?_
        · rintro i σ H9 hi ⟨x4, rfl, S9⟩
          exact SqL.of (S9 _ _ el)
        · rintro i y σ H9 hy ⟨x4, rfl, S9⟩
          obtain ⟨d, t, dd, hv, ht⟩ := key i y hy
          refine ⟨_, rfl, _, rfl, hp, _, y, d, _, rfl, listAt_mono L0 (S8.trans S9), dd.mono S9, .not d t hv ht, fun H10 S10 => ?_⟩
          refine ⟨rfl, _, rfl, iteFb (by rw [decide_eq_true rfl]; rfl) ?_⟩
          exact ⟨_, rfl, S9.trans S10⟩
        · rintro σ H9 ⟨x4, rfl, S9⟩
          exact k H9
theorem dtAll_ints {H : Hp} : ∀ ys : List Int, DtAll K H (ys.map V.int) (ys.map PyData.int)
  | [] => .nil
  | y :: r => .cons (.int y) (dtAll_ints r)
theorem MsOk.sm {ms : Ms} (h : MsOk ms) : Sm (.tuple (ms.map memD)) 3 14000 := by
  have h1 : ∀ d ∈ ms.map memD, Sm d 2 3207 := fun d hd => by
    obtain ⟨q, hq, rfl⟩ := List.mem_map.mp hd
    exact (Sm.tup (.cons (h.nm q hq).sm (.cons (h.vl q hq).sm .nil))).mono (by decide) (by decide)
  have hl := h.len
  refine (Sm.tup (SmAll.many h1)).mono (by decide) ?_
  rw [List.length_map]
  omega
inductive ObOk : Ob → Prop
  | cls (n : Str) (b : Int) (ms : Ms) : shortS n = true → b.natAbs < 1000 → MsOk ms → ObOk (.cls n b ms)
  | inst (k : Int) (ms : Ms) : k.natAbs < 1000 → MsOk ms → ObOk (.inst k ms)
theorem ObOk.sm {o : Ob} (h : ObOk o) : Sm (obD o) 4 20000 := by
  have hi : ∀ b : Int, b.natAbs < 1000 → Sm (.int b) 0 2000 := fun b hb => Sm.int (Nat.lt_of_lt_of_le (show b.natAbs < 2 ^ 20 by omega) (Nat.pow_le_pow_right (by decide) (by decide)))
  cases h with
  | cls n b ms hn hb hm => exact (Sm.tup (.cons (Sm.short (n := "class") (by decide +kernel)) (.cons (Sm.short hn) (.cons (hi b hb) (.cons hm.sm .nil))))).mono (by decide) (by decide)
  | inst k ms hk hm => exact (Sm.tup (.cons (Sm.short (n := "inst") (by decide +kernel)) (.cons (hi k hk) (.cons hm.sm .nil)))).mono (by decide) (by decide)
theorem show_obs {obs : List Ob} (h : ∀ o ∈ obs, ObOk o) (hl : obs.length ≤ 100) : ShowOk (.list (obs.map obD)) := by
  have h1 : ∀ d ∈ obs.map obD, Sm d 4 20000 := fun d hd => by
    obtain ⟨o, ho, rfl⟩ := List.mem_map.mp hd
    exact (h o ho).sm
  refine (Sm.lst (SmAll.many h1)).show (by decide) ?_
  rw [List.length_map]
  exact Nat.le_trans (show _ ≤ 2000300 by omega) (by decide)
theorem show_ints {ys : List Int} (h : ys.length ≤ 100) (hb : ∀ y ∈ ys, y.natAbs < 1000) : ShowOk (.tuple (ys.map PyData.int)) := by
  have h1 : ∀ d ∈ ys.map PyData.int, Sm d 0 2000 := fun d hd => by
    obtain ⟨y, hy, rfl⟩ := List.mem_map.mp hd
    have := hb y hy
    exact Sm.int (Nat.lt_of_lt_of_le (show y.natAbs < 2 ^ 20 by omega) (Nat.pow_le_pow_right (by decide) (by decide)))
  refine (Sm.tup (SmAll.many h1)).show (by decide) ?_
  rw [List.length_map]
  exact Nat.le_trans (show _ ≤ 200300 by omega) (by decide)
theorem show_pair {o : Option PyData} (h : ∀ d, o = some d → VOk d) : ShowOk (pairD o) := by
  cases o with
  | none => exact (Sm.tup .nil).show (by decide) (by decide)
  | some d => exact (h d rfl).sm.show (by decide) (by decide)
structure Hb (K : PySem.W.Frag) (H : Hp) (p dl np : Addr) (nms : List Str) (hp bp : Addr) (obs : List Ob) (bs : List Int) : Prop where
  box : BoxAt H p dl
  nm : H np = some (.lst (nms.map V.str))
  ob : ListAt K H hp (obs.map obD)
  bs : H bp = some (.lst (bs.map V.int))
structure Db (p dl np hp bp : Addr) : Prop where
  n1 : np ≠ p
  h1 : hp ≠ p
  h2 : hp ≠ dl
  h3 : hp ≠ np
  b1 : bp ≠ p
  b2 : bp ≠ dl
  b3 : bp ≠ np
  hb : hp ≠ bp
section
variable {H H' : Hp} {p dl np hp bp : Addr} {nms : List Str} {obs : List Ob} {bs : List Int}
theorem Hb.draw (X : Hb K H p dl np nms hp bp obs bs) (D : Db p dl np hp bp) (B : BoxAt H' p dl) (k : Keep p H H') : Hb K H' p dl np nms hp bp obs bs :=
  ⟨B, k _ _ X.nm D.n1, listAt_keep X.ob k D.h1 X.box.at_, k _ _ X.bs D.b1⟩
theorem Hb.same (X : Hb K H p dl np nms hp bp obs bs) (e : Same H H') : Hb K H' p dl np nms hp bp obs bs :=
  ⟨X.box.same e, e _ _ X.nm, listAt_mono X.ob e, e _ _ X.bs⟩
theorem Hb.addB (X : Hb K H p dl np nms hp bp obs bs) (D : Db p dl np hp bp) (b : Int) : Hb K (upd H bp (.lst (bs.map V.int ++ [.int b]))) p dl np nms hp bp obs (bs ++ [b]) :=
  ⟨X.box.upd D.b1 D.b2, by rw [upd_ne (Ne.symm D.b3)]; exact X.nm, listAt_upd X.ob D.hb X.bs, by rw [upd_same, List.map_append]; rfl⟩
theorem Hb.addO (X : Hb K H p dl np nms hp bp obs bs) (D : Db p dl np hp bp) {xs : List V} (ex : H hp = some (.lst xs)) {u : Addr} {o : Ob} (h : Dt K H (.ref u) (obD o)) : Hb K (upd H hp (.lst (xs ++ [.ref u]))) p dl np nms hp bp (obs ++ [o]) bs :=
  ⟨X.box.upd D.h1 D.h2, by rw [upd_ne (Ne.symm D.h3)]; exact X.nm, by rw [List.map_append]; exact listAt_app X.ob ex h, by rw [upd_ne (Ne.symm D.hb)]; exact X.bs⟩
end
/-- the first many objects are classes -/
structure Cl (obs : List Ob) (bs : List Int) : Prop where
  len : obs.length = bs.length
  cls : ∀ j, j < bs.length → ∃ (b : Int) (ms : Ms), obs[j]? = some (.cls "C" b ms) ∧ bs[j]? = some b ∧ -1 ≤ b ∧ b < (j : Int) ∧ MsOk ms
theorem at_app {α : Type} {xs : List α} {x : α} {j : Nat} {y : α} (h : (xs ++ [x])[j]? = some y) : (j < xs.length ∧ xs[j]? = some y) ∨ (j = xs.length ∧ y = x) := by
  by_cases hj : j < xs.length
  · rw [List.getElem?_append_left hj] at h; exact .inl ⟨hj, h⟩
  · rw [List.getElem?_append_right (by omega)] at h
    have e : j - xs.length = 0 := by
      by_cases e : j - xs.length = 0
      · exact e
      · rw [List.getElem?_eq_none (by simp; omega)] at h; cases h
    rw [e] at h
    exact .inr ⟨by omega, (Option.some.inj h).symm⟩
theorem Cl.add {obs : List Ob} {bs : List Int} (h : Cl obs bs) {b : Int} {ms : Ms} (h1 : -1 ≤ b) (h2 : b < (bs.length : Int)) (hm : MsOk ms) : Cl (obs ++ [.cls "C" b ms]) (bs ++ [b]) := by
  obtain ⟨hl, hc⟩ := h
  refine ⟨by simp [hl], fun j hj => ?_⟩
  rw [List.length_append, List.length_singleton] at hj
  by_cases e : j < bs.length
  · obtain ⟨b', ms', a1, a2, a3⟩ := hc j e
    exact ⟨b', ms', by rw [List.getElem?_append_left (by omega)]; exact a1, by rw [List.getElem?_append_left e]; exact a2, a3⟩
  · obtain rfl : j = bs.length := by omega
    exact ⟨b, ms, by rw [← hl]; simp, by simp, h1, h2, hm⟩
/-- the instances behind them -/
structure Is (ins : List Ob) (os : List Int) (many : Nat) : Prop where
  len : ins.length = os.length
  ins : ∀ j, j < os.length → ∃ (c : Int) (ms : Ms), ins[j]? = some (.inst c ms) ∧ os[j]? = some c ∧ 0 ≤ c ∧ c < (many : Int) ∧ MsOk ms
theorem Is.add {ins : List Ob} {os : List Int} {many : Nat} (h : Is ins os many) {c : Int} {ms : Ms} (h1 : 0 ≤ c) (h2 : c < (many : Int)) (hm : MsOk ms) : Is (ins ++ [.inst c ms]) (os ++ [c]) many := by
  obtain ⟨hl, hc⟩ := h
  refine ⟨by simp [hl], fun j hj => ?_⟩
  rw [List.length_append, List.length_singleton] at hj
  by_cases e : j < os.length
  · obtain ⟨c', ms', a1, a2, a3⟩ := hc j e
    exact ⟨c', ms', by rw [List.getElem?_append_left (by omega)]; exact a1, by rw [List.getElem?_append_left e]; exact a2, a3⟩
  · obtain rfl : j = os.length := by omega
    exact ⟨c, ms, by rw [← hl]; simp, by simp, h1, h2, hm⟩
def spLaw (K : PySem.W.Frag) : Sp := fun vs H Q _ => ∃ (a : Addr) (ns : List Int), vs = [.ref a] ∧ SqL K H a (ns.map V.int) ∧ ns.length ≤ 63 ∧ ∀ H', Q (.bl true) H'
theorem ok_law {f : Addr} {fd : FuncData} (F : Fun K "law" "law" s_law f fd) (T : Txt K mg) (U_law_digits : Use P w K mg base CX0 "_law_digits" 2 P_law_digits (spDigits K)) (U_law_draw : Use P w K mg base CX0 "_law_draw" 1 P_law_draw (spDraw K))
    (U_law_names : Use P w K mg base CX0 "_law_names" 2 P_law_names (spNames K)) (U_law_members : Use P w K mg base CX0 "_law_members" 3 P_law_members (spLMembers K)) (U_law_chain : Use P w K mg base CX0 "_law_chain" 1 P_law_chain (spLChain K)) (U_law_same : Use P w K mg base CX0 "_law_same" 1 P_law_same (spSame K))
    (U_class_line : Use P w K mg base CX0 "class_line" 1 P_class_line (spLine K)) (U_member : Use P w K mg base CX0 "member" 2 P_member (spMember K)) (U_law_member : Use P w K mg base CX0 "_law_member" 1 P_law_member (spLMember K)) (U_is_kind : Use P w K mg base CX0 "is_kind" 2 P_is_kind (spIsKind K))
    (U_law_long : Use P w K mg base CX0 "_law_long" 3 P_law_long (spLong K)) : FnG P w K mg base CX0 4 f fd P_law (spLaw K) := by
  refine okG0 F sc_law (fun vs H Q E h => ?_) fun cdv A outer s H vs Q E hr hg h => ?_
  · obtain ⟨a, ns, rfl, _⟩ := h
    rfl
  · obtain ⟨a, ns, rfl, hs, hn, k⟩ := h
    refine ⟨_, (pss_cons (ps_set (i := 1) sc_law.nd rfl (Or.inl rfl) (pe_lst (pa_cons (pe_use U_law_digits (hr.mono (by decide)) hg rfl (pa_cons (pv 0) (pa_cons pe_int (pa_cons pe_int pa_nil)))) (pa_cons pe_int pa_nil))))
  (pss_cons (ps_set (i := 2) sc_law.nd rfl (Or.inl rfl) (pe_use U_law_names (hr.mono (by decide)) hg rfl (pa_cons (pv 1) pa_nil)))
  (pss_cons (ps_set (i := 3) sc_law.nd rfl (Or.inl rfl) (pe_lst pa_nil))
  (pss_cons (ps_set (i := 4) sc_law.nd rfl (Or.inl rfl) (pe_lst pa_nil))
  (pss_cons (ps_for PassesOwn.never rfl (pi_range1 (by rfl) T.b_range (pa_cons (pe_op op_add pe_int (pe_use U_law_draw (hr.mono (by decide)) hg rfl (pa_cons (pv 1) (pa_cons pe_int pa_nil)))) pa_nil)) (pg_name (i := 5) sc_law.nd rfl (Or.inl rfl))
   (pss_cons (ps_expr (pe_bm PySem.F.plainAttrs_list PySem.F.slot_list_append PySem.F.type_list_append mt_append (pv 4) (pa_cons (pe_op op_sub (pe_use U_law_draw (hr.mono (by decide)) hg rfl (pa_cons (pv 1) (pa_cons (pe_op op_add (pv 5) pe_int) pa_nil))) pe_int) pa_nil)))
  (pss_one (ps_expr (pe_bm PySem.F.plainAttrs_list PySem.F.slot_list_append PySem.F.type_list_append mt_append (pv 3) (pa_cons (pe_tup (pa_cons pe_str (pa_cons pe_str (pa_cons (pe_ix ix_list (pv 4) (pv 5) (fun _ _ => rfl)) (pa_cons (pe_use U_law_members (hr.mono (by decide)) hg rfl (pa_cons (pv 1) (pa_cons (pv 2) pa_nil))) pa_nil))))) pa_nil))))))
  (pss_cons (ps_set (i := 6) sc_law.nd rfl (Or.inl rfl) (pe_callB call_len (by rfl) T.b_len PySem.boot_len (pa_cons (pv 3) pa_nil)))
  (pss_cons (ps_set (i := 7) sc_law.nd rfl (Or.inl rfl) (pe_lst pa_nil))
  (pss_cons (ps_for PassesOwn.never rfl (pi_range1 (by rfl) T.b_range (pa_cons (pe_op op_add pe_int (pe_use U_law_draw (hr.mono (by decide)) hg rfl (pa_cons (pv 1) (pa_cons pe_int pa_nil)))) pa_nil)) (pg_name (i := 5) sc_law.nd rfl (Or.inl rfl))
   (pss_cons (ps_expr (pe_bm PySem.F.plainAttrs_list PySem.F.slot_list_append PySem.F.type_list_append mt_append (pv 7) (pa_cons (pe_use U_law_draw (hr.mono (by decide)) hg rfl (pa_cons (pv 1) (pa_cons (pv 6) pa_nil))) pa_nil)))
  (pss_one (ps_expr (pe_bm PySem.F.plainAttrs_list PySem.F.slot_list_append PySem.F.type_list_append mt_append (pv 3) (pa_cons (pe_tup (pa_cons pe_str (pa_cons (pe_ix ix_list (pv 7) (pv 5) (fun _ _ => rfl)) (pa_cons (pe_use U_law_members (hr.mono (by decide)) hg rfl (pa_cons (pv 1) (pa_cons (pv 2) pa_nil))) pa_nil)))) pa_nil))))))
  (pss_cons (ps_set (i := 8) sc_law.nd rfl (Or.inl rfl) (pe_callB (call_repr_data hg hr.units) (by rfl) T.b_repr (by decide +kernel) (pa_cons (pv 3) pa_nil)))
  (pss_cons (ps_for PassesOwn.never rfl (pi_range1 (by rfl) T.b_range (pa_cons (pv 6) pa_nil)) (pg_name (i := 5) sc_law.nd rfl (Or.inl rfl))
   (pss_cons (ps_set (i := 9) sc_law.nd rfl (Or.inl rfl) (pe_use U_law_chain (hr.mono (by decide)) hg rfl (pa_cons (pv 4) (pa_cons (pv 5) pa_nil))))
  (pss_cons (ps_if (pt_not (pt_val (pe_use U_law_same (hr.mono (by decide)) hg rfl (pa_cons (pe_use U_class_line (hr.mono (by decide)) hg rfl (pa_cons (pv 3) (pa_cons (pv 5) pa_nil))) (pa_cons (pe_callTy call_tuple_of (by rfl) T.b_tuple (by decide +kernel) (pa_cons (pv 9) pa_nil)) pa_nil)))))
   (pss_one (ps_ret pe_bl))
   pss_nil)
  (pss_cons (ps_for PassesOwn.never rfl (pi_list (pv 2)) (pg_name (i := 10) sc_law.nd rfl (Or.inl rfl))
   (pss_one (ps_if (pt_not (pt_val (pe_use U_law_same (hr.mono (by decide)) hg rfl (pa_cons (pe_use U_member (hr.mono (by decide)) hg rfl (pa_cons (pv 3) (pa_cons (pv 5) (pa_cons (pv 10) pa_nil)))) (pa_cons (pe_use U_law_member (hr.mono (by decide)) hg rfl (pa_cons (pv 3) (pa_cons (pv 9) (pa_cons (pv 10) pa_nil)))) pa_nil)))))
   (pss_one (ps_ret pe_bl))
   pss_nil)))
  (pss_one (ps_if (PW.pt (pw_or (pt_cmpR op_notBl (pe_use U_is_kind (hr.mono (by decide)) hg rfl (pa_cons (pv 3) (pa_cons (pe_tup (pa_cons pe_str (pa_cons (pv 5) pa_nil))) (pa_cons (pv 5) pa_nil)))) pe_bl (nomark _)) (pw_or1 (pt_cmpR op_notBl (pe_use U_is_kind (hr.mono (by decide)) hg rfl (pa_cons (pv 3) (pa_cons (pe_tup (pa_cons pe_str (pa_cons (pv 5) pa_nil))) (pa_cons (pv 5) pa_nil)))) pe_bl (nomark _)))))
   (pss_one (ps_ret pe_bl))
   pss_nil))))))
  (pss_cons (ps_for PassesOwn.never rfl (pi_range1 (by rfl) T.b_range (pa_cons (pe_callB call_len (by rfl) T.b_len PySem.boot_len (pa_cons (pv 7) pa_nil)) pa_nil)) (pg_name (i := 5) sc_law.nd rfl (Or.inl rfl))
   (pss_cons (ps_set (i := 9) sc_law.nd rfl (Or.inl rfl) (pe_use U_law_chain (hr.mono (by decide)) hg rfl (pa_cons (pv 4) (pa_cons (pe_ix ix_list (pv 7) (pv 5) (fun _ _ => rfl)) pa_nil))))
  (pss_one (ps_for PassesOwn.never rfl (pi_range1 (by rfl) T.b_range (pa_cons (pv 6) pa_nil)) (pg_name (i := 11) sc_law.nd rfl (Or.inl rfl))
   (pss_one (ps_if (pt_cmpR op_ne (pe_callB (call_repr_data hg hr.units) (by rfl) T.b_repr (by decide +kernel) (pa_cons (pe_use U_is_kind (hr.mono (by decide)) hg rfl (pa_cons (pv 3) (pa_cons (pe_tup (pa_cons pe_str (pa_cons (pe_op op_add (pv 6) (pv 5)) pa_nil))) (pa_cons (pv 11) pa_nil)))) pa_nil)) (pe_callB (call_repr_data hg hr.units) (by rfl) T.b_repr (by decide +kernel) (pa_cons (pe_cmpR op_in_seq (pv 11) (pv 9) (by rfl)) pa_nil)) (nomark _))
   (pss_one (ps_ret pe_bl))
   pss_nil))))))
  (pss_cons (ps_if (pt_cmpR op_ne (pe_callB (call_repr_data hg hr.units) (by rfl) T.b_repr (by decide +kernel) (pa_cons (pv 3) pa_nil)) (pv 8) (nomark _))
   (pss_one (ps_ret pe_bl))
   pss_nil)
  (pss_one (ps_ret (pe_use U_law_long (hr.mono (by decide)) hg rfl (pa_cons (pe_op op_add pe_int (pe_use U_law_draw (hr.mono (by decide)) hg rfl (pa_cons (pv 1) (pa_cons pe_int pa_nil)))) pa_nil)))))))))))))))), ?_⟩
    refine ⟨_, rfl, a, ns, 0, 63, rfl, hs, by decide, by decide, fun dl H1 nd D => ?_⟩
    obtain ⟨ds, hd, hl, hds, S1⟩ := D
    refine ⟨sz_2, fun p hp0 => ?_⟩
    have B0 : BoxAt (upd H1 p (.lst [.ref dl, .int 0])) p dl := ⟨ds, 0, upd_same, by decide, by rw [upd_ne (ne_of_none hd hp0)]; exact hd, hl, hds⟩
    generalize upd H1 p (.lst [.ref dl, .int 0]) = H2 at B0
    refine ⟨_, rfl, p, dl, rfl, B0, fun np nms H3 hnp B3 K3 en hnl hno => ?_⟩
    have hnpp : np ≠ p := fun e => by subst e; obtain ⟨xs, g⟩ := B0.at_; rw [g] at hnp; cases hnp
    refine ⟨sz_0, fun hp hhp => ⟨sz_0, fun bp hbp => ?_⟩⟩
    have S1 := Same.new (o := .lst []) hhp
    have S2 := Same.new (o := .lst []) hbp
    have ne1 : ∀ {H : Hp} {a b : Addr} {o : HO}, H a = some o → H b = none → b ≠ a := fun h1 h2 e => by subst e; rw [h1] at h2; cases h2
    obtain ⟨bx, hbx⟩ := B3.at_
    obtain ⟨bd, hbd⟩ := B3.dg
    have eh : (upd H3 hp (.lst [])) hp = some (.lst []) := upd_same
    have Dd : Db p dl np hp bp := ⟨hnpp, ne1 hbx hhp, ne1 hbd hhp, ne1 en hhp, ne1 (S1 _ _ hbx) hbp, ne1 (S1 _ _ hbd) hbp, ne1 (S1 _ _ en) hbp, ne_of_none eh hbp⟩
    have X4 : Hb K (upd (upd H3 hp (.lst [])) bp (.lst [])) p dl np nms hp bp [] [] := ⟨(B3.same S1).same S2, S2 _ _ (S1 _ _ en), ⟨[], S2 _ _ eh, .nil⟩, upd_same⟩
    generalize upd (upd H3 hp (.lst [])) bp (.lst []) = H4 at X4
    clear S1 S2 hhp hbp eh hbx hbd bx bd B3 K3 B0 hnp en
    refine ⟨_, rfl, p, dl, 12, rfl, X4.box, by decide, fun r H5 r0 r1 B5 K5 => ?_⟩
    have X5 := X4.draw Dd B5 K5
    clear X4 B5 K5
    obtain ⟨N, rfl⟩ := Int.eq_ofNat_of_zero_le r0
    refine ⟨_, _, rfl, rfl, _, rfl, by omega, by omega, ?_⟩
    have eN : ((1 : Int) + (N : Int)).toNat = N + 1 := by omega
    rw [eN]
    refine for_range (lo := 0) (n := N + 1) (fun i σ H6 => ∃ obs bs x5, σ = [some (.ref a), some (.ref p), some (.ref np), some (.ref hp), some (.ref bp), x5, none, none, none, none, none, none] ∧ Hb K H6 p dl np nms hp bp obs bs ∧ Cl obs bs ∧ bs.length = i) ⟨[], [], none, rfl, X5, ⟨rfl, fun j hj => by simp at hj⟩, rfl⟩ ?_ ?_
    · rintro i σ H6 hi ⟨obs, bs, x5, rfl, X6, hC, hbl⟩
      rw [Int.zero_add]
      refine ⟨_, rfl, .inl ⟨rfl, _, SqL.of X6.bs⟩, _, rfl, _, rfl, _, _, rfl, rfl, p, dl, _, rfl, X6.box, by omega, fun r H7 r0 r1 B7 K7 => ?_⟩
      have X7 := X6.draw Dd B7 K7
      refine ⟨_, _, rfl, rfl, bp, _, _, rfl, rfl, X7.bs, by rw [List.length_map, hbl]; exact Nat.lt_of_le_of_lt (show i ≤ 20 by omega) (by decide), ?_⟩
      have X8 := X7.addB Dd (r - 1)
      dsimp only
      generalize upd H7 bp _ = H8 at X8
      obtain ⟨zs, ez, az⟩ := id X8.ob
      have lz := az.length
      rw [List.length_map, hC.len] at lz
      have hat : atI ((bs ++ [r - 1]).map V.int) ((i : Nat) : Int) = some (.int (r - 1)) := atI_nat (by rw [List.getElem?_map, ← hbl]; simp)
      refine ⟨_, rfl, .inl ⟨rfl, _, SqL.of ez⟩, _, rfl, _, rfl, bp, _, _, _, rfl, rfl, SqL.of X8.bs, hat, _, rfl, _, rfl, p, dl, np, nms, rfl, X8.box, X8.nm, hnl, hno, hnpp, fun v ms H9 hms dv B9 K9 => ⟨(show 4 ≤ sizeLine by decide), fun u hu => ?_⟩⟩
      have X9 := X8.draw Dd B9 K9
      have S10 := Same.new (o := .tup [.str "class", .str "C", .int (r - 1), v]) hu
      have ez10 := S10 _ _ (K9 _ _ ez Dd.h1)
      refine ⟨hp, _, _, rfl, rfl, ez10, Nat.lt_of_le_of_lt (show zs.length ≤ 20 by omega) (by decide), ?_⟩
      have du : Dt K _ (.ref u) (obD (.cls "C" (r - 1) ms)) := Dt.made hu (.cons (.str _) (.cons (.str _) (.cons (.int _) (.cons dv .nil))))
      exact ⟨_, _, _, rfl, (X9.same S10).addO Dd ez10 du, hC.add (by omega) (by omega) hms, by simp; omega⟩
    rintro σ H6 ⟨obs, bs, x5, rfl, X6, hC, hbl⟩
    obtain ⟨zs, ez, az⟩ := id X6.ob
    have lz := az.length
    rw [List.length_map, hC.len] at lz
    refine ⟨_, rfl, _, _, rfl, .inl ⟨_, SqL.of ez, rfl⟩, ?_⟩
    rw [lz]
    refine ⟨sz_0, fun op hop => ?_⟩
    have S7 := Same.new (o := .lst []) hop
    obtain ⟨bx, hbx⟩ := X6.box.at_
    obtain ⟨bd, hbd⟩ := X6.box.dg
    have op1 : op ≠ p := ne1 hbx hop
    have op2 : op ≠ dl := ne1 hbd hop
    have op3 : op ≠ hp := ne1 ez hop
    have op4 : op ≠ bp := ne1 X6.bs hop
    have op5 : op ≠ np := ne1 X6.nm hop
    have X7 := X6.same S7
    have eo7 : (upd H6 op (.lst [])) op = some (.lst []) := upd_same
    generalize upd H6 op (.lst []) = H7 at X7 eo7
    clear X6 S7 hbx hbd bx bd ez az lz zs hop X5
    refine ⟨_, rfl, p, dl, 6, rfl, X7.box, by decide, fun r H8 r0 r1 B8 K8 => ?_⟩
    have X8 := X7.draw Dd B8 K8
    have eo8 := K8 _ _ eo7 op1
    clear X7 B8 K8 eo7
    obtain ⟨N2, rfl⟩ := Int.eq_ofNat_of_zero_le r0
    refine ⟨_, _, rfl, rfl, _, rfl, by omega, by omega, ?_⟩
    have eN2 : ((1 : Int) + (N2 : Int)).toNat = N2 + 1 := by omega
    rw [eN2]
    refine for_range (lo := 0) (n := N2 + 1) (fun i σ H6 => ∃ ins os x5, σ = [some (.ref a), some (.ref p), some (.ref np), some (.ref hp), some (.ref bp), x5, some (.int (bs.length : Nat)), some (.ref op), none, none, none, none] ∧ Hb K H6 p dl np nms hp bp (obs ++ ins) bs ∧ H6 op = some (.lst (os.map V.int)) ∧ Is ins os bs.length ∧ os.length = i)
      ⟨[], [], x5, rfl, by rw [List.append_nil]; exact X8, eo8, ⟨rfl, fun j hj => by simp at hj⟩, rfl⟩ ?_ ?_
    · rintro i σ H6 hi ⟨ins, os, x5, rfl, X6, eo, hI, hol⟩
      rw [Int.zero_add]
      refine ⟨_, rfl, .inl ⟨rfl, _, SqL.of eo⟩, _, rfl, _, rfl, p, dl, _, rfl, X6.box, by omega, fun r H7 r0 r1 B7 K7 => ?_⟩
      have X7 := X6.draw Dd B7 K7
      have eo7 := K7 _ _ eo op1
      refine ⟨op, _, _, rfl, rfl, eo7, by rw [List.length_map, hol]; exact Nat.lt_of_le_of_lt (show i ≤ 20 by omega) (by decide), ?_⟩
      have X8 : Hb K (upd H7 op (.lst (os.map V.int ++ [.int r]))) p dl np nms hp bp (obs ++ ins) bs := ⟨X7.box.upd op1 op2, by rw [upd_ne (Ne.symm op5)]; exact X7.nm, listAt_upd X7.ob (Ne.symm op3) eo7, by rw [upd_ne (Ne.symm op4)]; exact X7.bs⟩
      have eo8 : (upd H7 op (.lst (os.map V.int ++ [.int r]))) op = some (.lst ((os ++ [r]).map V.int)) := by rw [upd_same, List.map_append]; rfl
      generalize upd H7 op _ = H8 at X8 eo8
      obtain ⟨zs, ez, az⟩ := id X8.ob
      have lz := az.length
      rw [List.length_map, List.length_append, hC.len, hI.len] at lz
      have hat : atI ((os ++ [r]).map V.int) ((i : Nat) : Int) = some (.int r) := atI_nat (by rw [List.getElem?_map, ← hol]; simp)
      refine ⟨_, rfl, .inl ⟨rfl, _, SqL.of ez⟩, _, rfl, _, rfl, op, _, _, _, rfl, rfl, SqL.of eo8, hat, _, rfl, _, rfl, p, dl, np, nms, rfl, X8.box, X8.nm, hnl, hno, hnpp, fun v ms H9 hms dv B9 K9 => ⟨sz_3, fun u hu => ?_⟩⟩
      have X9 := X8.draw Dd B9 K9
      have S10 := Same.new (o := .tup [.str "inst", .int r, v]) hu
      have ez10 := S10 _ _ (K9 _ _ ez Dd.h1)
      refine ⟨hp, _, _, rfl, rfl, ez10, Nat.lt_of_le_of_lt (show zs.length ≤ 40 by omega) (by decide), ?_⟩
      have du : Dt K _ (.ref u) (obD (.inst r ms)) := Dt.made hu (.cons (.str _) (.cons (.int _) (.cons dv .nil)))
      refine ⟨ins ++ [.inst r ms], os ++ [r], _, rfl, by rw [← List.append_assoc]; exact (X9.same S10).addO Dd ez10 du, ?_, hI.add r0 r1 hms, by simp; omega⟩
      rw [upd_ne op3]
      exact S10 _ _ (K9 _ _ eo8 op1)
    rintro σ H6 ⟨ins, os, x5, rfl, X6, eo, hI, hol⟩
    have hIl := hI.len
    have hOl : (obs ++ ins).length = bs.length + os.length := by rw [List.length_append, hC.len, hIl]
    have hall : ∀ o ∈ obs ++ ins, ObOk o := fun o ho => by
      rcases List.mem_append.mp ho with ho | ho
      · obtain ⟨j, hj, rfl⟩ := List.mem_iff_getElem.mp ho
        obtain ⟨b, ms, a1, a2, a3, a4, a5⟩ := hC.cls j (by rw [← hC.len]; exact hj)
        rw [List.getElem?_eq_getElem hj] at a1
        rw [Option.some.inj a1]
        exact .cls _ _ _ (by decide +kernel) (by have := hC.len; omega) a5
      · obtain ⟨j, hj, rfl⟩ := List.mem_iff_getElem.mp ho
        obtain ⟨c, ms, a1, a2, a3, a4, a5⟩ := hI.ins j (by rw [← hIl]; exact hj)
        rw [List.getElem?_eq_getElem hj] at a1
        rw [Option.some.inj a1]
        exact .inst _ _ (by omega) a5
    have hcl : ∀ j, j < bs.length → ∃ (b : Int) (ms : Ms), (obs ++ ins)[j]? = some (.cls "C" b ms) ∧ bs[j]? = some b ∧ -1 ≤ b ∧ b < (j : Int) ∧ MsOk ms := fun j hj => by
      obtain ⟨b, ms, a1, a2⟩ := hC.cls j hj
      exact ⟨b, ms, by rw [List.getElem?_append_left (by rw [hC.len]; exact hj)]; exact a1, a2⟩
    have hin : ∀ j, j < os.length → ∃ (c : Int) (ms : Ms), (obs ++ ins)[bs.length + j]? = some (.inst c ms) ∧ os[j]? = some c ∧ 0 ≤ c ∧ c < (bs.length : Int) ∧ MsOk ms := fun j hj => by
      obtain ⟨c, ms, a1, a2⟩ := hI.ins j hj
      refine ⟨c, ms, ?_, a2⟩
      rw [List.getElem?_append_right (by rw [hC.len]; omega), hC.len, show bs.length + j - bs.length = j by omega]
      exact a1
    generalize obs ++ ins = obs2 at X6 hall hcl hin hOl
    have hbs : ∀ (j : Nat) (n : Str) (b : Int) (ms : Ms), obs2[j]? = some (.cls n b ms) → bs[j]? = some b ∧ MsOk ms := fun j n b ms h => by
      by_cases hj : j < bs.length
      · obtain ⟨b', ms', a1, a2, _, _, a5⟩ := hcl j hj
        rw [h] at a1
        cases a1
        exact ⟨a2, a5⟩
      · have hj2 : j < obs2.length := (List.getElem?_eq_some_iff.mp h).1
        obtain ⟨c, ms', a1, _⟩ := hin (j - bs.length) (by omega)
        rw [show bs.length + (j - bs.length) = j by omega, h] at a1
        cases a1
    have hM : MOk obs2 := fun j n b ms h => (hbs j n b ms h).2.vl
    have hch : ∀ j, j < bs.length → ∃ line, Chain obs2 ((j : Nat) : Int) line := by
      intro j
      induction j using Nat.strongRecOn with
      | _ j ih =>
        intro hj
        obtain ⟨b, ms, a1, a2, a3, a4, a5⟩ := hcl j hj
        by_cases hb : b < 0
        · exact ⟨_, .next a1 a4 (.stop hb)⟩
        · obtain ⟨m, rfl⟩ := Int.eq_ofNat_of_zero_le (show 0 ≤ b by omega)
          obtain ⟨line, hl⟩ := ih m (by omega) (by omega)
          exact ⟨_, .next a1 a4 hl⟩
    have L6 := X6.ob
    have nm6 := X6.nm
    have eb6 := X6.bs
    have hsho := show_obs hall (by omega)
    have dL : ∀ {H'}, Same H6 H' → Dp K H' (.ref hp) (.list (obs2.map obD)) := fun S => let ⟨xs, e, a⟩ := listAt_mono L6 S; .lst (SqL.of e) a.dp
    refine ⟨_, rfl, _, _, rfl, dL (fun _ _ h => h), hsho, ?_⟩
    have lineOk : ∀ {j : Nat} {line : List Int}, j < bs.length → Chain obs2 (j : Nat) line → line.length ≤ bs.length ∧ ∀ y ∈ line, y.natAbs < 1000 := fun {j line} hj hc => by
      refine ⟨?_, fun y hy => ?_⟩
      · rcases hc.len with h | h <;> omega
      · obtain ⟨t, n, b, ms, rfl, ht⟩ := hc.mem y hy
        have := (List.getElem?_eq_some_iff.mp ht).1
        omega
    refine ⟨_, rfl, _, rfl, by omega, by omega, ?_⟩
    rw [show ((bs.length : Nat) : Int).toNat = bs.length from Int.toNat_natCast _]
    refine for_range (lo := 0) (n := bs.length) (fun i σ H7 => ∃ x5 x9 x10, σ = [some (.ref a), some (.ref p), some (.ref np), some (.ref hp), some (.ref bp), x5, some (.int (bs.length : Nat)), some (.ref op), some (.str (PyData.list (obs2.map obD)).shown), x9, x10, none] ∧ Same H6 H7) ⟨x5, none, none, rfl, fun _ _ h => h⟩ ?_ ?_
    · rintro i σ H7 hi ⟨x5, x9, x10, rfl, S7⟩
      rw [Int.zero_add]
      obtain ⟨line, hc⟩ := hch i hi
      obtain ⟨hll, hly⟩ := lineOk hi hc
      refine ⟨_, rfl, _, rfl, bp, bs, obs2, _, line, rfl, S7 _ _ eb6, hc, fun j n b ms h => (hbs j n b ms h).1, hll, by omega, fun la H8 hla S8 el => ?_⟩
      have S68 := S7.trans S8
      refine ⟨_, rfl, _, rfl, hp, obs2, _, line, rfl, listAt_mono L6 S68, hc, by omega, fun ta H9 S9 hta => ?_⟩
      refine ⟨_, rfl, la, _, rfl, .inl ⟨SqL.of (S9 _ _ el), fun t ht => ?_⟩⟩
      have S10 := Same.new (o := .tup (line.map V.int)) ht
      refine ⟨.ref ta, .ref t, .tuple (line.map PyData.int), rfl, (Dt.tup (Same.tupl S10 hta) (dtAll_ints line)).dp, (Dt.made ht (dtAll_ints line)).dp, show_ints (by omega) hly, ⟨true, rfl, iteFb rfl ?_⟩⟩
      have S610 := (S68.trans S9).trans S10
      have el10 := S10 _ _ (S9 _ _ el)
      generalize upd H9 t _ = H10 at S610 el10
      clear S7 S8 S68 S9 S10
      refine ⟨_, rfl, np, rfl, ⟨_, SqL.of (S610 _ _ nm6)⟩, ?_⟩
      refine for_list (xs := nms.map V.str) (fun j σ H11 => ∃ x10, σ = [some (.ref a), some (.ref p), some (.ref np), some (.ref hp), some (.ref bp), some (.int (i : Nat)), some (.int (bs.length : Nat)), some (.ref op), some (.str (PyData.list (obs2.map obD)).shown), some (.ref la), x10, none] ∧ Same H10 H11) ⟨x10, rfl, fun _ _ h => h⟩ ?_ ?_ ?_
      · rintro j σ H11 hj ⟨x10, rfl, S11⟩
        exact SqL.of (S11 _ _ (S610 _ _ nm6))
      · rintro j y σ H11 hy ⟨x10, rfl, S11⟩
        rw [List.getElem?_map] at hy
        obtain ⟨x, hx, rfl⟩ := Option.map_eq_some_iff.mp hy
        have S611 := S610.trans S11
        refine ⟨_, rfl, _, rfl, _, rfl, hp, obs2, _, line, x, rfl, listAt_mono L6 S611, hc, by omega, hM, fun v1 H12 S12 d1 => ?_⟩
        refine ⟨_, rfl, _, rfl, _, rfl, hp, la, obs2, _, line, x, rfl, listAt_mono L6 (S611.trans S12), S12 _ _ (S11 _ _ el10), hc, fun v2 H13 S13 d2 => ?_⟩
        refine ⟨v1, v2, _, rfl, (d1.mono S13).dp, d2.dp, show_pair fun d hd => memF_ok hM d hd, ⟨true, rfl, iteFb rfl ?_⟩⟩
        exact ⟨_, rfl, (S11.trans S12).trans S13⟩
      · rintro σ H11 ⟨x10, rfl, S11⟩
        have S611 := S610.trans S11
        obtain ⟨b, ms, a1, _⟩ := hcl i hi
        refine ⟨_, rfl, _, rfl, sz_2, fun u hu => ?_⟩
        have T1 := Same.new (o := .tup [.str "ref", .int (i : Nat)]) hu
        refine ⟨_, rfl, hp, obs2, .ref u, _, _, false, rfl, listAt_mono L6 (S611.trans T1), Dt.made hu (.cons (.str _) (.cons (.int _) .nil)), .not _ _ (.ref i _ a1) (by show ("class" : Str) ≠ "inst"; decide +kernel), fun H12 S12 => ?_⟩
        refine ⟨_, _, rfl, rfl, _, rfl, iteFb rfl ?_⟩
        refine ⟨_, rfl, _, rfl, sz_2, fun u2 hu2 => ?_⟩
        have T2 := Same.new (o := .tup [.str "int", .int (i : Nat)]) hu2
        refine ⟨_, rfl, hp, obs2, .ref u2, _, _, false, rfl, listAt_mono L6 (((S611.trans T1).trans S12).trans T2), Dt.made hu2 (.cons (.str _) (.cons (.int _) .nil)), .not _ _ (.val _ _ (by decide +kernel)) (by decide +kernel), fun H13 S13 => ?_⟩
        refine ⟨_, _, rfl, rfl, _, rfl, iteFb rfl ?_⟩
        exact ⟨_, _, _, rfl, (((S611.trans T1).trans S12).trans T2).trans S13⟩
    rintro σ H7 ⟨x5, x9, x10, rfl, S7⟩
    refine ⟨_, rfl, _, _, rfl, .inl ⟨_, SqL.of (S7 _ _ eo), rfl⟩, _, rfl, by rw [List.length_map]; omega, by rw [List.length_map]; omega, ?_⟩
    rw [List.length_map, show ((os.length : Nat) : Int).toNat = os.length from Int.toNat_natCast _]
    refine for_range (lo := 0) (n := os.length) (fun i σ H8 => ∃ x5 x9 x10 x11, σ = [some (.ref a), some (.ref p), some (.ref np), some (.ref hp), some (.ref bp), x5, some (.int (bs.length : Nat)), some (.ref op), some (.str (PyData.list (obs2.map obD)).shown), x9, x10, x11] ∧ Same H6 H8) ⟨x5, x9, x10, none, rfl, S7⟩ ?_ ?_
    · rintro i σ H8 hi ⟨x5, x9, x10, x11, rfl, S8⟩
      rw [Int.zero_add]
      obtain ⟨c, ms, a1, a2, a3, a4, a5⟩ := hin i hi
      obtain ⟨m, rfl⟩ := Int.eq_ofNat_of_zero_le a3
      have hm : m < bs.length := by omega
      obtain ⟨line, hc⟩ := hch m hm
      obtain ⟨hll, hly⟩ := lineOk hm hc
      refine ⟨_, rfl, _, rfl, _, rfl, op, _, _, _, rfl, rfl, SqL.of (S8 _ _ eo), atI_nat (by rw [List.getElem?_map, a2]; rfl), bp, bs, obs2, _, line, rfl, S8 _ _ eb6, hc, fun j n b ms h => (hbs j n b ms h).1, hll, by omega, fun la H9 hla S9 el => ?_⟩
      have S69 := S8.trans S9
      refine ⟨_, rfl, _, rfl, by omega, by omega, ?_⟩
      rw [show ((bs.length : Nat) : Int).toNat = bs.length from Int.toNat_natCast _]
      refine for_range (lo := 0) (n := bs.length) (fun t σ H10 => ∃ x11, σ = [some (.ref a), some (.ref p), some (.ref np), some (.ref hp), some (.ref bp), some (.int (i : Nat)), some (.int (bs.length : Nat)), some (.ref op), some (.str (PyData.list (obs2.map obD)).shown), some (.ref la), x10, x11] ∧ Same H9 H10) ⟨x11, rfl, fun _ _ h => h⟩ ?_ ?_
      · rintro t σ H10 ht ⟨x11, rfl, S10⟩
        rw [Int.zero_add]
        have S610 := S69.trans S10
        refine ⟨_, rfl, _, rfl, _, rfl, _, _, rfl, rfl, sz_2, fun u hu => ?_⟩
        have T1 := Same.new (o := .tup [.str "ref", .int ((bs.length : Int) + (i : Int))]) hu
        have du : Dt K (upd H10 u (.tup [.str "ref", .int ((bs.length : Int) + (i : Int))])) (.ref u) (.tuple [.str "ref", .int ((bs.length + i : Nat) : Int)]) := by
          rw [show ((bs.length + i : Nat) : Int) = (bs.length : Int) + (i : Int) by omega]
          exact Dt.made hu (.cons (.str _) (.cons (.int _) .nil))
        refine ⟨_, rfl, hp, obs2, .ref u, _, _, _, rfl, listAt_mono L6 (S610.trans T1), du, .inst (bs.length + i) _ _ line a1 hc (by omega), fun H11 S11 => ?_⟩
        have el11 := S11 _ _ (T1 _ _ (S10 _ _ el))
        have shb : ∀ b : Bool, ShowOk (.bool b) := fun b => (Sm.bool b).show (by decide) (by decide)
        refine ⟨_, _, rfl, .bl _, shb _, _, rfl, _, rfl, la, _, rfl, .inl (SqL.of el11), rfl, flat_int _, ?_⟩
        have e : (if false = true then !inV (.int (t : Nat)) (line.map V.int) else inV (.int (t : Nat)) (line.map V.int)) = decide (((t : Nat) : Int) ∈ line) := inV_int _
        rw [e]
        refine ⟨_, _, rfl, .bl _, shb _, rfl, _, rfl, iteFb (by rw [decide_eq_true rfl]; rfl) ?_⟩
        exact ⟨_, rfl, (S10.trans T1).trans S11⟩
      · rintro σ H10 ⟨x11, rfl, S10⟩
        exact ⟨_, _, _, _, rfl, S69.trans S10⟩
    rintro σ H8 ⟨x5, x9, x10, x11, rfl, S8⟩
    refine ⟨_, rfl, _, _, rfl, dL S8, hsho, _, rfl, rfl, _, rfl, iteFb (by rw [decide_eq_true rfl]; rfl) ?_⟩
    refine ⟨_, rfl, p, dl, 3, rfl, (X6.same S8).box, by decide, fun r H9 r0 r1 B9 K9 => ?_⟩
    obtain ⟨m, rfl⟩ := Int.eq_ofNat_of_zero_le r0
    refine ⟨_, _, rfl, rfl, 58 + m, ?_, by omega, k⟩
    show [V.int (58 + (m : Int))] = [V.int ((58 + m : Nat) : Int)]
    rw [show ((58 + m : Nat) : Int) = 58 + (m : Int) by omega]
end
theorem walk_mk {l : PySem.W.OpenLaw} {w : World} {K : PySem.W.Frag} {h : Heap} {mg : Str → Option Value} {fa : Addr} (X : K.In h) (G : h.Ns mainGlobals mg) (hfa : mg "law" = some (.ref fa))
    (f0 : HasFn K "_law_cell" s_law_cell)
    (f1 : HasFn K "_law_digits" s_law_digits)
    (f2 : HasFn K "_law_draw" s_law_draw)
    (f3 : HasFn K "_law_names" s_law_names)
    (f4 : HasFn K "_law_value" s_law_value)
    (f5 : HasFn K "_law_members" s_law_members)
    (f6 : HasFn K "_law_chain" s_law_chain)
    (f7 : HasFn K "_law_same" s_law_same)
    (f8 : HasFn K "class_line" s_class_line)
    (f9 : HasFn K "paired" s_paired)
    (f10 : HasFn K "member" s_member)
    (f11 : HasFn K "_law_member" s_law_member)
    (f12 : HasFn K "object_kind" s_object_kind)
    (f13 : HasFn K "is_kind" s_is_kind)
    (f14 : HasFn K "base_refusal" s_base_refusal)
    (f15 : HasFn K "_law_long" s_law_long)
    (f16 : HasFn K "law" s_law)
    (c0 : HasInt K "MOST_BASES" 60)
    (b_len : PySem.W.nsIn K mainGlobals "len" = some none)
    (b_int : PySem.W.nsIn K mainGlobals "int" = some none)
    (b_range : PySem.W.nsIn K mainGlobals "range" = some none)
    (b_list : PySem.W.nsIn K mainGlobals "list" = some none)
    (b_tuple : PySem.W.nsIn K mainGlobals "tuple" = some none)
    (b_repr : PySem.W.nsIn K mainGlobals "repr" = some none) :
    ∃ fd : FuncData, (∀ (s : Shared) (v : Value), BindsTo s fd ⟨[v], []⟩ [("script", v)]) ∧ ∀ base : Heap, K.In base → base.Ns mainGlobals mg → FnG l.prog w K mg base CX0 4 fa fd ["script"] (spLaw K) := by
  have T : Txt K mg := ⟨c0.g X G, PySem.W.mg_none_of X G b_len, PySem.W.mg_none_of X G b_int, PySem.W.mg_none_of X G b_range, PySem.W.mg_none_of X G b_list, PySem.W.mg_none_of X G b_tuple, PySem.W.mg_none_of X G b_repr⟩
  refine law_use f16 X G hfa (fun _ _ _ _ _ _ _ => rfl) fun base X' G' fd F => ?_
  have U_law_cell := mk_use (P := l.prog) (w := w) (mg := mg) (base := base) f0 X G (fun _ _ _ _ _ _ us hl => match us, hl with | [_, _], _ => rfl) fun f fd F => ok_cell F T 
  have U_law_digits := mk_use (P := l.prog) (w := w) (mg := mg) (base := base) f1 X G (fun _ _ _ _ _ _ us hl => match us, hl with | [_, _, _], _ => rfl) fun f fd F => ok_digits F T U_law_cell
  have U_law_draw := mk_use (P := l.prog) (w := w) (mg := mg) (base := base) f2 X G (fun _ _ _ _ _ _ us hl => match us, hl with | [_, _], _ => rfl) fun f fd F => ok_draw F T 
  have U_law_names := mk_use (P := l.prog) (w := w) (mg := mg) (base := base) f3 X G (fun _ _ _ _ _ _ us hl => match us, hl with | [_], _ => rfl) fun f fd F => ok_names F T U_law_draw
  have U_law_value := mk_use (P := l.prog) (w := w) (mg := mg) (base := base) f4 X G (fun _ _ _ _ _ _ us hl => match us, hl with | [_], _ => rfl) fun f fd F => ok_value F T U_law_draw
  have U_law_members := mk_use (P := l.prog) (w := w) (mg := mg) (base := base) f5 X G (fun _ _ _ _ _ _ us hl => match us, hl with | [_, _], _ => rfl) fun f fd F => ok_lmembers F T U_law_draw U_law_value
  have U_law_chain := mk_use (P := l.prog) (w := w) (mg := mg) (base := base) f6 X G (fun _ _ _ _ _ _ us hl => match us, hl with | [_, _], _ => rfl) fun f fd F => ok_chain F T 
  have U_law_same := mk_use (P := l.prog) (w := w) (mg := mg) (base := base) f7 X G (fun _ _ _ _ _ _ us hl => match us, hl with | [_, _], _ => rfl) fun f fd F => ok_same F T 
  have U_class_line := mk_use (P := l.prog) (w := w) (mg := mg) (base := base) f8 X G (fun _ _ _ _ _ _ us hl => match us, hl with | [_, _], _ => rfl) fun f fd F => ok_line F T 
  have U_paired := mk_use (P := l.prog) (w := w) (mg := mg) (base := base) f9 X G (fun _ _ _ _ _ _ us hl => match us, hl with | [_, _], _ => rfl) fun f fd F => ok_paired F T 
  have U_member := mk_use (P := l.prog) (w := w) (mg := mg) (base := base) f10 X G (fun _ _ _ _ _ _ us hl => match us, hl with | [_, _, _], _ => rfl) fun f fd F => ok_member F T U_class_line U_paired
  have U_law_member := mk_use (P := l.prog) (w := w) (mg := mg) (base := base) f11 X G (fun _ _ _ _ _ _ us hl => match us, hl with | [_, _, _], _ => rfl) fun f fd F => ok_lmember F T 
  have U_object_kind := mk_use (P := l.prog) (w := w) (mg := mg) (base := base) f12 X G (fun _ _ _ _ _ _ us hl => match us, hl with | [_, _], _ => rfl) fun f fd F => ok_kind F T 
  have U_is_kind := mk_use (P := l.prog) (w := w) (mg := mg) (base := base) f13 X G (fun _ _ _ _ _ _ us hl => match us, hl with | [_, _, _], _ => rfl) fun f fd F => ok_iskind F T U_object_kind U_class_line
  have U_base_refusal := mk_use (P := l.prog) (w := w) (mg := mg) (base := base) f14 X G (fun _ _ _ _ _ _ us hl => match us, hl with | [_, _], _ => rfl) fun f fd F => ok_base F T U_object_kind U_class_line
  have U_law_long := mk_use (P := l.prog) (w := w) (mg := mg) (base := base) f15 X G (fun _ _ _ _ _ _ us hl => match us, hl with | [_], _ => rfl) fun f fd F => ok_long F T U_base_refusal U_class_line
  exact ok_law F T U_law_digits U_law_draw U_law_names U_law_members U_law_chain U_law_same U_class_line U_member U_law_member U_is_kind U_law_long
end K31
open PySem PySem.W PyProof.Rows
set_option maxRecDepth 100000 in
set_option maxHeartbeats 0 in
theorem PySem.Challenge.cw_pyhold_k31_line_is_the_chain_holds : PySem.Challenge.rw_pyhold_k31_line_is_the_chain.Holds := by
  w_on; o_law; k_head; (case hw => w_witness2)
  k_fill
  refine LK.walkG (l := PySem.Challenge.rw_pyhold_k31_line_is_the_chain) (n := 63) (k := 4) (x := "script") (CX := L2.CX0) (sp := K31.spLaw) rfl (by decide) rfl ⟨rfl, by decide, by decide⟩ (fun w h Y => PySem.W.kIn_of Y) ?F (fun K H a ns hl _ hS => ⟨a, ns, rfl, hS, hl, fun _ => rfl⟩) (fun _ _ _ _ z => z)
  case F =>
    intro w mg fa h KX G hmg
    refine' K31.walk_mk KX G hmg ?f0 ?f1 ?f2 ?f3 ?f4 ?f5 ?f6 ?f7 ?f8 ?f9 ?f10 ?f11 ?f12 ?f13 ?f14 ?f15 ?f16 ?c0 ?b_len ?b_int ?b_range ?b_list ?b_tuple ?b_repr
    case f0 => refine' LK.HasFn.mk' ?a ?b ?c ?d; (case a => k_is); (case b => k_is); (case c => k_is); (case d => k_is)
    case f1 => refine' LK.HasFn.mk' ?a ?b ?c ?d; (case a => k_is); (case b => k_is); (case c => k_is); (case d => k_is)
    case f2 => refine' LK.HasFn.mk' ?a ?b ?c ?d; (case a => k_is); (case b => k_is); (case c => k_is); (case d => k_is)
    case f3 => refine' LK.HasFn.mk' ?a ?b ?c ?d; (case a => k_is); (case b => k_is); (case c => k_is); (case d => k_is)
    case f4 => refine' LK.HasFn.mk' ?a ?b ?c ?d; (case a => k_is); (case b => k_is); (case c => k_is); (case d => k_is)
    case f5 => refine' LK.HasFn.mk' ?a ?b ?c ?d; (case a => k_is); (case b => k_is); (case c => k_is); (case d => k_is)
    case f6 => refine' LK.HasFn.mk' ?a ?b ?c ?d; (case a => k_is); (case b => k_is); (case c => k_is); (case d => k_is)
    case f7 => refine' LK.HasFn.mk' ?a ?b ?c ?d; (case a => k_is); (case b => k_is); (case c => k_is); (case d => k_is)
    case f8 => refine' LK.HasFn.mk' ?a ?b ?c ?d; (case a => k_is); (case b => k_is); (case c => k_is); (case d => k_is)
    case f9 => refine' LK.HasFn.mk' ?a ?b ?c ?d; (case a => k_is); (case b => k_is); (case c => k_is); (case d => k_is)
    case f10 => refine' LK.HasFn.mk' ?a ?b ?c ?d; (case a => k_is); (case b => k_is); (case c => k_is); (case d => k_is)
    case f11 => refine' LK.HasFn.mk' ?a ?b ?c ?d; (case a => k_is); (case b => k_is); (case c => k_is); (case d => k_is)
    case f12 => refine' LK.HasFn.mk' ?a ?b ?c ?d; (case a => k_is); (case b => k_is); (case c => k_is); (case d => k_is)
    case f13 => refine' LK.HasFn.mk' ?a ?b ?c ?d; (case a => k_is); (case b => k_is); (case c => k_is); (case d => k_is)
    case f14 => refine' LK.HasFn.mk' ?a ?b ?c ?d; (case a => k_is); (case b => k_is); (case c => k_is); (case d => k_is)
    case f15 => refine' LK.HasFn.mk' ?a ?b ?c ?d; (case a => k_is); (case b => k_is); (case c => k_is); (case d => k_is)
    case f16 => refine' LK.HasFn.mk' ?a ?b ?c ?d; (case a => k_is); (case b => k_is); (case c => k_is); (case d => k_is)
    case c0 => refine' LK.HasInt.mk' ?a ?b; (case a => k_is); (case b => decide +kernel)
    case b_len => k_is
    case b_int => k_is
    case b_range => k_is
    case b_list => k_is
    case b_tuple => k_is
    case b_repr => k_is


