import PyProof.Rows.All
import Wide.All
import OpenK.AllK
import Wide.FinOn
import HandS.ForMost
import HandS.Wide
import HandS.WideMore
import HandS.TupAny
import HandS.TupLen
import HandS.Evl
import HandS.Codes
import PyProof.ReprLen
import PyProof.StrLawsRepr
import HandS.Walk
import HandS.Zip
import KE.GoesMore
import HandS.Style
import HandS.TupMul
import PyProof.StrOps2
import HandS.IsInst
import HandS.StrMore
import PySem.Challenge.RW_pyhold_k50_names_are_bound
set_option Elab.async false
set_option linter.all false
set_option maxRecDepth 100000
set_option maxHeartbeats 4000000
/-! A layer of one's own over the hand layer: defs by name, data, the helpers that the laws share. -/
namespace LK
open PySem PySem.Spec PyProof.Rows L2

/-! ### a def's promise where nothing is being shown (repr asks who is) -/
structure FnG (P : Program) (w : World) (K : PySem.W.Frag) (mg : Str → Option Value) (base : Heap) (CX : CXT) (k : Nat) (f : Addr) (fd : FuncData) (ps : List Str) (sp : Sp) : Prop where
  len : ∀ vs H Q E, sp vs H Q E → vs.length = ps.length
  run : ∀ (A : Around) (outer : List Env) (s : Shared) (H : Hp) (args : Args) (us : List Value) (vs : List V) (Q : VK) (E : XK), Room k A → A.guards = some [] →
    Env0 P w K mg base A outer s H → BindsTo s fd args (ps.zip us) → Vals vs us → sp vs H Q E → codeAny (model P w) A (.call (.ref f) args) (CR CX outer P w H s Q E) s
section
variable {P : Program} {w : World} {K : PySem.W.Frag} {mg : Str → Option Value} {base : Heap} {CX : CXT}
theorem FnG.imp {k : Nat} {f : Addr} {fd : FuncData} {ps : List Str} {sp sp' : Sp} (F : FnG P w K mg base CX k f fd ps sp) (h : ∀ vs H Q E, sp' vs H Q E → sp vs H Q E) : FnG P w K mg base CX k f fd ps sp' where
  len := fun vs H Q E q => F.len vs H Q E (h vs H Q E q)
  run := fun A outer s H args us vs Q E hr hg he hb hv hs => F.run A outer s H args us vs Q E hr hg he hb hv (h vs H Q E hs)
/-- the rule for a def: its body as a term of rules, and the reading of that term -/
theorem okG {x qual : Str} {st : Stmt} {f : Addr} {fd : FuncData} {N ps : List Str} {k : Nat} {sp : Sp} (F : Fun K x qual st f fd) (S : FnScope N ps (defScope st)) (len : ∀ vs H Q E, sp vs H Q E → vs.length = ps.length)
    (body : ∀ (cdv : Value) (A : Around) (outer : List Env) (s : Shared) (H : Hp) (vs : List V) (Q : VK) (E : XK), Room k (A.deeper (envOfC qual (defScope st) s.heap.objs.size f cdv)) →
      (A.deeper (envOfC qual (defScope st) s.heap.objs.size f cdv)).guards = some [] → sp vs H Q E →
      ∃ t, PSs (cxOf CX P w K mg base N qual (defScope st) f cdv A outer s H E) (defBody st) t ∧ t { nx := fun _ H' => Q .non H', rt := Q } (start N vs) H) :
    FnG P w K mg base CX (k + 1) f fd ps sp := by
  obtain ⟨oc, od, kV, doc, pm, an, cdv, ct, osl, rfl, lk, hcd⟩ := F.ex
  refine ⟨len, fun A outer s H args us vs Q E hr hgd e0 hb r hsp => ?_⟩
  have inn : K.In s.heap := e0.mod.kin.keeps fun b o e => (e0.bs b o e).1
  refine codeAny_call_function hr.depth (inn _ _ lk) rfl S.co S.gen rfl (PySem.W.codeRec_of inn hcd) (hb _ _ _ _ ?_)
  refine wpAny_newFunctionEnv_cells S.kind (fun y hy => ?_) fun env he s1 made => ?_
  · obtain ⟨n, v⟩ := y
    exact (S.par n (List.of_mem_zip hy).1).elim .inl fun q => .inr ⟨q, PySem.W.cellsFrom_some _ _ _ (.inl q)⟩
  · subst he
    have lim : s.heap.NoLimit := e0.mod.nolimit.keeps fun b o e => (e0.bs b o e).1
    refine ⟨lim.keeps made.toInCall.keep, codeAny_func ?_⟩
    obtain ⟨t, ht, hq⟩ := body cdv A outer s H vs Q E (hr.deeper _) hgd hsp
    refine wpAny_mono (ht.run [] s1 (start N vs) H _ (inv_start S hr.hd e0 (len _ _ _ _ hsp) r made) hq) (fun fl s' hs => ?_) fun e s' hs => hs
    cases fl with
    | ret u => exact let ⟨v, _, H', J, rv, q⟩ := hs; ⟨v, H', J.os, J.bare, J.base, J.hok, rv, q⟩
    | next => exact let ⟨_, H', J, q⟩ := hs; ⟨V.non, H', J.os, J.bare, J.base, J.hok, rfl, q⟩
    | brk => exact let ⟨_, _, _, q⟩ := hs; q.elim
    | cont => exact let ⟨_, _, _, q⟩ := hs; q.elim
/-- .. whose body lets no exception out -/
theorem okG0 {x qual : Str} {st : Stmt} {f : Addr} {fd : FuncData} {N ps : List Str} {k : Nat} {sp : Sp} (F : Fun K x qual st f fd) (S : FnScope N ps (defScope st)) (len : ∀ vs H Q E, sp vs H Q E → vs.length = ps.length)
    (body : ∀ (cdv : Value) (A : Around) (outer : List Env) (s : Shared) (H : Hp) (vs : List V) (Q : VK) (E : XK), Room k (A.deeper (envOfC qual (defScope st) s.heap.objs.size f cdv)) →
      (A.deeper (envOfC qual (defScope st) s.heap.objs.size f cdv)).guards = some [] → sp vs H Q E →
      ∃ t, PSs (cxOf CX0 P w K mg base N qual (defScope st) f cdv A outer s H E).nox (defBody st) t ∧ t { nx := fun _ H' => Q .non H', rt := Q } (start N vs) H) :
    FnG P w K mg base CX0 (k + 1) f fd ps sp :=
  okG F S len fun cdv A outer s H vs Q E hr hg hs => let ⟨t, ht, q⟩ := body cdv A outer s H vs Q E hr hg hs; ⟨t, ht.nox, q⟩
end
section
variable {X : Cx} {CX : CXT} {k : Nat} {f : Addr} {fd : FuncData} {ps : List Str} {sp : Sp} {E : XK} {x : Str} {p pos : Pos} {e : Expr} {es : List Expr} {t : TA}
theorem run_fnG {pins : List (Addr × Obj)} {σ : L2.St} {H : Hp} {s : Shared} {Q : VK} {us : List Value} {vs : List V} (F : FnG X.prog X.w X.K X.mg X.base CX k f fd ps sp) (hr : Room k X.A) (hg : X.A.guards = some []) (hb : Binds X.K fd ps [])
    (hx : Passes CX X E) (I : Inv X pins σ H s) (r : Vals vs us) (h : sp vs H Q E) : wpAny (model X.prog X.w) X.A (call (.ref f) us) (EP X pins σ Q) X.xe s := by
  have hl : (us ++ []).length = ps.length := by rw [List.append_nil, ← r.length, F.len _ _ _ _ h]
  have hbs := hb s us I.kIn hl
  rw [List.append_nil] at hbs
  refine wpAny_call (codeAny_mono (F.run X.A X.stack s H ⟨us, []⟩ us vs Q E hr hg I.env0 hbs r h) fun res s' hq => ?_)
  match res, hq with
  | .error e, hq => exact hx pins σ H s e s' I hq
  | .ok (.ret u), hq => exact I.after hq
  | .ok .next, hq => exact hq.elim
  | .ok .brk, hq => exact hq.elim
  | .ok .cont, hq => exact hq.elim
end

/-! ### defs of the text, by name -/
/-- what the top has left of the def x, whose statement is st -/
def HasFn (K : PySem.W.Frag) (x : Str) (st : Stmt) : Prop := ∃ (f : Addr) (oc : Value) (od an : Option Addr) (kV doc pm cdv ct : Value) (osl : Array (Option Value)),
  PySem.W.nsIn K mainGlobals x = some (some (.ref f)) ∧ K.lookup f = some ⟨oc, od, .func (PySem.W.fnOf x x (defArgs st) (defBody st) (defScope st) .none kV doc pm an cdv ct), osl⟩ ∧
  PySem.W.codeIn K cdv x = true ∧ PySem.W.keepIn K (.ref f) = true
/-- the def x may be called: its promise sp, by level k -/
structure Use (P : Program) (w : World) (K : PySem.W.Frag) (mg : Str → Option Value) (base : Heap) (CX : CXT) (x : Str) (k : Nat) (ps : List Str) (sp : Sp) : Prop where
  ex : ∃ (f : Addr) (fd : FuncData), FnG P w K mg base CX k f fd ps sp ∧ mg x = some (.ref f) ∧ PySem.W.keepIn K (.ref f) = true ∧ Binds K fd ps []
section
variable {P : Program} {w : World} {K : PySem.W.Frag} {mg : Str → Option Value} {base h : Heap} {CX : CXT}
theorem mk_use {x : Str} {st : Stmt} {k : Nat} {ps : List Str} {sp : Sp} (F : HasFn K x st) (X : K.In h) (G : h.Ns mainGlobals mg)
    (hb : ∀ (kV doc pm : Value) (an : Option Addr) (cdv ct : Value) (us : List Value), us.length = ps.length → bindArgs (PySem.W.fnOf x x (defArgs st) (defBody st) (defScope st) .none kV doc pm an cdv ct) ⟨us, []⟩ = pure (ps.zip us))
    (ok : ∀ (f : Addr) (fd : FuncData), Fun K x x st f fd → FnG P w K mg base CX k f fd ps sp) : Use P w K mg base CX x k ps sp := by
  obtain ⟨f, oc, od, an, kV, doc, pm, cdv, ct, osl, e, l, c, kp⟩ := F
  have Fn := fun_mk (st := st) l c kp
  exact ⟨f, _, ok f _ Fn, PySem.W.mg_of X G e, kp, Fn.binds hb⟩
theorem Use.imp {x : Str} {k : Nat} {ps : List Str} {sp sp' : Sp} (U : Use P w K mg base CX x k ps sp) (h : ∀ vs H Q E, sp' vs H Q E → sp vs H Q E) : Use P w K mg base CX x k ps sp' := by
  obtain ⟨f, fd, ok, r⟩ := U.ex
  exact ⟨f, fd, ok.imp h, r⟩
end
section
variable {X : Cx} {CX : CXT} {E : XK} {k : Nat} {x : Str} {ps : List Str} {sp : Sp} {p pos : Pos} {e : Expr} {es : List Expr} {t : TA}
theorem pe_useX (U : Use X.prog X.w X.K X.mg X.base CX x k ps sp) (hx : Passes CX X E) (hr : Room k X.A) (gd : X.A.guards = some []) (hg : Gl X x) (ha : PA X (e :: es) t) (hdb : (x == ("__debug__" : Str)) = false := by decide)
    (he : starEach (e :: es) X.env = (false, eval e X.env) :: starEach es X.env := by rfl) (hpl : (backTo pos (starEach es X.env)).any (·.1) = false := by rfl) : PE X (.Call (.Name x p) (e :: es) [] pos) (fun σ H Q => t σ H fun vs H1 => sp vs H1 Q E) := by
  obtain ⟨f, fd, ok, hm, kp, hb⟩ := U.ex
  refine ⟨fun pins s σ H Q I h => wpAny_Call_Name_kw (ld_glob I hg hm ?_ hdb)⟩
  exact PySem.W.callWith_K (h₀ := X.base) I.ok.mod.kin kp (thn (ha.run pos pins s σ H _ I h) fun us s1 ⟨vs, H1, I1, r, q⟩ => ⟨I1.kIn, run_fnG ok hr gd hb hx I1 r q⟩) he hpl
def tUse (sp : Sp) (E : XK) (t : TA) : TE := fun σ H Q => t σ H fun vs H1 => sp vs H1 Q E
theorem pe_use (U : Use X.prog X.w X.K X.mg X.base CX0 x k ps sp) (hr : Room k X.A) (gd : X.A.guards = some []) (hg : Gl X x) (ha : PA X (e :: es) t) (hdb : (x == ("__debug__" : Str)) = false := by decide)
    (he : starEach (e :: es) X.env = (false, eval e X.env) :: starEach es X.env := by rfl) (hpl : (backTo pos (starEach es X.env)).any (·.1) = false := by rfl) : PE X (.Call (.Name x p) (e :: es) [] pos) (tUse sp E0 t) := pe_useX U pass0 hr gd hg ha hdb he hpl
theorem pe_use0 (U : Use X.prog X.w X.K X.mg X.base CX0 x k ps sp) (hr : Room k X.A) (gd : X.A.guards = some []) (hg : Gl X x) (hdb : (x == ("__debug__" : Str)) = false := by decide) : PE X (.Call (.Name x p) [] [] pos) (tUse sp E0 tNil) := by
  obtain ⟨f, fd, ok, hm, kp, hb⟩ := U.ex
  exact ⟨fun pins s σ H Q I h => wpAny_Call_Name_kw (ld_glob I hg hm (PySem.W.callWith_K0 I.kIn kp (run_fnG (us := []) ok hr gd hb pass0 I .nil h)) hdb)⟩
end

/-! ### what stays -/
theorem Same.new {H : Hp} {p : Addr} {o : HO} (h : H p = none) : Same H (upd H p o) := fun b u e => by
  rw [upd_ne (ne_of_none e h)]; exact e
theorem Same.rd {H H' : Hp} {a : Addr} {u : HO} (e : Same H H') (h : Rd H a u) : Rd H' a u := by
  rcases h with h | ⟨o, h⟩
  · exact .inl (e _ _ h)
  · exact .inr ⟨o, e _ _ h⟩
theorem Same.tupl {K : PySem.W.Frag} {H H' : Hp} {a : Addr} {xs : List V} (e : Same H H') (h : SqT K H a xs) : SqT K H' a xs := by
  rcases h with h | h
  · exact .inl (Same.rd e h)
  · exact .inr h
theorem SqT.mono {K : PySem.W.Frag} {H H' : Hp} {a : Addr} {xs : List V} (h : SqT K H a xs) (e : Same H H') : SqT K H' a xs := Same.tupl e h
theorem SqL.mono {K : PySem.W.Frag} {H H' : Hp} {a : Addr} {xs : List V} (h : SqL K H a xs) (e : Same H H') : SqL K H' a xs := e.seq h

/-! ### data: none, bools, ints, texts, tuples (and lists that stand still) -/
mutual
theorem Dp.mono {K : PySem.W.Frag} {H H' : Hp} (e : Same H H') : ∀ {v : V} {d : PyData}, Dp K H v d → Dp K H' v d
  | _, _, .non => .non
  | _, _, .bl b => .bl b
  | _, _, .int i => .int i
  | _, _, .str x => .str x
  | _, _, .lst h a => .lst (e.seq h) (DpAll.mono e a)
  | _, _, .tup h a => .tup (Same.tupl e h) (DpAll.mono e a)
theorem DpAll.mono {K : PySem.W.Frag} {H H' : Hp} (e : Same H H') : ∀ {vs : List V} {ds : List PyData}, DpAll K H vs ds → DpAll K H' vs ds
  | _, _, .nil => .nil
  | _, _, .cons h a => .cons (Dp.mono e h) (DpAll.mono e a)
end
/-- a tuple just made -/
theorem Dp.made {K : PySem.W.Frag} {H : Hp} {p : Addr} {xs : List V} {ds : List PyData} (hp : H p = none) (h : DpAll K H xs ds) : Dp K (upd H p (.tup xs)) (.ref p) (.tuple ds) :=
  .tup (SqT.of upd_same) (DpAll.mono (Same.new hp) h)
theorem DpAll.length {K : PySem.W.Frag} {H : Hp} : ∀ {vs : List V} {ds : List PyData}, DpAll K H vs ds → vs.length = ds.length
  | _, _, .nil => rfl
  | _, _, .cons _ t => by simp [DpAll.length t]
theorem DpAll.app {K : PySem.W.Frag} {H : Hp} : ∀ {vs ws : List V} {ds es : List PyData}, DpAll K H vs ds → DpAll K H ws es → DpAll K H (vs ++ ws) (ds ++ es)
  | _, _, _, _, .nil, t => t
  | _, _, _, _, .cons h a, t => .cons h (DpAll.app a t)

/-! ### repr of data -/
mutual
theorem Dp.noDict {K : PySem.W.Frag} {H : Hp} : ∀ {v : V} {d : PyData}, Dp K H v d → d.hasDict = false
  | _, _, .non => rfl
  | _, _, .bl _ => rfl
  | _, _, .int _ => rfl
  | _, _, .str _ => rfl
  | _, _, .lst _ a => by simp only [PyData.hasDict]; exact DpAll.noDict a
  | _, _, .tup _ a => by simp only [PyData.hasDict]; exact DpAll.noDict a
theorem DpAll.noDict {K : PySem.W.Frag} {H : Hp} : ∀ {vs : List V} {ds : List PyData}, DpAll K H vs ds → PyData.hasDictAll ds = false
  | _, _, .nil => rfl
  | _, _, .cons h a => by simp only [PyData.hasDictAll, Dp.noDict h, DpAll.noDict a, Bool.or_self]
end
/-- what repr asks of data -/
structure ShowOk (d : PyData) : Prop where
  ok : d.showable = true
  dp : d.depth ≤ 60
  sz : d.shown.length ≤ sizeLine
def rRepr (K : PySem.W.Frag) : List V → Hp → VK → Prop := fun xs H Q => ∃ v d, xs = [v] ∧ Dp K H v d ∧ ShowOk d ∧ Q (.str d.shown) H
section
variable {X : Cx}
theorem call_repr_data (hg : X.A.guards = some []) (hu : X.A.units + 64 < cLine) : CallR X (.builtin "repr") (rRepr X.K) := by
  intro pins s σ H xs us Q I r h
  obtain ⟨v, d, rfl, hd, ⟨hs, hdp, hsz⟩, q⟩ := h
  obtain ⟨u, rfl, rv⟩ := vals1 r
  obtain ⟨as, rr⟩ := Dp.reads I d v u hd rv
  have nd := Dp.noDict hd
  cases d with
  | none => cases rr; exact PySem.P.repr_of_none ⟨.str _, H, I.tok _, ⟨_, rfl⟩, q⟩
  | bool b => cases rr; exact PySem.P.repr_of_bool ⟨.str _, H, I.tok _, ⟨_, rfl⟩, by simpa [PyData.shown] using q⟩
  | int i => cases rr; exact PySem.P.repr_of_int (of_decide_eq_true (by simpa [PyData.showable] using hs)) ⟨.str _, H, I.tok _, ⟨_, rfl⟩, by simpa [PyData.shown] using q⟩
  | str x => cases rr; exact PySem.P.repr_of_str (hsz := by simpa [PyData.shown] using hsz) ⟨.str _, H, I.tok _, ⟨_, rfl⟩, by simpa [PyData.shown] using q⟩
  | list ds =>
    obtain ⟨a, rfl⟩ := PyProof.Rows.isRef_of_reads rr rfl
    exact repr_of_reads' rr hs (PyData.noDict_hsm nd) hg (by omega) (fun _ _ e => e) (fun h' u tk hk => ⟨.str _, H, I.kept hk, ⟨_, rfl⟩, q⟩) hsz
  | tuple ds =>
    obtain ⟨a, rfl⟩ := PyProof.Rows.isRef_of_reads rr rfl
    exact repr_of_reads' rr hs (PyData.noDict_hsm nd) hg (by omega) (fun _ _ e => e) (fun h' u tk hk => ⟨.str _, H, I.kept hk, ⟨_, rfl⟩, q⟩) hsz
  | dict kv => cases hd
end

/-! ### the law's own call -/
/-- the heap behind the top, seen with the script at a locked, or with nothing tracked -/
theorem law_callG {P : Program} {w : World} {K : PySem.W.Frag} {mg mb : Str → Option Value} {CX : CXT} {k : Nat} {fa a : Addr} {fd : FuncData} {x : Str} {sp : Sp} {s₁ : Shared} {vs : List Value} {ns : List Int}
    (inn : K.In s₁.heap) (hns : s₁.heap.Ns mainGlobals mg) (hb : s₁.heap.Ns builtinsNs mb) (hbb : ∀ x : Str, x ≠ "__name__" → mb x = bootBuiltins x) (hlim : s₁.heap.NoLimit) (hgens : s₁.gens = #[])
    (ha : s₁.heap.get? a = some { cls := .type "list", data := .seq vs.toArray }) (hi : IntsAre vs ns) (hl : ns.length ≤ sizeLine) (hr : Room k callerA)
    (F : ∀ base : Heap, K.In base → base.Ns mainGlobals mg → FnG P w K mg base CX k fa fd [x] sp) (hbind : ∀ (s : Shared) (u : Value), BindsTo s fd ⟨[u], []⟩ [(x, u)])
    (hsp : ∀ H : Hp, Only H → SqL K H a (ns.map V.int) → sp [.ref a] H (fun v _ => v = .bl true) fun _ _ _ => False)
    (hCX : ∀ H e s', CX [] H s₁ (fun _ _ _ => False) e s' → False) :
    codeAny (model P w) callerA (.call (.ref fa) ⟨[.ref a], []⟩) (fun r s' => r = .ok (.ret (.bool true)) ∧ OldK s₁.heap s'.heap ∧ s'.os = s₁.os ∧ AllBare s'.gens) s₁ := by
  have rv := vals_ints hi
  have run : ∀ H : Hp, Only H → SqL K H a (ns.map V.int) → HOk P w H s₁.heap → (∀ b u, H b = some u → b = a ∧ K.lookup a = none) →
      codeAny (model P w) callerA (.call (.ref fa) ⟨[.ref a], []⟩) (fun r s' => r = .ok (.ret (.bool true)) ∧ OldK s₁.heap s'.heap ∧ s'.os = s₁.os ∧ AllBare s'.gens) s₁ := by
    intro H only hS hok at_a
    -- what is no list stays in the base
    have free : ∀ {b : Addr} {o : Obj}, s₁.heap.get? b = some o → (∀ its n, o.data ≠ .seq its n) → H b = none := fun {b o} e hd => by
      cases q : H b with
      | none => rfl
      | some u =>
        obtain ⟨rfl, _⟩ := at_a b u q
        rw [ha] at e; cases e
        exact absurd rfl (hd _ _)
    have names : ∀ {b : Addr} {m : Str → Option Value}, s₁.heap.Ns b m → (hidT s₁.heap H).Ns b m := fun {b m} hn => by
      obtain ⟨o, es, ep, e, d, r⟩ := hn
      exact ⟨o, es, ep, hidT_get e (free e fun its n z => by rw [d] at z; cases z), d, r⟩
    have inb : K.In (hidT s₁.heap H) := fun b o e => by
      refine hidT_get (inn b o e) ?_
      cases q : H b with
      | none => rfl
      | some u =>
        obtain ⟨rfl, hk⟩ := at_a b u q
        rw [e] at hk; cases hk
    have md : Mod K mg (hidT s₁.heap H) := by
      obtain ⟨mc, h1, h2⟩ := hlim
      exact ⟨inb, names hns, ⟨mb, names hb, hbb⟩, ⟨mc, names h1, h2⟩⟩
    have none_in : ∀ b : Addr, b ∉ ([] : List Addr) := fun b z => nomatch z
    have e0 : Env0 P w K mg (hidT s₁.heap H) callerA [] s₁ H := ⟨rfl, md, fun b o e => of_hidT e, Nat.le_of_eq (hidT_size _ _), trivial, fun b z => absurd z (none_in b), hok, .of_eq hgens⟩
    refine codeAny_mono ((F _ inb (names hns)).run callerA [] s₁ H ⟨[.ref a], []⟩ [.ref a] [.ref a] _ _ hr rfl e0 (hbind s₁ (.ref a)) (.cons rfl .nil) (hsp H only hS)) fun r s' h => ?_
    match r, h with
    | .error e, h => exact (hCX H e s' h).elim
    | .ok .next, h => exact False.elim h
    | .ok .brk, h => exact False.elim h
    | .ok .cont, h => exact False.elim h
    | .ok (.ret u), h =>
      obtain ⟨v, H', os, bare, un, hok', r', q⟩ := h
      obtain rfl : v = V.bl true := q
      obtain rfl : u = Value.bool true := r'
      refine ⟨rfl, OldK.of_keep fun b o e => ?_, os, bare⟩
      cases q : H b with
      | none => exact un.keep b o e q (none_in b) (none_in b)
      | some u =>
        rcases only b with z | ⟨ob, xs, z⟩
        · rw [q] at z; cases z
        · have e1 : s₁.heap.get? b = some ob := (hok b _ z).1
          rw [e] at e1; cases e1
          exact (hok' b _ (un.frzs b o _ z)).1
  cases hk : K.lookup a with
  | some o =>
    have e := inn a o hk
    rw [ha] at e; cases e
    have sz : vs.toArray.size ≤ sizeLine := by rw [List.size_toArray, hi.length]; exact hl
    exact run (fun _ => none) (fun _ => .inl rfl) (.inr ⟨_, vs.toArray, _, hk, rfl, rfl, rfl, sz, by simpa using rv⟩) (fun b u z => nomatch (show (none : Option HO) = some u from z)) fun b u z => nomatch (show (none : Option HO) = some u from z)
  | none =>
    let u0 : HO := .frz { cls := .type "list", data := .seq vs.toArray } (.lst (ns.map V.int))
    have at1 : ∀ b u, upd (fun _ => none) a u0 b = some u → b = a ∧ u = u0 := fun b u z => by
      by_cases hb : b = a
      · subst hb; rw [upd_same] at z; exact ⟨rfl, (Option.some.inj z).symm⟩
      · rw [upd_ne hb] at z; cases z
    refine run (upd (fun _ => none) a u0) (fun b => ?_) (.inl (.inr ⟨_, upd_same⟩)) (fun b u z => ?_) fun b u z => ⟨(at1 b u z).1, hk⟩
    · by_cases hb : b = a
      · subst hb; exact .inr ⟨_, _, upd_same⟩
      · exact .inl (by rw [upd_ne hb])
    · obtain ⟨rfl, rfl⟩ := at1 b u z
      exact ⟨ha, by rw [List.length_map]; exact hl, vs, _, rv, ha⟩
theorem walkG {l : PySem.W.OpenLaw} {n k : Nat} {q : Program} {loose : List Str} {XP : (Str → Option Value) → Heap → Prop} {YP : World → Heap → Prop} {d : DefRec} {K : Params → PySem.W.Frag} {CX : CXT} {sp : PySem.W.Frag → Sp} {x : Str}
    (hn : l.most = some n) (hn2 : n ≤ sizeLine) (hdf : d.params.defaults = []) (hr : Room k callerA)
    (hY : ∀ (w : World) (h : Heap), YP w h → (K w.params).In h)
    (F : ∀ (w : World) (mg : Str → Option Value) (fa : Addr) (h : Heap), (K w.params).In h → h.Ns mainGlobals mg → mg d.name = some (.ref fa) →
      ∃ fd : FuncData, (∀ (s : Shared) (u : Value), BindsTo s fd ⟨[u], []⟩ [(x, u)]) ∧
        ∀ base : Heap, (K w.params).In base → base.Ns mainGlobals mg → FnG l.prog w (K w.params) mg base CX k fa fd [x] (sp (K w.params)))
    (hsp : ∀ (K : PySem.W.Frag) (H : Hp) (a : Addr) (ns : List Int), ns.length ≤ n → Only H → SqL K H a (ns.map V.int) → sp K [.ref a] H (fun v _ => v = .bl true) fun _ _ _ => False)
    (hCX : ∀ (H : Hp) (s : Shared) (e : Value) (s' : Shared), CX [] H s (fun _ _ _ => False) e s' → False) :
    PySem.W.WalkO q loose XP YP l.row.toRowW d [] (fun f vs => PySem.call f vs) :=
  Att.attach_call hn hdf fun w s₀ s₁ mg mb fa o pm cd doc a vs ns G Y ho hd hcd hmg hobj hints hlen hg =>
    let ⟨fd, hb, hF⟩ := F w mg fa _ (hY w _ Y) G.T.g hmg
    law_callG (hY w _ Y) G.T.g G.T.b G.T.builtins G.T.nolimit hg hobj hints (Nat.le_trans hlen hn2) hr hF hb (fun H hO hS => hsp (K w.params) H a ns hlen hO hS) fun H e s' => hCX H s₁ e s'
/-- from the top's facts: the law's def and its arguments -/
theorem law_use {P : Program} {w : World} {K : PySem.W.Frag} {mg : Str → Option Value} {h : Heap} {CX : CXT} {k : Nat} {fa : Addr} {st : Stmt} {x : Str} {sp : Sp} (L : HasFn K "law" st) (X : K.In h) (G : h.Ns mainGlobals mg) (hfa : mg "law" = some (.ref fa))
    (hb : ∀ (kV doc pm : Value) (an : Option Addr) (cdv ct v : Value), bindArgs (PySem.W.fnOf "law" "law" (defArgs st) (defBody st) (defScope st) .none kV doc pm an cdv ct) ⟨[v], []⟩ = pure [(x, v)])
    (ok : ∀ base : Heap, K.In base → base.Ns mainGlobals mg → ∀ fd, Fun K "law" "law" st fa fd → FnG P w K mg base CX k fa fd [x] sp) :
    ∃ fd : FuncData, (∀ (s : Shared) (v : Value), BindsTo s fd ⟨[v], []⟩ [(x, v)]) ∧ ∀ base : Heap, K.In base → base.Ns mainGlobals mg → FnG P w K mg base CX k fa fd [x] sp := by
  obtain ⟨f, oc, od, an, kV, doc, pm, cdv, ct, osl, e, l, c, kp⟩ := L
  have z := hfa.symm.trans (PySem.W.mg_of X G e)
  cases z
  have Fn := fun_mk (st := st) l c kp
  exact ⟨_, fun s v => .of_eq (hb ..), fun base h1 h2 => ok base h1 h2 _ Fn⟩

/-! ### tests whose answer is known -/
theorem iteFb {c : Bool} {A B : Prop} (h : c = false) (b : B) : if c = true then A else B := by rw [h]; exact iteF b
theorem iteTb {c : Bool} {A B : Prop} (h : c = true) (a : A) : if c = true then A else B := by rw [h]; exact iteT a
theorem ite3 {c : Bool} {A B : Prop} (h1 : c = true → A) (h2 : c = false → B) : if c = true then A else B := by
  cases c with
  | true => exact iteT (h1 rfl)
  | false => exact iteF (h2 rfl)

/-! ### constants of the top -/
def HasInt (K : PySem.W.Frag) (x : Str) (n : Int) : Prop := ∃ (t : Tok) (m : Int), PySem.W.nsIn K mainGlobals x = some (some (.int m t)) ∧ m = n
def KTup (K : PySem.W.Frag) (a : Addr) (xs : List V) : Prop := ∃ (od : Option Addr) (its : Array Value) (n : Nat) (sl : Array (Option Value)), K.lookup a = some ⟨.type "tuple", od, .seq its n, sl⟩ ∧ its.size ≤ sizeLine ∧ Vals xs its.toList
def HasTup (K : PySem.W.Frag) (x : Str) (xs : List V) : Prop := ∃ a, PySem.W.nsIn K mainGlobals x = some (some (.ref a)) ∧ KTup K a xs
theorem KTup.sq {K : PySem.W.Frag} {a : Addr} {xs : List V} (h : KTup K a xs) (H : Hp) : SqT K H a xs := by
  obtain ⟨od, its, n, sl, e, z, v⟩ := h
  exact .inr ⟨_, its, n, e, rfl, rfl, z, v⟩
/-- the module's names, as the defs see them -/
def GInt (mg : Str → Option Value) (x : Str) (n : Int) : Prop := ∃ t, mg x = some (.int n t)
def GTup (K : PySem.W.Frag) (mg : Str → Option Value) (x : Str) (xs : List V) : Prop := ∃ a, mg x = some (.ref a) ∧ KTup K a xs
theorem HasInt.g {K : PySem.W.Frag} {mg : Str → Option Value} {h : Heap} {x : Str} {n : Int} (i : HasInt K x n) (X : K.In h) (G : h.Ns mainGlobals mg) : GInt mg x n := by
  obtain ⟨t, m, e, rfl⟩ := i
  exact ⟨t, PySem.W.mg_of X G e⟩
theorem HasTup.g {K : PySem.W.Frag} {mg : Str → Option Value} {h : Heap} {x : Str} {xs : List V} (i : HasTup K x xs) (X : K.In h) (G : h.Ns mainGlobals mg) : GTup K mg x xs := by
  obtain ⟨a, e, k⟩ := i
  exact ⟨a, PySem.W.mg_of X G e, k⟩
section
variable {X : Cx} {x : Str} {pos : Pos}
theorem pe_globI {n : Int} (h : GInt X.mg x n) (hg : Gl X x) (hd : (x == ("__debug__" : Str)) = false := by decide) : PE X (.Name x pos) (tC (.int n)) := by
  obtain ⟨t, e⟩ := h
  exact pe_glob hg e ⟨t, rfl⟩ hd
/-- a tuple of the top: it is read as xs, wherever it stands -/
def tGT (K : PySem.W.Frag) (xs : List V) : TE := fun _ H Q => ∀ a, KTup K a xs → Q (.ref a) H
theorem pe_globT {xs : List V} (h : GTup X.K X.mg x xs) (hg : Gl X x) (hd : (x == ("__debug__" : Str)) = false := by decide) : PE X (.Name x pos) (tGT X.K xs) := by
  obtain ⟨a, e, k⟩ := h
  exact ⟨fun pins s σ H Q I q => (pe_glob (v := .ref a) hg e rfl hd).run pins s σ H Q I (q a k)⟩
end

/-! ### // by any divisor but 0 -/
def CDivX (_ j : Int) : Prop := j ≠ 0 ∧ j.natAbs.log2 < 9000
theorem op_fdivX {X : Cx} : OpR X (binaryOp .FloorDiv) (rI CDivX fun i j => .int (i.fdiv j)) := opI fun _ _ _ _ _ _ _ hc q => floordiv_int hc.1 q (.inl (PyProof.noPylong_of_log2 hc.2))
theorem fdiv_le_pos (i : Int) {j : Int} (hj : 0 < j) : (i.fdiv j).natAbs ≤ i.natAbs + 1 := by
  have e := Int.mul_fdiv_add_fmod i j
  have h0 := Int.fmod_nonneg_of_pos i hj
  have h1 := Int.fmod_lt_of_pos i hj
  have a : (i.fdiv j).natAbs ≤ (j * i.fdiv j).natAbs := by
    rw [Int.natAbs_mul]; exact Nat.le_mul_of_pos_left _ (by omega)
  by_cases hi : 0 ≤ i
  · have : 0 ≤ i.fdiv j := Int.fdiv_nonneg hi (by omega)
    have : 0 ≤ j * i.fdiv j := Int.mul_nonneg (by omega) this
    omega
  · have q : i.fdiv j ≤ -1 := by
      by_cases z : 0 ≤ i.fdiv j
      · have := Int.mul_nonneg (show 0 ≤ j by omega) z
        omega
      · omega
    have r : -1 + i ≤ i.fdiv j := by
      have : i.fdiv j * (j - 1) ≤ (-1) * (j - 1) := Int.mul_le_mul_of_nonneg_right q (by omega)
      have e2 : j * i.fdiv j = i.fdiv j * (j - 1) + i.fdiv j := by rw [Int.mul_sub, Int.mul_one, Int.mul_comm]; omega
      omega
    omega
theorem fdiv_le (i j : Int) : (i.fdiv j).natAbs ≤ i.natAbs + 1 := by
  by_cases h : 0 < j
  · exact fdiv_le_pos i h
  · by_cases h2 : j = 0
    · subst h2; rw [Int.fdiv_zero]; omega
    · have e : i.fdiv j = (-i).fdiv (-j) := by rw [Int.neg_fdiv_neg]
      have := fdiv_le_pos (-i) (show 0 < -j by omega)
      rw [e]; omega

/-! ### how long a shown thing is at most -/
structure Sm (d : PyData) (dp N : Nat) : Prop where
  ok : d.showable = true
  dp : d.depth ≤ dp
  sz : d.shown.length ≤ N
structure SmAll (ds : List PyData) (dp n N : Nat) : Prop where
  ok : PyData.showableAll ds = true
  dp : PyData.depthAll ds ≤ dp
  len : ds.length ≤ n
  sz : ((PyData.shownAll ds).map (·.length)).sum ≤ N
theorem Sm.show {d : PyData} {dp N : Nat} (h : Sm d dp N) (h1 : dp ≤ 60) (h2 : N ≤ sizeLine) : ShowOk d := ⟨h.ok, Nat.le_trans h.dp h1, Nat.le_trans h.sz h2⟩
theorem Sm.mono {d : PyData} {dp N dp' N' : Nat} (h : Sm d dp N) (h1 : dp ≤ dp') (h2 : N ≤ N') : Sm d dp' N' := ⟨h.ok, Nat.le_trans h.dp h1, Nat.le_trans h.sz h2⟩
theorem shownAll_length : ∀ ds : List PyData, (PyData.shownAll ds).length = ds.length
  | [] => rfl
  | d :: ds => by simp [PyData.shownAll, shownAll_length ds]
theorem Sm.int {i : Int} (h : i.natAbs < 2 ^ 1900) : Sm (.int i) 0 2000 := by
  have hl : i.natAbs.log2 < 1900 := PySem.Flt.log2_lt_of (by decide) h
  refine ⟨?_, Nat.le_refl 0, ?_⟩
  · simp only [PyData.showable, decide_eq_true_eq]; omega
  · have e := int_text_length_le (k := 1900) (by decide) hl
    show (Str.ofString (toString i)).length ≤ 2000
    rw [PySem.ofString_length]; omega
theorem Sm.bool (b : Bool) : Sm (.bool b) 0 10 := ⟨rfl, Nat.le_refl 0, by cases b <;> decide +kernel⟩
theorem Sm.none : Sm .none 0 10 := ⟨rfl, Nat.le_refl 0, by decide +kernel⟩
theorem Sm.str {x : Str} {n : Nat} (h : x.length ≤ n) (hc : ∀ c ∈ x.cps.toList, c < 16 ^ 8) : Sm (.str x) 0 (10 * n + 2) := ⟨rfl, Nat.le_refl 0, by
  have e := PySem.StrLaws.reprText_len x hc
  show (reprText x).length ≤ _
  omega⟩
theorem SmAll.nil : SmAll [] 0 0 0 := ⟨rfl, Nat.le_refl 0, Nat.le_refl 0, Nat.le_refl 0⟩
theorem SmAll.cons {d : PyData} {ds : List PyData} {dp dp' n N M : Nat} (h : Sm d dp N) (t : SmAll ds dp' n M) : SmAll (d :: ds) (max dp dp') (n + 1) (N + M) := by
  have h1 := h.dp
  have h2 := t.dp
  refine ⟨by simp [PyData.showableAll, h.ok, t.ok], ?_, by have := t.len; simp; omega, ?_⟩
  · simp only [PyData.depthAll]; omega
  · have := h.sz
    have := t.sz
    simp only [PyData.shownAll, List.map_cons, List.sum_cons]; omega
theorem Sm.tup {ds : List PyData} {dp n N : Nat} (h : SmAll ds dp n N) : Sm (.tuple ds) (dp + 1) (N + 2 * n + 3) := by
  refine ⟨by simpa [PyData.showable] using h.ok, by simp only [PyData.depth]; have := h.dp; omega, ?_⟩
  have e := tupleText_len_le (PyData.shownAll ds)
  have := h.sz
  have := h.len
  rw [shownAll_length] at e
  show (tupleText (PyData.shownAll ds)).length ≤ _
  omega
theorem Sm.lst {ds : List PyData} {dp n N : Nat} (h : SmAll ds dp n N) : Sm (.list ds) (dp + 1) (N + 2 * n + 3) := by
  refine ⟨by simpa [PyData.showable] using h.ok, by simp only [PyData.depth]; have := h.dp; omega, ?_⟩
  have e := listText_len_le (PyData.shownAll ds)
  have := h.sz
  have := h.len
  rw [shownAll_length] at e
  show (listText (PyData.shownAll ds)).length ≤ _
  omega
theorem SmAll.many {dp N : Nat} : ∀ {ds : List PyData}, (∀ d ∈ ds, Sm d dp N) → SmAll ds dp ds.length (N * ds.length)
  | [], _ => ⟨rfl, Nat.zero_le _, Nat.le_refl 0, Nat.zero_le _⟩
  | d :: ds, h => by
    have t := SmAll.cons (h d (by simp)) (SmAll.many (fun e he => h e (List.mem_cons_of_mem _ he)))
    rw [Nat.max_self] at t
    refine ⟨t.ok, t.dp, t.len, Nat.le_trans t.sz ?_⟩
    rw [List.length_cons, Nat.mul_succ]; omega
theorem sz_0 : (0 : Nat) ≤ sizeLine := by decide
theorem sz_1 : (1 : Nat) ≤ sizeLine := by decide
theorem sz_2 : (2 : Nat) ≤ sizeLine := by decide
theorem sz_3 : (3 : Nat) ≤ sizeLine := by decide
theorem sz_4 : (4 : Nat) ≤ sizeLine := by decide
theorem sz_5 : (5 : Nat) ≤ sizeLine := by decide
/-! ### the ends: each premise a fact that k_is finds -/
theorem HasFn.mk' {K : PySem.W.Frag} {x : Str} {st : Stmt} {f : Addr} {oc : Value} {od an : Option Addr} {kV doc pm cdv ct : Value} {osl : Array (Option Value)} (a : PySem.W.nsIn K mainGlobals x = some (some (.ref f)))
    (b : K.lookup f = some ⟨oc, od, .func (PySem.W.fnOf x x (defArgs st) (defBody st) (defScope st) .none kV doc pm an cdv ct), osl⟩) (c : PySem.W.codeIn K cdv x = true) (d : PySem.W.keepIn K (.ref f) = true) : HasFn K x st :=
  ⟨f, oc, od, an, kV, doc, pm, cdv, ct, osl, a, b, c, d⟩
theorem HasInt.mk' {K : PySem.W.Frag} {x : Str} {n m : Int} {t : Tok} (a : PySem.W.nsIn K mainGlobals x = some (some (.int m t))) (e : m = n) : HasInt K x n := ⟨t, m, a, e⟩
theorem HasTup.mk' {K : PySem.W.Frag} {x : Str} {xs : List V} {a : Addr} {od : Option Addr} {its : Array Value} {n : Nat} {sl : Array (Option Value)} (h : PySem.W.nsIn K mainGlobals x = some (some (.ref a)))
    (b : K.lookup a = some ⟨.type "tuple", od, .seq its n, sl⟩) (z : its.size ≤ sizeLine) (v : Vals xs its.toList) : HasTup K x xs := ⟨a, h, od, its, n, sl, b, z, v⟩
/-! ### what the laws' helpers promise -/
/-! the digits and the place -/
def BoxAt (H : Hp) (p dl : Addr) : Prop := ∃ (ds : List Int) (k : Int), H p = some (.lst [.ref dl, .int k]) ∧ 0 ≤ k ∧ H dl = some (.lst (ds.map V.int)) ∧ ds.length ≤ 4000 ∧ ∀ d ∈ ds, 0 ≤ d ∧ d < 1000
theorem BoxAt.at_ {H : Hp} {p dl : Addr} (h : BoxAt H p dl) : ∃ xs, H p = some (.lst xs) := let ⟨_, _, a, _⟩ := h; ⟨_, a⟩
theorem BoxAt.dg {H : Hp} {p dl : Addr} (h : BoxAt H p dl) : ∃ xs, H dl = some (.lst xs) := let ⟨_, _, _, _, c, _⟩ := h; ⟨_, c⟩
def Keep (p : Addr) (H H' : Hp) : Prop := ∀ b o, H b = some o → b ≠ p → H' b = some o
def spDraw (K : PySem.W.Frag) : Sp := fun vs H Q _ => ∃ (p dl : Addr) (m : Int), vs = [.ref p, .int m] ∧ BoxAt H p dl ∧ 0 < m ∧ ∀ r H', 0 ≤ r → r < m → BoxAt H' p dl → Keep p H H' → Q (.int r) H'
def spCell (K : PySem.W.Frag) : Sp := fun vs H Q _ => ∃ (a : Addr) (ns : List Int) (i : Int), vs = [.ref a, .int i] ∧ SqL K H a (ns.map V.int) ∧ 0 ≤ i ∧ ∀ r, Q (.int r) H
def DigAt (H0 H : Hp) (dl : Addr) (n : Nat) : Prop := ∃ ds : List Int, H dl = some (.lst (ds.map V.int)) ∧ ds.length ≤ n ∧ (∀ d ∈ ds, 0 ≤ d ∧ d < 1000) ∧ Same H0 H
theorem DigAt.mono {H0 H : Hp} {dl : Addr} {n m : Nat} (h : DigAt H0 H dl n) (l : n ≤ m) : DigAt H0 H dl m := let ⟨ds, a, b, c, d⟩ := h; ⟨ds, a, by omega, c, d⟩
theorem DigAt.add {H0 H : Hp} {dl : Addr} {n : Nat} {r : Int} {xs : List V} (h : DigAt H0 H dl n) (hx : H dl = some (.lst xs)) (nd : H0 dl = none) (h0 : 0 ≤ r) (h1 : r < 1000) : DigAt H0 (upd H dl (.lst (xs ++ [.int r]))) dl (n + 1) := by
  obtain ⟨ds, a, b, c, d⟩ := h
  rw [hx] at a
  obtain rfl := HO.lst.inj (Option.some.inj a)
  refine ⟨ds ++ [r], by rw [upd_same, List.map_append]; rfl, by simp; omega, fun z hz => ?_, fun q o e => by rw [upd_ne (ne_of_none e nd)]; exact d q o e⟩
  rcases List.mem_append.mp hz with hz | hz
  · exact c z hz
  · have : z = r := by simpa using hz
    omega
def spDigits (K : PySem.W.Frag) : Sp := fun vs H Q _ => ∃ (a : Addr) (ns : List Int) (lo hi : Nat), vs = [.ref a, .int lo, .int hi] ∧ SqL K H a (ns.map V.int) ∧ lo ≤ hi ∧ hi ≤ 64 ∧
  ∀ (p : Addr) (H' : Hp), H p = none → DigAt H H' p 4000 → Q (.ref p) H'
def spBound : Sp := fun vs H Q _ => vs = [] ∧ Q (.int (2 ^ 256)) H
theorem Keep.trans {p : Addr} {H H1 H2 : Hp} (a : Keep p H H1) (b : Keep p H1 H2) : Keep p H H2 := fun c o h ne => b c o (a c o h ne) ne
theorem Keep.refl (p : Addr) (H : Hp) : Keep p H H := fun _ _ h _ => h
def Sgn (z : Int) : Prop := z = 1 ∨ z = -1
theorem Sgn.mul {z n : Int} (h : Sgn z) : (z * n).natAbs = n.natAbs := by
  rcases h with rfl | rfl <;> omega
theorem Sgn.wide {z n : Int} (h : Sgn z) (hn : n.natAbs < 2 ^ 300) : CMulW z n := wide_mul (a := 2) (b := 300) (by rcases h with rfl | rfl <;> decide) hn (by decide) (by decide) (by decide)
def spNumber (K : PySem.W.Frag) : Sp := fun vs H Q _ => ∃ (p dl : Addr), vs = [.ref p] ∧ BoxAt H p dl ∧ ∀ (n : Int) H', n.natAbs < 2 ^ 260 → BoxAt H' p dl → Keep p H H' → Q (.int n) H'
def spSame (K : PySem.W.Frag) : Sp := fun vs H Q _ => ∃ (x y : V) (d : PyData), vs = [x, y] ∧ Dp K H x d ∧ Dp K H y d ∧ ShowOk d ∧ Q (.bl true) H
theorem Same.keep {p : Addr} {H H' : Hp} (e : Same H H') : Keep p H H' := fun b o h _ => e b o h
theorem BoxAt.same {p dl : Addr} {H H' : Hp} (h : BoxAt H p dl) (e : Same H H') : BoxAt H' p dl := by
  obtain ⟨ds, k, a, b, c, d⟩ := h
  exact ⟨ds, k, e _ _ a, b, e _ _ c, d⟩
theorem BoxAt.upd {p dl l : Addr} {H : Hp} {o : HO} (h : BoxAt H p dl) (h1 : l ≠ p) (h2 : l ≠ dl) : BoxAt (L2.upd H l o) p dl := by
  obtain ⟨ds, k, a, b, c, d⟩ := h
  exact ⟨ds, k, by rw [upd_ne (Ne.symm h1)]; exact a, b, by rw [upd_ne (Ne.symm h2)]; exact c, d⟩
theorem strOk (s : Str) (h : s.cps.toList.all (fun c => decide (c < 16 ^ 8)) = true) : ∀ c ∈ s.cps.toList, c < 16 ^ 8 := fun c hc => of_decide_eq_true (List.all_eq_true.mp h c hc)

/-! ### data without lists: what no change of a list can reach -/
mutual
inductive Dt (K : PySem.W.Frag) (H : Hp) : V → PyData → Prop
  | non : Dt K H .non .none
  | bl (b : Bool) : Dt K H (.bl b) (.bool b)
  | int (i : Int) : Dt K H (.int i) (.int i)
  | str (x : Str) : Dt K H (.str x) (.str x)
  | tup {a : Addr} {xs : List V} {ds : List PyData} : SqT K H a xs → DtAll K H xs ds → Dt K H (.ref a) (.tuple ds)
inductive DtAll (K : PySem.W.Frag) (H : Hp) : List V → List PyData → Prop
  | nil : DtAll K H [] []
  | cons {v : V} {vs : List V} {d : PyData} {ds : List PyData} : Dt K H v d → DtAll K H vs ds → DtAll K H (v :: vs) (d :: ds)
end
mutual
theorem Dt.dp {K : PySem.W.Frag} {H : Hp} : ∀ {v : V} {d : PyData}, Dt K H v d → Dp K H v d
  | _, _, .non => .non
  | _, _, .bl b => .bl b
  | _, _, .int i => .int i
  | _, _, .str x => .str x
  | _, _, .tup h a => .tup h (DtAll.dp a)
theorem DtAll.dp {K : PySem.W.Frag} {H : Hp} : ∀ {vs : List V} {ds : List PyData}, DtAll K H vs ds → DpAll K H vs ds
  | _, _, .nil => .nil
  | _, _, .cons h a => .cons (Dt.dp h) (DtAll.dp a)
end
/-- every tuple that H reads H' reads as well -/
def KeepT (K : PySem.W.Frag) (H H' : Hp) : Prop := ∀ a xs, SqT K H a xs → SqT K H' a xs
mutual
theorem Dt.keepT {K : PySem.W.Frag} {H H' : Hp} (e : KeepT K H H') : ∀ {v : V} {d : PyData}, Dt K H v d → Dt K H' v d
  | _, _, .non => .non
  | _, _, .bl b => .bl b
  | _, _, .int i => .int i
  | _, _, .str x => .str x
  | _, _, .tup h a => .tup (e _ _ h) (DtAll.keepT e a)
theorem DtAll.keepT {K : PySem.W.Frag} {H H' : Hp} (e : KeepT K H H') : ∀ {vs : List V} {ds : List PyData}, DtAll K H vs ds → DtAll K H' vs ds
  | _, _, .nil => .nil
  | _, _, .cons h a => .cons (Dt.keepT e h) (DtAll.keepT e a)
end
theorem KeepT.refl (K : PySem.W.Frag) (H : Hp) : KeepT K H H := fun _ _ h => h
theorem KeepT.trans {K : PySem.W.Frag} {H H1 H2 : Hp} (a : KeepT K H H1) (b : KeepT K H1 H2) : KeepT K H H2 := fun c xs h => b c xs (a c xs h)
theorem Same.keepT {K : PySem.W.Frag} {H H' : Hp} (e : Same H H') : KeepT K H H' := fun _ _ h => Same.tupl e h
theorem Keep.keepT {K : PySem.W.Frag} {p : Addr} {H H' : Hp} (e : Keep p H H') (hp : ∃ xs, H p = some (.lst xs)) : KeepT K H H' := fun a xs h => by
  obtain ⟨ys, hp⟩ := hp
  rcases h with (h | ⟨o, h⟩) | h
  · exact .inl (.inl (e _ _ h (ne_of h hp (by intro z; cases z))))
  · exact .inl (.inr ⟨o, e _ _ h (ne_of h hp (by intro z; cases z))⟩)
  · exact .inr h
theorem KeepT.upd {K : PySem.W.Frag} {p : Addr} {H : Hp} {o : HO} {xs : List V} (hp : H p = some (.lst xs)) : KeepT K H (upd H p o) :=
  Keep.keepT (p := p) (fun b u e hb => by rw [upd_ne hb]; exact e) ⟨xs, hp⟩
theorem Dt.mono {K : PySem.W.Frag} {H H' : Hp} {v : V} {d : PyData} (e : Same H H') (h : Dt K H v d) : Dt K H' v d := h.keepT (Same.keepT e)
theorem DtAll.mono {K : PySem.W.Frag} {H H' : Hp} {v : List V} {d : List PyData} (e : Same H H') (h : DtAll K H v d) : DtAll K H' v d := h.keepT (Same.keepT e)
theorem Dt.made {K : PySem.W.Frag} {H : Hp} {p : Addr} {xs : List V} {ds : List PyData} (hp : H p = none) (h : DtAll K H xs ds) : Dt K (L2.upd H p (.tup xs)) (.ref p) (.tuple ds) := .tup (SqT.of upd_same) (DtAll.mono (Same.new hp) h)
theorem DtAll.length {K : PySem.W.Frag} {H : Hp} {vs : List V} {ds : List PyData} (h : DtAll K H vs ds) : vs.length = ds.length := LK.DpAll.length h.dp
theorem DtAll.app {K : PySem.W.Frag} {H : Hp} : ∀ {vs ws : List V} {ds es : List PyData}, DtAll K H vs ds → DtAll K H ws es → DtAll K H (vs ++ ws) (ds ++ es)
  | _, _, _, _, .nil, t => t
  | _, _, _, _, .cons h a, t => .cons h (DtAll.app a t)
theorem DtAll.get {K : PySem.W.Frag} {H : Hp} : ∀ {vs : List V} {ds : List PyData} {i : Nat} {d : PyData}, DtAll K H vs ds → ds[i]? = some d → ∃ v, vs[i]? = some v ∧ Dt K H v d
  | _, _, 0, _, .cons h _, e => ⟨_, rfl, Option.some.inj e ▸ h⟩
  | _, _, i + 1, _, .cons _ a, e => DtAll.get (i := i) a e
theorem DtAll.getV {K : PySem.W.Frag} {H : Hp} : ∀ {vs : List V} {ds : List PyData} {i : Nat} {v : V}, DtAll K H vs ds → vs[i]? = some v → ∃ d, ds[i]? = some d ∧ Dt K H v d
  | _, _, 0, _, .cons h _, e => ⟨_, rfl, Option.some.inj e ▸ h⟩
  | _, _, i + 1, _, .cons _ a, e => DtAll.getV (i := i) a e
theorem Dt.tuple_inv {K : PySem.W.Frag} {H : Hp} {v : V} {ds : List PyData} (h : Dt K H v (.tuple ds)) : ∃ a xs, v = .ref a ∧ SqT K H a xs ∧ DtAll K H xs ds := by
  cases h with
  | tup h a => exact ⟨_, _, rfl, h, a⟩
theorem DtAll.cons_inv {K : PySem.W.Frag} {H : Hp} {vs : List V} {d : PyData} {ds : List PyData} (h : DtAll K H vs (d :: ds)) : ∃ v ws, vs = v :: ws ∧ Dt K H v d ∧ DtAll K H ws ds := by
  cases h with
  | cons h a => exact ⟨_, _, rfl, h, a⟩
theorem DtAll.nil_inv {K : PySem.W.Frag} {H : Hp} {vs : List V} (h : DtAll K H vs []) : vs = [] := by cases h; rfl
theorem Dt.int_inv {K : PySem.W.Frag} {H : Hp} {v : V} {i : Int} (h : Dt K H v (.int i)) : v = .int i := by cases h; rfl
theorem Dt.str_inv {K : PySem.W.Frag} {H : Hp} {v : V} {x : Str} (h : Dt K H v (.str x)) : v = .str x := by cases h; rfl
theorem Dt.bool_inv {K : PySem.W.Frag} {H : Hp} {v : V} {b : Bool} (h : Dt K H v (.bool b)) : v = .bl b := by cases h; rfl
theorem dtStrs {K : PySem.W.Frag} {H : Hp} : ∀ xs : List Str, DtAll K H (xs.map V.str) (xs.map PyData.str)
  | [] => .nil
  | x :: xs => .cons (.str x) (dtStrs xs)
end LK

set_option Elab.async false
set_option linter.all false
set_option maxRecDepth 100000
set_option maxHeartbeats 4000000
/-! enumerate of a tuple. -/
namespace LK
open PySem PySem.Spec PyProof.Rows L2
open AutoSeq1 (wpAny_loadPart')
open Sem (wp)
def enumObj (it : Addr) : Obj := { cls := .type "enumerate", data := .fields #[.none, .bool false, .ref it, rawInt 0, .none, .none] }
def tupIt (t : Addr) : Obj := { cls := .type "tuple_iterator", data := .fields #[.ref t, .int 0 0] }
theorem meets_enumT (t : Addr) (items : Array Value) (n : Nat) (dct : Option Addr) (sl : Array (Option Value)) :
    Meets (Builtin.«enumerate.__new__» ⟨[.type "enumerate", .ref t], []⟩) (fun _ R s => s.heap.get? t = some { cls := .type "tuple", dict := dct, data := .seq items n, slots := sl } ∧
      R (.ok (.ret (.ref (s.heap.push (tupIt t)).objs.size))) { s with heap := (s.heap.push (tupIt t)).push (enumObj s.heap.objs.size) }) :=
  .of_wp fun prog w A R s h => by
    obtain ⟨hp, g, d, tk, os⟩ := s
    obtain ⟨hl, h⟩ := h
    have hsub := sub_enumerate
    have hT : Heap.IsTuple (Shared.heap ⟨hp, g, d, tk, os⟩) t items := ⟨_, hl, rfl, n, rfl⟩
    wp_walk using wpAny_loadPart' hl
    refine wpAny_stack_any fun st => wpAny_pure ?_
    split
    · rename_i c _ _ _ _ _
      cases (c == Value.type "enumerate") <;> (wp_walk using wpAny_loadPart' hl, wpAny_pyIter_tuple hT; exact ⟨_, rfl, h⟩)
    · wp_walk using wpAny_loadPart' hl, wpAny_pyIter_tuple hT
      exact ⟨_, rfl, h⟩
section
variable {prog : Program} {w : World} {A : Around} {E : Value → Shared → Prop} {s : Shared}
theorem call_enumT {t : Addr} {items : Array Value} {Q : Value → Shared → Prop} (hT : s.heap.IsTuple t items)
    (h : ∀ h', IsEnum h' (s.heap.objs.size + 1) s.heap.objs.size 0 .none → h'.IsTupleIter s.heap.objs.size t 0 → (∀ b o, s.heap.get? b = some o → h'.get? b = some o) → Q (.ref (s.heap.objs.size + 1)) { s with heap := h' }) :
    wpAny (model prog w) A (call (.type "enumerate") [.ref t]) Q E s := by
  obtain ⟨⟨c, dct, dt, sl⟩, hl, hc, n, hd⟩ := hT
  obtain rfl : c = .type "tuple" := hc
  obtain rfl : dt = .seq items n := hd
  refine callType_new F.called_enumerate (by decide) (F.typeCall_enumerate_1 _) (F.newCall_enumerate_1 _) (fun obj => F.args_object_init_2 obj _) F.entry_enumerate_new (meets_enumT t items n dct sl) ⟨hl, ?_⟩
  have hz : (s.heap.push (tupIt t)).objs.size = s.heap.objs.size + 1 := Heap.size_push ..
  have he : IsEnum ((s.heap.push (tupIt t)).push (enumObj s.heap.objs.size)) (s.heap.objs.size + 1) s.heap.objs.size 0 .none := by
    have q := Heap.get?_push_size (s.heap.push (tupIt t)) (o := enumObj s.heap.objs.size) rfl
    rw [hz] at q
    exact q
  show _ ∧ _
  rw [hz]
  exact ⟨⟨_, he, rfl⟩, h _ he (Heap.get?_push_of_some _ (Heap.get?_push_size _ rfl) |> fun q => ⟨_, q, rfl, rfl⟩) fun b o x => Heap.get?_push_of_some _ (Heap.get?_push_of_some _ x)⟩
end
/-- the tuple at a, each item in a new pair with its place -/
def IteT (K : PySem.W.Frag) (a : Addr) : It where
  go := fun i H => ∃ (xs : List V) (x : V), SqT K H a xs ∧ xs[i]? = some x
  yld := fun i H v H' => ∃ T x, v = .ref T ∧ H T = none ∧ H' = upd H T (.tup [.int (i : Nat), x]) ∧ ∀ xs, SqT K H a xs → xs[i]? = some x
  stop := fun i H => ∃ xs : List V, SqT K H a xs ∧ xs.length = i
theorem turn_enumT {P : Program} {w : World} {K : PySem.W.Frag} {elts : List Expr} {kk : Nat} {tpos : Pos} (a e it : Addr) :
    Turn P w K (.Tuple elts kk tpos) (IteT K a) [e, it] e (fun i h => (∃ old, IsEnum h e it ((i : Nat) : Int) old) ∧ h.IsTupleIter it a i ∧ e ≠ it) where
  mem := List.mem_cons_self
  obj := fun i h st b hb => by
    obtain ⟨⟨old, he⟩, ⟨o, ho, hc, hd⟩, _⟩ := st
    have hb : b = e ∨ b = it := by simpa using hb
    rcases hb with rfl | rfl
    · exact ⟨_, he, fun v q => nomatch q⟩
    · exact ⟨o, ho, fun v q => by rw [hd] at q; cases q⟩
  keep := fun i h h' st k => by
    obtain ⟨⟨old, he⟩, hi, hne⟩ := st
    exact ⟨⟨old, k e (by simp) _ he⟩, hi.at fun o q => k it (by simp) o q, hne⟩
  item := by
    intro X hP hw hK hc i pins s σ H E I hf st hg
    subst hP hw hK
    obtain ⟨⟨old, he⟩, hit, hne⟩ := st
    obtain ⟨xs, x, hq, hx⟩ := hg
    obtain ⟨its, rv, p, hz⟩ := I.tuple hq
    obtain ⟨u, hu, ru⟩ := rv.get hx
    have hel : e < s.heap.objs.size := Heap.lt_size he
    have hil : it < s.heap.objs.size := by obtain ⟨_, q, _⟩ := hit; exact Heap.lt_size q
    have hat : a ≠ it := by
      intro z
      subst z
      obtain ⟨o, q1, c1, _⟩ := hit
      obtain ⟨o', q2, c2, _⟩ := p
      rw [q1] at q2; cases q2
      exact absurd (Value.type.inj (c1.symm.trans c2)) (by decide)
    have D := Draws.tuple (prog := X.prog) (w := X.w) (A := X.A.in1) (I.ok.hd hc) it a hat its.toArray
    have Dst : (fun i (h : Heap) => h.IsTupleIter it a i ∧ h.IsTuple a its.toArray) i s.heap := ⟨hit, p⟩
    have eat : e ≠ a := by
      intro z
      subst z
      obtain ⟨o', q2, c2, _⟩ := p
      rw [he] at q2; cases q2
      exact absurd (Value.type.inj c2) (by decide)
    have hi : i < its.toArray.size := by
      have := (List.getElem?_eq_some_iff.mp hu).1
      simpa using this
    refine wpAny_pyNext_enum_itemD D he Dst hi hne (by simp [hne, eat]) fun v h' tk hv ho hst hT hsz hk => ?_
    obtain rfl : v = u := by
      have hv : its.toArray[i]? = some v := hv
      rw [show its.toArray[i]? = some u by simpa using hu] at hv
      exact (Option.some.inj hv).symm
    refine ⟨_, rfl, wpAny_letOwnedTupleGo_enum (s := { s with heap := h', toks := tk + 1 }) ho fun h'' he' sb => ?_⟩
    have hT2 := (sb.2 _ (Nat.ne_of_gt hel)).trans hT
    have new : ObjOk X.prog X.w (upd H s.heap.objs.size (.tup [.int (i : Nat), x])) h'' s.heap.objs.size (.tup [.int (i : Nat), x]) :=
      ⟨by show 2 ≤ sizeLine; decide, [.int i tk, v], .cons ⟨_, rfl⟩ (.cons ru .nil), ⟨_, hT2, rfl, _, rfl⟩⟩
    have I1 : Inv X pins σ (upd H s.heap.objs.size (.tup [.int (i : Nat), x])) { s with heap := h'', toks := tk + 1 } :=
      I.turnedNew (ch := [e, it]) (fun b ob hb q => (sb.2 b (fun z => hb (by simp [z]))).trans (hk b ob (fun z => hb (by simp [z])) (fun z => hb (by simp [z])) q)) hf (Nat.le_refl _) new
    refine ⟨.ref s.heap.objs.size, _, I1, rfl, ⟨_, x, rfl, I.hok.fresh (Nat.le_refl _), rfl, fun ys hy => by rw [I.tuple_inj hy hq]; exact hx⟩, ⟨⟨v, ?_⟩, hst.1.at fun o q => (sb.2 it (Ne.symm hne)).trans q, hne⟩, fun b hb => ?_⟩
    · rw [show ((i + 1 : Nat) : Int) = (i : Int) + 1 by omega]
      exact he'
    · have hb' : b < s.heap.objs.size := by
        have z : b = e ∨ b = it := by simpa using hb
        rcases z with rfl | rfl <;> assumption
      rw [upd_ne (Nat.ne_of_lt hb')]
      exact (hf b hb).1
  done := by
    intro X hP hw hK hc i pins s σ H E I hf st hg
    subst hP hw hK
    obtain ⟨⟨old, he⟩, hit, hne⟩ := st
    obtain ⟨xs, hq, hx⟩ := hg
    obtain ⟨its, rv, p, hz⟩ := I.tuple hq
    obtain ⟨f0, f1, f2, f3, f4, f5⟩ := hf it (by simp)
    have hl := rv.length
    have hat : a ≠ it := by
      intro z
      subst z
      obtain ⟨o, q1, c1, _⟩ := hit
      obtain ⟨o', q2, c2, _⟩ := p
      rw [q1] at q2; cases q2
      exact absurd (Value.type.inj (c1.symm.trans c2)) (by decide)
    have D := Draws.tuple (prog := X.prog) (w := X.w) (A := X.A.in1) (I.ok.hd hc) it a hat its.toArray
    have hn : i = its.toArray.size := by simp; omega
    subst hn
    exact wpAny_pyNext_enum_endD D he ⟨hit, p⟩ fun h' eb => ⟨rfl, I.turned (t' := s.toks) (fun b o hb q => eb b o hb q) f0 f1 f3 f4 f5⟩
  self := fun A i s Q E st h => let ⟨⟨_, he⟩, _⟩ := st; wpAny_pyIter_enum he h
def iEnumT (K : PySem.W.Frag) (ta : TA) : TI := fun σ H R => ta σ H fun vs H1 => ∃ a xs, vs = [.ref a] ∧ SqT K H1 a xs ∧ R (IteT K a) H1
theorem pi_enumT {X : Cx} {e : Expr} {ta : TA} {p pos tpos : Pos} {elts : List Expr} {kk : Nat} (hg : Gl X "enumerate") (hm : X.mg "enumerate" = none) (ha : PA X [e] ta) (hs : starEach [e] X.env = [(false, eval e X.env)] := by rfl) :
    PI X (.Tuple elts kk tpos) (.Call (.Name "enumerate" p) [e] [] pos) (iEnumT X.K ta) := by
  refine ⟨fun pins s σ H R I h => ?_⟩
  refine Call_ (ld_blt I hg hm boot_enumerate (PyProof.Rows.callWith_type1 (thn (ha.run pos pins s σ H _ I h) fun us s1 ⟨vs, H1, I1, r1, q1⟩ => ?_) hs rfl))
  obtain ⟨a, xs, rfl, hq, q⟩ := q1
  cases r1 with
  | cons r rr =>
    cases rr
    cases r
    obtain ⟨its, rv, p', hz⟩ := I1.tuple hq
    refine call_enumT (show s1.heap.IsTuple a its.toArray from p') fun h' he hit hk => wpAny_pyIter_enum he ?_
    refine ⟨s1.heap.objs.size + 1, [s1.heap.objs.size + 1, s1.heap.objs.size], _, _, H1, rfl, I1.kept (t' := s1.toks) hk, turn_enumT a (s1.heap.objs.size + 1) s1.heap.objs.size, ⟨⟨.none, he⟩, hit, Nat.succ_ne_self _⟩, fun b hb => ?_, q⟩
    have hle : s1.heap.objs.size ≤ b := by
      have z : b = s1.heap.objs.size + 1 ∨ b = s1.heap.objs.size := by simpa using hb
      rcases z with rfl | rfl <;> omega
    exact I1.fpOk hle (I1.hok.fresh hle)
theorem walk_enumT {K : PySem.W.Frag} {a : Addr} {xs : List V} : Walk (IteT K a) xs.length (fun H => SqT K H a xs) (YPair (fun i => some (.int (i : Nat))) (fun i => xs[i]?)) := by
  refine ⟨fun i _ hi q => ⟨xs, xs[i], q, by simp [hi]⟩, fun _ q => ⟨xs, q, rfl⟩, fun i H v H' _ q y => ?_⟩
  obtain ⟨T, x, h1, h2, h3, h4⟩ := y
  exact ⟨T, .int (i : Nat), x, h1, h2, h3, rfl, h4 xs q⟩

/-! ### comprehensions whose items are data -/
theorem tYes_of {σ : L2.St} {H : Hp} {P R : Hp → Prop} (h : P H) : tYes σ H fun b H3 => if b = true then P H3 else R H3 := by
  show (if true = true then P H else R H)
  rw [if_pos rfl]
  exact h
/-- each turn gives data and leaves what stood; no test -/
theorem lc_dt {K : PySem.W.Frag} {J : It} {n : Nat} {G : Hp → Prop} {Y : Nat → Hp → V → Hp → Prop} (w : Walk J n G Y) {g : TG} {te : TE} {vs : List Nat} {σ : L2.St} {H : Hp} {D : Addr} {Qd : Hp → Prop} (hD : H D = none) (ds : List PyData) (hn : ds.length = n) (hz : n < sizeLine)
    (hG : ∀ H', Same H H' → G H')
    (hs : ∀ i x H1 H2 d (Nx : V → Hp → Prop), i < n → ds[i]? = some d → Same H H1 → (∃ acc, H1 D = some (.lst acc)) → Y i H1 x H2 → (∀ y H5, Same H1 H5 → Dt K H5 y d → Nx y H5) →
      g x (wipe σ vs) H2 fun σ2 H3 => wipe σ2 vs = wipe σ vs ∧ te σ2 H3 Nx)
    (hd : ∀ H' acc, Same H H' → H' D = some (.lst acc) → DtAll K H' acc ds → Qd H')
    (mono : ∀ x σ H Q Q', (∀ σ' H', Q σ' H' → Q' σ' H') → g x σ H Q → g x σ H Q') :
    ∃ W : Nat → Nat → Hp → Prop, (∃ m, W 0 m (upd H D (.lst []))) ∧ ∀ i m H, W i m H →
      (J.stop i H ∧ Qd H) ∨ (J.go i H ∧ ∃ Nx : Hp → Prop, (∀ H', Nx H' → ∃ m', m' < m ∧ W (i + 1) m' H') ∧ ∀ x H', J.yld i H x H' → g x (wipe σ vs) H' fun σ2 H2 => wipe σ2 vs = wipe σ vs ∧ tYes σ2 H2 fun b H3 =>
        if b = true then te σ2 H3 fun y H4 => ∃ acc, H4 D = some (.lst acc) ∧ acc.length < sizeLine ∧ Nx (upd H4 D (.lst (acc ++ [y]))) else Nx H3) := by
  refine lc_it w (fun i H' => ∃ acc, H' D = some (.lst acc) ∧ DtAll K H' acc (ds.take i) ∧ Same H H') ⟨[], upd_same, .nil, Same.new hD⟩ (fun i H' _ h => let ⟨_, _, _, s⟩ := h; hG H' s) (fun i x H1 H2 hi h y => ?_) fun H' h => ?_
  · obtain ⟨acc, a1, a2, a3⟩ := h
    have hi' : i < ds.length := by omega
    have hg := hs i x H1 H2 ds[i] (fun y H4 => ∃ acc, H4 D = some (.lst acc) ∧ acc.length < sizeLine ∧ ∃ acc', upd H4 D (.lst (acc ++ [y])) D = some (.lst acc') ∧ DtAll K (upd H4 D (.lst (acc ++ [y]))) acc' (ds.take (i + 1)) ∧ Same H (upd H4 D (.lst (acc ++ [y]))))
      hi (List.getElem?_eq_getElem hi') a3 ⟨acc, a1⟩ y fun y H5 s hy => ?_
    · exact mono _ _ _ _ _ (fun σ2 H3 q => ⟨q.1, tYes_of q.2⟩) hg
    · have b1 := s _ _ a1
      have kt : KeepT K H5 (upd H5 D (.lst (acc ++ [y]))) := KeepT.upd b1
      refine ⟨acc, b1, ?_, _, upd_same, ?_, fun b o e => ?_⟩
      · rw [a2.length, List.length_take]; omega
      · rw [List.take_succ, List.getElem?_eq_getElem hi']
        exact DtAll.app (DtAll.keepT (KeepT.trans (Same.keepT s) kt) a2) (.cons (Dt.keepT kt hy) .nil)
      · rw [upd_ne (ne_of_none e hD)]
        exact s _ _ (a3 _ _ e)
  · obtain ⟨acc, a1, a2, a3⟩ := h
    rw [← hn, List.take_length] at a2
    exact hd H' acc a3 a1 a2
theorem mono_name {i : Nat} : ∀ x (σ : L2.St) (H : Hp) (Q Q' : L2.St → Hp → Prop), (∀ σ' H', Q σ' H' → Q' σ' H') → gName i x σ H Q → gName i x σ H Q' := fun _ _ _ _ _ h q => h _ _ q
theorem mono_tup2 {K : PySem.W.Frag} {i j n : Nat} : ∀ x (σ : L2.St) (H : Hp) (Q Q' : L2.St → Hp → Prop), (∀ σ' H', Q σ' H' → Q' σ' H') → gTup K n (gCons (gName i) (gCons (gName j) gNil)) x σ H Q → gTup K n (gCons (gName i) (gCons (gName j) gNil)) x σ H Q' := by
  rintro x σ H Q Q' h ⟨a, xs, e1, e2, e3, v, r, e4, v', r', e5, e6, q⟩
  exact ⟨a, xs, e1, e2, e3, v, r, e4, v', r', e5, e6, h _ _ q⟩
end LK

set_option Elab.async false
set_option linter.all false
set_option maxRecDepth 100000
set_option maxHeartbeats 4000000
set_option exponentiation.threshold 3000
/-! More rules: text * int, two rules at one place, what == says of data. -/
namespace LK
open PySem PySem.Spec PyProof.Rows L2
theorem at_of' {α : Type} {xs : List α} {z : Int} {j : Nat} {v : α} (e : z = (j : Int)) (h : xs[j]? = some v) : atI xs z = some v := by
  rw [e]
  exact atI_nat h
/-- z repeated k times, by its codes -/
def repC (z : List Nat) (k : Int) : List Nat := (List.replicate k.toNat z).flatten
def repS (z : Str) (k : Int) : Str := ⟨(repC z.cps.toList k).toArray⟩
theorem repC_length (z : List Nat) (k : Int) : (repC z k).length = k.toNat * z.length := by simp [repC]
theorem foldl_arr (z : Array Nat) : ∀ (n : Nat) (acc : Array Nat), (List.replicate n z).foldl (· ++ ·) acc = acc ++ (List.replicate n z.toList).flatten.toArray
  | 0, acc => by simp
  | n + 1, acc => by
    rw [List.replicate_succ, List.foldl_cons, foldl_arr z n, List.replicate_succ, List.flatten_cons]
    apply Array.ext'
    simp
def rRepS : R2 := fun x y H Q => ∃ (z : Str) (k : Int), x = .str z ∧ y = .int k ∧ -1000000000000 ≤ k ∧ k < 1000000000000 ∧ z.length * k.toNat ≤ 1000000 ∧ Q (.str (repS z k)) H
theorem repS_arr (z : Str) (k : Int) : (⟨(List.replicate k.toNat z.cps).foldl (· ++ ·) #[]⟩ : Str) = repS z k := by
  rw [foldl_arr]
  simp [repS, repC]
theorem op_rep_str {X : Cx} : OpR X (binaryOp .Mult) rRepS := by
  intro pins s σ H x y v u Q I rx ry h
  obtain ⟨z, k, rfl, rfl, h1, h2, h3, q⟩ := h
  obtain ⟨t, rfl⟩ := rx
  obtain ⟨t', rfl⟩ := ry
  have szl : (1000000 : Nat) ≤ sizeLine := by decide
  have e1 : ¬ k < 1 → k = (k.toNat : Int) := fun h => by omega
  refine PySem.P.mul_str ?_ (fun hk hz => ?_) (fun hk hz => ?_) ?_
  · rw [decide_eq_false (by omega), decide_eq_false (by omega)]; rfl
  · have e0 : z.length ≠ 0 := fun e => by rw [e] at hz; simp at hz
    have hd : (9223372036854775807 : Int) / k ≥ 1000000 := by
      apply Int.le_ediv_of_mul_le (by omega)
      have hlen : k.toNat ≤ 1000000 := Nat.le_trans (Nat.le_mul_of_pos_left _ (by omega)) h3
      omega
    have hl : z.length ≤ 1000000 := Nat.le_trans (Nat.le_mul_of_pos_right _ (by omega)) h3
    show ¬ ((z.length : Int) > 9223372036854775807 / k)
    omega
  · unfold Builtin.Str.tooLong
    simp
    omega
  · split
    · rename_i hk
      have e : repS z k = Str.empty := by
        have : k.toNat = 0 := by omega
        simp [repS, repC, this]; rfl
      refine ⟨by decide, .str _, H, I.tok _, ⟨_, rfl⟩, ?_⟩
      rw [← e]; exact q
    · rename_i hk
      split
      · rename_i hz
        have e : repS z k = z := by
          rcases Bool.or_eq_true_iff.mp hz with h | h
          · have : k = 1 := by simpa using h
            subst this
            simp [repS, repC]
          · have : z.cps.toList = [] := by
              have : z.cps.size = 0 := by simpa [Str.length] using h
              exact List.eq_nil_of_length_eq_zero (by simpa using this)
            have e2 : (List.replicate k.toNat ([] : List Nat)).flatten = [] := by simp
            unfold repS repC
            rw [this, e2]
            cases z with
            | mk c =>
              have : c = #[] := Array.toList_inj.mp (by simpa using this)
              subst this; rfl
        refine ⟨.str _, H, I, ⟨t, rfl⟩, ?_⟩
        rw [← e]; exact q
      · rw [repS_arr]
        refine ⟨?_, .str _, H, I.tok _, ⟨_, rfl⟩, q⟩
        show (repC z.cps.toList k).toArray.size ≤ sizeLine
        rw [List.size_toArray, repC_length]
        have : z.cps.toList.length = z.length := by simp [Str.length]
        rw [this, Nat.mul_comm]; omega
/-! ### the objects at the beginning -/
def clsNames : List Str := ["Exception", "ArithmeticError", "ZeroDivisionError", "OverflowError", "LookupError", "IndexError", "KeyError", "NameError", "AttributeError", "TypeError", "ValueError", "StopIteration", "RuntimeError", "RecursionError", "MemoryError", "HostError"]
def clsBases : List Int := [-1, 1, 2, 2, 1, 5, 5, 1, 1, 1, 1, 1, 1, 13, 1, 1]
def builtNames : List Str := ["print", "len", "range", "repr", "str", "int", "list", "tuple", "dict", "iter", "next", "isinstance", "abs"]
def clsVar (i : Nat) (n : Str) : PyData := .tuple [.str n, .tuple [.str "ref", .int ((i : Int) + 1)]]
def nameVar (k n : Str) : PyData := .tuple [.str n, .tuple [.str k, .str n]]
def clsObj (n : Str) (b : Int) : PyData := .tuple [.str "class", .str n, .int b, .tuple []]
def clsVars : List PyData := clsNames.mapIdx clsVar
def startVars (hs : List Str) : List PyData := clsVars ++ builtNames.map (nameVar "built") ++ hs.map (nameVar "host")
def startD (hs : List Str) : List PyData := .tuple [.str "scope", .tuple (startVars hs), .tuple [], .tuple [], .int (-1), .bool false] :: List.zipWith clsObj clsNames clsBases
/-- a list at p, of the data ds -/
def ListAt (K : PySem.W.Frag) (H : Hp) (p : Addr) (ds : List PyData) : Prop := ∃ xs, H p = some (.lst xs) ∧ DtAll K H xs ds
def spStart (K : PySem.W.Frag) : Sp := fun vs H Q _ => ∃ (t : Addr) (hs : List Str), vs = [.ref t] ∧ SqT K H t (hs.map V.str) ∧ hs.length ≤ 1000 ∧
  ∀ (p : Addr) (H' : Hp), H p = none → Same H H' → ListAt K H' p (startD hs) → Q (.ref p) H'
theorem at0 {α : Type} {x : α} {ws : List α} : atI (x :: ws) 0 = some x := at_of' (j := 0) rfl rfl
theorem at1 {α : Type} {x y : α} {ws : List α} : atI (x :: y :: ws) 1 = some y := at_of' (j := 1) rfl rfl
theorem at2 {α : Type} {x y z : α} {ws : List α} : atI (x :: y :: z :: ws) 2 = some z := at_of' (j := 2) rfl rfl
/-- a written pair, triple as it is read -/
theorem Dt.head {K : PySem.W.Frag} {H : Hp} {v : V} {z : Str} {rest : List PyData} (h : Dt K H v (.tuple (.str z :: rest))) : ∃ a ws, v = .ref a ∧ SqT K H a (.str z :: ws) ∧ DtAll K H ws rest := by
  obtain ⟨q, xs, rfl, hs, ha⟩ := h.tuple_inv
  obtain ⟨x, ws, rfl, h1, hw⟩ := ha.cons_inv
  cases h1.str_inv
  exact ⟨q, ws, rfl, hs, hw⟩
theorem Dt.pair {K : PySem.W.Frag} {H : Hp} {v : V} {z : Str} {d : PyData} (h : Dt K H v (.tuple [.str z, d])) : ∃ a x, v = .ref a ∧ SqT K H a [.str z, x] ∧ Dt K H x d := by
  obtain ⟨a, ws, rfl, hs, hw⟩ := h.head
  obtain ⟨x, ws', rfl, h1, hn⟩ := hw.cons_inv
  cases hn.nil_inv
  exact ⟨a, x, rfl, hs, h1⟩
theorem Dt.triple {K : PySem.W.Frag} {H : Hp} {v : V} {z : Str} {d e : PyData} (h : Dt K H v (.tuple [.str z, d, e])) : ∃ a x y, v = .ref a ∧ SqT K H a [.str z, x, y] ∧ Dt K H x d ∧ Dt K H y e := by
  obtain ⟨a, ws, rfl, hs, hw⟩ := h.head
  obtain ⟨x, ws', rfl, h1, hn⟩ := hw.cons_inv
  obtain ⟨y, ws'', rfl, h2, hn2⟩ := hn.cons_inv
  cases hn2.nil_inv
  exact ⟨a, x, y, rfl, hs, h1, h2⟩
theorem listAt_mono {K : PySem.W.Frag} {H H' : Hp} {p : Addr} {ds : List PyData} (h : ListAt K H p ds) (e : Same H H') : ListAt K H' p ds := by
  obtain ⟨xs, hx, ax⟩ := h
  exact ⟨xs, e _ _ hx, DtAll.mono e ax⟩
theorem eqv_nil (ds : List PyData) : PyData.eqv (.tuple ds) (.tuple []) = ds.isEmpty := by
  cases ds <;> simp [PyData.eqv, PyData.eqvAll]
theorem listAt_upd {K : PySem.W.Frag} {H : Hp} {l l' : Addr} {ds : List PyData} {xs : List V} {o : HO} (h : ListAt K H l ds) (ne : l ≠ l') (hl : H l' = some (.lst xs)) : ListAt K (upd H l' o) l ds := by
  obtain ⟨ys, hy, ay⟩ := h
  exact ⟨ys, by rw [upd_ne ne]; exact hy, DtAll.keepT (KeepT.upd hl) ay⟩
theorem listAt_app {K : PySem.W.Frag} {H : Hp} {l : Addr} {ds : List PyData} {xs : List V} {v : V} {d : PyData} (h : ListAt K H l ds) (hl : H l = some (.lst xs)) (hd : Dt K H v d) : ListAt K (upd H l (.lst (xs ++ [v]))) l (ds ++ [d]) := by
  obtain ⟨ys, hy, ay⟩ := h
  rw [hl] at hy
  obtain rfl := HO.lst.inj (Option.some.inj hy)
  exact ⟨_, upd_same, DtAll.app (DtAll.keepT (KeepT.upd hl) ay) (.cons (Dt.keepT (KeepT.upd hl) hd) .nil)⟩
theorem listAt_keep {K : PySem.W.Frag} {H H' : Hp} {l p : Addr} {ds : List PyData} (h : ListAt K H l ds) (e : Keep p H H') (ne : l ≠ p) (hp : ∃ xs, H p = some (.lst xs)) : ListAt K H' l ds := by
  obtain ⟨ys, hy, ay⟩ := h
  exact ⟨ys, e _ _ hy ne, DtAll.keepT (Keep.keepT e hp) ay⟩
theorem listAt_made {K : PySem.W.Frag} {H : Hp} {l : Addr} {xs : List V} {ds : List PyData} (hl : H l = none) (h : DtAll K H xs ds) : ListAt K (upd H l (.lst xs)) l ds := ⟨xs, upd_same, DtAll.mono (Same.new hl) h⟩
/-! how long the objects at the beginning are, shown -/
def shortS (n : Str) : Bool := decide (n.length ≤ 40) && n.cps.toList.all (fun c => decide (c < 16 ^ 8))
theorem Sm.short {n : Str} (h : shortS n = true) : Sm (.str n) 0 500 := by
  obtain ⟨h1, h2⟩ := Bool.and_eq_true_iff.mp h
  exact (Sm.str (of_decide_eq_true h1) (strOk n h2)).mono (by decide) (by decide)
theorem cls_short : ∀ n ∈ clsNames, shortS n = true := by decide +kernel
theorem built_short : ∀ n ∈ builtNames, shortS n = true := by decide +kernel
theorem Sm.nm {k n : Str} (hk : shortS k = true) (hn : shortS n = true) : Sm (nameVar k n) 3 4000 :=
  (Sm.tup (.cons (Sm.short hn) (.cons (Sm.tup (.cons (Sm.short hk) (.cons (Sm.short hn) .nil))) .nil))).mono (by decide) (by decide)
theorem Sm.cv {i : Nat} {n : Str} (hi : i < 1000) (hn : shortS n = true) : Sm (clsVar i n) 3 4000 :=
  (Sm.tup (.cons (Sm.short hn) (.cons (Sm.tup (.cons (Sm.short (n := "ref") (by decide +kernel)) (.cons (Sm.int (Nat.lt_of_lt_of_le (show ((i : Int) + 1).natAbs < 2 ^ 20 by omega) (Nat.pow_le_pow_right (by decide) (by decide)))) .nil))) .nil))).mono (by decide) (by decide)
theorem Sm.co {b : Int} {n : Str} (hb : b.natAbs < 1000) (hn : shortS n = true) : Sm (clsObj n b) 3 4000 :=
  (Sm.tup (.cons (Sm.short (n := "class") (by decide +kernel)) (.cons (Sm.short hn) (.cons (Sm.int (Nat.lt_of_lt_of_le (show b.natAbs < 2 ^ 20 by omega) (Nat.pow_le_pow_right (by decide) (by decide)))) (.cons (Sm.tup .nil) .nil))))).mono (by decide) (by decide)
theorem SmAll.mem {ds : List PyData} {dp n N m M : Nat} (h : SmAll ds dp n N) (h1 : n ≤ m) (h2 : N ≤ M) : SmAll ds dp m M := ⟨h.ok, h.dp, Nat.le_trans h.len h1, Nat.le_trans h.sz h2⟩
theorem sm_vars {hs : List Str} {L : Nat} (h : ∀ n ∈ hs, shortS n = true) (hl : hs.length ≤ L) : SmAll (startVars hs) 3 (29 + L) (4000 * (29 + L)) := by
  have h1 : ∀ d ∈ startVars hs, Sm d 3 4000 := fun d hd => by
    rcases List.mem_append.mp hd with hd | hd
    · rcases List.mem_append.mp hd with hd | hd
      · obtain ⟨i, hi, rfl⟩ := List.mem_mapIdx.mp hd
        exact Sm.cv (Nat.lt_trans hi (by decide)) (cls_short _ (List.getElem_mem hi))
      · obtain ⟨n, hn, rfl⟩ := List.mem_map.mp hd
        exact Sm.nm (by decide +kernel) (built_short n hn)
    · obtain ⟨n, hn, rfl⟩ := List.mem_map.mp hd
      exact Sm.nm (by decide +kernel) (h n hn)
  have hlen : (startVars hs).length = 29 + hs.length := by
    simp only [startVars, List.length_append, List.length_map]
    have : clsVars.length = 16 := by decide
    have : builtNames.length = 13 := by decide
    omega
  exact (SmAll.many h1).mem (by omega) (by omega)
theorem sm_start {hs : List Str} {L : Nat} (h : ∀ n ∈ hs, shortS n = true) (hl : hs.length ≤ L) : ∀ d ∈ startD hs, Sm d 5 (5000 * (30 + L)) := fun d hd => by
  rcases List.mem_cons.mp hd with rfl | hd
  · exact (Sm.tup (.cons (Sm.short (n := "scope") (by decide +kernel)) (.cons (Sm.tup (sm_vars h hl)) (.cons (Sm.tup .nil) (.cons (Sm.tup .nil) (.cons (Sm.int (by decide)) (.cons (Sm.bool false) .nil))))))).mono (by decide) (by omega)
  · have : ∃ n b, d = clsObj n b ∧ n ∈ clsNames ∧ b.natAbs < 1000 := by
      have key : ∀ q ∈ List.zip clsNames clsBases, q.1 ∈ clsNames ∧ q.2.natAbs < 1000 := by decide +kernel
      rw [← List.map_uncurry_zip_eq_zipWith] at hd
      obtain ⟨q, hq, rfl⟩ := List.mem_map.mp hd
      exact ⟨q.1, q.2, rfl, key q hq⟩
    obtain ⟨n, b, rfl, hn, hb⟩ := this
    exact (Sm.co hb (cls_short n hn)).mono (by decide) (by omega)
theorem start_cls {hs : List Str} {k : Nat} (h1 : 1 ≤ k) (h2 : k ≤ 16) : ∃ rest, (startD hs)[k]? = some (.tuple (.str "class" :: rest)) := by
  obtain ⟨j, rfl⟩ : ∃ j, k = j + 1 := ⟨k - 1, by omega⟩
  have l1 : clsNames.length = 16 := by decide
  have l2 : clsBases.length = 16 := by decide
  refine ⟨[.str clsNames[j]!, .int clsBases[j]!, .tuple []], ?_⟩
  have e1 : clsNames[j]? = some clsNames[j]! := by rw [List.getElem!_eq_getElem?_getD]; rw [List.getElem?_eq_getElem (by omega)]; rfl
  have e2 : clsBases[j]? = some clsBases[j]! := by rw [List.getElem!_eq_getElem?_getD]; rw [List.getElem?_eq_getElem (by omega)]; rfl
  show (List.zipWith clsObj clsNames clsBases)[j]? = _
  rw [List.getElem?_zipWith, e1, e2]
  rfl
end LK

set_option Elab.async false
set_option linter.all false
set_option maxRecDepth 100000
set_option maxHeartbeats 4000000
set_option exponentiation.threshold 3000
/-! tuple * 1; rows: texts or tuples at one place; the type of what is read as a tuple; data equal to itself. -/
namespace LK
open PySem PySem.Spec PyProof.Rows L2
theorem tuple_mul1 (l : Addr) (items : Array Value) (n : Nat) (dd : Option Addr) (sl : Array (Option Value)) (u : Tok) :
    Meets (Builtin.«tuple.__mul__» ⟨[.ref l, .int 1 u], []⟩) (fun _ R s => s.heap.get? l = some { cls := .type "tuple", dict := dd, data := .seq items n, slots := sl } ∧ R (.ok (.ret (Value.ref l))) s) :=
  .of_wp fun prog w A R s h => by
    obtain ⟨hp, g, d, tk, os⟩ := s
    obtain ⟨hl, h⟩ := h
    have f1 := AutoSeq1.idx_int
    have c0 : (decide ((1 : Int) < -(2 ^ 63)) || decide ((1 : Int) ≥ 2 ^ 63)) = false := by decide
    have c1 : (items.isEmpty || (1 : Int) == 1) = true := by simp
    wp_walk using wpAny_loadPart' hl
    exact ⟨_, rfl, h⟩
/-- a tuple times an int from 1 to 1000 -/
def rRepTA (K : PySem.W.Frag) : R2 := fun x y H Q => ∃ l k xs, x = .ref l ∧ y = .int k ∧ SqT K H l xs ∧ xs ≠ [] ∧ 1 ≤ k ∧ k ≤ 1000 ∧ xs.length ≤ 1000 ∧ (k = 1 → Q (.ref l) H) ∧ (k ≠ 1 → ∀ p, H p = none → Q (.ref p) (upd H p (.tup (List.replicate k.toNat xs).flatten)))
section
variable {X : Cx}
theorem op_repTA : OpR X (binaryOp .Mult) (rRepTA X.K) := by
  intro pins s σ H x y v u Q I rx ry h
  obtain ⟨l, k, xs, rfl, rfl, hT, hne, h1, h2, hz, q1, q2⟩ := h
  by_cases hk : k = 1
  · subst hk
    cases rx
    obtain ⟨t, rfl⟩ := ry
    obtain ⟨its, r, ⟨⟨cls, dd, data, sl⟩, ho, hc, n, hd⟩, hs⟩ := I.tuple hT
    simp only at hc hd
    subst hc hd
    refine wpAny_binaryOp_repeat_ref (T := "tuple") (U := "int") (by decide) ⟨_, ho, rfl⟩ (fun s' => typeIs_int s' 1 t) noFill_tuple_mul F.fills_int_mul F.slot_int_rmul repeat_tuple F.slot_int_index.lookup
      (call_meets F.slot_int_rmul (typeIs_int s 1 t) F.entry_int_rmul (F.args_int_rmul_2 _ _) (int_rmul_tuple 1 t l its.toArray n dd sl)
        ⟨ho, rfl, ⟨_, ho, rfl⟩, call_meets F.slot_tuple_mul ⟨_, ho, rfl⟩ F.entry_tuple_mul (F.args_tuple_mul_2 _ _) (tuple_mul1 l its.toArray n dd sl t) ⟨ho, ?_⟩⟩)
    exact ⟨.ref l, H, I, rfl, q1 rfl⟩
  · exact op_repT pins s σ H _ _ v u Q I rx ry ⟨l, k, xs, rfl, rfl, hT, hne, by omega, h2, hz, q2 hk⟩
end
theorem SqT.tyX {K : PySem.W.Frag} {H : Hp} {a : Addr} {xs : List V} (h : SqT K H a xs) : TyX K H (.ref a) (.type "tuple") := by
  rcases h with (h | ⟨o, h⟩) | ⟨o, its, n, e, c, _⟩
  · exact .base (.tup h)
  · exact .fTuple h
  · exact .kTuple e c
/-! ### data equal to itself -/
mutual
theorem eqv_self : ∀ {d : PyData}, d.canLay0 = true → PyData.eqv d d = true
  | .none, _ => by simp [PyData.eqv]
  | .bool _, _ => by simp [PyData.eqv]
  | .int _, _ => by simp [PyData.eqv]
  | .str _, _ => by simp [PyData.eqv]
  | .list xs, h => by rw [PyData.eqv]; exact eqvAll_self (by simpa [PyData.canLay0] using h)
  | .tuple xs, h => by rw [PyData.eqv]; exact eqvAll_self (by simpa [PyData.canLay0] using h)
  | .dict _, h => absurd h (by simp [PyData.canLay0])
theorem eqvAll_self : ∀ {xs : List PyData}, PyData.canLayAll0 xs = true → PyData.eqvAll xs xs = true
  | [], _ => by simp [PyData.eqvAll]
  | x :: xs, h => by
    rw [PyData.canLayAll0, Bool.and_eq_true] at h
    rw [PyData.eqvAll, eqv_self h.1, eqvAll_self h.2]; rfl
end
theorem canLayAll0_of {ds : List PyData} (h : ∀ d ∈ ds, d.canLay0 = true) : PyData.canLayAll0 ds = true := by
  induction ds with
  | nil => rfl
  | cons d ds ih => rw [PyData.canLayAll0, h d (by simp), ih fun e he => h e (List.mem_cons_of_mem _ he)]; rfl
theorem depthAll_of {ds : List PyData} {n : Nat} (h : ∀ d ∈ ds, d.depth ≤ n) : PyData.depthAll ds ≤ n := by
  induction ds with
  | nil => exact Nat.zero_le _
  | cons d ds ih => rw [PyData.depthAll]; exact Nat.max_le.mpr ⟨h d (by simp), ih fun e he => h e (List.mem_cons_of_mem _ he)⟩
/-! ### rows: a text, or a tuple of small ints -/
def Item (d : PyData) : Prop := ∃ i : Int, d = .tuple [.str "int", .int i] ∧ 0 ≤ i ∧ i < 11
def Low (z : Str) : Prop := ∀ c ∈ z.cps.toList, c < 128
inductive Row : Bool → PyData → Nat → Prop
  | txt {z : Str} {n : Nat} : z.length = n → Low z → Row true (.str z) n
  | tup {ds : List PyData} {n : Nat} : ds.length = n → (∀ d ∈ ds, Item d) → Row false (.tuple ds) n
def catD : PyData → PyData → PyData
  | .str a, .str b => .str (a ++ b)
  | .tuple a, .tuple b => .tuple (a ++ b)
  | a, _ => a
def repD (d : PyData) (k : Int) : PyData := match d with
  | .str a => .str (repS a k)
  | .tuple a => .tuple (List.replicate k.toNat a).flatten
  | a => a
def noneD : PyData → PyData
  | .str a => .str (cutS a none (some 0))
  | .tuple _ => .tuple []
  | a => a
theorem len_app (a b : Str) : (a ++ b).length = a.length + b.length := strLen_append a b
theorem len_rep (z : Str) (k : Int) : (repS z k).length = z.length * k.toNat := by
  show (repC z.cps.toList k).toArray.size = _
  rw [List.size_toArray, repC_length, Nat.mul_comm]
  simp [Str.length]
theorem Low.app {a b : Str} (h : Low a) (g : Low b) : Low (a ++ b) := by
  intro c hc
  have e : (a ++ b).cps.toList = a.cps.toList ++ b.cps.toList := by
    show (a.cps ++ b.cps).toList = _
    simp
  rw [e] at hc
  rcases List.mem_append.mp hc with hc | hc
  · exact h c hc
  · exact g c hc
theorem Low.rep {a : Str} (h : Low a) (k : Int) : Low (repS a k) := by
  intro c hc
  have hc : c ∈ (List.replicate k.toNat a.cps.toList).flatten := by simpa [repS, repC] using hc
  obtain ⟨l, hl, hcl⟩ := List.mem_flatten.mp hc
  exact h c (List.eq_of_mem_replicate hl ▸ hcl)
theorem Low.cut {a : Str} (h : Low a) (lo hi : Option Int) : Low (cutS a lo hi) := by
  intro c hc
  have hc : c ∈ (a.cps.toList.drop (HT.sIx a.length 0 lo)).take (HT.sIx a.length a.length hi - HT.sIx a.length 0 lo) := hc
  exact h c (List.mem_of_mem_drop (List.mem_of_mem_take hc))
theorem cut_to (a : Str) (m : Nat) : (cutS a none (some (m : Int))).length ≤ m := by
  show ((a.cps.toList.drop (HT.sIx a.length 0 none)).take (HT.sIx a.length a.length (some (m : Int)) - HT.sIx a.length 0 none)).toArray.size ≤ m
  rw [List.size_toArray, List.length_take, HT.sIx_nat]
  omega
theorem Row.cat {t : Bool} {a b : PyData} {n m : Nat} (h : Row t a n) (g : Row t b m) : Row t (catD a b) (n + m) := by
  cases h with
  | txt e l =>
    cases g with
    | txt e2 l2 => exact .txt (by rw [len_app, e, e2]) (l.app l2)
  | tup e l =>
    cases g with
    | tup e2 l2 => exact .tup (by rw [List.length_append, e, e2]) fun d hd => (List.mem_append.mp hd).elim (l d) (l2 d)
theorem Row.rep {t : Bool} {a : PyData} {n : Nat} (h : Row t a n) (k : Int) : Row t (repD a k) (n * k.toNat) := by
  cases h with
  | txt e l => exact .txt (by rw [len_rep, e]) (l.rep k)
  | tup e l =>
    refine .tup (by rw [PyProof.Rows.lm_len_rep_flat, e, Nat.mul_comm]) fun d hd => ?_
    obtain ⟨x, hx, hdx⟩ := List.mem_flatten.mp hd
    exact l d (List.eq_of_mem_replicate hx ▸ hdx)
theorem Row.none {t : Bool} {a : PyData} {n : Nat} (h : Row t a n) : Row t (noneD a) 0 := by
  cases h with
  | @txt z _ e l => exact .txt (Nat.le_zero.mp (cut_to z 0)) (l.cut _ _)
  | tup e l => exact .tup rfl fun d hd => by cases hd
theorem Item.sm {d : PyData} (h : Item d) : Sm d 1 3000 := by
  obtain ⟨i, rfl, h0, h1⟩ := h
  exact (Sm.tup (.cons (Sm.short (n := "int") (by decide +kernel)) (.cons (Sm.int (Nat.lt_of_lt_of_le (show i.natAbs < 2 ^ 20 by omega) (Nat.pow_le_pow_right (by decide) (by decide)))) .nil))).mono (by decide) (by decide)
theorem Row.sm {t : Bool} {d : PyData} {n : Nat} (h : Row t d n) (hn : n ≤ 1000) : Sm d 2 3100000 := by
  cases h with
  | txt e l => exact (Sm.str (n := 1000) (by omega) fun c hc => Nat.lt_of_lt_of_le (l c hc) (by decide)).mono (by decide) (by decide)
  | tup e l => exact (Sm.tup ((SmAll.many fun d hd => (l d hd).sm).mem (m := 1000) (M := 3000000) (by omega) (by omega))).mono (by decide) (by decide)
theorem Row.lay {t : Bool} {d : PyData} {n : Nat} (h : Row t d n) : d.canLay0 = true := by
  cases h with
  | @txt z _ e l =>
    rw [PyData.canLay0]
    exact Array.all_eq_true_iff_forall_mem.mpr fun c hc => by
      have := l c (Array.mem_toList_iff.mpr hc)
      exact decide_eq_true (by omega)
  | tup e l =>
    rw [PyData.canLay0]
    exact canLayAll0_of fun d hd => by obtain ⟨i, rfl, _⟩ := l d hd; simp only [PyData.canLay0, PyData.canLayAll0, Bool.and_true]; decide +kernel
section
variable {X : Cx}
/-- a + b, two rows -/
def rCatD (K : PySem.W.Frag) : R2 := fun x y H Q => ∃ (t : Bool) (a b : PyData) (n m : Nat), Row t a n ∧ Row t b m ∧ Dt K H x a ∧ Dt K H y b ∧ n + m ≤ 2000 ∧ ∀ v H', Same H H' → Dt K H' v (catD a b) → Q v H'
theorem op_catD : OpR X (binaryOp .Add) (rCatD X.K) := by
  intro pins s σ H x y v u Q I rx ry h
  obtain ⟨t, a, b, n, m, ha, hb, da, db, hz, q⟩ := h
  cases ha with
  | txt e l =>
    cases hb with
    | txt e2 l2 =>
      cases da.str_inv; cases db.str_inv
      exact op_add_str pins s σ H _ _ v u Q I rx ry ⟨_, _, rfl, rfl, by rw [e, e2]; exact Nat.le_trans hz (by decide), q _ _ (Same.refl _) (.str _)⟩
  | @tup ds _ e l =>
    cases hb with
    | @tup es _ e2 l2 =>
      obtain ⟨p, xs, rfl, hs, ax⟩ := da.tuple_inv
      obtain ⟨p2, ys, rfl, hs2, ay⟩ := db.tuple_inv
      have lx := ax.length
      have ly := ay.length
      refine op_catA pins s σ H _ _ v u Q I rx ry ⟨p, p2, xs, ys, rfl, rfl, hs, hs2, by rw [lx, ly, e, e2]; exact Nat.le_trans hz (by decide), fun h0 => ?_, fun _ h0 => ?_, fun _ _ z hz => ?_⟩
      · subst h0
        have : ds = [] := List.eq_nil_of_length_eq_zero (by rw [← lx]; rfl)
        subst this
        exact q _ _ (Same.refl _) db
      · subst h0
        have : es = [] := List.eq_nil_of_length_eq_zero (by rw [← ly]; rfl)
        subst this
        refine q _ _ (Same.refl _) ?_
        show Dt X.K H (.ref p) (.tuple (ds ++ []))
        rw [List.append_nil]; exact da
      · exact q _ _ (Same.new hz) (Dt.made hz (DtAll.app ax ay))
/-- a * k, a row and an int -/
def rRepD (K : PySem.W.Frag) : R2 := fun x y H Q => ∃ (t : Bool) (a : PyData) (n : Nat) (k : Int), Row t a n ∧ Dt K H x a ∧ y = .int k ∧ 1 ≤ n ∧ 1 ≤ k ∧ n * k ≤ 1000 ∧ ∀ v H', Same H H' → Dt K H' v (repD a k) → Q v H'
theorem dtRep {K : PySem.W.Frag} {H : Hp} {xs : List V} {ds : List PyData} (h : DtAll K H xs ds) : ∀ m : Nat, DtAll K H (List.replicate m xs).flatten (List.replicate m ds).flatten
  | 0 => .nil
  | m + 1 => by
    rw [List.replicate_succ, List.flatten_cons, List.replicate_succ, List.flatten_cons]
    exact DtAll.app h (dtRep h m)
theorem op_repD : OpR X (binaryOp .Mult) (rRepD X.K) := by
  intro pins s σ H x y v u Q I rx ry h
  obtain ⟨t, a, n, k, ha, da, rfl, hn, hk, hz, q⟩ := h
  have k1 : k ≤ 1000 := by
    have : 1 * k ≤ n * k := Int.mul_le_mul_of_nonneg_right (by omega) (by omega)
    omega
  have n1 : n ≤ 1000 := by
    have : (n : Int) * 1 ≤ n * k := Int.mul_le_mul_of_nonneg_left hk (by omega)
    omega
  cases ha with
  | txt e l =>
    cases da.str_inv
    refine op_rep_str pins s σ H _ _ v u Q I rx ry ⟨_, k, rfl, rfl, by omega, by omega, ?_, q _ _ (Same.refl _) (.str _)⟩
    rw [e]
    exact Nat.le_trans (Nat.mul_le_mul n1 (show k.toNat ≤ 1000 by omega)) (by decide)
  | @tup ds _ e l =>
    obtain ⟨p, xs, rfl, hs, ax⟩ := da.tuple_inv
    have lx := ax.length
    refine op_repTA pins s σ H _ _ v u Q I rx ry ⟨p, k, xs, rfl, rfl, hs, fun z => ?_, hk, k1, by omega, fun h1 => ?_, fun h1 z hz => ?_⟩
    · subst z
      rw [List.length_nil] at lx
      omega
    · subst h1
      refine q _ _ (Same.refl _) ?_
      show Dt X.K H (.ref p) (.tuple (List.replicate 1 ds).flatten)
      rw [show (List.replicate 1 ds).flatten = ds by simp]
      exact da
    · exact q _ _ (Same.new hz) (Dt.made hz (dtRep ax _))
/-- a[:0], a row -/
def rNoneD (K : PySem.W.Frag) : V → Option Int → Option Int → Hp → VK → Prop := fun x lo hi H Q => ∃ (t : Bool) (a : PyData) (n : Nat), Row t a n ∧ Dt K H x a ∧ n ≤ 2000 ∧ lo = none ∧ hi = some 0 ∧ ∀ v H', Same H H' → Dt K H' v (noneD a) → Q v H'
theorem sl_noneD : SlR X (rNoneD X.K) := by
  intro pins s σ H x v vl vu lo hi sl Q I rx hs pl pu h
  obtain ⟨t, a, n, ha, da, hn, rfl, rfl, q⟩ := h
  cases ha with
  | txt e l =>
    cases da.str_inv
    exact sl_str pins s σ H _ v vl vu _ _ sl Q I rx hs pl pu ⟨_, rfl, by rw [e]; exact Nat.le_trans hn (by decide), q _ _ (Same.refl _) (.str _)⟩
  | @tup ds _ e l =>
    obtain ⟨p, xs, rfl, hq, ax⟩ := da.tuple_inv
    have lx := ax.length
    refine sl_tupA pins s σ H _ v vl vu _ _ sl Q I rx hs pl pu ⟨p, xs, rfl, hq, fun hw => ?_, fun _ z hz => ?_⟩
    · have h0 : ds.length = 0 := by
        have := hw.2
        rw [show (some (0 : Int)) = some ((0 : Nat) : Int) from rfl, HT.sIx_nat] at this
        omega
      have := List.eq_nil_of_length_eq_zero h0
      subst this
      exact q _ _ (Same.refl _) da
    · refine q _ _ (Same.new hz) (Dt.made hz ?_)
      have : cutV xs none (some 0) = [] := by
        apply List.eq_nil_of_length_eq_zero
        unfold cutV
        rw [List.length_take, show (some (0 : Int)) = some ((0 : Nat) : Int) from rfl, HT.sIx_nat]
        omega
      rw [this]
      exact .nil
/-- len(a), a row -/
def rLenD (K : PySem.W.Frag) : List V → Hp → VK → Prop := fun vs H Q => ∃ (v : V) (t : Bool) (a : PyData) (n : Nat), vs = [v] ∧ Row t a n ∧ Dt K H v a ∧ n ≤ 2000 ∧ Q (.int (n : Int)) H
theorem call_lenD' : CallR X (.builtin "len") (rLenD X.K) := by
  intro pins s σ H xs us Q I r h
  obtain ⟨v, t, a, n, rfl, ha, da, hn, q⟩ := h
  cases ha with
  | txt e l =>
    cases da.str_inv
    exact call_len pins s σ H _ us Q I r ⟨_, n, rfl, ⟨by rw [e]; exact Nat.le_trans hn (by decide), e.symm⟩, q⟩
  | @tup ds _ e l =>
    obtain ⟨p, ys, rfl, hq, ax⟩ := da.tuple_inv
    exact call_len pins s σ H _ us Q I r ⟨_, n, rfl, .inr ⟨_, hq, by rw [ax.length, e]⟩, q⟩
end
end LK

set_option Elab.async false
set_option linter.all false
set_option maxRecDepth 100000
set_option maxHeartbeats 4000000
set_option exponentiation.threshold 3000
/-! Letters, digits, underscores; texts of the top. -/
namespace LK
open PySem PySem.Spec PyProof.Rows L2 SX
def isD (c : Nat) : Bool := decide (48 ≤ c) && decide (c ≤ 57)
def isL (c : Nat) : Bool := (decide (65 ≤ c) && decide (c ≤ 90)) || (decide (97 ≤ c) && decide (c ≤ 122)) || c == 95
def isW (c : Nat) : Bool := isD c || isL c
theorem isW_lt {c : Nat} (h : isW c = true) : c < 128 := by
  simp [isW, isD, isL] at h; omega
theorem uni_alpha : ∀ c < 128, Unicode.isAlpha c = (isL c && c != 95) := by decide +kernel
theorem uni_digit : ∀ c < 128, Unicode.isDigit c = isD c := by decide +kernel
theorem uni_alnum : ∀ c < 128, Unicode.isAlnum c = (isW c && c != 95) := by decide +kernel
theorem alpha1 {c : Nat} (h : c < 128) : Txt.isalpha (S [c]) = (isL c && c != 95) := by
  show (decide ((S [c]).length > 0) && (S [c]).cps.all Unicode.isAlpha) = _
  rw [S_len]; simp [S, uni_alpha c h]
theorem digit1 {c : Nat} (h : c < 128) : Txt.isdigit (S [c]) = isD c := by
  show (decide ((S [c]).length > 0) && (S [c]).cps.all Unicode.isDigit) = _
  rw [S_len]; simp [S, uni_digit c h]
theorem alnum1 {c : Nat} (h : c < 128) : Txt.isalnum (S [c]) = (isW c && c != 95) := by
  show (decide ((S [c]).length > 0) && (S [c]).cps.all Unicode.isAlnum) = _
  rw [S_len]; simp [S, uni_alnum c h]
theorem digitS {a : List Nat} (h : ∀ c ∈ a, c < 128) (hne : a ≠ []) : Txt.isdigit (S a) = a.all isD := by
  show (decide ((S a).length > 0) && (S a).cps.all Unicode.isDigit) = _
  have : 0 < a.length := List.length_pos_iff.mpr hne
  rw [S_len, decide_eq_true this, Bool.true_and]
  show a.toArray.all Unicode.isDigit = _
  rw [List.all_toArray]
  apply Bool.eq_iff_iff.mpr
  rw [List.all_eq_true, List.all_eq_true]
  exact ⟨fun g c hc => uni_digit c (h c hc) ▸ g c hc, fun g c hc => (uni_digit c (h c hc)).symm ▸ g c hc⟩
/-! texts of the top -/
def GStr (mg : Str → Option Value) (x : Str) (z : Str) : Prop := ∃ t, mg x = some (.str z t)
def HasStr (K : PySem.W.Frag) (x : Str) (p : Str → Prop) : Prop := ∃ (z : Str) (t : Tok), PySem.W.nsIn K mainGlobals x = some (some (.str z t)) ∧ p z
theorem HasStr.mk' {K : PySem.W.Frag} {x : Str} {p : Str → Prop} {z : Str} {t : Tok} (a : PySem.W.nsIn K mainGlobals x = some (some (.str z t))) (b : p z) : HasStr K x p := ⟨z, t, a, b⟩
theorem HasStr.g {K : PySem.W.Frag} {mg : Str → Option Value} {h : Heap} {x : Str} {p : Str → Prop} (i : HasStr K x p) (X : K.In h) (G : h.Ns mainGlobals mg) : ∃ z, GStr mg x z ∧ p z := by
  obtain ⟨z, t, e, hp⟩ := i
  exact ⟨z, ⟨t, PySem.W.mg_of X G e⟩, hp⟩
theorem pe_globS {X : Cx} {x z : Str} {pos : Pos} (h : GStr X.mg x z) (hg : Gl X x) (hd : (x == ("__debug__" : Str)) = false := by decide) : PE X (.Name x pos) (tC (.str z)) := by
  obtain ⟨t, e⟩ := h
  exact pe_glob hg e ⟨t, rfl⟩ hd
theorem split1 {a : List Nat} {c : Nat} (h : c ∉ a) (hc : c < 256) : Txt.split (S a) (S [c]) = [S a] := by
  rw [split_S (by simp) (by simpa using hc)]
  have := SX.spl_join (c := c) (sep := []) (parts := [a]) (by simp) (by simpa using h)
  have e : TL.joinL [c] [a] = a := by simp [TL.joinL]
  rw [e] at this
  rw [this]; rfl
theorem lstrip1 {a : List Nat} {b : List Nat} (h : ∀ c, a.head? = some c → c ∉ b) : Txt.lstripChars (S a) (S b) = S a := by
  have e1 : (S a).cps.toList.takeWhile (S b).cps.contains = [] := tw0 a fun c hc => by
    have := h c hc
    show b.toArray.contains c = false
    rw [List.contains_toArray]
    simpa using this
  have e0 : stripLo (S b).cps.contains true (S a) = 0 := by
    unfold stripLo
    rw [if_pos rfl, e1] <;> rfl
  have e3 : stripHi (S b).cps.contains false (S a) 0 = (S a).length := by
    unfold stripHi
    rw [if_neg Bool.false_ne_true]
  unfold Txt.lstripChars Txt.stripBy stripSame
  rw [e0, e3]
  exact if_pos (by simp)
/-! while, its test's reading made monotone -/
def tUp (c : TT) : TT := fun σ H Q => ∃ P : Bool → Hp → Prop, c σ H P ∧ ∀ b H1, P b H1 → Q b H1
theorem pt_up {X : Cx} {e : Expr} {c : TT} (h : PT X e c) : PT X e (tUp c) :=
  ⟨fun pins s σ H Q I ⟨P, hP, k⟩ => thn (h.run pins s σ H P I hP) fun b s1 ⟨H1, I1, q⟩ => ⟨H1, I1, k _ _ q⟩⟩
theorem while_up {c : TT} {tb : TS} {D : Ends} {σ : L2.St} {H : Hp} (Pv : L2.St → Hp → Prop) (μ : L2.St → Hp → Nat) (h0 : Pv σ H)
    (hs : ∀ σ H, Pv σ H → c σ H fun b H1 => if b = true then tb { D with nx := fun σ' H' => Pv σ' H' ∧ μ σ' H' < μ σ H, ct := fun σ' H' => Pv σ' H' ∧ μ σ' H' < μ σ H, bk := D.nx } σ H1 else D.nx σ H1) : tWhile (tUp c) tb D σ H :=
  while_by Pv μ h0 (fun σ H p => ⟨_, hs σ H p, fun _ _ h => h⟩) (fun σ H Q Q' hq ⟨P, hP, k⟩ => ⟨P, hP, fun b H1 h => hq b H1 (k b H1 h)⟩)
theorem nl_S : ("\n" : Str) = S [10] := by decide +kernel
theorem us_S : ("_" : Str) = S [95] := by decide +kernel
theorem sp_S : (" " : Str) = S [32] := by decide +kernel
theorem hash_S : ("#" : Str) = S [35] := by decide +kernel
theorem sign_eq {c d : Nat} : decide (V.str ⟨#[c]⟩ = V.str (S [d])) = decide (c = d) := by
  by_cases h : c = d
  · subst h; rw [decide_eq_true rfl, decide_eq_true rfl]
  · rw [decide_eq_false h, decide_eq_false]
    intro e
    have := S_inj (a := [c]) (b := [d]) (V.str.inj e)
    exact h (by simpa using this)
theorem str_eq {a b : List Nat} : decide (V.str (S a) = V.str (S b)) = decide (a = b) := by
  by_cases h : a = b
  · subst h; rw [decide_eq_true rfl, decide_eq_true rfl]
  · rw [decide_eq_false h, decide_eq_false]
    intro e
    exact h (S_inj (V.str.inj e))
theorem starts1 {c d : Nat} {r : List Nat} : Txt.startswith (S (c :: r)) (S [d]) = decide (c = d) := by
  show (decide (0 + (S [d]).length ≤ (S (c :: r)).length) && ((c :: r).toArray.extract 0 (0 + (S [d]).length) == [d].toArray)) = _
  rw [S_len, S_len]
  have e : (c :: r).toArray.extract 0 (0 + [d].length) = #[c] := by simp
  rw [e]
  by_cases h : c = d
  · subst h; simp
  · simp [h]
theorem at_S {a : List Nat} {j c : Nat} (h : a[j]? = some c) : atI (S a).cps.toList (j : Int) = some c := atI_nat h
theorem cut_all {a : List Nat} : cutS (S a) (some 0) (some ((a.length : Nat) : Int)) = S a := by
  unfold cutS
  rw [S_len, show (some (0 : Int)) = some ((0 : Nat) : Int) from rfl, HT.sIx_nat, HT.sIx_nat]
  show (⟨((a.drop (min 0 a.length)).take (min a.length a.length - min 0 a.length)).toArray⟩ : Str) = ⟨a.toArray⟩
  rw [Nat.zero_min, List.drop_zero, Nat.min_self, Nat.sub_zero, List.take_length]
/-! a promise at a higher level -/
theorem FnG.mono {P : Program} {w : World} {K : PySem.W.Frag} {mg : Str → Option Value} {base : Heap} {CX : CXT} {j k : Nat} {f : Addr} {fd : FuncData} {ps : List Str} {sp : Sp} (F : FnG P w K mg base CX j f fd ps sp) (h : j ≤ k) : FnG P w K mg base CX k f fd ps sp :=
  ⟨F.len, fun A outer s H args us vs Q E hr => F.run A outer s H args us vs Q E (hr.mono h)⟩
theorem Use.mono {P : Program} {w : World} {K : PySem.W.Frag} {mg : Str → Option Value} {base : Heap} {CX : CXT} {x : Str} {j k : Nat} {ps : List Str} {sp : Sp} (U : Use P w K mg base CX x j ps sp) (h : j ≤ k) : Use P w K mg base CX x k ps sp := by
  obtain ⟨f, fd, ok, r⟩ := U.ex
  exact ⟨f, fd, ok.mono h, r⟩
/-! the signs that a program may hold -/
def okC (c : Nat) : Bool := c == 10 || (decide (32 ≤ c) && decide (c ≤ 126) && c != 37)
theorem okC_lt {c : Nat} (h : okC c = true) : c < 128 := by
  simp [okC] at h; omega
theorem lstrip_sp (a : List Nat) : Txt.lstripChars (S a) (S [32]) = S (a.dropWhile (· == 32)) := by
  have e1 : (S a).cps.toList.takeWhile (S [32]).cps.contains = a.takeWhile (· == 32) := by
    show a.takeWhile _ = _
    congr 1
    funext c
    show #[32].contains c = _
    simp [Array.contains, BEq.comm]
  have el : (a.takeWhile (· == 32)).length ≤ a.length := (List.takeWhile_prefix _).length_le
  have ed : a.drop (a.takeWhile (· == 32)).length = a.dropWhile (· == 32) := by
    have h := List.takeWhile_append_dropWhile (p := (· == 32)) (l := a)
    have : (a.takeWhile (· == 32) ++ a.dropWhile (· == 32)).drop (a.takeWhile (· == 32)).length = a.dropWhile (· == 32) := List.drop_left
    rwa [h] at this
  have e0 : stripLo (S [32]).cps.contains true (S a) = (a.takeWhile (· == 32)).length := by
    unfold stripLo
    rw [if_pos rfl, e1] <;> rfl
  have e3 : stripHi (S [32]).cps.contains false (S a) (a.takeWhile (· == 32)).length = (S a).length := by
    unfold stripHi
    rw [if_neg Bool.false_ne_true]
  unfold Txt.lstripChars Txt.stripBy stripSame stripped
  rw [e0, e3]
  split
  · rename_i h
    simp at h
    have : (a.takeWhile (· == 32)).length = 0 := by simpa using h
    rw [this, List.drop_zero] at ed
    rw [← ed]
  · show (⟨a.toArray.extract (a.takeWhile (· == 32)).length (S a).length⟩ : Str) = _
    rw [S_len, ← ed]
    congr 1
    apply Array.toList_inj.mp
    simp only [Array.toList_extract, List.extract_eq_drop_take]
    exact List.take_of_length_le (by rw [List.length_drop]; omega)
/-- z[i:j] by codes -/
theorem cut_S {a : List Nat} {i j : Nat} (hi : i ≤ a.length) (hj : j ≤ a.length) : cutS (S a) (some ((i : Nat) : Int)) (some ((j : Nat) : Int)) = S ((a.drop i).take (j - i)) := by
  unfold cutS
  rw [S_len, HT.sIx_nat, HT.sIx_nat, Nat.min_eq_left hi, Nat.min_eq_left hj]
/-- a line: so many spaces, and perhaps a word -/
def lnT (s : Nat) (w : List Nat) : List Nat := List.replicate s 32 ++ w
theorem lnT_len (s : Nat) (w : List Nat) : (lnT s w).length = s + w.length := by simp [lnT]
theorem lnT_sp {s : Nat} {w : List Nat} {i : Nat} (h : i < s) : (lnT s w)[i]? = some 32 := by
  unfold lnT
  rw [List.getElem?_append_left (by simpa using h), List.getElem?_replicate, if_pos h]
theorem lnT_w {s : Nat} {w : List Nat} {i : Nat} : (lnT s w)[s + i]? = w[i]? := by
  unfold lnT
  rw [List.getElem?_append_right (by simp), List.length_replicate, Nat.add_sub_cancel_left]
theorem lnT_drop (s : Nat) (w : List Nat) : (lnT s w).drop s = w := by
  unfold lnT
  rw [List.drop_append_of_le_length (by simp)]
  simp
end LK

set_option Elab.async false
set_option linter.all false
set_option maxRecDepth 100000
set_option maxHeartbeats 4000000
set_option exponentiation.threshold 3000
namespace K50
open PySem PySem.Spec PyProof.Rows LK SX
open L2
def HasDone (K : PySem.W.Frag) : Prop := ∃ a b, PySem.W.nsIn K mainGlobals "DONE" = some (some (.ref a)) ∧ KTup K a [.str "ok", .ref b] ∧ KTup K b [.str "none"]
theorem HasDone.mk' {K : PySem.W.Frag} {a b : Addr} {od od2 : Option Addr} {its its2 : Array Value} {n n2 : Nat} {sl sl2 : Array (Option Value)} (h : PySem.W.nsIn K mainGlobals "DONE" = some (some (.ref a)))
    (e1 : K.lookup a = some ⟨.type "tuple", od, .seq its n, sl⟩) (z1 : its.size ≤ sizeLine) (v1 : Vals [.str "ok", .ref b] its.toList) (e2 : K.lookup b = some ⟨.type "tuple", od2, .seq its2 n2, sl2⟩) (z2 : its2.size ≤ sizeLine) (v2 : Vals [.str "none"] its2.toList) : HasDone K :=
  ⟨a, b, h, ⟨od, its, n, sl, e1, z1, v1⟩, ⟨od2, its2, n2, sl2, e2, z2, v2⟩⟩
theorem HasDone.g {K : PySem.W.Frag} {mg : Str → Option Value} {h : Heap} (D : HasDone K) (X : K.In h) (G : h.Ns mainGlobals mg) : ∃ a b, mg "DONE" = some (.ref a) ∧ KTup K a [.str "ok", .ref b] ∧ KTup K b [.str "none"] := by
  obtain ⟨a, b, e, k⟩ := D
  exact ⟨a, b, PySem.W.mg_of X G e, k⟩
def top (i : Nat) : Stmt := PySem.Challenge.pw_pyhold_k50_names_are_bound.main.body.getD i (.Pass ⟨0, 0, 0, 0⟩)
structure Txt (K : PySem.W.Frag) (mg : Str → Option Value) : Prop where
  c_NAME_ERROR : GInt mg "NAME_ERROR" 8
  c_MODULE : GInt mg "MODULE" 0
  c_DONE : ∃ a b, mg "DONE" = some (.ref a) ∧ KTup K a [.str "ok", .ref b] ∧ KTup K b [.str "none"]
  b_len : mg "len" = none
  b_int : mg "int" = none
  b_range : mg "range" = none
  b_list : mg "list" = none
  b_tuple : mg "tuple" = none
  b_isinstance : mg "isinstance" = none
abbrev s_law_cell : Stmt := top 16
abbrev N_law_cell : List Str := ["script", "k"]
abbrev P_law_cell : List Str := ["script", "k"]
theorem sc_law_cell : FnScope N_law_cell P_law_cell (defScope s_law_cell) := ⟨rfl, rfl, rfl, by decide +kernel, rfl, by decide +kernel, by decide +kernel⟩
abbrev s_law_digits : Stmt := top 17
abbrev N_law_digits : List Str := ["script", "first", "last", "digits", "k", "cell", "turn", "seed"]
abbrev P_law_digits : List Str := ["script", "first", "last"]
theorem sc_law_digits : FnScope N_law_digits P_law_digits (defScope s_law_digits) := ⟨rfl, rfl, rfl, by decide +kernel, rfl, by decide +kernel, by decide +kernel⟩
abbrev s_law_draw : Stmt := top 18
abbrev N_law_draw : List Str := ["box", "many", "at"]
abbrev P_law_draw : List Str := ["box", "many"]
theorem sc_law_draw : FnScope N_law_draw P_law_draw (defScope s_law_draw) := ⟨rfl, rfl, rfl, by decide +kernel, rfl, by decide +kernel, by decide +kernel⟩
section
variable {P : Program} {w : World} {K : PySem.W.Frag} {mg : Str → Option Value} {base : Heap}
theorem ok_draw {f : Addr} {fd : FuncData} (F : Fun K "_law_draw" "_law_draw" s_law_draw f fd) (T : Txt K mg) : FnG P w K mg base CX0 1 f fd P_law_draw (spDraw K) := by
  refine okG0 F sc_law_draw (fun vs H Q E h => ?_) fun cdv A outer s H vs Q E hr hg h => ?_
  · obtain ⟨p, dl, m, rfl, _⟩ := h
    rfl
  · obtain ⟨p, dl, m, rfl, B, hm, k⟩ := h
    obtain ⟨ds, n, hp, hn, hd, hl, hds⟩ := id B
    refine ⟨_, (pss_cons (ps_set (i := 2) sc_law_draw.nd rfl (Or.inl rfl) (pe_ix ix_list (pv 0) pe_int (fun _ _ => rfl)))
  (pss_cons (ps_asg (pe_op op_add (pv 2) pe_int) (pg_sub (pv 0) pe_int set_list))
  (pss_cons (ps_if (pt_cmpR op_lt (pv 2) (pe_callB call_len (by rfl) T.b_len PySem.boot_len (pa_cons (pe_ix ix_list (pv 0) pe_int (fun _ _ => rfl)) pa_nil)) (nomark _))
   (pss_one (ps_ret (pe_op op_mod (pe_callTy call_int1 (by rfl) T.b_int (by decide +kernel) (pa_cons (pe_ix ix_list (pe_ix ix_list (pv 0) pe_int (fun _ _ => rfl)) (pv 2) (fun _ _ => rfl)) pa_nil)) (pv 1))))
   pss_nil)
  (pss_one (ps_ret (pe_op op_mod (pe_callTy call_int1 (by rfl) T.b_int (by decide +kernel) (pa_cons (pe_op op_add (pe_op op_mul (pv 2) pe_int) pe_int) pa_nil)) (pv 1))))))), ?_⟩
    -- at = box[1]; box[1] = at + 1
    refine ⟨_, rfl, p, _, _, _, rfl, rfl, SqL.of hp, rfl, ?_⟩
    refine ⟨_, rfl, _, _, rfl, rfl, _, rfl, p, _, _, _, rfl, rfl, hp, rfl, ?_⟩
    have npd : dl ≠ p := by
      intro e
      subst e
      rw [hp] at hd
      have e := HO.lst.inj (Option.some.inj hd)
      cases ds with
      | nil => cases e
      | cons d ds => cases (List.cons.inj e).1
    have B' : BoxAt (upd H p (.lst [.ref dl, .int (n + 1)])) p dl := ⟨ds, n + 1, upd_same, by omega, by rw [upd_ne npd]; exact hd, hl, hds⟩
    have kp : Keep p H (upd H p (.lst [.ref dl, .int (n + 1)])) := fun b o e hb => by rw [upd_ne hb]; exact e
    have hd' : upd H p (.lst [.ref dl, .int (n + 1)]) dl = some (.lst (ds.map V.int)) := by rw [upd_ne npd]; exact hd
    -- if at < len(box[0])
    refine ⟨_, rfl, _, rfl, p, _, _, _, rfl, rfl, SqL.of upd_same, rfl, _, _, rfl, .inl ⟨_, SqL.of hd', rfl⟩, ?_⟩
    refine ⟨_, _, rfl, rfl, _, rfl, ?_⟩
    refine ite2 (fun c => ?_) fun c => ?_
    · have c1 : n < (ds.length : Int) := by simpa using c
      have c2 : n.toNat < ds.length := by omega
      have mem := hds _ (List.getElem_mem c2)
      refine ⟨_, rfl, p, _, _, _, rfl, rfl, SqL.of upd_same, rfl, _, rfl, dl, _, _, .int ds[n.toNat], rfl, rfl, SqL.of hd', ?_, .inl ⟨_, rfl, ?_⟩⟩
      · have e : n = ((n.toNat : Nat) : Int) := by omega
        exact at_of e (by simp [c2])
      · refine ⟨_, rfl, _, _, rfl, rfl, hm, ?_⟩
        exact k _ _ (Int.emod_nonneg _ (by omega)) (Int.emod_lt_of_pos _ hm) B' kp
    · refine ⟨_, rfl, _, _, rfl, rfl, .inr ⟨by decide, by decide⟩, _, _, rfl, rfl, .inl ⟨_, rfl, _, rfl, _, _, rfl, rfl, hm, ?_⟩⟩
      exact k _ _ (Int.emod_nonneg _ (by omega)) (Int.emod_lt_of_pos _ hm) B' kp
theorem ok_cell {f : Addr} {fd : FuncData} (F : Fun K "_law_cell" "_law_cell" s_law_cell f fd) (T : Txt K mg) : FnG P w K mg base CX0 1 f fd P_law_cell (spCell K) := by
  refine okG0 F sc_law_cell (fun vs H Q E h => ?_) fun cdv A outer s H vs Q E hr hg h => ?_
  · obtain ⟨a, ns, i, rfl, _⟩ := h
    rfl
  · obtain ⟨a, ns, i, rfl, hs, hi, k⟩ := h
    refine ⟨_, (pss_cons (ps_if (pt_cmpR op_lt (pv 1) (pe_callB call_len (by rfl) T.b_len PySem.boot_len (pa_cons (pv 0) pa_nil)) (nomark _))
   (pss_one (ps_ret (pe_ix ix_list (pv 0) (pv 1) (fun _ _ => rfl))))
   pss_nil)
  (pss_one (ps_ret pe_int))), ?_⟩
    refine ⟨_, rfl, _, rfl, _, _, rfl, .inl ⟨_, hs, rfl⟩, _, _, rfl, rfl, _, rfl, ?_⟩
    refine ite3 (fun c => ?_) fun _ => k 0
    have c1 : i < (ns.length : Int) := by simpa using c
    have c2 : i.toNat < ns.length := by omega
    exact ⟨_, rfl, _, rfl, a, _, _, .int ns[i.toNat], rfl, rfl, hs, at_of (show i = ((i.toNat : Nat) : Int) by omega) (by simp [c2]), k _⟩
theorem ok_digits {f : Addr} {fd : FuncData} (F : Fun K "_law_digits" "_law_digits" s_law_digits f fd) (T : Txt K mg) (U_law_cell : Use P w K mg base CX0 "_law_cell" 1 P_law_cell (spCell K)) : FnG P w K mg base CX0 2 f fd P_law_digits (spDigits K) := by
  refine okG0 F sc_law_digits (fun vs H Q E h => ?_) fun cdv A outer s H vs Q E hr hg h => ?_
  · obtain ⟨a, ns, lo, hi, rfl, _⟩ := h
    rfl
  · obtain ⟨a, ns, lo, hi, rfl, hs, hlo, hhi, k⟩ := h
    refine ⟨_, (pss_cons (ps_set (i := 3) sc_law_digits.nd rfl (Or.inl rfl) (pe_lst pa_nil))
  (pss_cons (ps_for PassesOwn.never rfl (pi_range2 (by rfl) T.b_range (pa_cons (pv 1) (pa_cons (pv 2) pa_nil))) (pg_name (i := 4) sc_law_digits.nd rfl (Or.inl rfl))
   (pss_cons (ps_set (i := 5) sc_law_digits.nd rfl (Or.inl rfl) (pe_use U_law_cell (hr.mono (by decide)) hg rfl (pa_cons (pv 0) (pa_cons (pv 4) pa_nil))))
  (C8.pss_cut (ps_if (pt_cmpR op_lt (pv 5) pe_int (nomark _))
   (pss_one (ps_set (i := 5) sc_law_digits.nd rfl (Or.inl rfl) (pe_op op_sub pe_int (pe_op op_mul pe_int (pv 5)))))
   pss_nil)
  (pss_one (ps_if (pt_cmpR op_ge (pv 5) (pe_op op_pow pe_int pe_int) (nomark _))
   (pss_one (ps_for PassesOwn.never rfl (pi_range1 (by rfl) T.b_range (pa_cons pe_int pa_nil)) (pg_name (i := 6) sc_law_digits.nd rfl (Or.inl rfl))
   (pss_one (ps_if (pt_cmpR op_gt (pv 5) pe_int (nomark _))
   (pss_cons (ps_expr (pe_bm PySem.F.plainAttrs_list PySem.F.slot_list_append PySem.F.type_list_append mt_append (pv 3) (pa_cons (pe_op op_mod (pe_callTy call_int1 (by rfl) T.b_int (by decide +kernel) (pa_cons (pv 5) pa_nil)) pe_int) pa_nil)))
  (pss_one (ps_set (i := 5) sc_law_digits.nd rfl (Or.inl rfl) (pe_op op_fdiv (pv 5) pe_int))))
   pss_nil))))
   (pss_cons (ps_set (i := 7) sc_law_digits.nd rfl (Or.inl rfl) (pe_op op_mod (pe_callTy call_int1 (by rfl) T.b_int (by decide +kernel) (pa_cons (pe_op op_add (pe_op op_add (pe_op op_mul (pv 5) pe_int) (pe_op op_mul (pv 4) pe_int)) pe_int) pa_nil)) pe_int))
  (pss_one (ps_for PassesOwn.never rfl (pi_range1 (by rfl) T.b_range (pa_cons pe_int pa_nil)) (pg_name (i := 6) sc_law_digits.nd rfl (Or.inl rfl))
   (pss_cons (ps_set (i := 7) sc_law_digits.nd rfl (Or.inl rfl) (pe_op op_mod (pe_callTy call_int1 (by rfl) T.b_int (by decide +kernel) (pa_cons (pe_op op_add (pe_op op_add (pe_op op_mul (pv 7) pe_int) (pe_op op_mul pe_int (pv 6))) pe_int) pa_nil)) pe_int))
  (pss_one (ps_expr (pe_bm PySem.F.plainAttrs_list PySem.F.slot_list_append PySem.F.type_list_append mt_append (pv 3) (pa_cons (pe_op op_mod (pe_callTy call_int1 (by rfl) T.b_int (by decide +kernel) (pa_cons (pe_op op_fdiv (pv 7) pe_int) pa_nil)) pe_int) pa_nil)))))))))))))
  (pss_one (ps_ret (pv 3))))), ?_⟩
    refine ⟨by decide, fun dl nd => ?_⟩
    have sz : (4000 : Nat) < sizeLine := by decide
    -- for k in range(first, last)
    refine ⟨_, rfl, _, rfl, _, _, rfl, ⟨by omega, by omega, by omega, by omega⟩, ?_⟩
    refine for_range (lo := (lo : Int)) (n := ((hi : Int) - (lo : Int)).toNat) (fun i σ H1 => ∃ x5 x6 x7 x4, σ = [some (.ref a), some (.int lo), some (.int hi), some (.ref dl), x4, x5, x6, x7] ∧ DigAt H H1 dl (60 * i)) ?_ ?_ ?_
    · exact ⟨none, none, none, none, rfl, [], upd_same, by simp, by simp, Same.new nd⟩
    · rintro i σ H1 hi' ⟨x5, x6, x7, x4, rfl, D⟩
      have S1 : Same H H1 := let ⟨_, _, _, _, z⟩ := D; z
      -- cell = _law_cell(script, k)
      refine ⟨_, rfl, _, rfl, a, ns, _, rfl, S1.seq hs, by omega, fun cell => ?_⟩
      -- if cell < 0: cell = 1 - 2 * cell
      refine ⟨fun σ H2 => ∃ c : Int, σ = [some (.ref a), some (.int lo), some (.int hi), some (.ref dl), some (.int ((lo : Int) + i)), some (.int c), x6, x7] ∧ H2 = H1, ?_, ?_⟩
      · refine ⟨_, rfl, _, _, rfl, rfl, _, rfl, ?_⟩
        refine ite3 (fun _ => ?_) fun _ => ⟨cell, rfl, rfl⟩
        exact ⟨_, rfl, _, _, rfl, rfl, .inl ⟨by decide, by decide⟩, _, _, rfl, rfl, _, rfl, rfl⟩
      · rintro _ _ ⟨c, rfl, rfl⟩
        -- if cell >= 10 ** 18
        refine ⟨_, rfl, _, _, rfl, rfl, ⟨by decide, by decide, by decide⟩, _, _, rfl, rfl, _, rfl, ?_⟩
        refine ite3 (fun hc => ?_) fun hc => ?_
        · refine ⟨_, rfl, by decide, by decide, ?_⟩
          refine for_range (lo := 0) (n := 60) (fun j σ H1 => ∃ (c : Int) (y6 : Option V), σ = [some (.ref a), some (.int lo), some (.int hi), some (.ref dl), some (.int ((lo : Int) + i)), some (.int c), y6, x7] ∧ DigAt H H1 dl (60 * i + j)) ⟨c, x6, rfl, D⟩ ?_ ?_
          · rintro j σ H2 hj ⟨c, y6, rfl, D2⟩
            obtain ⟨ds, hd, hl, _⟩ := id D2
            refine ⟨_, rfl, _, _, rfl, rfl, _, rfl, ?_⟩
            refine ite3 (fun hp => ?_) fun _ => ⟨c, _, rfl, D2.mono (by omega)⟩
            have hp : 0 < c := by simpa using hp
            refine ⟨_, rfl, .inl ⟨rfl, _, SqL.of hd⟩, _, rfl, .inl ⟨_, rfl, _, _, rfl, rfl, (by show (0 : Int) < 1000; decide), dl, _, _, rfl, rfl, hd, (by simp; omega), ?_⟩⟩
            refine ⟨_, rfl, _, _, rfl, rfl, ⟨by decide, by decide⟩, ?_⟩
            exact ⟨_, _, rfl, D2.add hd nd (Int.emod_nonneg _ (by decide)) (Int.emod_lt_of_pos _ (by decide))⟩
          · rintro σ H2 ⟨c, y6, rfl, D2⟩
            exact ⟨_, _, _, _, rfl, D2.mono (by omega)⟩
        · refine ⟨_, rfl, _, _, rfl, rfl, .inr ⟨by decide, by decide⟩, _, rfl, _, _, rfl, rfl, .inr ⟨by decide, by decide⟩, _, _, rfl, rfl, _, _, rfl, rfl, .inl ⟨_, rfl, _, _, rfl, rfl, (by show (0 : Int) < 2147483647; decide), ?_⟩⟩
          refine ⟨_, rfl, by decide, by decide, ?_⟩
          refine for_range (lo := 0) (n := 12) (fun j σ H1 => ∃ (sd : Int) (y6 : Option V), σ = [some (.ref a), some (.int lo), some (.int hi), some (.ref dl), some (.int ((lo : Int) + i)), some (.int c), y6, some (.int sd)] ∧ DigAt H H1 dl (60 * i + j)) ⟨_, x6, rfl, D⟩ ?_ ?_
          · rintro j σ H2 hj ⟨sd, y6, rfl, D2⟩
            obtain ⟨ds, hd, hl, _⟩ := id D2
            refine ⟨_, rfl, _, _, rfl, rfl, .inr ⟨by decide, by decide⟩, _, rfl, _, _, rfl, rfl, .inl ⟨by decide, by decide⟩, _, _, rfl, rfl, _, _, rfl, rfl, .inl ⟨_, rfl, _, _, rfl, rfl, (by show (0 : Int) < 2147483647; decide), ?_⟩⟩
            refine ⟨_, rfl, .inl ⟨rfl, _, SqL.of hd⟩, _, rfl, _, _, rfl, rfl, ⟨by decide, by decide⟩, .inl ⟨_, rfl, _, _, rfl, rfl, (by show (0 : Int) < 1000; decide), dl, _, _, rfl, rfl, hd, (by simp; omega), ?_⟩⟩
            exact ⟨_, _, rfl, D2.add hd nd (Int.emod_nonneg _ (by decide)) (Int.emod_lt_of_pos _ (by decide))⟩
          · rintro σ H2 ⟨sd, y6, rfl, D2⟩
            exact ⟨_, _, _, _, rfl, D2.mono (by omega)⟩
    · rintro σ H1 ⟨x5, x6, x7, x4, rfl, D⟩
      exact ⟨_, rfl, k dl H1 nd (D.mono (by omega))⟩
end

abbrev s_paired : Stmt := top 2
abbrev N_paired : List Str := ["pairs", "x", "name", "value"]
abbrev P_paired : List Str := ["pairs", "x"]
theorem sc_paired : FnScope N_paired P_paired (defScope s_paired) := ⟨rfl, rfl, rfl, by decide +kernel, rfl, by decide +kernel, by decide +kernel⟩
abbrev s_not_bound : Stmt := top 14
abbrev N_not_bound : List Str := ["x"]
abbrev P_not_bound : List Str := ["x"]
theorem sc_not_bound : FnScope N_not_bound P_not_bound (defScope s_not_bound) := ⟨rfl, rfl, rfl, by decide +kernel, rfl, by decide +kernel, by decide +kernel⟩
abbrev s_variable : Stmt := top 13
abbrev N_variable : List Str := ["variables", "x", "value"]
abbrev P_variable : List Str := ["variables", "x"]
theorem sc_variable : FnScope N_variable P_variable (defScope s_variable) := ⟨rfl, rfl, rfl, by decide +kernel, rfl, by decide +kernel, by decide +kernel⟩
abbrev s_look_up : Stmt := top 8
abbrev N_look_up : List Str := ["heap", "env", "x", "k", "_", "variables", "own", "shared", "around", "of_class"]
abbrev P_look_up : List Str := ["heap", "env", "x"]
theorem sc_look_up : FnScope N_look_up P_look_up (defScope s_look_up) := ⟨rfl, rfl, rfl, by decide +kernel, rfl, by decide +kernel, by decide +kernel⟩
section
variable {P : Program} {w : World} {K : PySem.W.Frag} {mg : Str → Option Value} {base : Heap}
/-! scopes -/
structure Sc where
  vars : List (Str × Int)
  own : List Str
  shared : List Str
  around : Int
  cls : Bool
def valD (n : Int) : PyData := .tuple [.str "int", .int n]
def varD (p : Str × Int) : PyData := .tuple [.str p.1, valD p.2]
def scD (s : Sc) : PyData := .tuple [.str "scope", .tuple (s.vars.map varD), .tuple (s.own.map PyData.str), .tuple (s.shared.map PyData.str), .int s.around, .bool s.cls]
def find : List (Str × Int) → Str → Option Int
  | [], _ => none
  | (y, n) :: r, x => if y = x then some n else find r x
def pairD : Option Int → PyData
  | some n => valD n
  | none => .tuple []
def outD (x : Str) : Option Int → PyData
  | some n => .tuple [.str "ok", valD n]
  | none => .tuple [.str "raise", .int 8, .str ("not bound: " ++ x)]
def spPaired (K : PySem.W.Frag) : Sp := fun vs H Q _ => ∃ v vars x, vs = [v, .str x] ∧ Dt K H v (.tuple (vars.map varD)) ∧ ∀ v' H', Same H H' → Dt K H' v' (pairD (find vars x)) → Q v' H'
theorem find_skip {x : Str} : ∀ {vs : List (Str × Int)} {i : Nat}, (∀ j, j < i → ∀ p, vs[j]? = some p → p.1 ≠ x) → find vs x = find (vs.drop i) x
  | [], i, _ => by simp
  | (y, n) :: r, 0, _ => by simp
  | (y, n) :: r, i + 1, h => by
    have h0 := h 0 (by omega) (y, n) rfl
    show (if y = x then some n else find r x) = find (r.drop i) x
    rw [if_neg h0]
    exact find_skip fun j hj p hp => h (j + 1) (by omega) p hp
theorem ok_paired {f : Addr} {fd : FuncData} (F : Fun K "paired" "paired" s_paired f fd) (T : Txt K mg) : FnG P w K mg base CX0 1 f fd P_paired (spPaired K) := by
  refine okG0 F sc_paired (fun vs H Q E h => ?_) fun cdv A outer s H vs Q E hr hg h => ?_
  · obtain ⟨v, vars, x, rfl, _⟩ := h
    rfl
  · obtain ⟨v, vars, x, rfl, hv, k⟩ := h
    refine ⟨_, (pss_cons (ps_for PassesOwn.never rfl (pi_tup (pv 0)) (pg_tup (by rfl) (pgs_cons (pg_name (i := 2) sc_paired.nd rfl (Or.inl rfl)) (pgs_cons (pg_name (i := 3) sc_paired.nd rfl (Or.inl rfl)) pgs_nil)))
   (pss_one (ps_if (pt_cmpR op_eq (pv 2) (pv 1) (nomark _))
   (pss_one (ps_ret (pv 3)))
   pss_nil)))
  (pss_one (ps_ret (pe_tup pa_nil)))), ?_⟩
    obtain ⟨q, xs, rfl, hq, ha⟩ := hv.tuple_inv
    have hl := ha.length
    rw [List.length_map] at hl
    refine ⟨_, rfl, q, rfl, ⟨_, hq⟩, ?_⟩
    refine for_tup (xs := xs) (fun i σ H1 => ∃ x2 x3, σ = [some (.ref q), some (.str x), x2, x3] ∧ H1 = H ∧ (∀ j, j < i → ∀ p, vars[j]? = some p → p.1 ≠ x)) ⟨none, none, rfl, rfl, by simp⟩ ?_ ?_ ?_
    · rintro i σ H1 hi ⟨x2, x3, rfl, rfl, _⟩
      exact hq
    · rintro i y σ H1 hy ⟨x2, x3, rfl, rfl, hall⟩
      have hi : i < vars.length := by have := (List.getElem?_eq_some_iff.mp hy).1; omega
      have hvi : vars[i]? = some vars[i] := List.getElem?_eq_getElem hi
      generalize vars[i] = p at hvi
      obtain ⟨z, n⟩ := p
      have hd : (vars.map varD)[i]? = some (varD (z, n)) := by rw [List.getElem?_map, hvi]; rfl
      obtain ⟨y', hy', dy⟩ := ha.get hd
      rw [hy] at hy'
      obtain rfl := Option.some.inj hy'
      obtain ⟨q2, u, rfl, hq2, du⟩ := Dt.pair dy
      refine ⟨q2, _, rfl, hq2, rfl, _, _, rfl, _, _, rfl, rfl, ?_⟩
      refine ⟨_, rfl, _, rfl, rfl, _, rfl, ?_⟩
      refine ite3 (fun c => ?_) fun c => ?_
      · have c := V.str.inj (of_decide_eq_true c)
        have hf : find vars x = some n := by
          rw [find_skip (i := i) hall, List.drop_eq_getElem_cons hi]
          have e : vars[i] = (z, n) := Option.some.inj ((List.getElem?_eq_getElem hi).symm.trans hvi)
          rw [e]
          show (if z = x then some n else _) = _
          rw [if_pos c]
        rw [hf] at k
        exact ⟨_, rfl, k _ _ (fun _ _ h => h) du⟩
      · have c := of_decide_eq_false c
        refine ⟨_, _, rfl, rfl, fun j hj p hp => ?_⟩
        by_cases e : j = i
        · subst e
          rw [hvi] at hp
          obtain rfl := Option.some.inj hp
          exact fun h => c (congrArg V.str h)
        · exact hall j (by omega) p hp
    · rintro σ H1 ⟨x2, x3, rfl, rfl, hall⟩
      have hf : find vars x = none := by
        rw [find_skip (i := xs.length) hall, hl, List.drop_length]
        rfl
      rw [hf] at k
      exact ⟨sz_0, fun u hu => k _ _ (Same.new hu) (Dt.made hu .nil)⟩
/-- the other pieces of the program -/
def spNotBound (K : PySem.W.Frag) : Sp := fun vs H Q _ => ∃ x, vs = [.str x] ∧ x.length ≤ 1000 ∧ ∀ v' H', Same H H' → Dt K H' v' (outD x none) → Q v' H'
theorem ok_notbound {f : Addr} {fd : FuncData} (F : Fun K "_not_bound" "_not_bound" s_not_bound f fd) (T : Txt K mg) : FnG P w K mg base CX0 1 f fd P_not_bound (spNotBound K) := by
  refine okG0 F sc_not_bound (fun vs H Q E h => ?_) fun cdv A outer s H vs Q E hr hg h => ?_
  · obtain ⟨x, rfl, _⟩ := h
    rfl
  · obtain ⟨x, rfl, hx, k⟩ := h
    refine ⟨_, (pss_one (ps_ret (pe_tup (pa_cons pe_str (pa_cons (pe_globI T.c_NAME_ERROR (by rfl)) (pa_cons (pe_op op_add_str pe_str (pv 0)) pa_nil)))))), ?_⟩
    refine ⟨_, rfl, _, _, rfl, rfl, ?_, sz_3, fun u hu => k _ _ (Same.new hu) (Dt.made hu (.cons (.str _) (.cons (.int _) (.cons (.str _) .nil))))⟩
    rw [show ("not bound: " : Str).length = 11 by decide +kernel]
    exact Nat.le_trans (show _ ≤ 1011 by omega) (by decide)
def spVariable (K : PySem.W.Frag) : Sp := fun vs H Q _ => ∃ v vars x, vs = [v, .str x] ∧ x.length ≤ 1000 ∧ Dt K H v (.tuple (vars.map varD)) ∧ ∀ v' H', Same H H' → Dt K H' v' (outD x (find vars x)) → Q v' H'
theorem shp_pair (o : Option Int) : SeqAt.shaped (pairD o) = true := by
  cases o with
  | none => rfl
  | some n =>
    have h1 : PyData.canLay0 (.str "int") = true := by decide +kernel
    unfold SeqAt.shaped
    simp only [pairD, valD, PyData.canLay0, PyData.canLayAll0, PyData.depth] at h1 ⊢
    simp only [h1]
    rfl
theorem eqv_pair (o : Option Int) : PyData.eqv (pairD o) (.tuple []) = o.isNone := by
  cases o with
  | none => rw [show pairD none = .tuple [] from rfl, eqv_nil]; rfl
  | some n => rw [show pairD (some n) = .tuple [.str "int", .int n] from rfl, eqv_nil]; rfl
theorem ok_variable {f : Addr} {fd : FuncData} (F : Fun K "_variable" "_variable" s_variable f fd) (T : Txt K mg) (U_paired : Use P w K mg base CX0 "paired" 1 P_paired (spPaired K)) (U_not_bound : Use P w K mg base CX0 "_not_bound" 1 P_not_bound (spNotBound K)) :
    FnG P w K mg base CX0 2 f fd P_variable (spVariable K) := by
  refine okG0 F sc_variable (fun vs H Q E h => ?_) fun cdv A outer s H vs Q E hr hg h => ?_
  · obtain ⟨v, vars, x, rfl, _⟩ := h
    rfl
  · obtain ⟨v, vars, x, rfl, hx, hv, k⟩ := h
    refine ⟨_, (pss_cons (ps_set (i := 2) sc_variable.nd rfl (Or.inl rfl) (pe_use U_paired (hr.mono (by decide)) hg rfl (pa_cons (pv 0) (pa_cons (pv 1) pa_nil))))
  (pss_cons (ps_if (pt_cmpR (op_eqD hr.units) (pv 2) (pe_tup pa_nil) (nomark _))
   (pss_one (ps_ret (pe_use U_not_bound (hr.mono (by decide)) hg rfl (pa_cons (pv 1) pa_nil))))
   pss_nil)
  (pss_one (ps_ret (pe_tup (pa_cons pe_str (pa_cons (pv 2) pa_nil))))))), ?_⟩
    refine ⟨_, rfl, _, rfl, v, vars, x, rfl, hv, fun v1 H1 S1 d1 => ?_⟩
    refine ⟨_, rfl, sz_0, fun u hu => ?_⟩
    have S2 := Same.new (o := .tup []) hu
    refine ⟨_, _, (d1.mono S2).dp, (Dt.made hu .nil).dp, shp_pair _, rfl, ?_⟩
    rw [eqv_pair]
    cases hf : find vars x with
    | none =>
      rw [hf] at k
      refine ⟨_, rfl, iteTb rfl ?_⟩
      exact ⟨_, rfl, x, rfl, hx, fun v' H' S3 d => k _ _ ((S1.trans S2).trans S3) d⟩
    | some n =>
      rw [hf] at k d1
      refine ⟨_, rfl, iteFb rfl ?_⟩
      refine ⟨_, rfl, sz_2, fun u2 hu2 => k _ _ ((S1.trans S2).trans (Same.new hu2)) (Dt.made hu2 (.cons (.str _) (.cons (d1.mono S2) .nil)))⟩

theorem inV_str {x : Str} (ys : List Str) : inV (.str x) (ys.map V.str) = decide (x ∈ ys) := by
  unfold inV
  induction ys with
  | nil => rfl
  | cons y r ih =>
    rw [List.map_cons, List.any_cons, ih]
    have : eqV (.str y) (.str x) = decide (y = x) := by
      show (y == x) = _
      by_cases e : y = x
      · subst e; simp
      · simp [e]
    rw [this]
    by_cases e : y = x
    · subst e; simp
    · have : x ≠ y := fun h => e h.symm
      simp [e, this]
theorem dtAll_str {H : Hp} : ∀ {xs : List V} {ys : List Str}, DtAll K H xs (ys.map PyData.str) → xs = ys.map V.str
  | _, [], h => by cases h; rfl
  | _, y :: r, h => by
    obtain ⟨x, ws, rfl, h1, hw⟩ := h.cons_inv
    rw [h1.str_inv, dtAll_str hw]
    rfl
theorem flat_str (ys : List Str) : (ys.map V.str).all flatV = true := by
  rw [List.all_map]
  exact List.all_eq_true.mpr fun _ _ => rfl
/-- a scope as it is read -/
theorem sc_inv {H : Hp} {v : V} {s : Sc} (h : Dt K H v (scD s)) : ∃ q a1 a2 a3, v = .ref q ∧ SqT K H q [.str "scope", .ref a1, .ref a2, .ref a3, .int s.around, .bl s.cls] ∧ Dt K H (.ref a1) (.tuple (s.vars.map varD)) ∧ SqT K H a2 (s.own.map V.str) ∧ SqT K H a3 (s.shared.map V.str) := by
  obtain ⟨q, ws, rfl, hs, hw⟩ := h.head
  obtain ⟨x1, ws1, rfl, h1, hw⟩ := hw.cons_inv
  obtain ⟨x2, ws2, rfl, h2, hw⟩ := hw.cons_inv
  obtain ⟨x3, ws3, rfl, h3, hw⟩ := hw.cons_inv
  obtain ⟨x4, ws4, rfl, h4, hw⟩ := hw.cons_inv
  obtain ⟨x5, ws5, rfl, h5, hw⟩ := hw.cons_inv
  cases hw.nil_inv
  obtain ⟨a1, t1, rfl, g1, b1⟩ := h1.tuple_inv
  obtain ⟨a2, t2, rfl, g2, b2⟩ := h2.tuple_inv
  obtain ⟨a3, t3, rfl, g3, b3⟩ := h3.tuple_inv
  cases h4.int_inv
  cases h5.bool_inv
  rw [dtAll_str b2] at g2
  rw [dtAll_str b3] at g3
  exact ⟨q, a1, a2, a3, rfl, hs, h1, g2, g3⟩
def modVars : List Sc → List (Str × Int)
  | s :: _ => s.vars
  | [] => []
def lookAt (scs : List Sc) (env : Nat) (x : Str) : Nat → Option Int
  | 0 => none
  | j + 1 => match scs[j]? with
    | none => none
    | some s => if j = env ∨ s.cls = false then
        (if x ∈ s.shared then find (modVars scs) x
         else match find s.vars x with
          | some n => some n
          | none => if x ∈ s.own ∧ s.cls = false then none else lookAt scs env x j)
        else lookAt scs env x j
def spLookup (K : PySem.W.Frag) : Sp := fun vs H Q _ => ∃ hp scs env x, vs = [.ref hp, .int (env : Nat), .str x] ∧ x.length ≤ 1000 ∧ ListAt K H hp (scs.map scD) ∧ env < scs.length ∧ scs.length ≤ 1000 ∧ (∀ (j : Nat) (s : Sc), scs[j]? = some s → s.around = (j : Int) - 1) ∧
  ∀ v' H', Same H H' → Dt K H' v' (outD x (lookAt scs env x (env + 1))) → Q v' H'
theorem ok_lookup {f : Addr} {fd : FuncData} (F : Fun K "look_up" "look_up" s_look_up f fd) (T : Txt K mg) (U_variable : Use P w K mg base CX0 "_variable" 2 P_variable (spVariable K)) (U_paired : Use P w K mg base CX0 "paired" 1 P_paired (spPaired K)) (U_not_bound : Use P w K mg base CX0 "_not_bound" 1 P_not_bound (spNotBound K)) :
    FnG P w K mg base CX0 3 f fd P_look_up (spLookup K) := by
  refine okG0 F sc_look_up (fun vs H Q E h => ?_) fun cdv A outer s H vs Q E hr hg h => ?_
  · obtain ⟨hp, scs, env, x, rfl, _⟩ := h
    rfl
  · obtain ⟨hp, scs, env, x, rfl, hx, L, henv, hsl, har, k⟩ := h
    refine ⟨_, (pss_cons (ps_set (i := 3) sc_look_up.nd rfl (Or.inl rfl) (pv 1))
  (pss_cons (ps_while PassesOwn.never (pt_up (pt_cmpR op_ge (pv 3) pe_int (nomark _)))
   (pss_cons (ps_asg (pe_ix ix_list (pv 0) (pv 3) (fun _ _ => rfl)) (pg_tup (by rfl) (pgs_cons (pg_name (i := 4) sc_look_up.nd rfl (Or.inl rfl)) (pgs_cons (pg_name (i := 5) sc_look_up.nd rfl (Or.inl rfl)) (pgs_cons (pg_name (i := 6) sc_look_up.nd rfl (Or.inl rfl)) (pgs_cons (pg_name (i := 7) sc_look_up.nd rfl (Or.inl rfl)) (pgs_cons (pg_name (i := 8) sc_look_up.nd rfl (Or.inl rfl)) (pgs_cons (pg_name (i := 9) sc_look_up.nd rfl (Or.inl rfl)) pgs_nil))))))))
  (C8.pss_cut (ps_if (PW.pt (pw_or (pt_cmpR op_eq (pv 3) (pv 1) (nomark _)) (pw_or1 (pt_not (pt_val (pv 9))))))
   (pss_cons (ps_if (pt_cmpR op_in_seq (pv 2) (pv 7) (by rfl))
   (pss_one (ps_ret (pe_use U_variable (hr.mono (by decide)) hg rfl (pa_cons (pe_ix ix_tup (pe_ix ix_list (pv 0) (pe_globI T.c_MODULE (by rfl)) (fun _ _ => rfl)) pe_int (fun _ _ => rfl)) (pa_cons (pv 2) pa_nil)))))
   pss_nil)
  (pss_one (ps_if (PW.pt (pw_or (pt_cmpR (op_neD hr.units) (pe_use U_paired (hr.mono (by decide)) hg rfl (pa_cons (pv 5) (pa_cons (pv 2) pa_nil))) (pe_tup pa_nil) (nomark _)) (pw_or1 (PW.pt (pw_and (pt_cmpR op_in_seq (pv 2) (pv 6) (by rfl)) (pw_and1 (pt_not (pt_val (pv 9)))))))))
   (pss_one (ps_ret (pe_use U_variable (hr.mono (by decide)) hg rfl (pa_cons (pv 5) (pa_cons (pv 2) pa_nil)))))
   pss_nil)))
   pss_nil)
  (pss_one (ps_set (i := 3) sc_look_up.nd rfl (Or.inl rfl) (pv 8))))))
  (pss_one (ps_ret (pe_use U_not_bound (hr.mono (by decide)) hg rfl (pa_cons (pv 2) pa_nil)))))), ?_⟩
    refine ⟨_, rfl, ?_⟩
    refine while_up (fun σ H1 => ∃ (j : Nat) (x4 x5 x6 x7 x8 x9 : Option V), σ = [some (.ref hp), some (.int (env : Nat)), some (.str x), some (.int ((j : Int) - 1)), x4, x5, x6, x7, x8, x9] ∧ j ≤ env + 1 ∧ lookAt scs env x (env + 1) = lookAt scs env x j ∧ Same H H1)
      (fun (σ : L2.St) (_ : Hp) => match σ[3]? with | some (some (V.int j)) => (j + 1).toNat | _ => 0) ⟨env + 1, none, none, none, none, none, none, by rw [show ((env + 1 : Nat) : Int) - 1 = (env : Int) by omega]; rfl, Nat.le_refl _, rfl, fun _ _ h => h⟩ ?_
    rintro σ H1 ⟨j, x4, x5, x6, x7, x8, x9, rfl, hj, hlk, S1⟩
    refine ⟨_, rfl, _, _, rfl, rfl, _, rfl, ?_⟩
    refine ite3 (fun c => ?_) fun c => ?_
    · have c := of_decide_eq_true c
      obtain ⟨i, rfl⟩ : ∃ i, j = i + 1 := ⟨j - 1, by omega⟩
      have hi : i < scs.length := by omega
      have hsc : scs[i]? = some scs[i] := List.getElem?_eq_getElem hi
      have hr1 := har i _ hsc
      generalize scs[i] = s1 at hsc hr1
      obtain ⟨zs, ez, az⟩ := listAt_mono L S1
      obtain ⟨y, hy, dy⟩ := az.get (show (scs.map scD)[i]? = some (scD s1) by rw [List.getElem?_map, hsc]; rfl)
      obtain ⟨q, a1, a2, a3, rfl, hq, d1, g2, g3⟩ := sc_inv dy
      have hat : atI zs (((i + 1 : Nat) : Int) - 1) = some (.ref q) := by rw [show ((i + 1 : Nat) : Int) - 1 = (i : Int) by omega]; exact atI_nat hy
      refine ⟨_, rfl, _, rfl, hp, _, _, _, rfl, rfl, SqL.of ez, hat, q, _, rfl, hq, rfl, _, _, rfl, _, _, rfl, _, _, rfl, _, _, rfl, _, _, rfl, _, _, rfl, rfl, ?_⟩
      have step : lookAt scs env x (i + 1) = (if i = env ∨ s1.cls = false then
        (if x ∈ s1.shared then find (modVars scs) x
         else match find s1.vars x with
          | some n => some n
          | none => if x ∈ s1.own ∧ s1.cls = false then none else lookAt scs env x i)
        else lookAt scs env x i) := by
        show (match scs[i]? with | none => none | some s => _) = _
        rw [hsc]
      rw [step] at hlk
      refine ⟨fun σ H2 => σ = [some (.ref hp), some (.int (env : Nat)), some (.str x), some (.int (((i + 1 : Nat) : Int) - 1)), some (.str "scope"), some (.ref a1), some (.ref a2), some (.ref a3), some (.int s1.around), some (.bl s1.cls)] ∧ lookAt scs env x (env + 1) = lookAt scs env x i ∧ Same H H2, ?_, ?_⟩
      · have orI : ∀ Q : Bool → Hp → Prop, Q (decide (i = env ∨ s1.cls = false)) H1 → tOr (tTest (tOp rEq (tVar 3) (tVar 1))) (tNot (tB (tVar 9)))
            [some (.ref hp), some (.int (env : Nat)), some (.str x), some (.int (((i + 1 : Nat) : Int) - 1)), some (.str "scope"), some (.ref a1), some (.ref a2), some (.ref a3), some (.int s1.around), some (.bl s1.cls)] H1 Q := fun Q hQ => by
          refine ⟨_, rfl, _, rfl, rfl, _, rfl, ?_⟩
          by_cases e : i = env
          · subst e
            rw [decide_eq_true (.inl rfl)] at hQ
            exact iteTb (decide_eq_true (by rw [show ((i + 1 : Nat) : Int) - 1 = (i : Int) by omega])) hQ
          · refine iteFb (decide_eq_false fun h => ?_) ⟨_, rfl, _, rfl, ?_⟩
            · have := V.int.inj h
              omega
            · have : decide (i = env ∨ s1.cls = false) = !s1.cls := by
                cases s1.cls <;> simp [e]
              rw [this] at hQ
              exact hQ
        refine orI _ ?_
        by_cases hb : i = env ∨ s1.cls = false
        · refine iteTb (decide_eq_true hb) ?_
          rw [if_pos hb] at hlk
          refine ⟨_, rfl, _, rfl, a3, _, rfl, .inr g3, rfl, flat_str _, _, rfl, ?_⟩
          by_cases hm : x ∈ s1.shared
          · refine iteTb ((inV_str _).trans (decide_eq_true hm)) ?_
            rw [if_pos hm] at hlk
            obtain ⟨s0, rest, rfl⟩ : ∃ s0 rest, scs = s0 :: rest := by
              cases scs with
              | nil => simp at hi
              | cons a b => exact ⟨a, b, rfl⟩
            obtain ⟨y0, hy0, dy0⟩ := az.get (show ((s0 :: rest).map scD)[0]? = some (scD s0) from rfl)
            obtain ⟨q0, b1, b2, b3, rfl, hq0, e1, f2, f3⟩ := sc_inv dy0
            refine ⟨_, rfl, hp, _, _, _, rfl, rfl, SqL.of ez, atI_nat (j := 0) hy0, q0, _, _, _, rfl, rfl, hq0, at1, _, rfl, .ref b1, s0.vars, x, rfl, hx, e1, fun v' H' S2 d => ?_⟩
            rw [hlk] at k
            exact k _ _ (S1.trans S2) d
          · refine iteFb ((inV_str _).trans (decide_eq_false hm)) ?_
            rw [if_neg hm] at hlk
            refine ⟨_, rfl, _, rfl, .ref a1, s1.vars, x, rfl, d1, fun v1 H2 S2 dv1 => ?_⟩
            refine ⟨sz_0, fun u hu => ?_⟩
            have S3 := Same.new (o := .tup []) hu
            refine ⟨_, _, (dv1.mono S3).dp, (Dt.made hu .nil).dp, shp_pair _, rfl, ?_⟩
            rw [eqv_pair]
            cases hf : find s1.vars x with
            | some n =>
              rw [hf] at hlk
              refine ⟨_, rfl, iteTb rfl ?_⟩
              refine iteTb rfl ?_
              refine ⟨_, rfl, _, rfl, .ref a1, s1.vars, x, rfl, hx, (d1.mono S2).mono S3, fun v' H' S4 d => ?_⟩
              rw [hlk] at k
              rw [hf] at d
              exact k _ _ (((S1.trans S2).trans S3).trans S4) d
            | none =>
              rw [hf] at hlk
              refine ⟨_, rfl, iteFb rfl ?_⟩
              refine ⟨_, rfl, _, rfl, a2, _, rfl, .inr (Same.tupl S3 (Same.tupl S2 g2)), rfl, flat_str _, _, rfl, ?_⟩
              by_cases ho : x ∈ s1.own
              · refine iteTb ((inV_str _).trans (decide_eq_true ho)) ?_
                refine ⟨_, rfl, _, rfl, ?_⟩
                cases hc : s1.cls with
                | false =>
                  rw [hc] at hlk
                  rw [show (match (none : Option Int) with | some n => some n | none => if x ∈ s1.own ∧ (false : Bool) = false then (none : Option Int) else lookAt scs env x i) = none from if_pos ⟨ho, rfl⟩] at hlk
                  refine iteTb rfl ?_
                  refine ⟨_, rfl, _, rfl, .ref a1, s1.vars, x, rfl, hx, (d1.mono S2).mono S3, fun v' H' S4 d => ?_⟩
                  rw [hlk] at k
                  rw [hf] at d
                  exact k _ _ (((S1.trans S2).trans S3).trans S4) d
                | true =>
                  rw [hc] at hlk
                  refine iteFb rfl ?_
                  refine ⟨rfl, hlk.trans (if_neg fun h => by cases h.2), (S1.trans S2).trans S3⟩
              · refine iteFb ((inV_str _).trans (decide_eq_false ho)) ?_
                refine iteFb rfl ?_
                exact ⟨rfl, hlk.trans (if_neg fun h => ho h.1), (S1.trans S2).trans S3⟩
        · refine iteFb (decide_eq_false hb) ?_
          rw [if_neg hb] at hlk
          exact ⟨rfl, hlk, S1⟩
      · rintro _ H2 ⟨rfl, hl2, S2⟩

        refine ⟨_, rfl, ⟨i, _, _, _, _, _, _, by rw [hr1]; rfl, by omega, hl2, S2⟩, by simp; omega⟩
    · have c := of_decide_eq_false c
      obtain rfl : j = 0
 := by omega
      rw [hlk] at k
      exact ⟨_, rfl, x, rfl, hx, fun v' H' S2 d => k _ _ (S1.trans S2) d⟩
end

section
/-! data whose texts are texts and that are not deep -/
def Shp (n : Nat) (d : PyData) : Prop := d.canLay0 = true ∧ d.depth ≤ n
theorem Shp.all {n : Nat} : ∀ {ds : List PyData}, (∀ d ∈ ds, Shp n d) → PyData.canLayAll0 ds = true ∧ PyData.depthAll ds ≤ n
  | [], _ => ⟨rfl, Nat.zero_le _⟩
  | d :: r, h => by
    obtain ⟨a, b⟩ := h d (by simp)
    obtain ⟨c, e⟩ := Shp.all (ds := r) fun x hx => h x (List.mem_cons_of_mem _ hx)
    exact ⟨by simp only [PyData.canLayAll0, a, c]; rfl, Nat.max_le.mpr ⟨b, e⟩⟩
theorem Shp.tup {n : Nat} {ds : List PyData} (h : ∀ d ∈ ds, Shp n d) : Shp (n + 1) (.tuple ds) := by
  obtain ⟨a, b⟩ := Shp.all h
  exact ⟨by simp only [PyData.canLay0]; exact a, show PyData.depthAll ds + 1 ≤ n + 1 by omega⟩
theorem Shp.lst {n : Nat} {ds : List PyData} (h : ∀ d ∈ ds, Shp n d) : Shp (n + 1) (.list ds) := by
  obtain ⟨a, b⟩ := Shp.all h
  exact ⟨by simp only [PyData.canLay0]; exact a, show PyData.depthAll ds + 1 ≤ n + 1 by omega⟩
theorem Shp.sh {n : Nat} {d : PyData} (h : Shp n d) (hn : n ≤ 64) : SeqAt.shaped d = true := by
  unfold SeqAt.shaped
  rw [h.1, decide_eq_true (Nat.le_trans h.2 hn)]; rfl
theorem Shp.mono {n m : Nat} {d : PyData} (h : Shp n d) (l : n ≤ m) : Shp m d := ⟨h.1, Nat.le_trans h.2 l⟩
theorem Shp.str {n : Nat} {x : Str} (h : PyData.canLay0 (.str x) = true) : Shp n (.str x) := ⟨h, Nat.zero_le _⟩
theorem Shp.int (n : Nat) (i : Int) : Shp n (.int i) := ⟨rfl, Nat.zero_le _⟩
theorem Shp.bool (n : Nat) (b : Bool) : Shp n (.bool b) := ⟨rfl, Nat.zero_le _⟩
theorem Shp.nil : Shp 1 (.tuple []) := Shp.tup (n := 0) fun _ h => by cases h
theorem Shp.cons2 {n : Nat} {d : PyData} {ds : List PyData} (h : Shp n d) (t : ∀ x ∈ ds, Shp n x) : ∀ x ∈ d :: ds, Shp n x := fun x hx => by
  rcases List.mem_cons.mp hx with rfl | hx
  · exact h
  · exact t x hx
theorem Shp.none2 {n : Nat} : ∀ x ∈ ([] : List PyData), Shp n x := fun _ h => by cases h
theorem Shp.strS {n : Nat} {a : List Nat} (h : ∀ c ∈ a, c < 128) : Shp n (.str (S a)) := by
  refine Shp.str ?_
  rw [PyData.canLay0]
  exact Array.all_eq_true_iff_forall_mem.mpr fun c hc => by
    have := h c (by simpa [S] using hc)
    exact decide_eq_true (by omega)
end

abbrev s_with_pair : Stmt := top 3
abbrev N_with_pair : List Str := ["pairs", "x", "value", "made", "found", "pair"]
abbrev P_with_pair : List Str := ["pairs", "x", "value"]
theorem sc_with_pair : FnScope N_with_pair P_with_pair (defScope s_with_pair) := ⟨rfl, rfl, rfl, by decide +kernel, rfl, by decide +kernel, by decide +kernel⟩
abbrev s_without_pair : Stmt := top 4
abbrev N_without_pair : List Str := ["pairs", "x", "pair"]
abbrev P_without_pair : List Str := ["pairs", "x"]
theorem sc_without_pair : FnScope N_without_pair P_without_pair (defScope s_without_pair) := ⟨rfl, rfl, rfl, by decide +kernel, rfl, by decide +kernel, by decide +kernel⟩
abbrev s_bind_name : Stmt := top 9
abbrev N_bind_name : List Str := ["heap", "env", "x", "v", "home"]
abbrev P_bind_name : List Str := ["heap", "env", "x", "v"]
theorem sc_bind_name : FnScope N_bind_name P_bind_name (defScope s_bind_name) := ⟨rfl, rfl, rfl, by decide +kernel, rfl, by decide +kernel, by decide +kernel⟩
abbrev s_unbind_name : Stmt := top 10
abbrev N_unbind_name : List Str := ["heap", "env", "x", "home"]
abbrev P_unbind_name : List Str := ["heap", "env", "x"]
theorem sc_unbind_name : FnScope N_unbind_name P_unbind_name (defScope s_unbind_name) := ⟨rfl, rfl, rfl, by decide +kernel, rfl, by decide +kernel, by decide +kernel⟩
abbrev s_home : Stmt := top 11
abbrev N_home : List Str := ["heap", "env", "x", "_", "own", "shared", "around", "of_class", "k"]
abbrev P_home : List Str := ["heap", "env", "x"]
theorem sc_home : FnScope N_home P_home (defScope s_home) := ⟨rfl, rfl, rfl, by decide +kernel, rfl, by decide +kernel, by decide +kernel⟩
abbrev s_put_variables : Stmt := top 12
abbrev N_put_variables : List Str := ["heap", "k", "variables", "_", "own", "shared", "around", "of_class"]
abbrev P_put_variables : List Str := ["heap", "k", "variables"]
theorem sc_put_variables : FnScope N_put_variables P_put_variables (defScope s_put_variables) := ⟨rfl, rfl, rfl, by decide +kernel, rfl, by decide +kernel, by decide +kernel⟩
abbrev s_law_scope : Stmt := top 19
abbrev N_law_scope : List Str := ["box", "names", "k", "locals_of", "globals_of", "j", "kind", "of_class"]
abbrev P_law_scope : List Str := ["box", "names", "k"]
theorem sc_law_scope : FnScope N_law_scope P_law_scope (defScope s_law_scope) := ⟨rfl, rfl, rfl, by decide +kernel, rfl, by decide +kernel, by decide +kernel⟩
abbrev s_law_home : Stmt := top 20
abbrev N_law_home : List Str := ["scopes", "env", "name", "k"]
abbrev P_law_home : List Str := ["scopes", "env", "name"]
theorem sc_law_home : FnScope N_law_home P_law_home (defScope s_law_home) := ⟨rfl, rfl, rfl, by decide +kernel, rfl, by decide +kernel, by decide +kernel⟩
abbrev s_law_place : Stmt := top 21
abbrev N_law_place : List Str := ["pairs", "name", "k"]
abbrev P_law_place : List Str := ["pairs", "name"]
theorem sc_law_place : FnScope N_law_place P_law_place (defScope s_law_place) := ⟨rfl, rfl, rfl, by decide +kernel, rfl, by decide +kernel, by decide +kernel⟩
abbrev s_law_same : Stmt := top 22
abbrev N_law_same : List Str := ["heap", "scopes", "tables", "k", "scope"]
abbrev P_law_same : List Str := ["heap", "scopes", "tables"]
theorem sc_law_same : FnScope N_law_same P_law_same (defScope s_law_same) := ⟨rfl, rfl, rfl, by decide +kernel, rfl, by decide +kernel, by decide +kernel⟩
abbrev s_law_bind : Stmt := top 23
abbrev N_law_bind : List Str := ["heap", "tables", "home", "env", "name", "value", "at"]
abbrev P_law_bind : List Str := ["heap", "tables", "home", "env", "name", "value"]
theorem sc_law_bind : FnScope N_law_bind P_law_bind (defScope s_law_bind) := ⟨rfl, rfl, rfl, by decide +kernel, rfl, by decide +kernel, by decide +kernel⟩
abbrev s_law_unbind : Stmt := top 24
abbrev N_law_unbind : List Str := ["heap", "tables", "home", "env", "name", "at"]
abbrev P_law_unbind : List Str := ["heap", "tables", "home", "env", "name"]
theorem sc_law_unbind : FnScope N_law_unbind P_law_unbind (defScope s_law_unbind) := ⟨rfl, rfl, rfl, by decide +kernel, rfl, by decide +kernel, by decide +kernel⟩
abbrev s_law : Stmt := top 25
abbrev N_law : List Str := ["script", "box", "names", "k", "scopes", "tables", "scope", "heap", "env", "name", "home", "kind", "value"]
abbrev P_law : List Str := ["script"]
theorem sc_law : FnScope N_law P_law (defScope s_law) := ⟨rfl, rfl, rfl, by decide +kernel, rfl, by decide +kernel, by decide +kernel⟩
section
variable {P : Program} {w : World} {K : PySem.W.Frag} {mg : Str → Option Value} {base : Heap}
abbrev Vs := List (Str × Int)
def repl (vs : Vs) (x : Str) (n : Int) : Vs := vs.map fun p => if p.1 = x then (x, n) else p
def has (vs : Vs) (x : Str) : Bool := vs.any fun p => decide (p.1 = x)
def withP (vs : Vs) (x : Str) (n : Int) : Vs := if has vs x = true then repl vs x n else vs ++ [(x, n)]
def delP (vs : Vs) (x : Str) : Vs := vs.filter fun p => !decide (p.1 = x)
theorem varD_at {H : Hp} {xs : List V} {vs : Vs} {i : Nat} {y : V} (ha : DtAll K H xs (vs.map varD)) (hy : xs[i]? = some y) : ∃ z n q u, vs[i]? = some (z, n) ∧ y = .ref q ∧ SqT K H q [.str z, u] ∧ Dt K H u (valD n) := by
  have hl := ha.length
  rw [List.length_map] at hl
  have hi : i < vs.length := by have := (List.getElem?_eq_some_iff.mp hy).1; omega
  have hvi : vs[i]? = some vs[i] := List.getElem?_eq_getElem hi
  generalize vs[i] = p at hvi
  obtain ⟨z, n⟩ := p
  have hd : (vs.map varD)[i]? = some (varD (z, n)) := by rw [List.getElem?_map, hvi]; rfl
  obtain ⟨y', hy', dy⟩ := ha.get hd
  rw [hy] at hy'
  obtain rfl := Option.some.inj hy'
  obtain ⟨q2, u, rfl, hq2, du⟩ := Dt.pair dy
  exact ⟨z, n, q2, u, hvi, rfl, hq2, du⟩
def spWith (K : PySem.W.Frag) : Sp := fun vs H Q _ => ∃ (v u : V) (vars : Vs) (x : Str) (n : Int), vs = [v, .str x, u] ∧ Dt K H v (.tuple (vars.map varD)) ∧ Dt K H u (valD n) ∧ vars.length ≤ 1000 ∧ ∀ v' H', Same H H' → Dt K H' v' (.tuple ((withP vars x n).map varD)) → Q v' H'
theorem ok_with {f : Addr} {fd : FuncData} (F : Fun K "with_pair" "with_pair" s_with_pair f fd) (T : Txt K mg) : FnG P w K mg base CX0 1 f fd P_with_pair (spWith K) := by
  refine okG0 F sc_with_pair (fun vs H Q E h => ?_) fun cdv A outer s H vs Q E hr hg h => ?_
  · obtain ⟨v, u, vars, x, n, rfl, _⟩ := h
    rfl
  · obtain ⟨v, u, vars, x, n, rfl, hv, hu, hvl, k⟩ := h
    refine ⟨_, (pss_cons (ps_set (i := 3) sc_with_pair.nd rfl (Or.inl rfl) (pe_lst pa_nil))
  (pss_cons (ps_set (i := 4) sc_with_pair.nd rfl (Or.inl rfl) pe_bl)
  (pss_cons (ps_for PassesOwn.never rfl (pi_tup (pv 0)) (pg_name (i := 5) sc_with_pair.nd rfl (Or.inl rfl))
   (pss_one (ps_if (pt_cmpR op_eq (pe_ix ix_tup (pv 5) pe_int (fun _ _ => rfl)) (pv 1) (nomark _))
   (pss_cons (ps_expr (pe_bm PySem.F.plainAttrs_list PySem.F.slot_list_append PySem.F.type_list_append mt_append (pv 3) (pa_cons (pe_tup (pa_cons (pv 1) (pa_cons (pv 2) pa_nil))) pa_nil)))
  (pss_one (ps_set (i := 4) sc_with_pair.nd rfl (Or.inl rfl) pe_bl)))
   (pss_one (ps_expr (pe_bm PySem.F.plainAttrs_list PySem.F.slot_list_append PySem.F.type_list_append mt_append (pv 3) (pa_cons (pv 5) pa_nil)))))))
  (C8.pss_cut (ps_if (pt_not (pt_val (pv 4)))
   (pss_one (ps_expr (pe_bm PySem.F.plainAttrs_list PySem.F.slot_list_append PySem.F.type_list_append mt_append (pv 3) (pa_cons (pe_tup (pa_cons (pv 1) (pa_cons (pv 2) pa_nil))) pa_nil))))
   pss_nil)
  (pss_one (ps_ret (pe_callTy call_tuple_of (by rfl) T.b_tuple (by decide +kernel) (pa_cons (pv 3) pa_nil)))))))), ?_⟩
    obtain ⟨q, xs, rfl, hq, ha⟩ := hv.tuple_inv
    have hl := ha.length
    rw [List.length_map] at hl
    refine ⟨sz_0, fun ml hml => ?_⟩
    have S0 := Same.new (o := .lst []) hml
    refine ⟨_, rfl, q, rfl, ⟨_, Same.tupl S0 hq⟩, ?_⟩
    refine for_tup (xs := xs) (fun i σ H1 => ∃ x5, σ = [some (.ref q), some (.str x), some u, some (.ref ml), some (.bl (has (vars.take i) x)), x5] ∧ Same H H1 ∧ ListAt K H1 ml ((repl (vars.take i) x n).map varD)) ⟨none, rfl, S0, ⟨[], upd_same, .nil⟩⟩ ?_ ?_ ?_
    · rintro i σ H1 _ ⟨x5, rfl, S1, _⟩
      exact Same.tupl S1 hq
    · rintro i y σ H1 hy ⟨x5, rfl, S1, L1⟩
      obtain ⟨z, n0, q2, u2, hvi, rfl, hq2, du2⟩ := varD_at (DtAll.mono S1 ha) hy
      have hi : i < vars.length := (List.getElem?_eq_some_iff.mp hvi).1
      have htk : vars.take (i + 1) = vars.take i ++ [(z, n0)] := by rw [List.take_add_one, hvi]; rfl
      obtain ⟨zs, ez, az⟩ := id L1
      have lz := az.length
      rw [List.length_map] at lz
      have lz2 : zs.length ≤ 1000 := by rw [lz]; unfold repl; rw [List.length_map, List.length_take]; omega
      have S2 : ∀ (H2 : Hp) o, Same H1 H2 → Same H (upd H2 ml o) := fun H2 o S b o' hb => by rw [upd_ne (ne_of_none hb hml)]; exact S _ _ (S1 b o' hb)
      refine ⟨_, rfl, q2, _, _, _, rfl, rfl, hq2, at0, _, rfl, rfl, _, rfl, ?_⟩
      refine ite3 (fun c => ?_) fun c => ?_
      · have c := V.str.inj (of_decide_eq_true c)
        refine ⟨_, rfl, .inl ⟨rfl, _, SqL.of ez⟩, _, rfl, _, rfl, sz_2, fun w2 hw2 => ⟨ml, _, _, rfl, rfl, Same.new hw2 _ _ ez, Nat.lt_of_le_of_lt lz2 (by decide), ?_⟩⟩
        have T1 := Same.new (o := .tup [.str x, u]) hw2
        have eh : has (vars.take (i + 1)) x = true := by
          unfold has
          rw [htk, List.any_append]
          simp [c]
        refine ⟨_, by rw [eh]; rfl, S2 _ _ T1, ?_⟩
        have er : repl (vars.take (i + 1)) x n = repl (vars.take i) x n ++ [(x, n)] := by
          unfold repl
          rw [htk, List.map_append, List.map_singleton, if_pos c]
        rw [er, List.map_append]
        exact listAt_app (listAt_mono L1 T1) (T1 _ _ ez) (Dt.made hw2 (.cons (.str _) (.cons (hu.mono S1) .nil)))
      · have c := of_decide_eq_false c
        have c' : z ≠ x := fun h => c (congrArg V.str h)
        refine ⟨_, rfl, .inl ⟨rfl, _, SqL.of ez⟩, _, rfl, ml, _, _, rfl, rfl, ez, Nat.lt_of_le_of_lt lz2 (by decide), ?_⟩
        have eh : has (vars.take (i + 1)) x = has (vars.take i) x := by
          unfold has
          rw [htk, List.any_append]
          simp [c']
        refine ⟨_, by rw [eh]; rfl, S2 _ _ (fun _ _ h => h), ?_⟩
        have er : repl (vars.take (i + 1)) x n = repl (vars.take i) x n ++ [(z, n0)] := by
          unfold repl
          rw [htk, List.map_append, List.map_singleton, if_neg c']
        rw [er, List.map_append]
        exact listAt_app L1 ez (.tup hq2 (.cons (.str _) (.cons du2 .nil)))
    · rintro σ H1 ⟨x5, rfl, S1, L1⟩
      rw [hl, List.take_length] at *
      refine ⟨fun σ H2 => ∃ b, σ = [some (.ref q), some (.str x), some u, some (.ref ml), some (.bl b), x5] ∧ Same H H2 ∧ ListAt K H2 ml ((withP vars x n).map varD), ?_, ?_⟩
      · refine ⟨_, rfl, _, rfl, ?_⟩
        unfold withP
        cases hh : has vars x with
        | true =>
          refine iteFb rfl ?_
          rw [if_pos rfl]
          exact ⟨_, rfl, S1, L1⟩
        | false =>
          refine iteTb rfl ?_
          rw [if_neg Bool.false_ne_true]
          have er : repl vars x n = vars := by
            unfold repl
            have : ∀ p ∈ vars, (if p.1 = x then (x, n) else p) = p := fun p hp => by
              rw [if_neg]
              intro e
              unfold has at hh
              rw [List.any_eq_false] at hh
              exact hh p hp (decide_eq_true e)
            rw [List.map_congr_left this]
            simp
          rw [er] at L1
          obtain ⟨zs, ez, az⟩ := id L1
          have lz := az.length
          rw [List.length_map] at lz
          refine ⟨_, rfl, .inl ⟨rfl, _, SqL.of ez⟩, _, rfl, _, rfl, sz_2, fun w2 hw2 => ⟨ml, _, _, rfl, rfl, Same.new hw2 _ _ ez, Nat.lt_of_le_of_lt (show zs.length ≤ 1000 by omega) (by decide), ?_⟩⟩
          have T1 := Same.new (o := .tup [.str x, u]) hw2
          refine ⟨_, rfl, fun b o hb => by rw [upd_ne (ne_of_none hb hml)]; exact T1 _ _ (S1 b o hb), ?_⟩
          rw [List.map_append]
          exact listAt_app (listAt_mono L1 T1) (T1 _ _ ez) (Dt.made hw2 (.cons (.str _) (.cons (hu.mono S1) .nil)))
      · rintro _ H2 ⟨b, rfl, S2, L2⟩
        obtain ⟨zs, ez, az⟩ := id L2
        exact ⟨_, rfl, ml, _, rfl, .inl ⟨SqL.of ez, fun t ht => k _ _ (S2.trans (Same.new ht)) (Dt.made ht az)⟩⟩
def spWithout (K : PySem.W.Frag) : Sp := fun vs H Q _ => ∃ (v : V) (vars : Vs) (x : Str), vs = [v, .str x] ∧ Dt K H v (.tuple (vars.map varD)) ∧ vars.length ≤ 1000 ∧ ∀ v' H', Same H H' → Dt K H' v' (.tuple ((delP vars x).map varD)) → Q v' H'
theorem ok_without {f : Addr} {fd : FuncData} (F : Fun K "without_pair" "without_pair" s_without_pair f fd) (T : Txt K mg) : FnG P w K mg base CX0 1 f fd P_without_pair (spWithout K) := by
  refine okG0 F sc_without_pair (fun vs H Q E h => ?_) fun cdv A outer s H vs Q E hr hg h => ?_
  · obtain ⟨v, vars, x, rfl, _⟩ := h
    rfl
  · obtain ⟨v, vars, x, rfl, hv, hvl, k⟩ := h
    refine ⟨_, (pss_one (ps_ret (pe_callTy call_tuple_of (by rfl) T.b_tuple (by decide +kernel) (pa_cons (pe_lc (own := [("pair", 2)]) (g := (gName 2)) rfl sc_without_pair.nd (pi_tup (pv 0)) (blkOk_by (N := N_without_pair) (sc := defScope s_without_pair) (by decide +kernel)) (fun _ _ _ _ _ => (pg_name (i := 2) sc_without_pair.nd rfl (Or.inl rfl))) (fun _ _ _ _ _ => (pts_one (pt_cmpR op_ne (pe_ix (ix_tup : IxR _ (rIxT K)) (pv 2) pe_int (fun _ _ => rfl)) (pv 1) (nomark _)))) (fun _ _ _ _ _ => (pv 2))) pa_nil)))), ?_⟩
    obtain ⟨q, xs, rfl, hq, ha⟩ := hv.tuple_inv
    have hl := ha.length
    rw [List.length_map] at hl
    refine ⟨_, rfl, q, rfl, ⟨_, hq⟩, fun ml hml => ?_⟩
    refine lc_it (walk_tup (xs := xs)) (fun i H1 => ∃ zs, H1 ml = some (.lst zs) ∧ DtAll K H1 zs ((delP (vars.take i) x).map varD) ∧ Same H H1) ⟨[], upd_same, .nil, Same.new hml⟩ (fun _ _ _ h => let ⟨_, _, _, s⟩ := h; Same.tupl s hq) ?_ ?_
    · rintro i y H1 H2 hi ⟨zs, ez, az, S1⟩ ⟨rfl, hy⟩
      obtain ⟨z, n0, q2, u2, hvi, rfl, hq2, du2⟩ := varD_at (DtAll.mono S1 ha) hy
      have htk : vars.take (i + 1) = vars.take i ++ [(z, n0)] := by rw [List.take_add_one, hvi]; rfl
      have lz := az.length
      have lz2 : zs.length ≤ 1000 := by
        rw [List.length_map] at lz
        have : (delP (vars.take i) x).length ≤ (vars.take i).length := List.length_filter_le _ _
        rw [List.length_take] at this
        omega
      have S2 : ∀ o, Same H (upd H2 ml o) := fun o b o' hb => by rw [upd_ne (ne_of_none hb hml)]; exact S1 b o' hb
      refine ⟨rfl, ?_⟩
      refine ⟨_, rfl, q2, _, _, _, rfl, rfl, hq2, at0, _, rfl, rfl, _, rfl, ?_⟩
      by_cases c : z = x
      · refine iteFb (by rw [decide_eq_true (congrArg V.str c)]; rfl) ?_
        have e : delP (vars.take (i + 1)) x = delP (vars.take i) x := by
          unfold delP
          rw [htk, List.filter_append]
          simp [c]
        rw [e]
        exact ⟨zs, ez, az, S1⟩
      · refine iteTb (by rw [decide_eq_false fun h => c (V.str.inj h)]; rfl) ?_
        have e : delP (vars.take (i + 1)) x = delP (vars.take i) x ++ [(z, n0)] := by
          unfold delP
          rw [htk, List.filter_append]
          simp [c]
        rw [e]
        refine ⟨_, rfl, zs, ez, Nat.lt_of_le_of_lt lz2 (by decide), zs ++ [.ref q2], upd_same, ?_, S2 _⟩
        rw [List.map_append]
        have kt := KeepT.upd (K := K) (o := .lst (zs ++ [.ref q2])) ez
        exact DtAll.app (DtAll.keepT kt az) (.cons (Dt.keepT kt (.tup hq2 (.cons (.str _) (.cons du2 .nil)))) .nil)
    · rintro H1 ⟨zs, ez, az, S1⟩
      rw [hl, List.take_length] at az
      exact ⟨ml, _, rfl, .inl ⟨SqL.of ez, fun t ht => k _ _ (S1.trans (Same.new ht)) (Dt.made ht az)⟩⟩
/-! where a scope binds a name -/
def homeAt (scs : List Sc) (x : Str) : Nat → Option Nat
  | 0 => none
  | j + 1 => if j = 0 then none else match scs[j]? with
    | none => none
    | some s => if s.cls = false ∧ x ∈ s.shared then some 0 else if s.cls = false ∧ x ∈ s.own then some j else homeAt scs x j
def home (scs : List Sc) (env : Nat) (x : Str) : Option Nat := match scs[env]? with
  | none => none
  | some s => if x ∈ s.shared then some 0 else if env = 0 ∨ s.cls = true ∨ x ∈ s.own then some env else homeAt scs x env
structure Scs (scs : List Sc) : Prop where
  len : scs.length ≤ 1000
  ar : ∀ (j : Nat) (s : Sc), scs[j]? = some s → s.around = (j : Int) - 1
  mod : ∀ s, scs[0]? = some s → s.own = [] ∧ s.shared = [] ∧ s.cls = false
def spHome (K : PySem.W.Frag) : Sp := fun vs H Q _ => ∃ hp scs env x, vs = [.ref hp, .int (env : Nat), .str x] ∧ ListAt K H hp (scs.map scD) ∧ env < scs.length ∧ Scs scs ∧ Q (.int ((home scs env x).getD 0 : Nat)) H
theorem ok_home {f : Addr} {fd : FuncData} (F : Fun K "_home" "_home" s_home f fd) (T : Txt K mg) : FnG P w K mg base CX0 1 f fd P_home (spHome K) := by
  refine okG0 F sc_home (fun vs H Q E h => ?_) fun cdv A outer s H vs Q E hr hg h => ?_
  · obtain ⟨hp, scs, env, x, rfl, _⟩ := h
    rfl
  · obtain ⟨hp, scs, env, x, rfl, L, henv, hS, k⟩ := h
    refine ⟨_, (pss_cons (ps_asg (pe_ix ix_list (pv 0) (pv 1) (fun _ _ => rfl)) (pg_tup (by rfl) (pgs_cons (pg_name (i := 3) sc_home.nd rfl (Or.inl rfl)) (pgs_cons (pg_name (i := 3) sc_home.nd rfl (Or.inl rfl)) (pgs_cons (pg_name (i := 4) sc_home.nd rfl (Or.inl rfl)) (pgs_cons (pg_name (i := 5) sc_home.nd rfl (Or.inl rfl)) (pgs_cons (pg_name (i := 6) sc_home.nd rfl (Or.inl rfl)) (pgs_cons (pg_name (i := 7) sc_home.nd rfl (Or.inl rfl)) pgs_nil))))))))
  (pss_cons (ps_if (pt_cmpR op_in_seq (pv 2) (pv 5) (by rfl))
   (pss_one (ps_ret (pe_globI T.c_MODULE (by rfl))))
   pss_nil)
  (pss_cons (ps_if (PW.pt (pw_or (pt_val (pv 7)) (pw_or1 (pt_cmpR op_in_seq (pv 2) (pv 4) (by rfl)))))
   (pss_one (ps_ret (pv 1)))
   pss_nil)
  (pss_cons (ps_while PassesOwn.never (pt_up (pt_cmpR op_ge (pv 6) pe_int (nomark _)))
   (pss_cons (ps_set (i := 8) sc_home.nd rfl (Or.inl rfl) (pv 6))
  (pss_cons (ps_asg (pe_ix ix_list (pv 0) (pv 8) (fun _ _ => rfl)) (pg_tup (by rfl) (pgs_cons (pg_name (i := 3) sc_home.nd rfl (Or.inl rfl)) (pgs_cons (pg_name (i := 3) sc_home.nd rfl (Or.inl rfl)) (pgs_cons (pg_name (i := 4) sc_home.nd rfl (Or.inl rfl)) (pgs_cons (pg_name (i := 5) sc_home.nd rfl (Or.inl rfl)) (pgs_cons (pg_name (i := 6) sc_home.nd rfl (Or.inl rfl)) (pgs_cons (pg_name (i := 7) sc_home.nd rfl (Or.inl rfl)) pgs_nil))))))))
  (pss_cons (ps_if (PW.pt (pw_and (pt_not (pt_val (pv 7))) (pw_and1 (pt_cmpR op_in_seq (pv 2) (pv 5) (by rfl)))))
   (pss_one (ps_ret (pe_globI T.c_MODULE (by rfl))))
   pss_nil)
  (pss_one (ps_if (PW.pt (pw_and (pt_not (pt_val (pv 7))) (pw_and1 (pt_cmpR op_in_seq (pv 2) (pv 4) (by rfl)))))
   (pss_one (ps_ret (pv 8)))
   pss_nil))))))
  (pss_one (ps_ret (pe_globI T.c_MODULE (by rfl)))))))), ?_⟩
    have hsc : scs[env]? = some scs[env] := List.getElem?_eq_getElem henv
    have hr1 := hS.ar env _ hsc
    generalize scs[env] = s1 at hsc hr1
    obtain ⟨zs, ez, az⟩ := id L
    obtain ⟨y, hy, dy⟩ := az.get (show (scs.map scD)[env]? = some (scD s1) by rw [List.getElem?_map, hsc]; rfl)
    obtain ⟨q, a1, a2, a3, rfl, hq, d1, g2, g3⟩ := sc_inv dy
    have hh : home scs env x = if x ∈ s1.shared then some 0 else if env = 0 ∨ s1.cls = true ∨ x ∈ s1.own then some env else homeAt scs x env := by
      unfold home
      rw [hsc]
    refine ⟨_, rfl, _, rfl, hp, _, _, _, rfl, rfl, SqL.of ez, atI_nat hy, q, _, rfl, hq, rfl, _, _, rfl, _, _, rfl, _, _, rfl, _, _, rfl, _, _, rfl, _, _, rfl, rfl, ?_⟩
    refine ⟨_, rfl, _, rfl, a3, _, rfl, .inr g3, rfl, flat_str _, _, rfl, ?_⟩
    by_cases hm : x ∈ s1.shared
    · refine iteTb ((inV_str _).trans (decide_eq_true hm)) ?_
      rw [hh, if_pos hm] at k
      exact k
    refine iteFb ((inV_str _).trans (decide_eq_false hm)) ?_
    rw [hh, if_neg hm] at k
    refine ⟨_, rfl, _, rfl, ?_⟩
    by_cases hc : s1.cls = true
    · refine iteTb hc (iteTb rfl ?_)
      rw [if_pos (.inr (.inl hc))] at k
      exact ⟨_, rfl, k⟩
    refine iteFb (by simpa using hc) ?_
    refine ⟨_, rfl, _, rfl, a2, _, rfl, .inr g2, rfl, flat_str _, _, rfl, ?_⟩
    by_cases ho : x ∈ s1.own
    · refine iteTb ((inV_str _).trans (decide_eq_true ho)) ?_
      rw [if_pos (.inr (.inr ho))] at k
      exact ⟨_, rfl, k⟩
    refine iteFb ((inV_str _).trans (decide_eq_false ho)) ?_
    have hk2 : Q (.int ((homeAt scs x env).getD 0 : Nat)) H := by
      by_cases h0 : env = 0
      · subst h0
        rw [if_pos (.inl rfl)] at k
        exact k
      · rw [if_neg (by rintro (h | h | h) <;> contradiction)] at k
        exact k
    clear k
    refine while_up (fun σ H1 => ∃ (j : Nat) (x3 x4 x5 x7 x8 : Option V), σ = [some (.ref hp), some (.int (env : Nat)), some (.str x), x3, x4, x5, some (.int ((j : Int) - 1)), x7, x8] ∧ j ≤ env ∧ homeAt scs x env = homeAt scs x j ∧ H1 = H)
      (fun (σ : L2.St) (_ : Hp) => match σ[6]? with | some (some (V.int j)) => (j + 1).toNat | _ => 0) ⟨env, _, _, _, _, _, by rw [hr1]; rfl, Nat.le_refl _, rfl, rfl⟩ ?_
    rintro σ H1 ⟨j, x3, x4, x5, x7, x8, rfl, hj, hlk, rfl⟩
    refine ⟨_, rfl, _, _, rfl, rfl, _, rfl, ?_⟩
    refine ite3 (fun c => ?_) fun c => ?_
    · have c := of_decide_eq_true c
      obtain ⟨i, rfl⟩ : ∃ i, j = i + 1 := ⟨j - 1, by omega⟩
      have hi : i < scs.length := by omega
      have hsc : scs[i]? = some scs[i] := List.getElem?_eq_getElem hi
      have hr1 := hS.ar i _ hsc
      generalize scs[i] = s2 at hsc hr1
      obtain ⟨y, hy, dy⟩ := az.get (show (scs.map scD)[i]? = some (scD s2) by rw [List.getElem?_map, hsc]; rfl)
      obtain ⟨q, a1, a2, a3, rfl, hq, d1, g2, g3⟩ := sc_inv dy
      have hat : atI zs (((i + 1 : Nat) : Int) - 1) = some (.ref q) := by rw [show ((i + 1 : Nat) : Int) - 1 = (i : Int) by omega]; exact atI_nat hy
      refine ⟨_, rfl, ?_⟩
      refine ⟨_, rfl, _, rfl, hp, _, _, _, rfl, rfl, SqL.of ez, hat, q, _, rfl, hq, rfl, _, _, rfl, _, _, rfl, _, _, rfl, _, _, rfl, _, _, rfl, _, _, rfl, rfl, ?_⟩
      have hstep : (i ≠ 0 → homeAt scs x (i + 1) = if s2.cls = false ∧ x ∈ s2.shared then some 0 else if s2.cls = false ∧ x ∈ s2.own then some i else homeAt scs x i) ∧ (i = 0 → homeAt scs x (i + 1) = none ∧ s2.own = [] ∧ s2.shared = [] ∧ s2.cls = false) := by
        refine ⟨fun h => ?_, fun h => ?_⟩
        · show (if i = 0 then none else match scs[i]? with | none => none | some s => _) = _
          rw [if_neg h, hsc]
        · subst h
          exact ⟨rfl, hS.mod _ hsc⟩
      have ei : ((i + 1 : Nat) : Int) - 1 = (i : Int) := by omega
      cases hcls : s2.cls with
      | true =>
        refine ⟨_, rfl, _, rfl, iteFb rfl (iteFb rfl ?_)⟩
        refine ⟨_, rfl, _, rfl, iteFb rfl (iteFb rfl ?_)⟩
        have h0 : i ≠ 0 := fun h => by have := (hstep.2 h).2.2.2; rw [hcls] at this; cases this
        have e := hstep.1 h0
        rw [hcls, if_neg (by simp), if_neg (by simp)] at e
        refine ⟨⟨i, _, _, _, _, _, by rw [hr1]; rfl, by omega, hlk.trans e, rfl⟩, ?_⟩
        show (s2.around + 1).toNat < (((i + 1 : Nat) : Int) - 1 + 1).toNat
        omega
      | false =>
        refine ⟨_, rfl, _, rfl, iteTb rfl ?_⟩
        refine ⟨_, rfl, _, rfl, a3, _, rfl, .inr g3, rfl, flat_str _, _, rfl, ?_⟩
        by_cases hm2 : x ∈ s2.shared
        · refine iteTb ((inV_str _).trans (decide_eq_true hm2)) ?_
          have h0 : i ≠ 0 := fun h => by have := (hstep.2 h).2.2.1; rw [this] at hm2; cases hm2
          have e := hstep.1 h0
          rw [if_pos ⟨hcls, hm2⟩] at e
          rw [hlk, e] at hk2
          exact hk2
        refine iteFb ((inV_str _).trans (decide_eq_false hm2)) ?_
        refine ⟨_, rfl, _, rfl, iteTb rfl ?_⟩
        refine ⟨_, rfl, _, rfl, a2, _, rfl, .inr g2, rfl, flat_str _, _, rfl, ?_⟩
        by_cases ho2 : x ∈ s2.own
        · refine iteTb ((inV_str _).trans (decide_eq_true ho2)) ?_
          have h0 : i ≠ 0 := fun h => by have := (hstep.2 h).2.1; rw [this] at ho2; cases ho2
          have e := hstep.1 h0
          rw [if_neg fun h => hm2 h.2, if_pos ⟨hcls, ho2⟩] at e
          rw [hlk, e] at hk2
          refine ⟨_, rfl, ?_⟩
          rw [ei]
          exact hk2
        · refine iteFb ((inV_str _).trans (decide_eq_false ho2)) ?_
          have e : homeAt scs x (i + 1) = homeAt scs x i := by
            by_cases h0 : i = 0
            · subst h0
              exact (hstep.2 rfl).1
            · rw [hstep.1 h0, if_neg fun h => hm2 h.2, if_neg fun h => ho2 h.2]
          refine ⟨⟨i, _, _, _, _, _, by rw [hr1]; rfl, by omega, hlk.trans e, rfl⟩, ?_⟩
          show (s2.around + 1).toNat < (((i + 1 : Nat) : Int) - 1 + 1).toNat
          omega
    · have c := of_decide_eq_false c
      obtain rfl : j = 0 := by omega
      rw [hlk] at hk2
      exact hk2
/-! putting variables -/
theorem dtAll_strs {H : Hp} : ∀ ys : List Str, DtAll K H (ys.map V.str) (ys.map PyData.str)
  | [] => .nil
  | y :: r => .cons (.str y) (dtAll_strs r)
theorem dtAll_set {H : Hp} : ∀ {xs : List V} {ds : List PyData} {k : Nat} {v : V} {d : PyData}, DtAll K H xs ds → Dt K H v d → DtAll K H (xs.set k v) (ds.set k d)
  | _, _, _, _, _, .nil, _ => .nil
  | _, _, 0, _, _, .cons _ t, h => .cons h t
  | _, _, _ + 1, _, _, .cons a t, h => .cons a (dtAll_set t h)
theorem ixN_nat {n k : Nat} (h : k < n) : ixN n ((k : Nat) : Int) = some k := by
  unfold ixN
  rw [if_pos (by omega), if_pos (by omega), Int.toNat_natCast]

def setV (scs : List Sc) (k : Nat) (vs : Vs) : List Sc := match scs[k]? with
  | none => scs
  | some s => scs.set k { s with vars := vs }
def spPut (K : PySem.W.Frag) : Sp := fun vs H Q _ => ∃ hp scs k v vars, vs = [.ref hp, .int (k : Nat), v] ∧ ListAt K H hp (scs.map scD) ∧ k < scs.length ∧ Dt K H v (.tuple (List.map varD vars)) ∧ ∀ H', ListAt K H' hp ((setV scs k vars).map scD) → Keep hp H H' → Q .non H'
theorem ok_put {f : Addr} {fd : FuncData} (F : Fun K "_put_variables" "_put_variables" s_put_variables f fd) (T : Txt K mg) : FnG P w K mg base CX0 1 f fd P_put_variables (spPut K) := by
  refine okG0 F sc_put_variables (fun vs H Q E h => ?_) fun cdv A outer s H vs Q E hr hg h => ?_
  · obtain ⟨hp, scs, kk, v, vars, rfl, _⟩ := h
    rfl
  · obtain ⟨hp, scs, kk, v, vars, rfl, L, hk, dv, k⟩ := h
    refine ⟨_, (pss_cons (ps_asg (pe_ix ix_list (pv 0) (pv 1) (fun _ _ => rfl)) (pg_tup (by rfl) (pgs_cons (pg_name (i := 3) sc_put_variables.nd rfl (Or.inl rfl)) (pgs_cons (pg_name (i := 3) sc_put_variables.nd rfl (Or.inl rfl)) (pgs_cons (pg_name (i := 4) sc_put_variables.nd rfl (Or.inl rfl)) (pgs_cons (pg_name (i := 5) sc_put_variables.nd rfl (Or.inl rfl)) (pgs_cons (pg_name (i := 6) sc_put_variables.nd rfl (Or.inl rfl)) (pgs_cons (pg_name (i := 7) sc_put_variables.nd rfl (Or.inl rfl)) pgs_nil))))))))
  (pss_one (ps_asg (pe_tup (pa_cons pe_str (pa_cons (pv 2) (pa_cons (pv 4) (pa_cons (pv 5) (pa_cons (pv 6) (pa_cons (pv 7) pa_nil))))))) (pg_sub (pv 0) (pv 1) set_list)))), ?_⟩
    have hsc : scs[kk]? = some scs[kk] := List.getElem?_eq_getElem hk
    generalize scs[kk] = s1 at hsc
    obtain ⟨zs, ez, az⟩ := id L
    obtain ⟨y, hy, dy⟩ := az.get (show (scs.map scD)[kk]? = some (scD s1) by rw [List.getElem?_map, hsc]; rfl)
    obtain ⟨q, a1, a2, a3, rfl, hq, d1, g2, g3⟩ := sc_inv dy
    refine ⟨_, rfl, _, rfl, hp, _, _, _, rfl, rfl, SqL.of ez, atI_nat hy, q, _, rfl, hq, rfl, _, _, rfl, _, _, rfl, _, _, rfl, _, _, rfl, _, _, rfl, _, _, rfl, rfl, ?_⟩
    refine ⟨_, rfl, _, rfl, _, rfl, _, rfl, _, rfl, (show 6 ≤ sizeLine by decide), fun u hu => ?_⟩
    have S1 := Same.new (o := .tup [.str "scope", v, .ref a2, .ref a3, .int s1.around, .bl s1.cls]) hu
    have ez1 := S1 _ _ ez
    have lz := az.length
    rw [List.length_map] at lz
    have hix : ixN zs.length ((kk : Nat) : Int) = some kk := ixN_nat (by omega)
    refine ⟨_, rfl, _, rfl, hp, _, _, kk, rfl, rfl, ez1, hix, ?_⟩
    refine k _ ⟨_, upd_same, ?_⟩ fun b o hb ne => by rw [upd_ne ne]; exact S1 _ _ hb
    have du : Dt K _ (.ref u) (scD { s1 with vars := vars }) := Dt.made hu (.cons (.str _) (.cons dv (.cons (.tup g2 (dtAll_strs _)) (.cons (.tup g3 (dtAll_strs _)) (.cons (.int _) (.cons (.bl _) .nil))))))
    have e : setV scs kk vars = scs.set kk { s1 with vars := vars } := by
      unfold setV
      rw [hsc]
    rw [e, List.map_set]
    exact dtAll_set (DtAll.keepT (KeepT.upd ez1) (DtAll.mono S1 az)) (Dt.keepT (KeepT.upd ez1) du)
theorem setV_len {scs : List Sc} {k : Nat} {vs : Vs} : (setV scs k vs).length = scs.length := by
  unfold setV
  split
  · rfl
  · rw [List.length_set]
theorem setV_at {scs : List Sc} {k : Nat} {vs : Vs} {s : Sc} (h : scs[k]? = some s) : setV scs k vs = scs.set k { s with vars := vs } := by
  unfold setV
  rw [h]
def varsAt (scs : List Sc) (k : Nat) : Vs := match scs[k]? with
  | some s => s.vars
  | none => []
theorem homeAt_lt {scs : List Sc} {x : Str} : ∀ {j h : Nat}, homeAt scs x j = some h → j ≤ scs.length → h < scs.length
  | 0, h, e, _ => by cases e
  | j + 1, h, e, hj => by
    have e : (if j = 0 then none else match scs[j]? with | none => none | some s => if s.cls = false ∧ x ∈ s.shared then some 0 else if s.cls = false ∧ x ∈ s.own then some j else homeAt scs x j) = some h := e
    split at e
    · cases e
    · split at e
      · cases e
      · split at e
        · cases e; omega
        · split at e
          · cases e; omega
          · exact homeAt_lt e (by omega)
theorem home_lt {scs : List Sc} {env : Nat} {x : Str} (h : env < scs.length) : (home scs env x).getD 0 < scs.length := by
  cases e : home scs env x with
  | none => show 0 < _; omega
  | some k =>
    show k < _
    unfold home at e
    split at e
    · cases e
    · split at e
      · cases e; omega
      · split at e
        · cases e; exact h
        · exact homeAt_lt e (by omega)
def spBind (K : PySem.W.Frag) : Sp := fun vs H Q _ => ∃ hp scs env x n u, vs = [.ref hp, .int (env : Nat), .str x, u] ∧ ListAt K H hp (scs.map scD) ∧ env < scs.length ∧ Scs scs ∧ (∀ s ∈ scs, s.vars.length ≤ 900) ∧ Dt K H u (valD n) ∧
  ∀ H', ListAt K H' hp ((setV scs ((home scs env x).getD 0) (withP (varsAt scs ((home scs env x).getD 0)) x n)).map scD) → Keep hp H H' → Q .non H'
theorem ok_bind {f : Addr} {fd : FuncData} (F : Fun K "bind_name" "bind_name" s_bind_name f fd) (T : Txt K mg) (U_home : Use P w K mg base CX0 "_home" 1 P_home (spHome K)) (U_put_variables : Use P w K mg base CX0 "_put_variables" 1 P_put_variables (spPut K)) (U_with_pair : Use P w K mg base CX0 "with_pair" 1 P_with_pair (spWith K)) :
    FnG P w K mg base CX0 2 f fd P_bind_name (spBind K) := by
  refine okG0 F sc_bind_name (fun vs H Q E h => ?_) fun cdv A outer s H vs Q E hr hg h => ?_
  · obtain ⟨hp, scs, env, x, n, u, rfl, _⟩ := h
    rfl
  · obtain ⟨hp, scs, env, x, n, u, rfl, L, henv, hS, hvl, du, k⟩ := h
    refine ⟨_, (pss_cons (ps_set (i := 4) sc_bind_name.nd rfl (Or.inl rfl) (pe_use U_home (hr.mono (by decide)) hg rfl (pa_cons (pv 0) (pa_cons (pv 1) (pa_cons (pv 2) pa_nil)))))
  (pss_one (ps_expr (pe_use U_put_variables (hr.mono (by decide)) hg rfl (pa_cons (pv 0) (pa_cons (pv 4) (pa_cons (pe_use U_with_pair (hr.mono (by decide)) hg rfl (pa_cons (pe_ix ix_tup (pe_ix ix_list (pv 0) (pv 4) (fun _ _ => rfl)) pe_int (fun _ _ => rfl)) (pa_cons (pv 2) (pa_cons (pv 3) pa_nil)))) pa_nil))))))), ?_⟩
    refine ⟨_, rfl, _, rfl, _, rfl, hp, scs, env, x, rfl, L, henv, hS, ?_⟩
    have hlt := home_lt (x := x) henv
    generalize (home scs env x).getD 0 = h at hlt k
    have hsc : scs[h]? = some scs[h] := List.getElem?_eq_getElem hlt
    have hv := hvl _ (List.getElem_mem hlt)
    generalize scs[h] = s1 at hsc hv
    obtain ⟨zs, ez, az⟩ := id L
    obtain ⟨y, hy, dy⟩ := az.get (show (scs.map scD)[h]? = some (scD s1) by rw [List.getElem?_map, hsc]; rfl)
    obtain ⟨q, a1, a2, a3, rfl, hq, d1, g2, g3⟩ := sc_inv dy
    have ev : varsAt scs h = s1.vars := by unfold varsAt; rw [hsc]
    rw [ev] at k
    refine ⟨_, rfl, _, rfl, _, rfl, _, rfl, hp, _, _, _, rfl, rfl, SqL.of ez, atI_nat hy, q, _, _, _, rfl, rfl, hq, at1, _, rfl, _, rfl, .ref a1, u, s1.vars, x, n, rfl, d1, du, by omega, fun v1 H1 S1 dv1 => ?_⟩
    exact ⟨hp, scs, h, v1, _, rfl, listAt_mono L S1, hlt, dv1, fun H' L' K' => k H' L' fun b o hb ne => K' _ _ (S1 b o hb) ne⟩
def doneD : PyData := .tuple [.str "ok", .tuple [.str "none"]]
def spUnbind (K : PySem.W.Frag) : Sp := fun vs H Q _ => ∃ hp scs env x, vs = [.ref hp, .int (env : Nat), .str x] ∧ x.length ≤ 1000 ∧ ListAt K H hp (scs.map scD) ∧ env < scs.length ∧ Scs scs ∧ (∀ s ∈ scs, s.vars.length ≤ 900) ∧
  (find (varsAt scs ((home scs env x).getD 0)) x = none → ∀ v H', Same H H' → Dt K H' v (outD x none) → Q v H') ∧
  (find (varsAt scs ((home scs env x).getD 0)) x ≠ none → ∀ v H', ListAt K H' hp ((setV scs ((home scs env x).getD 0) (delP (varsAt scs ((home scs env x).getD 0)) x)).map scD) → Keep hp H H' → Dt K H' v doneD → Q v H')
theorem ok_unbind {f : Addr} {fd : FuncData} (F : Fun K "unbind_name" "unbind_name" s_unbind_name f fd) (T : Txt K mg) (U_home : Use P w K mg base CX0 "_home" 1 P_home (spHome K)) (U_paired : Use P w K mg base CX0 "paired" 1 P_paired (spPaired K)) (U_not_bound : Use P w K mg base CX0 "_not_bound" 1 P_not_bound (spNotBound K)) (U_put_variables : Use P w K mg base CX0 "_put_variables" 1 P_put_variables (spPut K)) (U_without_pair : Use P w K mg base CX0 "without_pair" 1 P_without_pair (spWithout K)) :
    FnG P w K mg base CX0 2 f fd P_unbind_name (spUnbind K) := by
  refine okG0 F sc_unbind_name (fun vs H Q E h => ?_) fun cdv A outer s H vs Q E hr hg h => ?_
  · obtain ⟨hp, scs, env, x, rfl, _⟩ := h
    rfl
  · obtain ⟨hp, scs, env, x, rfl, hx, L, henv, hS, hvl, k1, k2⟩ := h
    obtain ⟨aDN, bDN, gDN, t1, t2⟩ := T.c_DONE
    refine ⟨_, (pss_cons (ps_set (i := 3) sc_unbind_name.nd rfl (Or.inl rfl) (pe_use U_home (hr.mono (by decide)) hg rfl (pa_cons (pv 0) (pa_cons (pv 1) (pa_cons (pv 2) pa_nil)))))
  (pss_cons (ps_if (pt_cmpR (op_eqD hr.units) (pe_use U_paired (hr.mono (by decide)) hg rfl (pa_cons (pe_ix ix_tup (pe_ix ix_list (pv 0) (pv 3) (fun _ _ => rfl)) pe_int (fun _ _ => rfl)) (pa_cons (pv 2) pa_nil))) (pe_tup pa_nil) (nomark _))
   (pss_one (ps_ret (pe_use U_not_bound (hr.mono (by decide)) hg rfl (pa_cons (pv 2) pa_nil))))
   pss_nil)
  (pss_cons (ps_expr (pe_use U_put_variables (hr.mono (by decide)) hg rfl (pa_cons (pv 0) (pa_cons (pv 3) (pa_cons (pe_use U_without_pair (hr.mono (by decide)) hg rfl (pa_cons (pe_ix ix_tup (pe_ix ix_list (pv 0) (pv 3) (fun _ _ => rfl)) pe_int (fun _ _ => rfl)) (pa_cons (pv 2) pa_nil))) pa_nil)))))
  (pss_one (ps_ret (pe_glob (v := .ref aDN) (by rfl) gDN rfl)))))), ?_⟩
    refine ⟨_, rfl, _, rfl, _, rfl, hp, scs, env, x, rfl, L, henv, hS, ?_⟩
    have hlt := home_lt (x := x) henv
    generalize (home scs env x).getD 0 = h at hlt k1 k2
    have hsc : scs[h]? = some scs[h] := List.getElem?_eq_getElem hlt
    have hv := hvl _ (List.getElem_mem hlt)
    generalize scs[h] = s1 at hsc hv
    obtain ⟨zs, ez, az⟩ := id L
    obtain ⟨y, hy, dy⟩ := az.get (show (scs.map scD)[h]? = some (scD s1) by rw [List.getElem?_map, hsc]; rfl)
    obtain ⟨q, a1, a2, a3, rfl, hq, d1, g2, g3⟩ := sc_inv dy
    have ev : varsAt scs h = s1.vars := by unfold varsAt; rw [hsc]
    rw [ev] at k1 k2
    refine ⟨_, rfl, _, rfl, hp, _, _, _, rfl, rfl, SqL.of ez, atI_nat hy, q, _, _, _, rfl, rfl, hq, at1, _, rfl, .ref a1, s1.vars, x, rfl, d1, fun v1 H1 S1 dv1 => ?_⟩
    refine ⟨sz_0, fun u hu => ?_⟩
    have S2 := Same.new (o := .tup []) hu
    have S3 := S1.trans S2
    refine ⟨_, _, (dv1.mono S2).dp, (Dt.made hu .nil).dp, shp_pair _, rfl, ?_⟩
    rw [eqv_pair]
    cases hf : find s1.vars x with
    | none =>
      refine ⟨_, rfl, iteTb rfl ?_⟩
      exact ⟨_, rfl, x, rfl, hx, fun v' H' S4 d => k1 hf _ _ (S3.trans S4) d⟩
    | some n =>
      refine ⟨_, rfl, iteFb rfl ?_⟩
      have ez2 := S3 _ _ ez
      refine ⟨_, rfl, _, rfl, _, rfl, _, rfl, hp, _, _, _, rfl, rfl, SqL.of ez2, atI_nat hy, q, _, _, _, rfl, rfl, Same.tupl S3 hq, at1, _, rfl, .ref a1, s1.vars, x, rfl, d1.mono S3, by omega, fun v2 H2 S4 dv2 => ?_⟩
      refine ⟨hp, scs, h, v2, _, rfl, listAt_mono L (S3.trans S4), hlt, dv2, fun H' L' K' => ?_⟩
      refine k2 (by rw [hf]; simp) _ _ L' (fun b o hb ne => K' _ _ ((S3.trans S4) b o hb) ne) ?_
      exact .tup (t1.sq _) (.cons (.str _) (.cons (.tup (t2.sq _) (.cons (.str _) .nil)) .nil))
/-! the law -/
structure NameOk (x : Str) : Prop where
  len : x.length ≤ 10
  ok : PyData.canLay0 (.str x) = true
def spScope (K : PySem.W.Frag) : Sp := fun vs H Q _ => ∃ (p dl np : Addr) (ns : List Str) (k : Nat), vs = [.ref p, .ref np, .int (k : Nat)] ∧ BoxAt H p dl ∧ H np = some (.lst (ns.map V.str)) ∧ ns.length = 5 ∧ (∀ x ∈ ns, NameOk x) ∧ k ≤ 100 ∧ np ≠ p ∧
  ∀ v s H', s.vars = [] → s.around = (k : Int) - 1 → (∀ x ∈ s.own, NameOk x) → (∀ x ∈ s.shared, NameOk x) → (k = 0 → s.own = [] ∧ s.shared = [] ∧ s.cls = false) → Dt K H' v (scD s) → BoxAt H' p dl → Keep p H H' → Q v H'
structure Ht (H0 H : Hp) (p dl np : Addr) (ns : List Str) (ll gl : Addr) (k : Nat) (own shared : List Str) : Prop where
  box : BoxAt H p dl
  nm : H np = some (.lst (ns.map V.str))
  ow : H ll = some (.lst (own.map V.str))
  sh : H gl = some (.lst (shared.map V.str))
  kp : Keep p H0 H
  oo : ∀ x ∈ own, NameOk x
  os : ∀ x ∈ shared, NameOk x
  z : k = 0 → own = [] ∧ shared = []
structure Dl (H0 : Hp) (p dl np ll gl : Addr) : Prop where
  l0 : H0 ll = none
  g0 : H0 gl = none
  lp : ll ≠ p
  ld : ll ≠ dl
  ln : ll ≠ np
  gp : gl ≠ p
  gd : gl ≠ dl
  gn : gl ≠ np
  np_ : np ≠ p
  lg : ll ≠ gl
section
variable {H0 H H' : Hp} {p dl np ll gl : Addr} {ns : List Str} {k : Nat} {own shared : List Str}
theorem Ht.draw (X : Ht H0 H p dl np ns ll gl k own shared) (D : Dl H0 p dl np ll gl) (B : BoxAt H' p dl) (e : Keep p H H') : Ht H0 H' p dl np ns ll gl k own shared :=
  ⟨B, e _ _ X.nm D.np_, e _ _ X.ow D.lp, e _ _ X.sh D.gp, X.kp.trans e, X.oo, X.os, X.z⟩
theorem Ht.same (X : Ht H0 H p dl np ns ll gl k own shared) (e : Same H H') : Ht H0 H' p dl np ns ll gl k own shared :=
  ⟨X.box.same e, e _ _ X.nm, e _ _ X.ow, e _ _ X.sh, X.kp.trans (Same.keep e), X.oo, X.os, X.z⟩
theorem Ht.own_ (X : Ht H0 H p dl np ns ll gl k own shared) (D : Dl H0 p dl np ll gl) {x : Str} (hx : NameOk x) (hk : k ≠ 0) : Ht H0 (upd H ll (.lst (own.map V.str ++ [.str x]))) p dl np ns ll gl k (own ++ [x]) shared := by
  refine ⟨X.box.upd D.lp D.ld, by rw [upd_ne (Ne.symm D.ln)]; exact X.nm, by rw [upd_same, List.map_append]; rfl, by rw [upd_ne (Ne.symm D.lg)]; exact X.sh, fun b o hb hne => ?_, fun y hy => ?_, X.os, fun h => absurd h hk⟩
  · rw [upd_ne (ne_of_none hb D.l0)]; exact X.kp b o hb hne
  · rcases List.mem_append.mp hy with hy | hy
    · exact X.oo y hy
    · rw [List.mem_singleton.mp hy]; exact hx
theorem Ht.shr_ (X : Ht H0 H p dl np ns ll gl k own shared) (D : Dl H0 p dl np ll gl) {x : Str} (hx : NameOk x) (hk : k ≠ 0) : Ht H0 (upd H gl (.lst (shared.map V.str ++ [.str x]))) p dl np ns ll gl k own (shared ++ [x]) := by
  refine ⟨X.box.upd D.gp D.gd, by rw [upd_ne (Ne.symm D.gn)]; exact X.nm, by rw [upd_ne D.lg]; exact X.ow, by rw [upd_same, List.map_append]; rfl, fun b o hb hne => ?_, X.oo, fun y hy => ?_, fun h => absurd h hk⟩
  · rw [upd_ne (ne_of_none hb D.g0)]; exact X.kp b o hb hne
  · rcases List.mem_append.mp hy with hy | hy
    · exact X.os y hy
    · rw [List.mem_singleton.mp hy]; exact hx
end
theorem none_of_same {H H' : Hp} {a : Addr} (S : Same H H') (h : H' a = none) : H a = none := by
  cases e : H a with
  | none => rfl
  | some o => rw [S _ _ e] at h; cases h
theorem ok_scope {f : Addr} {fd : FuncData} (F : Fun K "_law_scope" "_law_scope" s_law_scope f fd) (T : Txt K mg) (U_law_draw : Use P w K mg base CX0 "_law_draw" 1 P_law_draw (spDraw K)) : FnG P w K mg base CX0 2 f fd P_law_scope (spScope K) := by
  refine okG0 F sc_law_scope (fun vs H Q E h => ?_) fun cdv A outer s H vs Q E hr hg h => ?_
  · obtain ⟨p, dl, np, ns, kk, rfl, _⟩ := h
    rfl
  · obtain ⟨p, dl, np, ns, kk, rfl, B, en, hnl, hno, hk, hnp, k⟩ := h
    refine ⟨_, (pss_cons (ps_set (i := 3) sc_law_scope.nd rfl (Or.inl rfl) (pe_lst pa_nil))
  (pss_cons (ps_set (i := 4) sc_law_scope.nd rfl (Or.inl rfl) (pe_lst pa_nil))
  (pss_cons (ps_for PassesOwn.never rfl (pi_range1 (by rfl) T.b_range (pa_cons pe_int pa_nil)) (pg_name (i := 5) sc_law_scope.nd rfl (Or.inl rfl))
   (pss_cons (ps_set (i := 6) sc_law_scope.nd rfl (Or.inl rfl) (pe_use U_law_draw (hr.mono (by decide)) hg rfl (pa_cons (pv 0) (pa_cons pe_int pa_nil))))
  (C8.pss_cut (ps_if (PW.pt (pw_and (pt_cmpR op_gt (pv 2) pe_int (nomark _)) (pw_and1 (pt_cmpR op_eq (pv 6) pe_int (nomark _)))))
   (pss_one (ps_expr (pe_bm PySem.F.plainAttrs_list PySem.F.slot_list_append PySem.F.type_list_append mt_append (pv 3) (pa_cons (pe_ix ix_list (pv 1) (pv 5) (fun _ _ => rfl)) pa_nil))))
   pss_nil)
  (pss_one (ps_if (PW.pt (pw_and (pt_cmpR op_gt (pv 2) pe_int (nomark _)) (pw_and1 (pt_cmpR op_eq (pv 6) pe_int (nomark _)))))
   (pss_one (ps_expr (pe_bm PySem.F.plainAttrs_list PySem.F.slot_list_append PySem.F.type_list_append mt_append (pv 4) (pa_cons (pe_ix ix_list (pv 1) (pv 5) (fun _ _ => rfl)) pa_nil))))
   pss_nil)))))
  (pss_cons (ps_set (i := 7) sc_law_scope.nd rfl (Or.inl rfl) (pe_and (pe_cmpR op_gt (pv 2) pe_int (nomark _)) (pe_one (pe_cmpR op_eq (pe_use U_law_draw (hr.mono (by decide)) hg rfl (pa_cons (pv 0) (pa_cons pe_int pa_nil))) pe_int (nomark _)))))
  (pss_one (ps_ret (pe_tup (pa_cons pe_str (pa_cons (pe_tup pa_nil) (pa_cons (pe_callTy call_tuple_of (by rfl) T.b_tuple (by decide +kernel) (pa_cons (pv 3) pa_nil)) (pa_cons (pe_callTy call_tuple_of (by rfl) T.b_tuple (by decide +kernel) (pa_cons (pv 4) pa_nil)) (pa_cons (pe_op op_sub (pv 2) pe_int) (pa_cons (pv 7) pa_nil))))))))))))), ?_⟩
    refine ⟨sz_0, fun ll hll => ⟨sz_0, fun gl hgl => ?_⟩⟩
    have S1 := Same.new (o := .lst []) hll
    have S2 := Same.new (o := .lst []) hgl
    obtain ⟨bx, hbx⟩ := B.at_
    obtain ⟨bd, hbd⟩ := B.dg
    have e1 : (upd H ll (.lst [])) ll = some (.lst []) := upd_same
    have D : Dl H p dl np ll gl := ⟨hll, none_of_same S1 hgl, Ne.symm (ne_of_none hbx hll), Ne.symm (ne_of_none hbd hll), Ne.symm (ne_of_none en hll),
      Ne.symm (ne_of_none (S1 _ _ hbx) hgl), Ne.symm (ne_of_none (S1 _ _ hbd) hgl), Ne.symm (ne_of_none (S1 _ _ en) hgl), hnp, ne_of_none e1 hgl⟩
    have X0 : Ht H (upd (upd H ll (.lst [])) gl (.lst [])) p dl np ns ll gl kk [] [] := ⟨(B.same S1).same S2, S2 _ _ (S1 _ _ en), S2 _ _ e1, upd_same, Same.keep (S1.trans S2), by simp, by simp, fun _ => ⟨rfl, rfl⟩⟩
    generalize upd (upd H ll (.lst [])) gl (.lst []) = H3 at X0
    refine ⟨_, rfl, by decide, by decide, ?_⟩
    refine for_range (lo := 0) (n := 5) (fun i σ H1 => ∃ (own shared : List Str) (x5 x6 : Option V), σ = [some (.ref p), some (.ref np), some (.int (kk : Nat)), some (.ref ll), some (.ref gl), x5, x6, none] ∧
      Ht H H1 p dl np ns ll gl kk own shared ∧ own.length ≤ i ∧ shared.length ≤ i) ⟨[], [], none, none, rfl, X0, by simp, by simp⟩ ?_ ?_
    · rintro i σ H1 hi ⟨own, shared, x5, x6, rfl, X1, l2, l3⟩
      refine ⟨_, rfl, p, dl, 3, rfl, X1.box, by decide, fun r H2 r0 r1 B2 K2 => ?_⟩
      have X2 := X1.draw D B2 K2
      have hx : ns[i]? = some ns[i] := List.getElem?_eq_getElem (by omega)
      have hxo := hno _ (List.getElem_mem (show i < ns.length by omega))
      generalize ns[i] = x at hx hxo
      have hat : atI (ns.map V.str) (0 + (i : Int)) = some (.str x) := by rw [Int.zero_add]; exact atI_nat (by rw [List.getElem?_map, hx]; rfl)
      refine ⟨fun σ H5 => ∃ (own shared : List Str), σ = [some (.ref p), some (.ref np), some (.int (kk : Nat)), some (.ref ll), some (.ref gl), some (.int (0 + (i : Int))), some (.int r), none] ∧
        Ht H H5 p dl np ns ll gl kk own shared ∧ own.length ≤ i + 1 ∧ shared.length ≤ i, ?_, ?_⟩
      · refine ⟨_, rfl, _, _, rfl, rfl, _, rfl, ?_⟩
        refine ite3 (fun c => ?_) fun _ => iteFb rfl ⟨own, shared, rfl, X2, by omega, l3⟩
        have c := of_decide_eq_true c
        refine ⟨_, rfl, rfl, _, rfl, ?_⟩
        refine ite3 (fun _ => ?_) fun _ => ⟨own, shared, rfl, X2, by omega, l3⟩
        refine ⟨_, rfl, .inl ⟨rfl, _, SqL.of X2.ow⟩, _, rfl, _, rfl, np, _, _, _, rfl, rfl, SqL.of X2.nm, hat, ll, _, _, rfl, rfl, X2.ow, by rw [List.length_map]; exact Nat.lt_of_le_of_lt (show own.length ≤ 10 by omega) (by decide), ?_⟩
        exact ⟨own ++ [x], shared, rfl, X2.own_ D hxo (by omega), by simp; omega, l3⟩
      clear X2 X1 l2 l3 x5 x6 own shared B2 K2 H2
      rintro _ H2 ⟨own, shared, rfl, X2, l2, l3⟩
      refine ⟨_, rfl, _, _, rfl, rfl, _, rfl, ?_⟩
      refine ite3 (fun c => ?_) fun _ => iteFb rfl ⟨own, shared, _, _, rfl, X2, by omega, by omega⟩
      have c := of_decide_eq_true c
      refine ⟨_, rfl, rfl, _, rfl, ?_⟩
      refine ite3 (fun _ => ?_) fun _ => ⟨own, shared, _, _, rfl, X2, by omega, by omega⟩
      refine ⟨_, rfl, .inl ⟨rfl, _, SqL.of X2.sh⟩, _, rfl, _, rfl, np, _, _, _, rfl, rfl, SqL.of X2.nm, hat, gl, _, _, rfl, rfl, X2.sh, by rw [List.length_map]; exact Nat.lt_of_le_of_lt (show shared.length ≤ 10 by omega) (by decide), ?_⟩
      exact ⟨own, shared ++ [x], _, _, rfl, X2.shr_ D hxo (by omega), by omega, by simp; omega⟩
    · rintro σ H1 ⟨own, shared, x5, x6, rfl, X1, l2, l3⟩
      refine ⟨_, rfl, _, _, rfl, rfl, ?_⟩
      refine ⟨_, rfl, ?_⟩
      have fin : ∀ (b : Bool), (kk = 0 → b = false) → kk = 0 → own = [] ∧ shared = [] ∧ b = false := fun b hb h0 => ⟨(X1.z h0).1, (X1.z h0).2, hb h0⟩
      refine ite3 (fun c => ⟨_, rfl, p, dl, 3, rfl, X1.box, by decide, fun r H2 r0 r1 B2 K2 => ⟨rfl, ?A⟩⟩) fun _ => ?B
      case' A =>
        have X2 := X1.draw D B2 K2
        have hb0 : ∀ b : Bool, kk = 0 → b = false := fun b h0 => by have := of_decide_eq_true c; omega
      case' B =>
        have X2 := X1
        have hb0 : kk = 0 → false = false := fun _ => rfl
      all_goals
        refine ⟨sz_0, fun t1 ht1 => ?_⟩
        have S1 := Same.new (o := .tup []) ht1
        refine ⟨_, rfl, ll, _, rfl, .inl ⟨SqL.of (S1 _ _ X2.ow), fun t2 ht2 => ?_⟩⟩
        have S2 := Same.new (o := .tup (own.map V.str)) ht2
        refine ⟨_, rfl, gl, _, rfl, .inl ⟨SqL.of (S2 _ _ (S1 _ _ X2.sh)), fun t3 ht3 => ?_⟩⟩
        have S3 := Same.new (o := .tup (shared.map V.str)) ht3
        have d1 : Dt K _ (.ref t1) (.tuple []) := ((Dt.made ht1 .nil).mono S2).mono S3
        have d2 : Dt K _ (.ref t2) (.tuple (own.map PyData.str)) := (Dt.made ht2 (dtAll_strs own)).mono S3
        have d3 : Dt K _ (.ref t3) (.tuple (shared.map PyData.str)) := Dt.made ht3 (dtAll_strs shared)
        have X3 := ((X2.same S1).same S2).same S3
        refine ⟨_, rfl, _, _, rfl, rfl, _, rfl, (show 6 ≤ sizeLine by decide), fun u hu => ?_⟩
        refine k _ ⟨[], own, shared, (kk : Int) - 1, _⟩ _ rfl rfl X1.oo X1.os (fin _ (fun h0 => by first | rfl | exact hb0 _ h0)) (Dt.made hu (.cons (.str _) (.cons d1 (.cons d2 (.cons d3 (.cons (.int _) (.cons (.bl _) .nil))))))) (X3.same (Same.new hu)).box (X3.same (Same.new hu)).kp
def spLHome (K : PySem.W.Frag) : Sp := fun vs H Q _ => ∃ hp scs env x, vs = [.ref hp, .int (env : Nat), .str x] ∧ ListAt K H hp (scs.map scD) ∧ env < scs.length ∧ scs.length ≤ 1000 ∧ Q (.int (match home scs env x with | some h => (h : Int) | none => -1)) H
theorem ok_lhome {f : Addr} {fd : FuncData} (F : Fun K "_law_home" "_law_home" s_law_home f fd) (T : Txt K mg) : FnG P w K mg base CX0 1 f fd P_law_home (spLHome K) := by
  refine okG0 F sc_law_home (fun vs H Q E h => ?_) fun cdv A outer s H vs Q E hr hg h => ?_
  · obtain ⟨hp, scs, env, x, rfl, _⟩ := h
    rfl
  · obtain ⟨hp, scs, env, x, rfl, L, henv, hsl, k⟩ := h
    refine ⟨_, (pss_cons (ps_if (pt_cmpR op_in_seq (pv 2) (pe_ix ix_tup (pe_ix ix_list (pv 0) (pv 1) (fun _ _ => rfl)) pe_int (fun _ _ => rfl)) (by rfl))
   (pss_one (ps_ret pe_int))
   pss_nil)
  (pss_cons (ps_if (PW.pt (pw_or (pt_cmpR op_eq (pv 1) pe_int (nomark _)) (pw_or (pt_val (pe_ix ix_tup (pe_ix ix_list (pv 0) (pv 1) (fun _ _ => rfl)) pe_int (fun _ _ => rfl))) (pw_or1 (pt_cmpR op_in_seq (pv 2) (pe_ix ix_tup (pe_ix ix_list (pv 0) (pv 1) (fun _ _ => rfl)) pe_int (fun _ _ => rfl)) (by rfl))))))
   (pss_one (ps_ret (pv 1)))
   pss_nil)
  (pss_cons (ps_for PassesOwn.never rfl (pi_range3 (by rfl) T.b_range (pa_cons (pe_op op_sub (pv 1) pe_int) (pa_cons pe_int (pa_cons (pe_un un_neg pe_int) pa_nil)))) (pg_name (i := 3) sc_law_home.nd rfl (Or.inl rfl))
   (pss_cons (ps_if (PW.pt (pw_and (pt_not (pt_val (pe_ix ix_tup (pe_ix ix_list (pv 0) (pv 3) (fun _ _ => rfl)) pe_int (fun _ _ => rfl)))) (pw_and1 (pt_cmpR op_in_seq (pv 2) (pe_ix ix_tup (pe_ix ix_list (pv 0) (pv 3) (fun _ _ => rfl)) pe_int (fun _ _ => rfl)) (by rfl)))))
   (pss_one (ps_ret pe_int))
   pss_nil)
  (pss_one (ps_if (PW.pt (pw_and (pt_not (pt_val (pe_ix ix_tup (pe_ix ix_list (pv 0) (pv 3) (fun _ _ => rfl)) pe_int (fun _ _ => rfl)))) (pw_and1 (pt_cmpR op_in_seq (pv 2) (pe_ix ix_tup (pe_ix ix_list (pv 0) (pv 3) (fun _ _ => rfl)) pe_int (fun _ _ => rfl)) (by rfl)))))
   (pss_one (ps_ret (pv 3)))
   pss_nil))))
  (pss_one (ps_ret (pe_un un_neg pe_int)))))), ?_⟩
    have hsc : scs[env]? = some scs[env] := List.getElem?_eq_getElem henv
    generalize scs[env] = s1 at hsc
    obtain ⟨zs, ez, az⟩ := id L
    obtain ⟨y, hy, dy⟩ := az.get (show (scs.map scD)[env]? = some (scD s1) by rw [List.getElem?_map, hsc]; rfl)
    obtain ⟨q, a1, a2, a3, rfl, hq, d1, g2, g3⟩ := sc_inv dy
    have hh : home scs env x = if x ∈ s1.shared then some 0 else if env = 0 ∨ s1.cls = true ∨ x ∈ s1.own then some env else homeAt scs x env := by
      unfold home
      rw [hsc]
    rw [hh] at k
    refine ⟨_, rfl, _, rfl, _, rfl, hp, _, _, _, rfl, rfl, SqL.of ez, atI_nat hy, q, _, _, _, rfl, rfl, hq, at_of' (j := 3) rfl rfl, a3, _, rfl, .inr g3, rfl, flat_str _, _, rfl, ?_⟩
    by_cases hm : x ∈ s1.shared
    · refine iteTb ((inV_str _).trans (decide_eq_true hm)) ?_
      rw [if_pos hm] at k
      exact k
    refine iteFb ((inV_str _).trans (decide_eq_false hm)) ?_
    rw [if_neg hm] at k
    refine ⟨_, rfl, rfl, _, rfl, ?_⟩
    by_cases h0 : env = 0
    · refine iteTb (decide_eq_true (congrArg V.int (by omega))) (iteTb rfl ?_)
      rw [if_pos (.inl h0)] at k
      exact ⟨_, rfl, k⟩
    refine iteFb (decide_eq_false fun h => h0 (by have := V.int.inj h; omega)) ?_
    refine ⟨_, rfl, _, rfl, hp, _, _, _, rfl, rfl, SqL.of ez, atI_nat hy, q, _, _, _, rfl, rfl, hq, at_of' (j := 5) rfl rfl, _, rfl, ?_⟩
    by_cases hc : s1.cls = true
    · refine iteTb hc (iteTb rfl ?_)
      rw [if_pos (.inr (.inl hc))] at k
      exact ⟨_, rfl, k⟩
    refine iteFb (by simpa using hc) ?_
    refine ⟨_, rfl, _, rfl, _, rfl, hp, _, _, _, rfl, rfl, SqL.of ez, atI_nat hy, q, _, _, _, rfl, rfl, hq, at2, a2, _, rfl, .inr g2, rfl, flat_str _, _, rfl, ?_⟩
    by_cases ho : x ∈ s1.own
    · refine iteTb ((inV_str _).trans (decide_eq_true ho)) ?_
      rw [if_pos (.inr (.inr ho))] at k
      exact ⟨_, rfl, k⟩
    refine iteFb ((inV_str _).trans (decide_eq_false ho)) ?_
    rw [if_neg (by rintro (h | h | h) <;> contradiction)] at k
    refine ⟨_, rfl, _, _, rfl, rfl, _, rfl, _, _, _, _, rfl, RgC.neg (by omega) (by omega) (by omega) (by omega), ?_⟩
    have en : ((env : Int) - 1 - 0).toNat = env - 1 := by omega
    rw [en]
    refine for_rangeC (n := env - 1) (fun t σ H1 => ∃ (x3 : Option V), σ = [some (.ref hp), some (.int (env : Nat)), some (.str x), x3] ∧ homeAt scs x env = homeAt scs x (env - t) ∧ H1 = H) ⟨none, rfl, rfl, rfl⟩ ?_ ?_
    · rintro t σ H1 ht ⟨x3, rfl, hlk, rfl⟩
      obtain ⟨i, hi2⟩ : ∃ i, env - t = i + 1 := ⟨env - t - 1, by omega⟩
      have hi : i < scs.length := by omega
      have hk : (env : Int) - 1 + (t : Nat) * (-1) = (i : Int) := by omega
      dsimp only
      rw [hk]
      rw [hi2] at hlk
      have hnext : env - (t + 1) = i := by omega
      have hi0 : i ≠ 0 := by omega
      have hsc : scs[i]? = some scs[i] := List.getElem?_eq_getElem hi
      generalize scs[i] = s2 at hsc
      obtain ⟨y, hy, dy⟩ := az.get (show (scs.map scD)[i]? = some (scD s2) by rw [List.getElem?_map, hsc]; rfl)
      obtain ⟨q, a1, a2, a3, rfl, hq, d1, g2, g3⟩ := sc_inv dy
      have e : homeAt scs x (i + 1) = if s2.cls = false ∧ x ∈ s2.shared then some 0 else if s2.cls = false ∧ x ∈ s2.own then some i else homeAt scs x i := by
        show (if i = 0 then none else match scs[i]? with | none => none | some s => _) = _
        rw [if_neg hi0, hsc]
      rw [e] at hlk
      refine ⟨_, rfl, _, rfl, hp, _, _, _, rfl, rfl, SqL.of ez, atI_nat hy, q, _, _, _, rfl, rfl, hq, at_of' (j := 5) rfl rfl, _, rfl, ?_⟩
      cases hcls : s2.cls with
      | true =>
        rw [hcls, if_neg (by simp), if_neg (by simp)] at hlk
        refine iteFb rfl (iteFb rfl ?_)
        refine ⟨_, rfl, _, rfl, hp, _, _, _, rfl, rfl, SqL.of ez, atI_nat hy, q, _, _, _, rfl, rfl, hq, at_of' (j := 5) rfl rfl, _, rfl, ?_⟩
        rw [hcls]
        exact iteFb rfl (iteFb rfl ⟨_, rfl, by rw [hnext]; exact hlk, rfl⟩)
      | false =>
        refine iteTb rfl ?_
        refine ⟨_, rfl, _, rfl, _, rfl, hp, _, _, _, rfl, rfl, SqL.of ez, atI_nat hy, q, _, _, _, rfl, rfl, hq, at_of' (j := 3) rfl rfl, a3, _, rfl, .inr g3, rfl, flat_str _, _, rfl, ?_⟩
        by_cases hm2 : x ∈ s2.shared
        · refine iteTb ((inV_str _).trans (decide_eq_true hm2)) ?_
          rw [if_pos ⟨hcls, hm2⟩] at hlk
          rw [hlk] at k
          exact k
        refine iteFb ((inV_str _).trans (decide_eq_false hm2)) ?_
        rw [if_neg fun h => hm2 h.2] at hlk
        refine ⟨_, rfl, _, rfl, hp, _, _, _, rfl, rfl, SqL.of ez, atI_nat hy, q, _, _, _, rfl, rfl, hq, at_of' (j := 5) rfl rfl, _, rfl, ?_⟩
        rw [hcls]
        refine iteTb rfl ?_
        refine ⟨_, rfl, _, rfl, _, rfl, hp, _, _, _, rfl, rfl, SqL.of ez, atI_nat hy, q, _, _, _, rfl, rfl, hq, at2, a2, _, rfl, .inr g2, rfl, flat_str _, _, rfl, ?_⟩
        by_cases ho2 : x ∈ s2.own
        · refine iteTb ((inV_str _).trans (decide_eq_true ho2)) ?_
          rw [if_pos ⟨hcls, ho2⟩] at hlk
          rw [hlk] at k
          exact ⟨_, rfl, k⟩
        · refine iteFb ((inV_str _).trans (decide_eq_false ho2)) ?_
          rw [if_neg fun h => ho2 h.2] at hlk
          exact ⟨_, rfl, by rw [hnext]; exact hlk, rfl⟩
    · rintro σ H1 ⟨x3, rfl, hlk, rfl⟩
      rw [show env - (env - 1) = 0 + 1 by omega] at hlk
      have : homeAt scs x (0 + 1) = none := rfl
      rw [this] at hlk
      rw [hlk] at k
      exact ⟨_, rfl, k⟩
def spPlace (K : PySem.W.Frag) : Sp := fun vs H Q _ => ∃ (pp : Addr) (vars : Vs) (x : Str), vs = [.ref pp, .str x] ∧ ListAt K H pp (vars.map varD) ∧ vars.length ≤ 1000 ∧
  (∀ (i : Nat) (n : Int), vars[i]? = some (x, n) → Q (.int (i : Nat)) H) ∧ ((∀ q ∈ vars, q.1 ≠ x) → Q (.int (-1)) H)
theorem ok_place {f : Addr} {fd : FuncData} (F : Fun K "_law_place" "_law_place" s_law_place f fd) (T : Txt K mg) : FnG P w K mg base CX0 1 f fd P_law_place (spPlace K) := by
  refine okG0 F sc_law_place (fun vs H Q E h => ?_) fun cdv A outer s H vs Q E hr hg h => ?_
  · obtain ⟨pp, vars, x, rfl, _⟩ := h
    rfl
  · obtain ⟨pp, vars, x, rfl, L, hl, k1, k2⟩ := h
    refine ⟨_, (pss_cons (ps_for PassesOwn.never rfl (pi_range1 (by rfl) T.b_range (pa_cons (pe_callB call_len (by rfl) T.b_len PySem.boot_len (pa_cons (pv 0) pa_nil)) pa_nil)) (pg_name (i := 2) sc_law_place.nd rfl (Or.inl rfl))
   (pss_one (ps_if (pt_cmpR op_eq (pe_ix ix_tup (pe_ix ix_list (pv 0) (pv 2) (fun _ _ => rfl)) pe_int (fun _ _ => rfl)) (pv 1) (nomark _))
   (pss_one (ps_ret (pv 2)))
   pss_nil)))
  (pss_one (ps_ret (pe_un un_neg pe_int)))), ?_⟩
    obtain ⟨zs, ez, az⟩ := id L
    have lz := az.length
    rw [List.length_map] at lz
    refine ⟨_, rfl, _, _, rfl, .inl ⟨_, SqL.of ez, rfl⟩, _, rfl, by omega, by omega, ?_⟩
    rw [show ((zs.length : Nat) : Int).toNat = vars.length by omega]
    refine for_range (lo := 0) (n := vars.length) (fun i σ H1 => ∃ x2, σ = [some (.ref pp), some (.str x), x2] ∧ H1 = H ∧ ∀ j, j < i → ∀ q, vars[j]? = some q → q.1 ≠ x) ⟨none, rfl, rfl, fun j hj => by omega⟩ ?_ ?_
    · rintro i σ H1 hi ⟨x2, rfl, rfl, hall⟩
      rw [Int.zero_add]
      have hz : zs[i]? = some zs[i] := List.getElem?_eq_getElem (by omega)
      obtain ⟨z, n0, q2, u2, hvi, hzr, hq2, du2⟩ := varD_at az hz
      refine ⟨_, rfl, _, rfl, pp, _, _, _, rfl, rfl, SqL.of ez, atI_nat (hz.trans (congrArg some hzr)), q2, _, _, _, rfl, rfl, hq2, at0, _, rfl, rfl, _, rfl, ?_⟩
      refine ite3 (fun c => ?_) fun c => ?_
      · have c := V.str.inj (of_decide_eq_true c)
        subst c
        exact ⟨_, rfl, k1 i n0 hvi⟩
      · have c := of_decide_eq_false c
        refine ⟨_, rfl, rfl, fun j hj q hq => ?_⟩
        by_cases e : j = i
        · subst e
          rw [hvi] at hq
          obtain rfl := Option.some.inj hq
          exact fun h => c (congrArg V.str h)
        · exact hall j (by omega) q hq
    · rintro σ H1 ⟨x2, rfl, rfl, hall⟩
      refine ⟨_, rfl, k2 fun q hq => ?_⟩
      obtain ⟨j, hj⟩ := List.mem_iff_getElem?.mp hq
      exact hall j (List.getElem?_eq_some_iff.mp hj).1 q hj
/-! the tables -/
structure Tb (K : PySem.W.Frag) (H : Hp) (tp : Addr) (ts : List Addr) (VS : List Vs) : Prop where
  tb : H tp = some (.lst (ts.map V.ref))
  len : ts.length = VS.length
  at_ : ∀ (k : Nat) (vs : Vs), VS[k]? = some vs → ∃ t, ts[k]? = some t ∧ ListAt K H t (vs.map varD)
theorem Tb.same {H H' : Hp} {tp : Addr} {ts : List Addr} {VS : List Vs} (h : Tb K H tp ts VS) (e : Same H H') : Tb K H' tp ts VS :=
  ⟨e _ _ h.tb, h.len, fun k vs hk => let ⟨t, a, b⟩ := h.at_ k vs hk; ⟨t, a, listAt_mono b e⟩⟩
theorem Tb.keep {H H' : Hp} {tp hp : Addr} {ts : List Addr} {VS : List Vs} (h : Tb K H tp ts VS) (e : Keep hp H H') (hl : ∃ xs, H hp = some (.lst xs)) (n1 : tp ≠ hp) (n2 : ∀ t ∈ ts, t ≠ hp) : Tb K H' tp ts VS :=
  ⟨e _ _ h.tb n1, h.len, fun k vs hk => let ⟨t, a, b⟩ := h.at_ k vs hk; ⟨t, a, listAt_keep b e (n2 t (List.mem_of_getElem? a)) hl⟩⟩
theorem Tb.put {H : Hp} {tp t : Addr} {ts : List Addr} {VS : List Vs} {k : Nat} {vs : Vs} {xs xs' : List V} (h : Tb K H tp ts VS) (nd : ts.Nodup) (n1 : tp ≠ t) (ht : ts[k]? = some t) (ex : H t = some (.lst xs)) (L : ListAt K (upd H t (.lst xs')) t (vs.map varD)) (hk : k < VS.length) :
    Tb K (upd H t (.lst xs')) tp ts (VS.set k vs) := by
  refine ⟨by rw [upd_ne n1]; exact h.tb, by rw [List.length_set]; exact h.len, fun j ws hj => ?_⟩
  by_cases e : j = k
  · subst e
    rw [List.getElem?_set_self hk] at hj
    obtain rfl := Option.some.inj hj
    exact ⟨t, ht, L⟩
  · rw [List.getElem?_set_ne (Ne.symm e)] at hj
    obtain ⟨t', a, b⟩ := h.at_ j ws hj
    refine ⟨t', a, listAt_upd b (fun h' => ?_) ex⟩
    subst h'
    exact e ((List.getElem?_inj (List.getElem?_eq_some_iff.mp a).1 nd).mp (a.trans ht.symm))
def clr (s : Sc) : Sc := { s with vars := [] }
def spLSame (K : PySem.W.Frag) : Sp := fun vs H Q _ => ∃ (hp sp tp : Addr) (scs : List Sc) (ts : List Addr), vs = [.ref hp, .ref sp, .ref tp] ∧ ListAt K H hp (scs.map scD) ∧ ListAt K H sp ((scs.map clr).map scD) ∧ Tb K H tp ts (scs.map (·.vars)) ∧ scs.length ≤ 1000 ∧ (∀ s ∈ scs, SeqAt.shaped (scD s) = true) ∧ ∀ H', Same H H' → Q (.bl true) H'
theorem ok_lsame {f : Addr} {fd : FuncData} (F : Fun K "_law_same" "_law_same" s_law_same f fd) (T : Txt K mg) : FnG P w K mg base CX0 1 f fd P_law_same (spLSame K) := by
  refine okG0 F sc_law_same (fun vs H Q E h => ?_) fun cdv A outer s H vs Q E hr hg h => ?_
  · obtain ⟨hp, sp, tp, scs, ts, rfl, _⟩ := h
    rfl
  · obtain ⟨hp, sp, tp, scs, ts, rfl, L1, L2, hT, hl, hsh, k⟩ := h
    refine ⟨_, (pss_cons (ps_if (PW.pt (pw_or (pt_not (pt_val (pe_callB call_isi (by rfl) T.b_isinstance (by decide +kernel) (pa_cons (pv 0) (pa_cons (pe_bltn (v := .ty "list") (by rfl) T.b_list (by decide +kernel) rfl) pa_nil))))) (pw_or1 (pt_cmpR op_ne (pe_callB call_len (by rfl) T.b_len PySem.boot_len (pa_cons (pv 0) pa_nil)) (pe_callB call_len (by rfl) T.b_len PySem.boot_len (pa_cons (pv 1) pa_nil)) (nomark _)))))
   (pss_one (ps_ret pe_bl))
   pss_nil)
  (pss_cons (ps_for PassesOwn.never rfl (pi_range1 (by rfl) T.b_range (pa_cons (pe_callB call_len (by rfl) T.b_len PySem.boot_len (pa_cons (pv 1) pa_nil)) pa_nil)) (pg_name (i := 3) sc_law_same.nd rfl (Or.inl rfl))
   (pss_cons (ps_set (i := 4) sc_law_same.nd rfl (Or.inl rfl) (pe_ix ix_list (pv 1) (pv 3) (fun _ _ => rfl)))
  (pss_one (ps_if (pt_cmpR (op_neD hr.units) (pe_ix ix_list (pv 0) (pv 3) (fun _ _ => rfl)) (pe_tup (pa_cons pe_str (pa_cons (pe_callTy call_tuple_of (by rfl) T.b_tuple (by decide +kernel) (pa_cons (pe_ix ix_list (pv 2) (pv 3) (fun _ _ => rfl)) pa_nil)) (pa_cons (pe_ix ix_tup (pv 4) pe_int (fun _ _ => rfl)) (pa_cons (pe_ix ix_tup (pv 4) pe_int (fun _ _ => rfl)) (pa_cons (pe_ix ix_tup (pv 4) pe_int (fun _ _ => rfl)) (pa_cons (pe_ix ix_tup (pv 4) pe_int (fun _ _ => rfl)) pa_nil))))))) (nomark _))
   (pss_one (ps_ret pe_bl))
   pss_nil))))
  (pss_one (ps_ret pe_bl)))), ?_⟩
    obtain ⟨xs, ex, ax⟩ := id L1
    obtain ⟨ys, ey, ay⟩ := id L2
    have lx := ax.length
    have ly := ay.length
    rw [List.length_map] at lx
    rw [List.length_map, List.length_map] at ly
    refine ⟨_, rfl, _, _, _, _, true, rfl, .ty _, .base (.lst ex), if_pos (beq_self_eq_true _), ⟨_, rfl, iteFb rfl ?_⟩⟩
    refine ⟨_, rfl, _, _, rfl, .inl ⟨_, SqL.of ex, rfl⟩, _, rfl, _, _, rfl, .inl ⟨_, SqL.of ey, rfl⟩, rfl, _, rfl, iteFb (by rw [lx, ly, decide_eq_true rfl]; rfl) ?_⟩
    refine ⟨_, rfl, _, _, rfl, .inl ⟨_, SqL.of ey, rfl⟩, _, rfl, by omega, by omega, ?_⟩
    rw [show ((ys.length : Nat) : Int).toNat = scs.length by omega]
    refine for_range (lo := 0) (n := scs.length) (fun i σ H1 => ∃ x3 x4, σ = [some (.ref hp), some (.ref sp), some (.ref tp), x3, x4] ∧ Same H H1) ⟨none, none, rfl, fun _ _ h => h⟩ ?_ ?_
    · rintro i σ H1 hi ⟨x3, x4, rfl, S1⟩
      rw [Int.zero_add]
      have hsc : scs[i]? = some scs[i] := List.getElem?_eq_getElem hi
      have hs1 := hsh _ (List.getElem_mem hi)
      generalize scs[i] = s1 at hsc hs1
      obtain ⟨y, hy, dy⟩ := ay.get (show ((scs.map clr).map scD)[i]? = some (scD (clr s1)) by rw [List.getElem?_map, List.getElem?_map, hsc]; rfl)
      obtain ⟨q, a1, a2, a3, rfl, hq, d1, g2, g3⟩ := sc_inv dy
      obtain ⟨x, hx, dx⟩ := ax.get (show (scs.map scD)[i]? = some (scD s1) by rw [List.getElem?_map, hsc]; rfl)
      obtain ⟨t, ht, Lt⟩ := hT.at_ i s1.vars (by rw [List.getElem?_map, hsc]; rfl)
      obtain ⟨vs, ev, av⟩ := listAt_mono Lt S1
      have hq1 := Same.tupl S1 hq
      refine ⟨_, rfl, _, rfl, sp, _, _, _, rfl, rfl, SqL.of (S1 _ _ ey), atI_nat hy, ?_⟩
      refine ⟨_, rfl, _, rfl, hp, _, _, _, rfl, rfl, SqL.of (S1 _ _ ex), atI_nat hx, ?_⟩
      refine ⟨_, rfl, _, rfl, tp, _, _, _, rfl, rfl, SqL.of (S1 _ _ hT.tb), atI_nat (by rw [List.getElem?_map, ht]; rfl), t, _, rfl, .inl ⟨SqL.of ev, fun t1 ht1 => ?_⟩⟩
      have T1 := Same.new (o := .tup vs) ht1
      have hq2 := Same.tupl T1 hq1
      refine ⟨_, rfl, q, _, _, _, rfl, rfl, hq2, at2, _, rfl, q, _, _, _, rfl, rfl, hq2, at_of' (j := 3) rfl rfl, _, rfl, q, _, _, _, rfl, rfl, hq2, at_of' (j := 4) rfl rfl, _, rfl, q, _, _, _, rfl, rfl, hq2, at_of' (j := 5) rfl rfl, (show 6 ≤ sizeLine by decide), fun u hu => ?_⟩
      have T2 := Same.new (o := .tup [.str "scope", .ref t1, .ref a2, .ref a3, .int s1.around, .bl s1.cls]) hu
      have e1 : Dt K _ (.ref t1) (.tuple (s1.vars.map varD)) := Dt.made ht1 av
      have e2 : Dt K _ (.ref a2) (.tuple (s1.own.map PyData.str)) := .tup (Same.tupl T1 (Same.tupl S1 g2)) (dtAll_strs s1.own)
      have e3 : Dt K _ (.ref a3) (.tuple (s1.shared.map PyData.str)) := .tup (Same.tupl T1 (Same.tupl S1 g3)) (dtAll_strs s1.shared)
      have du : Dt K _ (.ref u) (scD s1) := Dt.made hu (.cons (.str _) (.cons e1 (.cons e2 (.cons e3 (.cons (.int _) (.cons (.bl _) .nil))))))
      refine ⟨_, _, (((dx.mono S1).mono T1).mono T2).dp, du.dp, hs1, hs1, ?_⟩
      rw [eqv_self (SeqAt.canLay_of_shaped hs1)]
      exact ⟨_, rfl, iteFb rfl ⟨_, _, rfl, (S1.trans T1).trans T2⟩⟩
    · rintro σ H1 ⟨x3, x4, rfl, S1⟩
      exact k _ S1
def KeepF (hp : Addr) (ts : List Addr) (H H' : Hp) : Prop := ∀ b o, H b = some o → b ≠ hp → b ∉ ts → H' b = some o
/-- names that differ -/
def Nd (vs : Vs) : Prop := (vs.map (·.1)).Nodup
theorem nd_set : ∀ {vs : Vs} {i : Nat} {x : Str} {m n : Int}, Nd vs → vs[i]? = some (x, m) → vs.set i (x, n) = repl vs x n
  | [], _, _, _, _, _, h => by simp at h
  | (y, k) :: r, 0, x, m, n, nd, h => by
    obtain ⟨rfl, rfl⟩ := Prod.mk.inj (Option.some.inj h)
    obtain ⟨h1, h2⟩ := List.nodup_cons.mp nd
    show (y, n) :: r = (if y = y then (y, n) else (y, k)) :: repl r y n
    rw [if_pos rfl]
    congr 1
    unfold repl
    have : ∀ p ∈ r, (if p.1 = y then (y, n) else p) = p := fun p hp => if_neg fun e => h1 (List.mem_map.mpr ⟨p, hp, e⟩)
    rw [List.map_congr_left this]
    simp
  | (y, k) :: r, i + 1, x, m, n, nd, h => by
    obtain ⟨h1, h2⟩ := List.nodup_cons.mp nd
    have h : r[i]? = some (x, m) := h
    have ne : y ≠ x := fun e => h1 (List.mem_map.mpr ⟨(x, m), List.mem_of_getElem? h, e.symm⟩)
    show (y, k) :: r.set i (x, n) = (if y = x then (x, n) else (y, k)) :: repl r x n
    rw [if_neg ne, nd_set h2 h]
theorem nd_erase : ∀ {vs : Vs} {i : Nat} {x : Str} {m : Int}, Nd vs → vs[i]? = some (x, m) → vs.eraseIdx i = delP vs x
  | [], _, _, _, _, h => by simp at h
  | (y, k) :: r, 0, x, m, nd, h => by
    obtain ⟨rfl, rfl⟩ := Prod.mk.inj (Option.some.inj h)
    obtain ⟨h1, h2⟩ := List.nodup_cons.mp nd
    show r = delP ((y, k) :: r) y
    unfold delP
    rw [List.filter_cons_of_neg (by simp)]
    symm
    rw [List.filter_eq_self]
    intro p hp
    have : p.1 ≠ y := fun e => h1 (List.mem_map.mpr ⟨p, hp, e⟩)
    simp [this]
  | (y, k) :: r, i + 1, x, m, nd, h => by
    obtain ⟨h1, h2⟩ := List.nodup_cons.mp nd
    have h : r[i]? = some (x, m) := h
    have ne : y ≠ x := fun e => h1 (List.mem_map.mpr ⟨(x, m), List.mem_of_getElem? h, e.symm⟩)
    show (y, k) :: r.eraseIdx i = delP ((y, k) :: r) x
    unfold delP
    rw [List.filter_cons_of_pos (by simp [ne])]
    rw [nd_erase h2 h]
    rfl
theorem nd_with {vs : Vs} {x : Str} {n : Int} (nd : Nd vs) : Nd (withP vs x n) := by
  unfold withP
  cases hh : has vs x with
  | true =>
    rw [if_pos rfl]
    unfold Nd repl
    rw [List.map_map]
    have : ∀ p ∈ vs, ((·.1) ∘ fun p : Str × Int => if p.1 = x then (x, n) else p) p = p.1 := fun p _ => by
      show (if p.1 = x then (x, n) else p).1 = p.1
      split
      · next e => exact e.symm
      · rfl
    rw [List.map_congr_left this]
    exact nd
  | false =>
    rw [if_neg Bool.false_ne_true]
    unfold Nd
    rw [List.map_append, List.nodup_append]
    refine ⟨nd, by simp, fun a ha b hb e => ?_⟩
    obtain ⟨p, hp, rfl⟩ := List.mem_map.mp ha
    have hb : b = x := by simpa using hb
    unfold has at hh
    rw [List.any_eq_false] at hh
    exact hh p hp (decide_eq_true (e.trans hb))
theorem nd_del {vs : Vs} {x : Str} (nd : Nd vs) : Nd (delP vs x) := List.Nodup.sublist (List.Sublist.map _ List.filter_sublist) nd
theorem find_with {vs : Vs} {x : Str} {n : Int} : find (withP vs x n) x = some n := by
  unfold withP
  cases hh : has vs x with
  | true =>
    rw [if_pos rfl]
    induction vs with
    | nil => cases hh
    | cons p r ih =>
      show (if (if p.1 = x then (x, n) else p).1 = x then some (if p.1 = x then (x, n) else p).2 else find (repl r x n) x) = some n
      by_cases e : p.1 = x
      · rw [if_pos e, if_pos rfl]
      · rw [if_neg e, if_neg e]
        refine ih ?_
        unfold has at hh ⊢
        rw [List.any_cons, decide_eq_false e] at hh
        exact hh
  | false =>
    rw [if_neg Bool.false_ne_true]
    induction vs with
    | nil =>
      show (if x = x then some n else none) = some n
      rw [if_pos rfl]
    | cons p r ih =>
      unfold has at hh
      rw [List.any_cons] at hh
      have h1 : ¬ p.1 = x := fun e => by rw [decide_eq_true e] at hh; cases hh
      show (if p.1 = x then some p.2 else find (r ++ [(x, n)]) x) = some n
      rw [if_neg h1]
      refine ih ?_
      rw [decide_eq_false h1] at hh
      exact hh
theorem map_setV {scs : List Sc} {h : Nat} {vs : Vs} (hlt : h < scs.length) : (setV scs h vs).map (·.vars) = (scs.map (·.vars)).set h vs := by
  rw [setV_at (List.getElem?_eq_getElem hlt), List.map_set]
theorem varsAt_map {scs : List Sc} {h : Nat} (hlt : h < scs.length) : (scs.map (·.vars))[h]? = some (varsAt scs h) := by
  unfold varsAt
  rw [List.getElem?_map, List.getElem?_eq_getElem hlt]
  rfl
theorem varsAt_len {scs : List Sc} {h : Nat} (hv : ∀ s ∈ scs, s.vars.length ≤ 900) : (varsAt scs h).length ≤ 900 := by
  unfold varsAt
  split
  · next e => exact hv _ (List.mem_of_getElem? e)
  · simp
structure In5 (K : PySem.W.Frag) (H : Hp) (hp tp : Addr) (ts : List Addr) (scs : List Sc) (env : Nat) (x : Str) : Prop where
  l : ListAt K H hp (scs.map scD)
  t : Tb K H tp ts (scs.map (·.vars))
  e : env < scs.length
  s : Scs scs
  v : ∀ s ∈ scs, s.vars.length ≤ 900
  xl : x.length ≤ 1000
  nd : ts.Nodup
  n1 : tp ≠ hp
  n2 : ∀ t ∈ ts, t ≠ hp ∧ t ≠ tp
  nv : Nd (varsAt scs ((home scs env x).getD 0))
def spLBind (K : PySem.W.Frag) : Sp := fun vs H Q _ => ∃ (hp tp : Addr) (env : Nat) (x : Str) (u : V) (n : Int) (scs : List Sc) (ts : List Addr), vs = [.ref hp, .ref tp, .int ((home scs env x).getD 0 : Nat), .int (env : Nat), .str x, u] ∧ In5 K H hp tp ts scs env x ∧ Dt K H u (valD n) ∧
  ∀ H', ListAt K H' hp ((setV scs ((home scs env x).getD 0) (withP (varsAt scs ((home scs env x).getD 0)) x n)).map scD) → Tb K H' tp ts ((setV scs ((home scs env x).getD 0) (withP (varsAt scs ((home scs env x).getD 0)) x n)).map (·.vars)) → KeepF hp ts H H' → Q (.bl true) H'
theorem has_none {vs : Vs} {x : Str} (h : ∀ q ∈ vs, q.1 ≠ x) : has vs x = false := List.any_eq_false.mpr fun q hq => by simpa using h q hq
theorem has_some {vs : Vs} {x : Str} {i : Nat} {n : Int} (h : vs[i]? = some (x, n)) : has vs x = true := List.any_eq_true.mpr ⟨_, List.mem_of_getElem? h, decide_eq_true rfl⟩
theorem ok_lbind {f : Addr} {fd : FuncData} (F : Fun K "_law_bind" "_law_bind" s_law_bind f fd) (T : Txt K mg) (U_law_place : Use P w K mg base CX0 "_law_place" 1 P_law_place (spPlace K)) (U_bind_name : Use P w K mg base CX0 "bind_name" 2 P_bind_name (spBind K)) :
    FnG P w K mg base CX0 3 f fd P_law_bind (spLBind K) := by
  refine okG0 F sc_law_bind (fun vs H Q E h => ?_) fun cdv A outer s H vs Q E hr hg h => ?_
  · obtain ⟨hp, tp, env, x, u, n, scs, ts, rfl, _⟩ := h
    rfl
  · obtain ⟨hp, tp, env, x, u, n, scs, ts, rfl, I, du, k⟩ := h
    refine ⟨_, (pss_cons (ps_set (i := 6) sc_law_bind.nd rfl (Or.inl rfl) (pe_use U_law_place (hr.mono (by decide)) hg rfl (pa_cons (pe_ix ix_list (pv 1) (pv 2) (fun _ _ => rfl)) (pa_cons (pv 4) pa_nil))))
  (C8.pss_cut (ps_if (pt_cmpR op_ge (pv 6) pe_int (nomark _))
   (pss_one (ps_asg (pe_tup (pa_cons (pv 4) (pa_cons (pv 5) pa_nil))) (pg_sub (pe_ix ix_list (pv 1) (pv 2) (fun _ _ => rfl)) (pv 6) set_list)))
   (pss_one (ps_expr (pe_bm PySem.F.plainAttrs_list PySem.F.slot_list_append PySem.F.type_list_append mt_append (pe_ix ix_list (pv 1) (pv 2) (fun _ _ => rfl)) (pa_cons (pe_tup (pa_cons (pv 4) (pa_cons (pv 5) pa_nil))) pa_nil)))))
  (pss_one (ps_ret (pe_cmpR op_isN (pe_use U_bind_name (hr.mono (by decide)) hg rfl (pa_cons (pv 0) (pa_cons (pv 3) (pa_cons (pv 4) (pa_cons (pv 5) pa_nil))))) pe_non (nomark _)))))), ?_⟩
    have hlt := home_lt (x := x) I.e
    have hvl := varsAt_len (h := (home scs env x).getD 0) I.v
    have nv := I.nv
    generalize hh : (home scs env x).getD 0 = h at hlt hvl nv k
    obtain ⟨t, ht, Lt⟩ := I.t.at_ h _ (varsAt_map hlt)
    have htm := List.mem_of_getElem? ht
    obtain ⟨zs, ez, az⟩ := id Lt
    have lz := az.length
    rw [List.length_map] at lz
    obtain ⟨hz, ehp, _⟩ := id I.l
    have hT : ∀ {H1 : Hp}, Same H H1 → SqL K H1 tp (ts.map V.ref) := fun S => SqL.of (S _ _ I.t.tb)
    have hix : atI (ts.map V.ref) ((h : Nat) : Int) = some (.ref t) := atI_nat (by rw [List.getElem?_map, ht]; rfl)
    -- what stands behind the change of the table
    have fin : ∀ (H1 : Hp) (xs' : List V), Same H H1 → ListAt K (upd H1 t (.lst xs')) t ((withP (varsAt scs h) x n).map varD) → H1 t = some (.lst zs) →
        Tb K (upd H1 t (.lst xs')) tp ts ((scs.map (·.vars)).set h (withP (varsAt scs h) x n)) ∧ ListAt K (upd H1 t (.lst xs')) hp (scs.map scD) ∧ KeepF hp ts H (upd H1 t (.lst xs')) ∧ KeepT K H (upd H1 t (.lst xs')) := fun H1 xs' S L e1 =>
      ⟨(I.t.same S).put I.nd (Ne.symm (I.n2 t htm).2) ht e1 L (by rw [List.length_map]; exact hlt), listAt_upd (listAt_mono I.l S) (Ne.symm (I.n2 t htm).1) e1, fun b o hb n1 n2 => by have ne : b ≠ t := (fun e => n2 (by rw [e]; exact htm)); rw [upd_ne ne]; exact S b o hb, (Same.keepT S).trans (KeepT.upd e1)⟩
    refine ⟨_, rfl, _, rfl, tp, _, _, _, rfl, rfl, hT (fun _ _ h => h), hix, _, rfl, t, varsAt scs h, x, rfl, Lt, by omega, fun i n0 hi => ?_, fun hno => ?_⟩
    all_goals
      refine ⟨fun σ H2 => ∃ a, σ = [some (.ref hp), some (.ref tp), some (.int (h : Nat)), some (.int (env : Nat)), some (.str x), some u, some a] ∧ Tb K H2 tp ts ((scs.map (·.vars)).set h (withP (varsAt scs h) x n)) ∧ ListAt K H2 hp (scs.map scD) ∧ KeepF hp ts H H2 ∧ KeepT K H H2, ?_, ?_⟩
    · refine ⟨_, rfl, _, _, rfl, rfl, _, rfl, iteTb (decide_eq_true (by omega)) ?_⟩
      have hil : i < (varsAt scs h).length := (List.getElem?_eq_some_iff.mp hi).1
      refine ⟨_, rfl, _, rfl, sz_2, fun w2 hw2 => ?_⟩
      have S1 := Same.new (o := .tup [.str x, u]) hw2
      refine ⟨_, rfl, _, rfl, tp, _, _, _, rfl, rfl, hT S1, hix, _, rfl, t, _, _, i, rfl, rfl, S1 _ _ ez, ixN_nat (by omega), ?_⟩
      have e : withP (varsAt scs h) x n = (varsAt scs h).set i (x, n) := by
        unfold withP
        rw [has_some hi, if_pos rfl, nd_set nv hi]
      refine ⟨_, rfl, fin _ _ S1 ?_ (S1 _ _ ez)⟩
      rw [e, List.map_set]
      have kt := KeepT.upd (K := K) (o := .lst (zs.set i (.ref w2))) (S1 _ _ ez)
      exact ⟨_, upd_same, dtAll_set (DtAll.keepT kt (DtAll.mono S1 az)) (Dt.keepT kt (Dt.made hw2 (.cons (.str _) (.cons du .nil))))⟩
    · rintro _ H2 ⟨a, rfl, T2, L2, K2, kt2⟩
      refine ⟨_, rfl, _, rfl, _, rfl, _, rfl, hp, scs, env, x, n, u, rfl, L2, I.e, I.s, I.v, Dt.keepT kt2 du, fun H' L' K' => ⟨rfl, ?_⟩⟩
      rw [hh] at L'
      have hl2 : ∃ xs, H2 hp = some (.lst xs) := let ⟨xs, e, _⟩ := L2; ⟨xs, e⟩
      refine k H' L' ?_ fun b o hb n1 n2 => K' _ _ (K2 b o hb n1 n2) n1
      rw [map_setV hlt]
      exact T2.keep K' hl2 I.n1 fun t' ht' => (I.n2 t' ht').1
    · refine ⟨_, rfl, _, _, rfl, rfl, _, rfl, iteFb (by decide +kernel) ?_⟩
      refine ⟨_, rfl, _, rfl, tp, _, _, _, rfl, rfl, hT (fun _ _ h => h), hix, .inl ⟨rfl, _, SqL.of ez⟩, _, rfl, _, rfl, sz_2, fun w2 hw2 => ⟨t, _, _, rfl, rfl, Same.new hw2 _ _ ez, Nat.lt_of_le_of_lt (show zs.length ≤ 1000 by omega) (by decide), ?_⟩⟩
      have S1 := Same.new (o := .tup [.str x, u]) hw2
      have e : withP (varsAt scs h) x n = varsAt scs h ++ [(x, n)] := by
        unfold withP
        rw [has_none hno, if_neg Bool.false_ne_true]
      refine ⟨_, rfl, fin _ _ S1 ?_ (S1 _ _ ez)⟩
      rw [e, List.map_append]
      exact listAt_app (listAt_mono Lt S1) (S1 _ _ ez) (Dt.made hw2 (.cons (.str _) (.cons du .nil)))
    · rintro _ H2 ⟨a, rfl, T2, L2, K2, kt2⟩
      refine ⟨_, rfl, _, rfl, _, rfl, _, rfl, hp, scs, env, x, n, u, rfl, L2, I.e, I.s, I.v, Dt.keepT kt2 du, fun H' L' K' => ⟨rfl, ?_⟩⟩
      rw [hh] at L'
      have hl2 : ∃ xs, H2 hp = some (.lst xs) := let ⟨xs, e, _⟩ := L2; ⟨xs, e⟩
      refine k H' L' ?_ fun b o hb n1 n2 => K' _ _ (K2 b o hb n1 n2) n1
      rw [map_setV hlt]
      exact T2.keep K' hl2 I.n1 fun t' ht' => (I.n2 t' ht').1
theorem shp_val (n : Int) : Shp 1 (valD n) := Shp.tup (Shp.cons2 (Shp.str (by decide +kernel)) (Shp.cons2 (Shp.int _ _) Shp.none2))
theorem shp_out {x : Str} (h : NameOk x) (o : Option Int) : Shp 2 (outD x o) := by
  cases o with
  | some n => exact Shp.tup (Shp.cons2 (Shp.str (by decide +kernel)) (Shp.cons2 (shp_val n) Shp.none2))
  | none =>
    refine Shp.tup (Shp.cons2 (Shp.str (by decide +kernel)) (Shp.cons2 (Shp.int _ _) (Shp.cons2 (Shp.str ?_) Shp.none2)))
    have h1 : PyData.canLay0 (.str "not bound: ") = true := by decide +kernel
    have h2 := h.ok
    rw [PyData.canLay0] at h1 h2 ⊢
    show Array.all (("not bound: " : Str).cps ++ x.cps) _ = true
    rw [Array.all_append]
    exact Bool.and_eq_true_iff.mpr ⟨h1, h2⟩
theorem shp_done : Shp 2 doneD := Shp.tup (Shp.cons2 (Shp.str (by decide +kernel)) (Shp.cons2 (Shp.tup (Shp.cons2 (Shp.str (by decide +kernel)) Shp.none2)) Shp.none2))
theorem shp_sc {s : Sc} (h1 : ∀ q ∈ s.vars, NameOk q.1) (h2 : ∀ x ∈ s.own, NameOk x) (h3 : ∀ x ∈ s.shared, NameOk x) : Shp 4 (scD s) := by
  refine Shp.tup (Shp.cons2 (Shp.str (by decide +kernel)) (Shp.cons2 ?_ (Shp.cons2 ?_ (Shp.cons2 ?_ (Shp.cons2 (Shp.int _ _) (Shp.cons2 (Shp.bool _ _) Shp.none2))))))
  · refine (Shp.tup (n := 2) fun d hd => ?_)
    obtain ⟨q, hq, rfl⟩ := List.mem_map.mp hd
    exact Shp.tup (Shp.cons2 (Shp.str (h1 q hq).ok) (Shp.cons2 (shp_val _) Shp.none2))
  · refine (Shp.tup (n := 0) fun d hd => ?_).mono (by omega)
    obtain ⟨q, hq, rfl⟩ := List.mem_map.mp hd
    exact Shp.str (h2 q hq).ok
  · refine (Shp.tup (n := 0) fun d hd => ?_).mono (by omega)
    obtain ⟨q, hq, rfl⟩ := List.mem_map.mp hd
    exact Shp.str (h3 q hq).ok
theorem find_no {vs : Vs} {x : Str} (h : ∀ q ∈ vs, q.1 ≠ x) : find vs x = none := by
  rw [find_skip (i := vs.length) fun j _ p hp => h p (List.mem_of_getElem? hp), List.drop_length]
  rfl
theorem find_yes : ∀ {vs : Vs} {x : Str} {i : Nat} {n : Int}, vs[i]? = some (x, n) → find vs x ≠ none
  | [], _, _, _, h => by simp at h
  | (y, m) :: r, x, 0, n, h => by
    obtain ⟨rfl, rfl⟩ := Prod.mk.inj (Option.some.inj h)
    show (if y = y then some m else _) ≠ none
    rw [if_pos rfl]; simp
  | (y, m) :: r, x, i + 1, n, h => by
    have h : r[i]? = some (x, n) := h
    show (if y = x then some m else find r x) ≠ none
    split
    · simp
    · exact find_yes h
theorem dtAll_erase {H : Hp} : ∀ {xs : List V} {ds : List PyData} {k : Nat}, DtAll K H xs ds → DtAll K H (xs.eraseIdx k) (ds.eraseIdx k)
  | _, _, _, .nil => .nil
  | _, _, 0, .cons _ t => t
  | _, _, _ + 1, .cons a t => .cons a (dtAll_erase t)
theorem map_erase {α β : Type} {g : α → β} : ∀ {xs : List α} {k : Nat}, (xs.map g).eraseIdx k = (xs.eraseIdx k).map g
  | [], _ => rfl
  | _ :: _, 0 => rfl
  | a :: r, k + 1 => by
    show g a :: (r.map g).eraseIdx k = g a :: (r.eraseIdx k).map g
    rw [map_erase]
def spLUnbind (K : PySem.W.Frag) : Sp := fun vs H Q _ => ∃ (hp tp : Addr) (env : Nat) (x : Str) (scs : List Sc) (ts : List Addr), vs = [.ref hp, .ref tp, .int ((home scs env x).getD 0 : Nat), .int (env : Nat), .str x] ∧ In5 K H hp tp ts scs env x ∧ NameOk x ∧
  ∀ H' scs', (scs' = scs ∨ scs' = setV scs ((home scs env x).getD 0) (delP (varsAt scs ((home scs env x).getD 0)) x)) → ListAt K H' hp (scs'.map scD) → Tb K H' tp ts (scs'.map (·.vars)) → KeepF hp ts H H' → Q (.bl true) H'
theorem ok_lunbind {f : Addr} {fd : FuncData} (F : Fun K "_law_unbind" "_law_unbind" s_law_unbind f fd) (T : Txt K mg) (U_law_place : Use P w K mg base CX0 "_law_place" 1 P_law_place (spPlace K)) (U_unbind_name : Use P w K mg base CX0 "unbind_name" 2 P_unbind_name (spUnbind K)) :
    FnG P w K mg base CX0 3 f fd P_law_unbind (spLUnbind K) := by
  refine okG0 F sc_law_unbind (fun vs H Q E h => ?_) fun cdv A outer s H vs Q E hr hg h => ?_
  · obtain ⟨hp, tp, env, x, scs, ts, rfl, _⟩ := h
    rfl
  · obtain ⟨hp, tp, env, x, scs, ts, rfl, I, hxo, k⟩ := h
    refine ⟨_, (pss_cons (ps_set (i := 5) sc_law_unbind.nd rfl (Or.inl rfl) (pe_use U_law_place (hr.mono (by decide)) hg rfl (pa_cons (pe_ix ix_list (pv 1) (pv 2) (fun _ _ => rfl)) (pa_cons (pv 4) pa_nil))))
  (pss_cons (ps_if (pt_cmpR op_lt (pv 5) pe_int (nomark _))
   (pss_one (ps_ret (pe_cmpR (op_eqD hr.units) (pe_use U_unbind_name (hr.mono (by decide)) hg rfl (pa_cons (pv 0) (pa_cons (pv 3) (pa_cons (pv 4) pa_nil)))) (pe_tup (pa_cons pe_str (pa_cons pe_int (pa_cons (pe_op op_add_str pe_str (pv 4)) pa_nil)))) (nomark _))))
   pss_nil)
  (pss_cons (ps_expr (pe_bm PySem.F.plainAttrs_list PySem.F.slot_list_pop PySem.F.type_list_pop mt_popAt (pe_ix ix_list (pv 1) (pv 2) (fun _ _ => rfl)) (pa_cons (pv 5) pa_nil)))
  (pss_one (ps_ret (pe_cmpR (op_eqD hr.units) (pe_use U_unbind_name (hr.mono (by decide)) hg rfl (pa_cons (pv 0) (pa_cons (pv 3) (pa_cons (pv 4) pa_nil)))) (pe_tup (pa_cons pe_str (pa_cons (pe_tup (pa_cons pe_str pa_nil)) pa_nil))) (nomark _))))))), ?_⟩
    have hlt := home_lt (x := x) I.e
    have hvl := varsAt_len (h := (home scs env x).getD 0) I.v
    have nv := I.nv
    generalize hh : (home scs env x).getD 0 = h at hlt hvl nv k
    obtain ⟨t, ht, Lt⟩ := I.t.at_ h _ (varsAt_map hlt)
    have htm := List.mem_of_getElem? ht
    obtain ⟨zs, ez, az⟩ := id Lt
    have lz := az.length
    rw [List.length_map] at lz
    have hix : atI (ts.map V.ref) ((h : Nat) : Int) = some (.ref t) := atI_nat (by rw [List.getElem?_map, ht]; rfl)
    have s1 := (shp_out hxo none).sh (by decide)
    have s2 := shp_done.sh (by decide)
    refine ⟨_, rfl, _, rfl, tp, _, _, _, rfl, rfl, SqL.of I.t.tb, hix, _, rfl, t, varsAt scs h, x, rfl, Lt, by omega, fun i n0 hi => ?_, fun hno => ?_⟩
    · refine ⟨_, rfl, _, _, rfl, rfl, _, rfl, iteFb (decide_eq_false (by omega)) ?_⟩
      have hil : i < (varsAt scs h).length := (List.getElem?_eq_some_iff.mp hi).1
      have hzi : zs[i]? = some zs[i] := List.getElem?_eq_getElem (by omega)
      refine ⟨_, rfl, _, rfl, tp, _, _, _, rfl, rfl, SqL.of I.t.tb, hix, .inl ⟨rfl, _, SqL.of ez⟩, _, rfl, t, _, _, i, _, rfl, rfl, ez, by omega, by omega, (ixN_seq (ixN_nat (by omega))).1, hzi, ?_⟩
      have kt := KeepT.upd (K := K) (o := .lst (zs.eraseIdx i)) ez
      have Le : ListAt K (upd H t (.lst (zs.eraseIdx i))) t ((delP (varsAt scs h) x).map varD) := by
        rw [← nd_erase nv hi]
        refine ⟨_, upd_same, ?_⟩
        rw [← map_erase]
        exact dtAll_erase (DtAll.keepT kt az)
      have T2 := I.t.put I.nd (Ne.symm (I.n2 t htm).2) ht ez Le (by rw [List.length_map]; exact hlt)
      have L2 := listAt_upd (o := .lst (zs.eraseIdx i)) I.l (Ne.symm (I.n2 t htm).1) ez
      have K2 : KeepF hp ts H (upd H t (.lst (zs.eraseIdx i))) := fun b o hb n1 n2 => by
        have ne : b ≠ t := (fun e => n2 (by rw [e]; exact htm))
        rw [upd_ne ne]
        exact hb
      generalize upd H t (.lst (zs.eraseIdx i)) = H2 at T2 L2 K2
      refine ⟨_, rfl, _, rfl, _, rfl, hp, scs, env, x, rfl, I.xl, L2, I.e, I.s, I.v, ?_, ?_⟩
      · rw [hh]
        intro h0
        exact absurd h0 (find_yes hi)
      · rw [hh]
        intro _ v H' L' K' dv
        refine ⟨sz_1, fun u1 hu1 => ⟨sz_2, fun u2 hu2 => ?_⟩⟩
        have S1 := Same.new (o := .tup [.str "none"]) hu1
        have S2 := Same.new (o := .tup [.str "ok", .ref u1]) hu2
        have du : Dt K _ (.ref u2) doneD := Dt.made hu2 (.cons (.str _) (.cons (Dt.made hu1 (.cons (.str _) .nil)) .nil))
        refine ⟨_, _, ((dv.mono S1).mono S2).dp, du.dp, s2, s2, ?_⟩
        rw [eqv_self (SeqAt.canLay_of_shaped s2)]
        have hl2 : ∃ xs, H2 hp = some (.lst xs) := let ⟨xs, e, _⟩ := L2; ⟨xs, e⟩
        refine k _ _ (.inr rfl) (listAt_mono L' (S1.trans S2)) ?_ fun b o hb n1 n2 => S2 _ _ (S1 _ _ (K' _ _ (K2 b o hb n1 n2) n1))
        rw [map_setV hlt]
        exact (T2.keep K' hl2 I.n1 fun t' ht' => (I.n2 t' ht').1).same (S1.trans S2)
    · refine ⟨_, rfl, _, _, rfl, rfl, _, rfl, iteTb (by decide +kernel) ?_⟩
      have hf := find_no hno
      refine ⟨_, rfl, _, rfl, _, rfl, hp, scs, env, x, rfl, I.xl, I.l, I.e, I.s, I.v, ?_, ?_⟩
      · rw [hh]
        intro _ v H' S1 dv
        refine ⟨_, rfl, _, _, rfl, rfl, ?_, sz_3, fun u hu => ?_⟩
        · rw [show ("not bound: " : Str).length = 11 by decide +kernel]
          have := I.xl
          exact Nat.le_trans (show _ ≤ 1011 by omega) (by decide)
        have S2 := Same.new (o := .tup [.str "raise", .int 8, .str ("not bound: " ++ x)]) hu
        have du : Dt K _ (.ref u) (outD x none) := Dt.made hu (.cons (.str _) (.cons (.int _) (.cons (.str _) .nil)))
        refine ⟨_, _, (dv.mono S2).dp, du.dp, s1, s1, ?_⟩
        rw [eqv_self (SeqAt.canLay_of_shaped s1)]
        exact k _ scs (.inl rfl) (listAt_mono I.l (S1.trans S2)) (I.t.same (S1.trans S2)) fun b o hb _ _ => S2 _ _ (S1 b o hb)
      · rw [hh, hf]
        intro h0
        exact absurd rfl h0
/-! the law itself -/
theorem at_clr {scs : List Sc} {j : Nat} : (scs.map clr)[j]? = (scs[j]?).map clr := List.getElem?_map ..
theorem homeAt_clr {scs : List Sc} {x : Str} : ∀ j, homeAt (scs.map clr) x j = homeAt scs x j
  | 0 => rfl
  | j + 1 => by
    show (if j = 0 then none else match (scs.map clr)[j]? with | none => none | some s => if s.cls = false ∧ x ∈ s.shared then some 0 else if s.cls = false ∧ x ∈ s.own then some j else homeAt (scs.map clr) x j) = (if j = 0 then none else match scs[j]? with | none => none | some s => if s.cls = false ∧ x ∈ s.shared then some 0 else if s.cls = false ∧ x ∈ s.own then some j else homeAt scs x j)
    rw [at_clr, homeAt_clr j]
    cases scs[j]? <;> rfl
theorem home_clr {scs : List Sc} {env : Nat} {x : Str} : home (scs.map clr) env x = home scs env x := by
  unfold home
  rw [at_clr, homeAt_clr]
  cases scs[env]? <;> rfl
theorem homeAt_sh {scs : List Sc} {x : Str} (hS : Scs scs) : ∀ {j h : Nat}, homeAt scs x j = some h → ∀ s, scs[h]? = some s → x ∉ s.shared
  | 0, h, e, _, _ => by cases e
  | j + 1, h, e, s, hs => by
    have e : (if j = 0 then none else match scs[j]? with | none => none | some s => if s.cls = false ∧ x ∈ s.shared then some 0 else if s.cls = false ∧ x ∈ s.own then some j else homeAt scs x j) = some h := e
    split at e
    · cases e
    · split at e
      · cases e
      · next s2 h2 =>
        split at e
        · cases e
          rw [(hS.mod _ hs).2.1]; simp
        · next hn =>
          split at e
          · next ho =>
            cases e
            rw [h2] at hs
            cases hs
            exact fun hm => hn ⟨ho.1, hm⟩
          · exact homeAt_sh hS e s hs
theorem home_sh {scs : List Sc} {env h : Nat} {x : Str} (hS : Scs scs) (e : home scs env x = some h) : ∀ s, scs[h]? = some s → x ∉ s.shared := fun s hs => by
  unfold home at e
  split at e
  · cases e
  · next s2 h2 =>
    split at e
    · cases e
      rw [(hS.mod _ hs).2.1]; simp
    · next hn =>
      split at e
      · cases e
        rw [h2] at hs
        cases hs
        exact hn
      · exact homeAt_sh hS e s hs
theorem look_bound {scs : List Sc} {env h : Nat} {x : Str} {n : Int} (hS : Scs scs) (e : home scs env x = some h) (hlt : h < scs.length) : lookAt (setV scs h (withP (varsAt scs h) x n)) h x (h + 1) = some n := by
  have hsc : scs[h]? = some scs[h] := List.getElem?_eq_getElem hlt
  have hsh := home_sh hS e _ hsc
  generalize scs[h] = s1 at hsc hsh
  have e2 : (setV scs h (withP (varsAt scs h) x n))[h]? = some { s1 with vars := withP (varsAt scs h) x n } := by
    rw [setV_at hsc, List.getElem?_set_self hlt]
  show (match (setV scs h (withP (varsAt scs h) x n))[h]? with | none => none | some s => _) = some n
  rw [e2]
  show (if h = h ∨ s1.cls = false then (if x ∈ s1.shared then _ else match find (withP (varsAt scs h) x n) x with | some n => some n | none => _) else _) = some n
  rw [if_pos (.inl rfl), if_neg hsh, find_with]
/-- what is known of the scopes -/
structure Good (scs : List Sc) (i : Nat) : Prop where
  s : Scs scs
  v : ∀ s ∈ scs, s.vars.length ≤ i
  nd : ∀ s ∈ scs, Nd s.vars
  n1 : ∀ s ∈ scs, ∀ q ∈ s.vars, NameOk q.1
  n2 : ∀ s ∈ scs, ∀ x ∈ s.own, NameOk x
  n3 : ∀ s ∈ scs, ∀ x ∈ s.shared, NameOk x
theorem Good.mono {scs : List Sc} {i j : Nat} (h : Good scs i) (l : i ≤ j) : Good scs j := ⟨h.s, fun s hs => Nat.le_trans (h.v s hs) l, h.nd, h.n1, h.n2, h.n3⟩
theorem Good.put {scs : List Sc} {i h : Nat} {vs : Vs} (g : Good scs i) (hlt : h < scs.length) (h1 : vs.length ≤ i + 1) (h2 : Nd vs) (h3 : ∀ q ∈ vs, NameOk q.1) : Good (setV scs h vs) (i + 1) ∧ (setV scs h vs).map clr = scs.map clr := by
  have hsc : scs[h]? = some scs[h] := List.getElem?_eq_getElem hlt
  have hm := List.getElem_mem hlt
  generalize scs[h] = s1 at hsc hm
  have e := setV_at (vs := vs) hsc
  have mem : ∀ s ∈ setV scs h vs, s ∈ scs ∨ s = { s1 with vars := vs } := fun s hs => by
    rw [e] at hs
    rcases List.mem_or_eq_of_mem_set hs with h | h
    · exact .inl h
    · exact .inr h
  refine ⟨⟨⟨by rw [setV_len]; exact g.s.len, fun j s hj => ?_, fun s hj => ?_⟩, fun s hs => ?_, fun s hs => ?_, fun s hs => ?_, fun s hs => ?_, fun s hs => ?_⟩, ?_⟩
  · rw [e] at hj
    by_cases ej : j = h
    · subst ej
      rw [List.getElem?_set_self hlt] at hj
      obtain rfl := Option.some.inj hj
      exact g.s.ar _ s1 hsc
    · rw [List.getElem?_set_ne (Ne.symm ej)] at hj
      exact g.s.ar j s hj
  · rw [e] at hj
    by_cases ej : 0 = h
    · subst ej
      rw [List.getElem?_set_self hlt] at hj
      obtain rfl := Option.some.inj hj
      exact g.s.mod s1 hsc
    · rw [List.getElem?_set_ne (Ne.symm ej)] at hj
      exact g.s.mod s hj
  · rcases mem s hs with h | rfl
    · exact Nat.le_trans (g.v s h) (by omega)
    · exact h1
  · rcases mem s hs with h | rfl
    · exact g.nd s h
    · exact h2
  · rcases mem s hs with h | rfl
    · exact g.n1 s h
    · exact h3
  · rcases mem s hs with h | rfl
    · exact g.n2 s h
    · exact g.n2 s1 hm
  · rcases mem s hs with h | rfl
    · exact g.n3 s h
    · exact g.n3 s1 hm
  · rw [e, List.map_set]
    have : (scs.map clr)[h]? = some (clr { s1 with vars := vs }) := by rw [at_clr, hsc]; rfl
    refine List.ext_getElem? fun j => ?_
    by_cases ej : j = h
    · subst ej
      rw [List.getElem?_set_self (by rw [List.length_map]; exact hlt)]
      exact this.symm
    · rw [List.getElem?_set_ne (Ne.symm ej)]
theorem with_len {vs : Vs} {x : Str} {n : Int} : (withP vs x n).length ≤ vs.length + 1 := by
  unfold withP repl
  split <;> simp
theorem with_nm {vs : Vs} {x : Str} {n : Int} (h : ∀ q ∈ vs, NameOk q.1) (hx : NameOk x) : ∀ q ∈ withP vs x n, NameOk q.1 := by
  unfold withP repl
  split
  · intro q hq
    obtain ⟨p, hp, rfl⟩ := List.mem_map.mp hq
    split
    · exact hx
    · exact h p hp
  · intro q hq
    rcases List.mem_append.mp hq with hq | hq
    · exact h q hq
    · rw [List.mem_singleton.mp hq]; exact hx
theorem varsAt_mem {scs : List Sc} {h : Nat} (hlt : h < scs.length) : ∃ s ∈ scs, varsAt scs h = s.vars := by
  refine ⟨scs[h], List.getElem_mem hlt, ?_⟩
  unfold varsAt
  rw [List.getElem?_eq_getElem hlt]
/-- the heap of the law -/
structure Hw (K : PySem.W.Frag) (H : Hp) (p dl np sp hp tp : Addr) (nms : List Str) (ts : List Addr) (scs : List Sc) : Prop where
  box : BoxAt H p dl
  nm : H np = some (.lst (nms.map V.str))
  sp : ListAt K H sp ((scs.map clr).map scD)
  hp : ListAt K H hp (scs.map scD)
  tb : Tb K H tp ts (scs.map (·.vars))
structure Dw (p dl np sp hp tp : Addr) (ts : List Addr) : Prop where
  nd : ts.Nodup
  t : ∀ t ∈ ts, t ≠ hp ∧ t ≠ tp ∧ t ≠ p ∧ t ≠ dl ∧ t ≠ np ∧ t ≠ sp
  h : hp ≠ p ∧ hp ≠ dl ∧ hp ≠ np ∧ hp ≠ sp ∧ tp ≠ hp
  p : np ≠ p ∧ sp ≠ p ∧ tp ≠ p
section
variable {H H' : Hp} {p dl np sp hp tp : Addr} {nms : List Str} {ts : List Addr} {scs scs' : List Sc}
theorem Hw.draw (X : Hw K H p dl np sp hp tp nms ts scs) (D : Dw p dl np sp hp tp ts) (B : BoxAt H' p dl) (k : Keep p H H') : Hw K H' p dl np sp hp tp nms ts scs :=
  ⟨B, k _ _ X.nm D.p.1, listAt_keep X.sp k D.p.2.1 X.box.at_, listAt_keep X.hp k D.h.1 X.box.at_, X.tb.keep k X.box.at_ D.p.2.2 fun t ht => (D.t t ht).2.2.1⟩
theorem Hw.same (X : Hw K H p dl np sp hp tp nms ts scs) (e : Same H H') : Hw K H' p dl np sp hp tp nms ts scs :=
  ⟨X.box.same e, e _ _ X.nm, listAt_mono X.sp e, listAt_mono X.hp e, X.tb.same e⟩
theorem KeepF.keepT (X : Hw K H p dl np sp hp tp nms ts scs) (e : KeepF hp ts H H') : KeepT K H H' := fun a xs h => by
  obtain ⟨ys, h1, _⟩ := X.hp
  have hl : ∀ t ∈ ts, ∃ ys, H t = some (.lst ys) := fun t ht => by
    obtain ⟨k, hk⟩ := List.mem_iff_getElem?.mp ht
    have hkl : k < ts.length := (List.getElem?_eq_some_iff.mp hk).1
    rw [X.tb.len] at hkl
    obtain ⟨t', a1, zs, a2, _⟩ := X.tb.at_ k _ (List.getElem?_eq_getElem hkl)
    rw [hk] at a1
    obtain rfl := Option.some.inj a1
    exact ⟨zs, a2⟩
  have ne1 : ∀ {o : HO}, H a = some o → (∀ zs, o ≠ .lst zs) → a ≠ hp ∧ a ∉ ts := fun h2 h3 => by
    refine ⟨fun e => ?_, fun hm => ?_⟩
    · subst e; rw [h1] at h2; exact h3 _ (Option.some.inj h2).symm
    · obtain ⟨zs, h4⟩ := hl a hm
      rw [h4] at h2; exact h3 _ (Option.some.inj h2).symm
  rcases h with (h | ⟨o, h⟩) | h
  · obtain ⟨n1, n2⟩ := ne1 h (fun zs z => by cases z)
    exact .inl (.inl (e _ _ h n1 n2))
  · obtain ⟨n1, n2⟩ := ne1 h (fun zs z => by cases z)
    exact .inl (.inr ⟨o, e _ _ h n1 n2⟩)
  · exact .inr h
theorem Hw.next (X : Hw K H p dl np sp hp tp nms ts scs) (D : Dw p dl np sp hp tp ts) (L : ListAt K H' hp (scs'.map scD)) (T : Tb K H' tp ts (scs'.map (·.vars))) (e : KeepF hp ts H H') (hc : scs'.map clr = scs.map clr) : Hw K H' p dl np sp hp tp nms ts scs' := by
  have nt : ∀ a, (∀ t ∈ ts, t ≠ a) → a ∉ ts := fun a h hm => h a hm rfl
  refine ⟨?_, e _ _ X.nm (Ne.symm D.h.2.2.1) (nt _ fun t ht => (D.t t ht).2.2.2.2.1), ?_, L, T⟩
  · obtain ⟨ds, k, a, b, c, d⟩ := X.box
    exact ⟨ds, k, e _ _ a (Ne.symm D.h.1) (nt _ fun t ht => (D.t t ht).2.2.1), b, e _ _ c (Ne.symm D.h.2.1) (nt _ fun t ht => (D.t t ht).2.2.2.1), d⟩
  · rw [hc]
    obtain ⟨ys, ey, ay⟩ := X.sp
    exact ⟨ys, e _ _ ey (Ne.symm D.h.2.2.2.1) (nt _ fun t ht => (D.t t ht).2.2.2.2.2), DtAll.keepT (KeepF.keepT X e) ay⟩
end
def spLaw (K : PySem.W.Frag) : Sp := fun vs H Q _ => ∃ (a : Addr) (ns : List Int), vs = [.ref a] ∧ SqL K H a (ns.map V.int) ∧ ns.length ≤ 63 ∧ ∀ H', Q (.bl true) H'
theorem ok_law {f : Addr} {fd : FuncData} (F : Fun K "law" "law" s_law f fd) (T : Txt K mg) (U_law_digits : Use P w K mg base CX0 "_law_digits" 2 P_law_digits (spDigits K)) (U_law_draw : Use P w K mg base CX0 "_law_draw" 1 P_law_draw (spDraw K))
    (U_law_scope : Use P w K mg base CX0 "_law_scope" 2 P_law_scope (spScope K)) (U_law_home : Use P w K mg base CX0 "_law_home" 1 P_law_home (spLHome K)) (U_law_bind : Use P w K mg base CX0 "_law_bind" 3 P_law_bind (spLBind K)) (U_look_up : Use P w K mg base CX0 "look_up" 3 P_look_up (spLookup K))
    (U_law_unbind : Use P w K mg base CX0 "_law_unbind" 3 P_law_unbind (spLUnbind K)) (U_law_same : Use P w K mg base CX0 "_law_same" 1 P_law_same (spLSame K)) : FnG P w K mg base CX0 4 f fd P_law (spLaw K) := by
  refine okG0 F sc_law (fun vs H Q E h => ?_) fun cdv A outer s H vs Q E hr hg h => ?_
  · obtain ⟨a, ns, rfl, _⟩ := h
    rfl
  · obtain ⟨a, ns, rfl, hs, hn, k⟩ := h
    refine ⟨_, (pss_cons (ps_set (i := 1) sc_law.nd rfl (Or.inr rfl) (pe_lst (pa_cons (pe_use U_law_digits (hr.mono (by decide)) hg rfl (pa_cons (pv 0) (pa_cons pe_int (pa_cons pe_int pa_nil)))) (pa_cons pe_int pa_nil))))
  (pss_cons (ps_set (i := 2) sc_law.nd rfl (Or.inr rfl) (pe_lc (own := [("k", 3)]) (g := (gName 3)) rfl sc_law.nd (pi_range1 (by rfl) T.b_range (pa_cons pe_int pa_nil)) (blkOk_by (N := N_law) (sc := defScope s_law) (by decide +kernel)) (fun _ _ _ _ _ => (pg_name (i := 3) sc_law.nd rfl (Or.inl rfl))) (fun _ _ _ _ _ => pts_nil) (fun _ _ _ _ _ => (pe_op op_add_str (pe_op op_add_str pe_str (pe_ix ix_str pe_str (pv 3) (fun _ _ => rfl))) pe_str))))
  (pss_cons (ps_setLc (i := 4) (own := [("k", 3)]) (g := (gName 3)) rfl sc_law.nd rfl rfl (sw_true rfl rfl rfl (by decide +kernel)) (pi_range1 (by rfl) T.b_range (pa_cons (pe_op op_add pe_int (pe_use U_law_draw (hr.mono (by decide)) hg rfl (pa_cons (pv 1) (pa_cons pe_int pa_nil)))) pa_nil)) (blkOk_by (N := N_law) (sc := defScope s_law) (by decide +kernel)) (fun _ _ _ _ _ => (pg_name (i := 3) sc_law.nd rfl (Or.inl rfl))) (fun _ _ _ _ _ => pts_nil) (fun _ _ _ _ _ => (pe_use U_law_scope (hr.mono (by decide)) hg rfl (pa_cons (pv 1) (pa_cons (pv 2) (pa_cons (pv 3) pa_nil))))))
  (pss_cons (ps_setLc (i := 5) (own := [("scope", 6)]) (g := (gName 6)) rfl sc_law.nd rfl rfl (sw_true rfl rfl rfl (by decide +kernel)) (pi_list (pv 4)) (blkOk_by (N := N_law) (sc := defScope s_law) (by decide +kernel)) (fun _ _ _ _ _ => (pg_name (i := 6) sc_law.nd rfl (Or.inl rfl))) (fun _ _ _ _ _ => pts_nil) (fun _ _ _ _ _ => (pe_lst pa_nil)))
  (pss_cons (ps_set (i := 7) sc_law.nd rfl (Or.inl rfl) (pe_callTy call_list_of (by rfl) T.b_list (by decide +kernel) (pa_cons (pv 4) pa_nil)))
  (pss_cons (ps_for PassesOwn.never rfl (pi_range1 (by rfl) T.b_range (pa_cons (pe_op op_add pe_int (pe_use U_law_draw (hr.mono (by decide)) hg rfl (pa_cons (pv 1) (pa_cons pe_int pa_nil)))) pa_nil)) (pg_name (i := 3) sc_law.nd rfl (Or.inl rfl))
   (pss_cons (ps_set (i := 8) sc_law.nd rfl (Or.inl rfl) (pe_use U_law_draw (hr.mono (by decide)) hg rfl (pa_cons (pv 1) (pa_cons (pe_callB call_len (by rfl) T.b_len PySem.boot_len (pa_cons (pv 4) pa_nil)) pa_nil))))
  (pss_cons (ps_set (i := 9) sc_law.nd rfl (Or.inl rfl) (pe_ix ix_list (pv 2) (pe_use U_law_draw (hr.mono (by decide)) hg rfl (pa_cons (pv 1) (pa_cons pe_int pa_nil))) (fun _ _ => rfl)))
  (pss_cons (ps_set (i := 10) sc_law.nd rfl (Or.inl rfl) (pe_use U_law_home (hr.mono (by decide)) hg rfl (pa_cons (pv 4) (pa_cons (pv 8) (pa_cons (pv 9) pa_nil)))))
  (pss_cons (ps_set (i := 11) sc_law.nd rfl (Or.inl rfl) (pe_use U_law_draw (hr.mono (by decide)) hg rfl (pa_cons (pv 1) (pa_cons pe_int pa_nil))))
  (pss_cons (ps_set (i := 12) sc_law.nd rfl (Or.inl rfl) (pe_tup (pa_cons pe_str (pa_cons (pe_use U_law_draw (hr.mono (by decide)) hg rfl (pa_cons (pv 1) (pa_cons pe_int pa_nil))) pa_nil))))
  (C8.pss_cut (ps_if (PW.pt (pw_and (pt_cmpR op_ge (pv 10) pe_int (nomark _)) (pw_and1 (pt_cmpR op_gt (pv 11) pe_int (nomark _)))))
   (pss_cons (ps_if (pt_not (pt_val (pe_use U_law_bind (hr.mono (by decide)) hg rfl (pa_cons (pv 7) (pa_cons (pv 5) (pa_cons (pv 10) (pa_cons (pv 8) (pa_cons (pv 9) (pa_cons (pv 12) pa_nil)))))))))
   (pss_one (ps_ret pe_bl))
   pss_nil)
  (pss_one (ps_if (pt_cmpR (op_neD hr.units) (pe_use U_look_up (hr.mono (by decide)) hg rfl (pa_cons (pv 7) (pa_cons (pv 10) (pa_cons (pv 9) pa_nil)))) (pe_tup (pa_cons pe_str (pa_cons (pv 12) pa_nil))) (nomark _))
   (pss_one (ps_ret pe_bl))
   pss_nil)))
   (pss_one (ps_if (pt_cmpR op_ge (pv 10) pe_int (nomark _))
   (pss_one (ps_if (pt_not (pt_val (pe_use U_law_unbind (hr.mono (by decide)) hg rfl (pa_cons (pv 7) (pa_cons (pv 5) (pa_cons (pv 10) (pa_cons (pv 8) (pa_cons (pv 9) pa_nil))))))))
   (pss_one (ps_ret pe_bl))
   pss_nil))
   pss_nil)))
  (pss_one (ps_if (pt_not (pt_val (pe_use U_law_same (hr.mono (by decide)) hg rfl (pa_cons (pv 7) (pa_cons (pv 4) (pa_cons (pv 5) pa_nil))))))
   (pss_one (ps_ret pe_bl))
   pss_nil)))))))))
  (pss_one (ps_ret pe_bl)))))))), ?_⟩
    refine ⟨_, rfl, a, ns, 0, 63, rfl, hs, by decide, by decide, fun dl H1 nd D => ?_⟩
    obtain ⟨ds, hd, hl, hds, S1⟩ := D
    refine ⟨sz_2, fun p hp0 => ?_⟩
    have B0 : BoxAt (upd H1 p (.lst [.ref dl, .int 0])) p dl := ⟨ds, 0, upd_same, by decide, by rw [upd_ne (ne_of_none hd hp0)]; exact hd, hl, hds⟩
    generalize upd H1 p (.lst [.ref dl, .int 0]) = H2 at B0
    have ne1 : ∀ {H : Hp} {a b : Addr} {o : HO}, H a = some o → H b = none → b ≠ a := fun h1 h2 e => by subst e; rw [h1] at h2; cases h2
    -- the names
    refine ⟨_, rfl, by decide, by decide, fun np hnp => ?_⟩
    refine lc_it (walk_range (lo := 0) (n := 5)) (fun i H' => ∃ nms : List Str, H' np = some (.lst (nms.map V.str)) ∧ nms.length = i ∧ (∀ x ∈ nms, NameOk x) ∧ Same H2 H') ⟨[], upd_same, rfl, by simp, Same.new hnp⟩ (fun _ _ _ _ => trivial) ?_ ?_
    · rintro i x H3 H4 hi ⟨nms, en, hnl, hno, S3⟩ ⟨rfl, rfl⟩
      have hc : ∃ c : Nat, atI ("bcdef" : Str).cps.toList (0 + (i : Int)) = some c ∧ NameOk ("a" ++ (⟨#[c]⟩ : Str) ++ "x") := by
        match i, hi with
        | 0, _ => exact ⟨98, by decide +kernel, by decide +kernel, by decide +kernel⟩
        | 1, _ => exact ⟨99, by decide +kernel, by decide +kernel, by decide +kernel⟩
        | 2, _ => exact ⟨100, by decide +kernel, by decide +kernel, by decide +kernel⟩
        | 3, _ => exact ⟨101, by decide +kernel, by decide +kernel, by decide +kernel⟩
        | 4, _ => exact ⟨102, by decide +kernel, by decide +kernel, by decide +kernel⟩
        | i + 5, h => omega
      obtain ⟨c, hc, hok⟩ := hc
      have l1 : ("a" : Str).length = 1 := by decide +kernel
      have l2 : ("x" : Str).length = 1 := by decide +kernel
      have l3 : (⟨#[c]⟩ : Str).length = 1 := rfl
      have l4 := hok.len
      refine ⟨rfl, tYes_of ?_⟩
      refine ⟨_, rfl, _, _, c, rfl, rfl, by decide +kernel, hc, _, _, rfl, rfl, by rw [l1, l3]; decide, _, _, rfl, rfl, ?_, nms.map V.str, en, by rw [List.length_map, hnl]; exact Nat.lt_of_lt_of_le hi (by decide), nms ++ ["a" ++ (⟨#[c]⟩ : Str) ++ "x"], by rw [upd_same, List.map_append]; rfl, by simp; omega, fun x hx => ?_, fun b o hb => by rw [upd_ne (ne_of_none hb hnp)]; exact S3 b o hb⟩
      · have : ("a" ++ (⟨#[c]⟩ : Str)).length = 2 := rfl
        rw [this, l2]; decide
      · rcases List.mem_append.mp hx with hx | hx
        · exact hno x hx
        · rw [List.mem_singleton.mp hx]; exact hok
    rintro H3 ⟨nms, en, hnl, hno, S3⟩
    have B3 := B0.same S3
    have npp : np ≠ p := by obtain ⟨xs, g⟩ := B0.at_; exact ne1 g hnp
    have npd : np ≠ dl := by obtain ⟨xs, g⟩ := B0.dg; exact ne1 g hnp
    refine ⟨_, rfl, p, dl, 7, rfl, B3, by decide, fun r H4 r0 r1 B4 K4 => ?_⟩
    have en4 := K4 _ _ en npp
    obtain ⟨N, rfl⟩ := Int.eq_ofNat_of_zero_le r0
    refine ⟨_, _, rfl, rfl, _, rfl, by omega, by omega, fun sp hsp => ?_⟩
    have eN : ((1 : Int) + (N : Int)).toNat = N + 1 := by omega
    rw [eN]
    refine lc_it (walk_range (lo := 0) (n := N + 1)) (fun i H' => ∃ acc scs, H' sp = some (.lst acc) ∧ DtAll K H' acc (scs.map scD) ∧ scs.length = i ∧ Good scs 0 ∧ (∀ s ∈ scs, s.vars = []) ∧ BoxAt H' p dl ∧ H' np = some (.lst (nms.map V.str)))
      ⟨[], [], upd_same, .nil, rfl, ⟨⟨by simp, by simp, by simp⟩, by simp, by simp, by simp, by simp, by simp⟩, by simp, B4.same (Same.new hsp), Same.new hsp _ _ en4⟩ (fun _ _ _ _ => trivial) ?_ ?_
    · rintro i x H5 H6 hi ⟨acc, scs, eD, ha, hl, hG, hv0, B5, en5⟩ ⟨rfl, rfl⟩
      have hDp : sp ≠ p := by obtain ⟨xs, g⟩ := B4.at_; exact ne1 g hsp
      have hDd : sp ≠ dl := by obtain ⟨xs, g⟩ := B4.dg; exact ne1 g hsp
      have hDn : sp ≠ np := ne1 en4 hsp
      refine ⟨rfl, tYes_of ?_⟩
      refine ⟨_, rfl, _, rfl, _, rfl, p, dl, np, nms, i, by show [V.ref p, V.ref np, V.int (0 + (i : Int))] = _; rw [Int.zero_add], B5, en5, hnl, hno, by omega, npp, fun v s H7 sv sar s2 s3 s0 dv B7 K7 => ?_⟩
      have e7 := K7 _ _ eD hDp
      have la := ha.length
      rw [List.length_map] at la
      have kt := Keep.keepT (K := K) K7 B5.at_
      have mem : ∀ z ∈ scs ++ [s], z ∈ scs ∨ z = s := fun z hz => by
        rcases List.mem_append.mp hz with h | h
        · exact .inl h
        · exact .inr (List.mem_singleton.mp h)
      have atq : ∀ (j : Nat) (z : Sc), (scs ++ [s])[j]? = some z → (j < scs.length ∧ scs[j]? = some z) ∨ (j = scs.length ∧ z = s) := fun j z hz => by
        by_cases hj : j < scs.length
        · rw [List.getElem?_append_left hj] at hz; exact .inl ⟨hj, hz⟩
        · rw [List.getElem?_append_right (by omega)] at hz
          have e0 : j - scs.length = 0 := by
            by_cases e : j - scs.length = 0
            · exact e
            · rw [List.getElem?_eq_none (by simp; omega)] at hz; cases hz
          rw [e0] at hz
          exact .inr ⟨by omega, (Option.some.inj hz).symm⟩
      refine ⟨acc, e7, Nat.lt_of_le_of_lt (show acc.length ≤ 100 by omega) (by decide), acc ++ [v], scs ++ [s], upd_same, ?_, by simp; omega, ⟨⟨by simp; omega, fun j z hz => ?_, fun z hz => ?_⟩, fun z hz => ?_, fun z hz => ?_, fun z hz => ?_, fun z hz => ?_, fun z hz => ?_⟩, fun z hz => ?_, B7.upd hDp hDd, by rw [upd_ne (Ne.symm hDn)]; exact K7 _ _ en5 npp⟩
      · rw [List.map_append]
        exact DtAll.app (DtAll.keepT (kt.trans (KeepT.upd e7)) ha) (.cons (Dt.keepT (KeepT.upd e7) dv) .nil)
      · rcases atq j z hz with ⟨_, h⟩ | ⟨rfl, rfl⟩
        · exact hG.s.ar j z h
        · rw [sar]; omega
      · rcases atq 0 z hz with ⟨_, h⟩ | ⟨h, rfl⟩
        · exact hG.s.mod z h
        · exact s0 (by omega)
      · rcases mem z hz with h | rfl
        · exact hG.v z h
        · rw [sv]; simp
      · rcases mem z hz with h | rfl
        · exact hG.nd z h
        · unfold Nd; rw [sv]; simp
      · rcases mem z hz with h | rfl
        · exact hG.n1 z h
        · rw [sv]; simp
      · rcases mem z hz with h | rfl
        · exact hG.n2 z h
        · exact s2
      · rcases mem z hz with h | rfl
        · exact hG.n3 z h
        · exact s3
      · rcases mem z hz with h | rfl
        · exact hv0 z h
        · exact sv
    rintro H5 ⟨acc, scs, eD, ha, hl, hG, hv0, B5, en5⟩
    have spp : sp ≠ p := by obtain ⟨xs, g⟩ := B4.at_; exact ne1 g hsp
    have spd : sp ≠ dl := by obtain ⟨xs, g⟩ := B4.dg; exact ne1 g hsp
    have spn : sp ≠ np := ne1 en4 hsp
    have la := ha.length
    rw [List.length_map] at la
    clear K4 hsp B4 en4 B3 en hnp B0 S3
    -- the tables
    refine ⟨_, rfl, sp, rfl, ⟨_, SqL.of eD⟩, fun tp htp => ?_⟩
    obtain ⟨bx, hbx⟩ := B5.at_
    obtain ⟨bd, hbd⟩ := B5.dg
    refine lc_it (walk_list (xs := acc)) (fun i H' => ∃ ts : List Addr, H' tp = some (.lst (ts.map V.ref)) ∧ ts.length = i ∧ ts.Nodup ∧ (∀ t ∈ ts, H' t = some (.lst []) ∧ t ≠ tp ∧ H5 t = none) ∧ Same H5 H') ⟨[], upd_same, rfl, by simp, by simp, Same.new htp⟩ (fun _ _ _ h => let ⟨_, _, _, _, _, s⟩ := h; SqL.of (s _ _ eD)) ?_ ?_
    · rintro i x H6 H7 hi ⟨ts, et, htl, hnd, htt, S6⟩ ⟨rfl, _⟩
      refine ⟨rfl, tYes_of ?_⟩
      refine ⟨sz_0, fun t ht => ?_⟩
      have T1 := Same.new (o := .lst []) ht
      have ntt : t ≠ tp := ne1 et ht
      have nts : t ∉ ts := fun hm => by
        have := (htt t hm).1
        rw [this] at ht; cases ht
      refine ⟨ts.map V.ref, T1 _ _ et, by rw [List.length_map]; exact Nat.lt_of_le_of_lt (show ts.length ≤ 100 by omega) (by decide), ts ++ [t], by rw [upd_same, List.map_append]; rfl, by simp; omega, ?_, fun z hz => ?_, fun b o hb => by rw [upd_ne (ne_of_none hb htp)]; exact T1 _ _ (S6 b o hb)⟩
      · rw [List.nodup_append]
        exact ⟨hnd, by simp, fun z hz w hw e => by rw [List.mem_singleton.mp hw] at e; exact nts (e ▸ hz)⟩
      · rcases List.mem_append.mp hz with hz | hz
        · obtain ⟨h1, h2, h3⟩ := htt z hz
          exact ⟨by rw [upd_ne h2]; exact T1 _ _ h1, h2, h3⟩
        · rw [List.mem_singleton.mp hz]
          exact ⟨by rw [upd_ne ntt, upd_same], ntt, none_of_same S6 ht⟩
    rintro H6 ⟨ts, et, htl, hnd, htt, S6⟩
    -- the heap
    refine ⟨_, rfl, sp, _, rfl, .inl (SqL.of (S6 _ _ eD)), fun hp hhp => ?_⟩
    have S7 := Same.new (o := .lst acc) hhp
    have hhp5 := none_of_same S6 hhp
    have hclr : scs.map clr = scs := by
      have : ∀ s ∈ scs, clr s = s := fun s hs => by
        obtain ⟨v, o, sh, ar, c⟩ := s
        have := hv0 _ hs
        show (⟨[], o, sh, ar, c⟩ : Sc) = _
        rw [show v = [] from this]
      rw [List.map_congr_left this]; simp
    have Dd : Dw p dl np sp hp tp ts := ⟨hnd, fun t ht => by
        obtain ⟨h1, h2, h3⟩ := htt t ht
        exact ⟨fun e => (by subst e; rw [h1] at hhp; cases hhp), h2, ne1 hbx h3, ne1 hbd h3, ne1 en5 h3, ne1 eD h3⟩,
      ⟨ne1 hbx hhp5, ne1 hbd hhp5, ne1 en5 hhp5, ne1 eD hhp5, Ne.symm (ne1 et hhp)⟩, ⟨npp, spp, ne1 hbx htp⟩⟩
    have X7 : Hw K (upd H6 hp (.lst acc)) p dl np sp hp tp nms ts scs := by
      refine ⟨(B5.same S6).same S7, S7 _ _ (S6 _ _ en5), ?_, listAt_made hhp (DtAll.mono S6 ha), ⟨S7 _ _ et, by rw [List.length_map]; omega, fun j vs hj => ?_⟩⟩
      · rw [hclr]
        exact listAt_mono ⟨acc, eD, ha⟩ (S6.trans S7)
      · rw [List.getElem?_map] at hj
        obtain ⟨s, hs, rfl⟩ := Option.map_eq_some_iff.mp hj
        have hjl : j < ts.length := by
          have := (List.getElem?_eq_some_iff.mp hs).1
          omega
        refine ⟨ts[j], List.getElem?_eq_getElem hjl, ?_⟩
        rw [hv0 s (List.mem_of_getElem? hs)]
        exact ⟨[], S7 _ _ (htt _ (List.getElem_mem hjl)).1, .nil⟩
    generalize upd H6 hp (.lst acc) = H7 at X7
    clear S7 hhp5 hhp htt et S6 htp hbx hbd bx bd eD ha en5 B5 hclr hv0
    refine ⟨_, rfl, p, dl, 36, rfl, X7.box, by decide, fun r H8 r0 r1 B8 K8 => ?_⟩
    have X8 := X7.draw Dd B8 K8
    clear X7 B8 K8
    obtain ⟨M, rfl⟩ := Int.eq_ofNat_of_zero_le r0
    refine ⟨_, _, rfl, rfl, _, rfl, by omega, by omega, ?_⟩
    have eM : ((5 : Int) + (M : Int)).toNat = M + 5 := by omega
    rw [eM]
    have hl0 : 0 < scs.length := by omega
    refine for_range (lo := 0) (n := M + 5) (fun i σ H9 => ∃ scs' x3 x6 x8 x9 x10 x11 x12, σ = [some (.ref a), some (.ref p), some (.ref np), x3, some (.ref sp), some (.ref tp), x6, some (.ref hp), x8, x9, x10, x11, x12] ∧ Hw K H9 p dl np sp hp tp nms ts scs' ∧ Good scs' i ∧ scs'.length = N + 1) ⟨scs, none, none, none, none, none, none, none, rfl, X8, hG, hl⟩ ?_ ?_
    · rintro i σ H9 hi ⟨scs', x3, x6, x8, x9, x10, x11, x12, rfl, X9, G9, hl9⟩
      rw [Int.zero_add]
      obtain ⟨ys, ey, ay⟩ := id X9.sp
      have ly := ay.length
      rw [List.length_map, List.length_map, hl9] at ly
      refine ⟨_, rfl, _, rfl, _, _, rfl, .inl ⟨_, SqL.of ey, rfl⟩, p, dl, _, rfl, X9.box, by omega, fun r H10 r0 r1 B10 K10 => ?_⟩
      have X10 := X9.draw Dd B10 K10
      obtain ⟨env, rfl⟩ := Int.eq_ofNat_of_zero_le r0
      have henv : env < scs'.length := by omega
      refine ⟨_, rfl, _, rfl, p, dl, 5, rfl, X10.box, by decide, fun r H11 r0 r1 B11 K11 => ?_⟩
      have X11 := X10.draw Dd B11 K11
      obtain ⟨j, rfl⟩ := Int.eq_ofNat_of_zero_le r0
      have hx : nms[j]? = some nms[j] := List.getElem?_eq_getElem (by omega)
      have hxo := hno _ (List.getElem_mem (show j < nms.length by omega))
      generalize nms[j] = x at hx hxo
      refine ⟨np, _, _, _, rfl, rfl, SqL.of X11.nm, atI_nat (by rw [List.getElem?_map, hx]; rfl), ?_⟩
      refine ⟨_, rfl, _, rfl, _, rfl, sp, scs'.map clr, env, x, rfl, X11.sp, by rw [List.length_map]; exact henv, by rw [List.length_map]; omega, ?_⟩
      rw [home_clr]
      refine ⟨_, rfl, p, dl, 4, rfl, X11.box, by decide, fun kd H12 kd0 kd1 B12 K12 => ?_⟩
      have X12 := X11.draw Dd B12 K12
      refine ⟨_, rfl, p, dl, 900, rfl, X12.box, by decide, fun n H13 _ _ B13 K13 => ⟨sz_2, fun u hu => ?_⟩⟩
      have X13 := X12.draw Dd B13 K13
      have T1 := Same.new (o := .tup [.str "int", .int n]) hu
      have X14 := X13.same T1
      have du : Dt K _ (.ref u) (valD n) := Dt.made hu (.cons (.str _) (.cons (.int _) .nil))
      generalize upd H13 u _ = H14 at X14 du
      clear X9 X10 X11 X12 X13 B10 B11 B12 B13 K10 K11 K12 K13 T1 hu ey ay ly
      have hxl : x.length ≤ 1000 := Nat.le_trans hxo.len (by decide)
      refine ⟨fun σ H => ∃ scs2, σ = [some (.ref a), some (.ref p), some (.ref np), some (.int (i : Nat)), some (.ref sp), some (.ref tp), x6, some (.ref hp), some (.int (env : Nat)), some (.str x), some (.int (match home scs' env x with | some h => (h : Int) | none => -1)), some (.int kd), some (.ref u)] ∧ Hw K H p dl np sp hp tp nms ts scs2 ∧ Good scs2 (i + 1) ∧ scs2.length = N + 1, ?_, ?_⟩
      · cases hh : home scs' env x with
        | none =>
          refine ⟨_, rfl, _, _, rfl, rfl, _, rfl, iteFb (by decide +kernel) (iteFb rfl ?_)⟩
          refine ⟨_, rfl, _, _, rfl, rfl, _, rfl, iteFb (by decide +kernel) ?_⟩
          exact ⟨scs', rfl, X14, G9.mono (by omega), hl9⟩
        | some h =>
          have hgd : (home scs' env x).getD 0 = h := by rw [hh]; rfl
          have hlt : h < scs'.length := by have := home_lt (x := x) henv; rw [hgd] at this; exact this
          obtain ⟨s1, hs1, ev1⟩ := varsAt_mem hlt
          have I : In5 K H14 hp tp ts scs' env x := ⟨X14.hp, X14.tb, henv, G9.s, fun s hs => Nat.le_trans (G9.v s hs) (by omega), hxl, Dd.nd, Dd.h.2.2.2.2, fun t ht => ⟨(Dd.t t ht).1, (Dd.t t ht).2.1⟩, by rw [hgd, ev1]; exact G9.nd s1 hs1⟩
          refine ⟨_, rfl, _, _, rfl, rfl, _, rfl, iteTb (decide_eq_true (by show (0 : Int) ≤ (h : Int); omega)) ?_⟩
          refine ⟨_, rfl, _, _, rfl, rfl, _, rfl, ?_⟩
          refine ite3 (fun _ => ?_) fun _ => ?_
          · refine ⟨_, rfl, _, rfl, _, rfl, _, rfl, _, rfl, _, rfl, hp, tp, env, x, .ref u, n, scs', ts, by rw [hgd], I, du, fun H15 L15 T15 F15 => ⟨true, rfl, iteFb rfl ?_⟩⟩
            rw [hgd] at L15 T15
            have hwl := with_len (vs := varsAt scs' h) (x := x) (n := n)
            have hv1 := G9.v s1 hs1
            obtain ⟨G15, hc15⟩ := G9.put (vs := withP (varsAt scs' h) x n) hlt (by rw [ev1] at hwl ⊢; omega) (nd_with (by rw [ev1]; exact G9.nd s1 hs1)) (with_nm (by rw [ev1]; exact G9.n1 s1 hs1) hxo)
            have X15 := X14.next Dd L15 T15 F15 hc15
            have du15 := Dt.keepT (KeepF.keepT X14 F15) du
            have hlb := look_bound (n := n) G9.s hh hlt
            have hl15 : (setV scs' h (withP (varsAt scs' h) x n)).length = N + 1 := by rw [setV_len]; exact hl9
            generalize setV scs' h (withP (varsAt scs' h) x n) = scs2 at L15 T15 G15 hc15 X15 hlb hl15
            refine ⟨_, rfl, _, rfl, _, rfl, hp, scs2, h, x, rfl, hxl, X15.hp, by omega, by omega, G15.s.ar, fun v H16 S16 dv => ?_⟩
            rw [hlb] at dv
            refine ⟨_, rfl, sz_2, fun u2 hu2 => ?_⟩
            have T2 := Same.new (o := .tup [.str "ok", .ref u]) hu2
            have d2 : Dt K _ (.ref u2) (outD x (some n)) := Dt.made hu2 (.cons (.str _) (.cons (du15.mono S16) .nil))
            have sh := (shp_out hxo (some n)).sh (by decide)
            refine ⟨_, _, (dv.mono T2).dp, d2.dp, sh, sh, ?_⟩
            rw [eqv_self (SeqAt.canLay_of_shaped sh)]
            exact ⟨_, rfl, iteFb rfl ⟨scs2, rfl, (X15.same S16).same T2, G15, hl15⟩⟩
          · refine ⟨_, rfl, _, _, rfl, rfl, _, rfl, iteTb (decide_eq_true (by show (0 : Int) ≤ (h : Int); omega)) ?_⟩
            refine ⟨_, rfl, _, rfl, _, rfl, _, rfl, _, rfl, hp, tp, env, x, scs', ts, by rw [hgd], I, hxo, fun H15 scs2 hsc L15 T15 F15 => ⟨true, rfl, iteFb rfl ?_⟩⟩
            rw [hgd] at hsc
            rcases hsc with rfl | rfl
            · exact ⟨scs2, rfl, X14.next Dd L15 T15 F15 rfl, G9.mono (by omega), hl9⟩
            · have hdl : (delP (varsAt scs' h) x).length ≤ (varsAt scs' h).length := List.length_filter_le _ _
              have hv1 := G9.v s1 hs1
              obtain ⟨G15, hc15⟩ := G9.put (vs := delP (varsAt scs' h) x) hlt (by rw [ev1] at hdl ⊢; omega) (nd_del (by rw [ev1]; exact G9.nd s1 hs1)) (fun q hq => by
                rw [ev1] at hq
                exact G9.n1 s1 hs1 q (List.mem_filter.mp hq).1)
              exact ⟨_, rfl, X14.next Dd L15 T15 F15 hc15, G15, by rw [setV_len]; exact hl9⟩
      · rintro _ H15 ⟨scs2, rfl, X15, G15, hl15⟩
        refine ⟨_, rfl, _, rfl, _, rfl, hp, sp, tp, scs2, ts, rfl, X15.hp, X15.sp, X15.tb, by omega, fun s hs => (shp_sc (G15.n1 s hs) (G15.n2 s hs) (G15.n3 s hs)).sh (by decide), fun H16 S16 => ⟨true, rfl, iteFb rfl ?_⟩⟩
        exact ⟨scs2, _, _, _, _, _, _, _, rfl, X15.same S16, G15, hl15⟩
    · rintro σ H9 ⟨scs', x3, x6, x8, x9, x10, x11, x12, rfl, X9, G9, hl9⟩
      exact k H9
end
theorem walk_mk {l : PySem.W.OpenLaw} {w : World} {K : PySem.W.Frag} {h : Heap} {mg : Str → Option Value} {fa : Addr} (X : K.In h) (G : h.Ns mainGlobals mg) (hfa : mg "law" = some (.ref fa))
    (f0 : HasFn K "_law_cell" s_law_cell)
    (f1 : HasFn K "_law_digits" s_law_digits)
    (f2 : HasFn K "_law_draw" s_law_draw)
    (f3 : HasFn K "_law_scope" s_law_scope)
    (f4 : HasFn K "_law_home" s_law_home)
    (f5 : HasFn K "_law_place" s_law_place)
    (f6 : HasFn K "_home" s_home)
    (f7 : HasFn K "_put_variables" s_put_variables)
    (f8 : HasFn K "with_pair" s_with_pair)
    (f9 : HasFn K "bind_name" s_bind_name)
    (f10 : HasFn K "_law_bind" s_law_bind)
    (f11 : HasFn K "paired" s_paired)
    (f12 : HasFn K "_not_bound" s_not_bound)
    (f13 : HasFn K "_variable" s_variable)
    (f14 : HasFn K "look_up" s_look_up)
    (f15 : HasFn K "without_pair" s_without_pair)
    (f16 : HasFn K "unbind_name" s_unbind_name)
    (f17 : HasFn K "_law_unbind" s_law_unbind)
    (f18 : HasFn K "_law_same" s_law_same)
    (f19 : HasFn K "law" s_law)
    (c0 : HasInt K "NAME_ERROR" 8)
    (c1 : HasInt K "MODULE" 0)
    (c2 : HasDone K)
    (b_len : PySem.W.nsIn K mainGlobals "len" = some none)
    (b_int : PySem.W.nsIn K mainGlobals "int" = some none)
    (b_range : PySem.W.nsIn K mainGlobals "range" = some none)
    (b_list : PySem.W.nsIn K mainGlobals "list" = some none)
    (b_tuple : PySem.W.nsIn K mainGlobals "tuple" = some none)
    (b_isinstance : PySem.W.nsIn K mainGlobals "isinstance" = some none) :
    ∃ fd : FuncData, (∀ (s : Shared) (v : Value), BindsTo s fd ⟨[v], []⟩ [("script", v)]) ∧ ∀ base : Heap, K.In base → base.Ns mainGlobals mg → FnG l.prog w K mg base CX0 4 fa fd ["script"] (spLaw K) := by
  have T : Txt K mg := ⟨c0.g X G, c1.g X G, c2.g X G, PySem.W.mg_none_of X G b_len, PySem.W.mg_none_of X G b_int, PySem.W.mg_none_of X G b_range, PySem.W.mg_none_of X G b_list, PySem.W.mg_none_of X G b_tuple, PySem.W.mg_none_of X G b_isinstance⟩
  refine law_use f19 X G hfa (fun _ _ _ _ _ _ _ => rfl) fun base X' G' fd F => ?_
  have U_law_cell := mk_use (P := l.prog) (w := w) (mg := mg) (base := base) f0 X G (fun _ _ _ _ _ _ us hl => match us, hl with | [_, _], _ => rfl) fun f fd F => ok_cell F T 
  have U_law_digits := mk_use (P := l.prog) (w := w) (mg := mg) (base := base) f1 X G (fun _ _ _ _ _ _ us hl => match us, hl with | [_, _, _], _ => rfl) fun f fd F => ok_digits F T U_law_cell
  have U_law_draw := mk_use (P := l.prog) (w := w) (mg := mg) (base := base) f2 X G (fun _ _ _ _ _ _ us hl => match us, hl with | [_, _], _ => rfl) fun f fd F => ok_draw F T 
  have U_law_scope := mk_use (P := l.prog) (w := w) (mg := mg) (base := base) f3 X G (fun _ _ _ _ _ _ us hl => match us, hl with | [_, _, _], _ => rfl) fun f fd F => ok_scope F T U_law_draw
  have U_law_home := mk_use (P := l.prog) (w := w) (mg := mg) (base := base) f4 X G (fun _ _ _ _ _ _ us hl => match us, hl with | [_, _, _], _ => rfl) fun f fd F => ok_lhome F T 
  have U_law_place := mk_use (P := l.prog) (w := w) (mg := mg) (base := base) f5 X G (fun _ _ _ _ _ _ us hl => match us, hl with | [_, _], _ => rfl) fun f fd F => ok_place F T 
  have U_home := mk_use (P := l.prog) (w := w) (mg := mg) (base := base) f6 X G (fun _ _ _ _ _ _ us hl => match us, hl with | [_, _, _], _ => rfl) fun f fd F => ok_home F T 
  have U_put_variables := mk_use (P := l.prog) (w := w) (mg := mg) (base := base) f7 X G (fun _ _ _ _ _ _ us hl => match us, hl with | [_, _, _], _ => rfl) fun f fd F => ok_put F T 
  have U_with_pair := mk_use (P := l.prog) (w := w) (mg := mg) (base := base) f8 X G (fun _ _ _ _ _ _ us hl => match us, hl with | [_, _, _], _ => rfl) fun f fd F => ok_with F T 
  have U_bind_name := mk_use (P := l.prog) (w := w) (mg := mg) (base := base) f9 X G (fun _ _ _ _ _ _ us hl => match us, hl with | [_, _, _, _], _ => rfl) fun f fd F => ok_bind F T U_home U_put_variables U_with_pair
  have U_law_bind := mk_use (P := l.prog) (w := w) (mg := mg) (base := base) f10 X G (fun _ _ _ _ _ _ us hl => match us, hl with | [_, _, _, _, _, _], _ => rfl) fun f fd F => ok_lbind F T U_law_place U_bind_name
  have U_paired := mk_use (P := l.prog) (w := w) (mg := mg) (base := base) f11 X G (fun _ _ _ _ _ _ us hl => match us, hl with | [_, _], _ => rfl) fun f fd F => ok_paired F T 
  have U_not_bound := mk_use (P := l.prog) (w := w) (mg := mg) (base := base) f12 X G (fun _ _ _ _ _ _ us hl => match us, hl with | [_], _ => rfl) fun f fd F => ok_notbound F T 
  have U_variable := mk_use (P := l.prog) (w := w) (mg := mg) (base := base) f13 X G (fun _ _ _ _ _ _ us hl => match us, hl with | [_, _], _ => rfl) fun f fd F => ok_variable F T U_paired U_not_bound
  have U_look_up := mk_use (P := l.prog) (w := w) (mg := mg) (base := base) f14 X G (fun _ _ _ _ _ _ us hl => match us, hl with | [_, _, _], _ => rfl) fun f fd F => ok_lookup F T U_variable U_paired U_not_bound
  have U_without_pair := mk_use (P := l.prog) (w := w) (mg := mg) (base := base) f15 X G (fun _ _ _ _ _ _ us hl => match us, hl with | [_, _], _ => rfl) fun f fd F => ok_without F T 
  have U_unbind_name := mk_use (P := l.prog) (w := w) (mg := mg) (base := base) f16 X G (fun _ _ _ _ _ _ us hl => match us, hl with | [_, _, _], _ => rfl) fun f fd F => ok_unbind F T U_home U_paired U_not_bound U_put_variables U_without_pair
  have U_law_unbind := mk_use (P := l.prog) (w := w) (mg := mg) (base := base) f17 X G (fun _ _ _ _ _ _ us hl => match us, hl with | [_, _, _, _, _], _ => rfl) fun f fd F => ok_lunbind F T U_law_place U_unbind_name
  have U_law_same := mk_use (P := l.prog) (w := w) (mg := mg) (base := base) f18 X G (fun _ _ _ _ _ _ us hl => match us, hl with | [_, _, _], _ => rfl) fun f fd F => ok_lsame F T 
  exact ok_law F T U_law_digits U_law_draw U_law_scope U_law_home U_law_bind U_look_up U_law_unbind U_law_same
end K50
open PySem PySem.W PyProof.Rows
set_option maxRecDepth 100000 in
set_option maxHeartbeats 0 in
theorem PySem.Challenge.cw_pyhold_k50_names_are_bound_holds : PySem.Challenge.rw_pyhold_k50_names_are_bound.Holds := by
  w_on; o_law; k_head; (case hw => w_witness2)
  k_fill
  refine LK.walkG (l := PySem.Challenge.rw_pyhold_k50_names_are_bound) (n := 63) (k := 4) (x := "script") (CX := L2.CX0) (sp := K50.spLaw) rfl (by decide) rfl ⟨rfl, by decide, by decide⟩ (fun w h Y => PySem.W.kIn_of Y) ?F (fun K H a ns hl _ hS => ⟨a, ns, rfl, hS, hl, fun _ => rfl⟩) (fun _ _ _ _ z => z)
  case F =>
    intro w mg fa h KX G hmg
    refine' K50.walk_mk KX G hmg ?f0 ?f1 ?f2 ?f3 ?f4 ?f5 ?f6 ?f7 ?f8 ?f9 ?f10 ?f11 ?f12 ?f13 ?f14 ?f15 ?f16 ?f17 ?f18 ?f19 ?c0 ?c1 ?c2 ?b_len ?b_int ?b_range ?b_list ?b_tuple ?b_isinstance
    case f0 => refine' LK.HasFn.mk' ?a ?b ?c ?d; (case a => k_is); (case b => k_is); (case c => k_is); (case d => k_is)
    case f1 => refine' LK.HasFn.mk' ?a ?b ?c ?d; (case a => k_is); (case b => k_is); (case c => k_is); (case d => k_is)
    case f2 => refine' LK.HasFn.mk' ?a ?b ?c ?d; (case a => k_is); (case b => k_is); (case c => k_is); (case d => k_is)
    case f3 => refine' LK.HasFn.mk' ?a ?b ?c ?d; (case a => k_is); (case b => k_is); (case c => k_is); (case d => k_is)
    case f4 => refine' LK.HasFn.mk' ?a ?b ?c ?d; (case a => k_is); (case b => k_is); (case c => k_is); (case d => k_is)
    case f5 => refine' LK.HasFn.mk' ?a ?b ?c ?d; (case a => k_is); (case b => k_is); (case c => k_is); (case d => k_is)
    case f6 => refine' LK.HasFn.mk' ?a ?b ?c ?d; (case a => k_is); (case b => k_is); (case c => k_is); (case d => k_is)
    case f7 => refine' LK.HasFn.mk' ?a ?b ?c ?d; (case a => k_is); (case b => k_is); (case c => k_is); (case d => k_is)
    case f8 => refine' LK.HasFn.mk' ?a ?b ?c ?d; (case a => k_is); (case b => k_is); (case c => k_is); (case d => k_is)
    case f9 => refine' LK.HasFn.mk' ?a ?b ?c ?d; (case a => k_is); (case b => k_is); (case c => k_is); (case d => k_is)
    case f10 => refine' LK.HasFn.mk' ?a ?b ?c ?d; (case a => k_is); (case b => k_is); (case c => k_is); (case d => k_is)
    case f11 => refine' LK.HasFn.mk' ?a ?b ?c ?d; (case a => k_is); (case b => k_is); (case c => k_is); (case d => k_is)
    case f12 => refine' LK.HasFn.mk' ?a ?b ?c ?d; (case a => k_is); (case b => k_is); (case c => k_is); (case d => k_is)
    case f13 => refine' LK.HasFn.mk' ?a ?b ?c ?d; (case a => k_is); (case b => k_is); (case c => k_is); (case d => k_is)
    case f14 => refine' LK.HasFn.mk' ?a ?b ?c ?d; (case a => k_is); (case b => k_is); (case c => k_is); (case d => k_is)
    case f15 => refine' LK.HasFn.mk' ?a ?b ?c ?d; (case a => k_is); (case b => k_is); (case c => k_is); (case d => k_is)
    case f16 => refine' LK.HasFn.mk' ?a ?b ?c ?d; (case a => k_is); (case b => k_is); (case c => k_is); (case d => k_is)
    case f17 => refine' LK.HasFn.mk' ?a ?b ?c ?d; (case a => k_is); (case b => k_is); (case c => k_is); (case d => k_is)
    case f18 => refine' LK.HasFn.mk' ?a ?b ?c ?d; (case a => k_is); (case b => k_is); (case c => k_is); (case d => k_is)
    case f19 => refine' LK.HasFn.mk' ?a ?b ?c ?d; (case a => k_is); (case b => k_is); (case c => k_is); (case d => k_is)
    case c0 => refine' LK.HasInt.mk' ?a ?b; (case a => k_is); (case b => decide +kernel)
    case c1 => refine' LK.HasInt.mk' ?a ?b; (case a => k_is); (case b => decide +kernel)
    case c2 => refine' K50.HasDone.mk' ?a ?b ?c ?d ?e ?f ?g; (case a => k_is); (case b => k_is); (case c => decide); (case d => exact .cons ⟨_, rfl⟩ (.cons rfl .nil)); (case e => k_is); (case f => decide); (case g => exact .cons ⟨_, rfl⟩ .nil)
    case b_len => k_is
    case b_int => k_is
    case b_range => k_is
    case b_list => k_is
    case b_tuple => k_is
    case b_isinstance => k_is


