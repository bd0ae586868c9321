import PyProof.Rows.All
import Wide.All
import OpenK.AllK
import Wide.FinOn
import HandS.ForMost
import HandS.Wide
import HandS.WideMore
import HandS.TupAny
import HandS.TupLen
import HandS.Evl
import HandS.Codes
import PyProof.ReprLen
import PyProof.StrLawsRepr
import HandS.Walk
import HandS.Zip
import KE.GoesMore
import HandS.Style
import HandS.TupMul
import PyProof.StrOps2
import HandS.IsInst
import HandS.StrMore
import HandS.Dict
import PySem.Challenge.RW_pyhold_k33_set_attributes_read_back
set_option Elab.async false
set_option linter.all false
set_option maxRecDepth 100000
set_option maxHeartbeats 4000000
/-! A layer of one's own over the hand layer: defs by name, data, the helpers that the laws share. -/
namespace LK
open PySem PySem.Spec PyProof.Rows L2

/-! ### a def's promise where nothing is being shown (repr asks who is) -/
structure FnG (P : Program) (w : World) (K : PySem.W.Frag) (mg : Str → Option Value) (base : Heap) (CX : CXT) (k : Nat) (f : Addr) (fd : FuncData) (ps : List Str) (sp : Sp) : Prop where
  len : ∀ vs H Q E, sp vs H Q E → vs.length = ps.length
  run : ∀ (A : Around) (outer : List Env) (s : Shared) (H : Hp) (args : Args) (us : List Value) (vs : List V) (Q : VK) (E : XK), Room k A → A.guards = some [] →
    Env0 P w K mg base A outer s H → BindsTo s fd args (ps.zip us) → Vals vs us → sp vs H Q E → codeAny (model P w) A (.call (.ref f) args) (CR CX outer P w H s Q E) s
section
variable {P : Program} {w : World} {K : PySem.W.Frag} {mg : Str → Option Value} {base : Heap} {CX : CXT}
theorem FnG.imp {k : Nat} {f : Addr} {fd : FuncData} {ps : List Str} {sp sp' : Sp} (F : FnG P w K mg base CX k f fd ps sp) (h : ∀ vs H Q E, sp' vs H Q E → sp vs H Q E) : FnG P w K mg base CX k f fd ps sp' where
  len := fun vs H Q E q => F.len vs H Q E (h vs H Q E q)
  run := fun A outer s H args us vs Q E hr hg he hb hv hs => F.run A outer s H args us vs Q E hr hg he hb hv (h vs H Q E hs)
/-- the rule for a def: its body as a term of rules, and the reading of that term -/
theorem okG {x qual : Str} {st : Stmt} {f : Addr} {fd : FuncData} {N ps : List Str} {k : Nat} {sp : Sp} (F : Fun K x qual st f fd) (S : FnScope N ps (defScope st)) (len : ∀ vs H Q E, sp vs H Q E → vs.length = ps.length)
    (body : ∀ (cdv : Value) (A : Around) (outer : List Env) (s : Shared) (H : Hp) (vs : List V) (Q : VK) (E : XK), Room k (A.deeper (envOfC qual (defScope st) s.heap.objs.size f cdv)) →
      (A.deeper (envOfC qual (defScope st) s.heap.objs.size f cdv)).guards = some [] → sp vs H Q E →
      ∃ t, PSs (cxOf CX P w K mg base N qual (defScope st) f cdv A outer s H E) (defBody st) t ∧ t { nx := fun _ H' => Q .non H', rt := Q } (start N vs) H) :
    FnG P w K mg base CX (k + 1) f fd ps sp := by
  obtain ⟨oc, od, kV, doc, pm, an, cdv, ct, osl, rfl, lk, hcd⟩ := F.ex
  refine ⟨len, fun A outer s H args us vs Q E hr hgd e0 hb r hsp => ?_⟩
  have inn : K.In s.heap := e0.mod.kin.keeps fun b o e => (e0.bs b o e).1
  refine codeAny_call_function hr.depth (inn _ _ lk) rfl S.co S.gen rfl (PySem.W.codeRec_of inn hcd) (hb _ _ _ _ ?_)
  refine wpAny_newFunctionEnv_cells S.kind (fun y hy => ?_) fun env he s1 made => ?_
  · obtain ⟨n, v⟩ := y
    exact (S.par n (List.of_mem_zip hy).1).elim .inl fun q => .inr ⟨q, PySem.W.cellsFrom_some _ _ _ (.inl q)⟩
  · subst he
    have lim : s.heap.NoLimit := e0.mod.nolimit.keeps fun b o e => (e0.bs b o e).1
    refine ⟨lim.keeps made.toInCall.keep, codeAny_func ?_⟩
    obtain ⟨t, ht, hq⟩ := body cdv A outer s H vs Q E (hr.deeper _) hgd hsp
    refine wpAny_mono (ht.run [] s1 (start N vs) H _ (inv_start S hr.hd e0 (len _ _ _ _ hsp) r made) hq) (fun fl s' hs => ?_) fun e s' hs => hs
    cases fl with
    | ret u => exact let ⟨v, _, H', J, rv, q⟩ := hs; ⟨v, H', J.os, J.bare, J.base, J.hok, rv, q⟩
    | next => exact let ⟨_, H', J, q⟩ := hs; ⟨V.non, H', J.os, J.bare, J.base, J.hok, rfl, q⟩
    | brk => exact let ⟨_, _, _, q⟩ := hs; q.elim
    | cont => exact let ⟨_, _, _, q⟩ := hs; q.elim
/-- .. whose body lets no exception out -/
theorem okG0 {x qual : Str} {st : Stmt} {f : Addr} {fd : FuncData} {N ps : List Str} {k : Nat} {sp : Sp} (F : Fun K x qual st f fd) (S : FnScope N ps (defScope st)) (len : ∀ vs H Q E, sp vs H Q E → vs.length = ps.length)
    (body : ∀ (cdv : Value) (A : Around) (outer : List Env) (s : Shared) (H : Hp) (vs : List V) (Q : VK) (E : XK), Room k (A.deeper (envOfC qual (defScope st) s.heap.objs.size f cdv)) →
      (A.deeper (envOfC qual (defScope st) s.heap.objs.size f cdv)).guards = some [] → sp vs H Q E →
      ∃ t, PSs (cxOf CX0 P w K mg base N qual (defScope st) f cdv A outer s H E).nox (defBody st) t ∧ t { nx := fun _ H' => Q .non H', rt := Q } (start N vs) H) :
    FnG P w K mg base CX0 (k + 1) f fd ps sp :=
  okG F S len fun cdv A outer s H vs Q E hr hg hs => let ⟨t, ht, q⟩ := body cdv A outer s H vs Q E hr hg hs; ⟨t, ht.nox, q⟩
end
section
variable {X : Cx} {CX : CXT} {k : Nat} {f : Addr} {fd : FuncData} {ps : List Str} {sp : Sp} {E : XK} {x : Str} {p pos : Pos} {e : Expr} {es : List Expr} {t : TA}
theorem run_fnG {pins : List (Addr × Obj)} {σ : L2.St} {H : Hp} {s : Shared} {Q : VK} {us : List Value} {vs : List V} (F : FnG X.prog X.w X.K X.mg X.base CX k f fd ps sp) (hr : Room k X.A) (hg : X.A.guards = some []) (hb : Binds X.K fd ps [])
    (hx : Passes CX X E) (I : Inv X pins σ H s) (r : Vals vs us) (h : sp vs H Q E) : wpAny (model X.prog X.w) X.A (call (.ref f) us) (EP X pins σ Q) X.xe s := by
  have hl : (us ++ []).length = ps.length := by rw [List.append_nil, ← r.length, F.len _ _ _ _ h]
  have hbs := hb s us I.kIn hl
  rw [List.append_nil] at hbs
  refine wpAny_call (codeAny_mono (F.run X.A X.stack s H ⟨us, []⟩ us vs Q E hr hg I.env0 hbs r h) fun res s' hq => ?_)
  match res, hq with
  | .error e, hq => exact hx pins σ H s e s' I hq
  | .ok (.ret u), hq => exact I.after hq
  | .ok .next, hq => exact hq.elim
  | .ok .brk, hq => exact hq.elim
  | .ok .cont, hq => exact hq.elim
end

/-! ### defs of the text, by name -/
/-- what the top has left of the def x, whose statement is st -/
def HasFn (K : PySem.W.Frag) (x : Str) (st : Stmt) : Prop := ∃ (f : Addr) (oc : Value) (od an : Option Addr) (kV doc pm cdv ct : Value) (osl : Array (Option Value)),
  PySem.W.nsIn K mainGlobals x = some (some (.ref f)) ∧ K.lookup f = some ⟨oc, od, .func (PySem.W.fnOf x x (defArgs st) (defBody st) (defScope st) .none kV doc pm an cdv ct), osl⟩ ∧
  PySem.W.codeIn K cdv x = true ∧ PySem.W.keepIn K (.ref f) = true
/-- the def x may be called: its promise sp, by level k -/
structure Use (P : Program) (w : World) (K : PySem.W.Frag) (mg : Str → Option Value) (base : Heap) (CX : CXT) (x : Str) (k : Nat) (ps : List Str) (sp : Sp) : Prop where
  ex : ∃ (f : Addr) (fd : FuncData), FnG P w K mg base CX k f fd ps sp ∧ mg x = some (.ref f) ∧ PySem.W.keepIn K (.ref f) = true ∧ Binds K fd ps []
section
variable {P : Program} {w : World} {K : PySem.W.Frag} {mg : Str → Option Value} {base h : Heap} {CX : CXT}
theorem mk_use {x : Str} {st : Stmt} {k : Nat} {ps : List Str} {sp : Sp} (F : HasFn K x st) (X : K.In h) (G : h.Ns mainGlobals mg)
    (hb : ∀ (kV doc pm : Value) (an : Option Addr) (cdv ct : Value) (us : List Value), us.length = ps.length → bindArgs (PySem.W.fnOf x x (defArgs st) (defBody st) (defScope st) .none kV doc pm an cdv ct) ⟨us, []⟩ = pure (ps.zip us))
    (ok : ∀ (f : Addr) (fd : FuncData), Fun K x x st f fd → FnG P w K mg base CX k f fd ps sp) : Use P w K mg base CX x k ps sp := by
  obtain ⟨f, oc, od, an, kV, doc, pm, cdv, ct, osl, e, l, c, kp⟩ := F
  have Fn := fun_mk (st := st) l c kp
  exact ⟨f, _, ok f _ Fn, PySem.W.mg_of X G e, kp, Fn.binds hb⟩
theorem Use.imp {x : Str} {k : Nat} {ps : List Str} {sp sp' : Sp} (U : Use P w K mg base CX x k ps sp) (h : ∀ vs H Q E, sp' vs H Q E → sp vs H Q E) : Use P w K mg base CX x k ps sp' := by
  obtain ⟨f, fd, ok, r⟩ := U.ex
  exact ⟨f, fd, ok.imp h, r⟩
end
section
variable {X : Cx} {CX : CXT} {E : XK} {k : Nat} {x : Str} {ps : List Str} {sp : Sp} {p pos : Pos} {e : Expr} {es : List Expr} {t : TA}
theorem pe_useX (U : Use X.prog X.w X.K X.mg X.base CX x k ps sp) (hx : Passes CX X E) (hr : Room k X.A) (gd : X.A.guards = some []) (hg : Gl X x) (ha : PA X (e :: es) t) (hdb : (x == ("__debug__" : Str)) = false := by decide)
    (he : starEach (e :: es) X.env = (false, eval e X.env) :: starEach es X.env := by rfl) (hpl : (backTo pos (starEach es X.env)).any (·.1) = false := by rfl) : PE X (.Call (.Name x p) (e :: es) [] pos) (fun σ H Q => t σ H fun vs H1 => sp vs H1 Q E) := by
  obtain ⟨f, fd, ok, hm, kp, hb⟩ := U.ex
  refine ⟨fun pins s σ H Q I h => wpAny_Call_Name_kw (ld_glob I hg hm ?_ hdb)⟩
  exact PySem.W.callWith_K (h₀ := X.base) I.ok.mod.kin kp (thn (ha.run pos pins s σ H _ I h) fun us s1 ⟨vs, H1, I1, r, q⟩ => ⟨I1.kIn, run_fnG ok hr gd hb hx I1 r q⟩) he hpl
def tUse (sp : Sp) (E : XK) (t : TA) : TE := fun σ H Q => t σ H fun vs H1 => sp vs H1 Q E
theorem pe_use (U : Use X.prog X.w X.K X.mg X.base CX0 x k ps sp) (hr : Room k X.A) (gd : X.A.guards = some []) (hg : Gl X x) (ha : PA X (e :: es) t) (hdb : (x == ("__debug__" : Str)) = false := by decide)
    (he : starEach (e :: es) X.env = (false, eval e X.env) :: starEach es X.env := by rfl) (hpl : (backTo pos (starEach es X.env)).any (·.1) = false := by rfl) : PE X (.Call (.Name x p) (e :: es) [] pos) (tUse sp E0 t) := pe_useX U pass0 hr gd hg ha hdb he hpl
theorem pe_use0 (U : Use X.prog X.w X.K X.mg X.base CX0 x k ps sp) (hr : Room k X.A) (gd : X.A.guards = some []) (hg : Gl X x) (hdb : (x == ("__debug__" : Str)) = false := by decide) : PE X (.Call (.Name x p) [] [] pos) (tUse sp E0 tNil) := by
  obtain ⟨f, fd, ok, hm, kp, hb⟩ := U.ex
  exact ⟨fun pins s σ H Q I h => wpAny_Call_Name_kw (ld_glob I hg hm (PySem.W.callWith_K0 I.kIn kp (run_fnG (us := []) ok hr gd hb pass0 I .nil h)) hdb)⟩
end

/-! ### what stays -/
theorem Same.new {H : Hp} {p : Addr} {o : HO} (h : H p = none) : Same H (upd H p o) := fun b u e => by
  rw [upd_ne (ne_of_none e h)]; exact e
theorem Same.rd {H H' : Hp} {a : Addr} {u : HO} (e : Same H H') (h : Rd H a u) : Rd H' a u := by
  rcases h with h | ⟨o, h⟩
  · exact .inl (e _ _ h)
  · exact .inr ⟨o, e _ _ h⟩
theorem Same.tupl {K : PySem.W.Frag} {H H' : Hp} {a : Addr} {xs : List V} (e : Same H H') (h : SqT K H a xs) : SqT K H' a xs := by
  rcases h with h | h
  · exact .inl (Same.rd e h)
  · exact .inr h
theorem SqT.mono {K : PySem.W.Frag} {H H' : Hp} {a : Addr} {xs : List V} (h : SqT K H a xs) (e : Same H H') : SqT K H' a xs := Same.tupl e h
theorem SqL.mono {K : PySem.W.Frag} {H H' : Hp} {a : Addr} {xs : List V} (h : SqL K H a xs) (e : Same H H') : SqL K H' a xs := e.seq h

/-! ### data: none, bools, ints, texts, tuples (and lists that stand still) -/
mutual
theorem Dp.mono {K : PySem.W.Frag} {H H' : Hp} (e : Same H H') : ∀ {v : V} {d : PyData}, Dp K H v d → Dp K H' v d
  | _, _, .non => .non
  | _, _, .bl b => .bl b
  | _, _, .int i => .int i
  | _, _, .str x => .str x
  | _, _, .lst h a => .lst (e.seq h) (DpAll.mono e a)
  | _, _, .tup h a => .tup (Same.tupl e h) (DpAll.mono e a)
theorem DpAll.mono {K : PySem.W.Frag} {H H' : Hp} (e : Same H H') : ∀ {vs : List V} {ds : List PyData}, DpAll K H vs ds → DpAll K H' vs ds
  | _, _, .nil => .nil
  | _, _, .cons h a => .cons (Dp.mono e h) (DpAll.mono e a)
end
/-- a tuple just made -/
theorem Dp.made {K : PySem.W.Frag} {H : Hp} {p : Addr} {xs : List V} {ds : List PyData} (hp : H p = none) (h : DpAll K H xs ds) : Dp K (upd H p (.tup xs)) (.ref p) (.tuple ds) :=
  .tup (SqT.of upd_same) (DpAll.mono (Same.new hp) h)
theorem DpAll.length {K : PySem.W.Frag} {H : Hp} : ∀ {vs : List V} {ds : List PyData}, DpAll K H vs ds → vs.length = ds.length
  | _, _, .nil => rfl
  | _, _, .cons _ t => by simp [DpAll.length t]
theorem DpAll.app {K : PySem.W.Frag} {H : Hp} : ∀ {vs ws : List V} {ds es : List PyData}, DpAll K H vs ds → DpAll K H ws es → DpAll K H (vs ++ ws) (ds ++ es)
  | _, _, _, _, .nil, t => t
  | _, _, _, _, .cons h a, t => .cons h (DpAll.app a t)

/-! ### repr of data -/
mutual
theorem Dp.noDict {K : PySem.W.Frag} {H : Hp} : ∀ {v : V} {d : PyData}, Dp K H v d → d.hasDict = false
  | _, _, .non => rfl
  | _, _, .bl _ => rfl
  | _, _, .int _ => rfl
  | _, _, .str _ => rfl
  | _, _, .lst _ a => by simp only [PyData.hasDict]; exact DpAll.noDict a
  | _, _, .tup _ a => by simp only [PyData.hasDict]; exact DpAll.noDict a
theorem DpAll.noDict {K : PySem.W.Frag} {H : Hp} : ∀ {vs : List V} {ds : List PyData}, DpAll K H vs ds → PyData.hasDictAll ds = false
  | _, _, .nil => rfl
  | _, _, .cons h a => by simp only [PyData.hasDictAll, Dp.noDict h, DpAll.noDict a, Bool.or_self]
end
/-- what repr asks of data -/
structure ShowOk (d : PyData) : Prop where
  ok : d.showable = true
  dp : d.depth ≤ 60
  sz : d.shown.length ≤ sizeLine
def rRepr (K : PySem.W.Frag) : List V → Hp → VK → Prop := fun xs H Q => ∃ v d, xs = [v] ∧ Dp K H v d ∧ ShowOk d ∧ Q (.str d.shown) H
section
variable {X : Cx}
theorem call_repr_data (hg : X.A.guards = some []) (hu : X.A.units + 64 < cLine) : CallR X (.builtin "repr") (rRepr X.K) := by
  intro pins s σ H xs us Q I r h
  obtain ⟨v, d, rfl, hd, ⟨hs, hdp, hsz⟩, q⟩ := h
  obtain ⟨u, rfl, rv⟩ := vals1 r
  obtain ⟨as, rr⟩ := Dp.reads I d v u hd rv
  have nd := Dp.noDict hd
  cases d with
  | none => cases rr; exact PySem.P.repr_of_none ⟨.str _, H, I.tok _, ⟨_, rfl⟩, q⟩
  | bool b => cases rr; exact PySem.P.repr_of_bool ⟨.str _, H, I.tok _, ⟨_, rfl⟩, by simpa [PyData.shown] using q⟩
  | int i => cases rr; exact PySem.P.repr_of_int (of_decide_eq_true (by simpa [PyData.showable] using hs)) ⟨.str _, H, I.tok _, ⟨_, rfl⟩, by simpa [PyData.shown] using q⟩
  | str x => cases rr; exact PySem.P.repr_of_str (hsz := by simpa [PyData.shown] using hsz) ⟨.str _, H, I.tok _, ⟨_, rfl⟩, by simpa [PyData.shown] using q⟩
  | list ds =>
    obtain ⟨a, rfl⟩ := PyProof.Rows.isRef_of_reads rr rfl
    exact repr_of_reads' rr hs (PyData.noDict_hsm nd) hg (by omega) (fun _ _ e => e) (fun h' u tk hk => ⟨.str _, H, I.kept hk, ⟨_, rfl⟩, q⟩) hsz
  | tuple ds =>
    obtain ⟨a, rfl⟩ := PyProof.Rows.isRef_of_reads rr rfl
    exact repr_of_reads' rr hs (PyData.noDict_hsm nd) hg (by omega) (fun _ _ e => e) (fun h' u tk hk => ⟨.str _, H, I.kept hk, ⟨_, rfl⟩, q⟩) hsz
  | dict kv => cases hd
end

/-! ### the law's own call -/
/-- the heap behind the top, seen with the script at a locked, or with nothing tracked -/
theorem law_callG {P : Program} {w : World} {K : PySem.W.Frag} {mg mb : Str → Option Value} {CX : CXT} {k : Nat} {fa a : Addr} {fd : FuncData} {x : Str} {sp : Sp} {s₁ : Shared} {vs : List Value} {ns : List Int}
    (inn : K.In s₁.heap) (hns : s₁.heap.Ns mainGlobals mg) (hb : s₁.heap.Ns builtinsNs mb) (hbb : ∀ x : Str, x ≠ "__name__" → mb x = bootBuiltins x) (hlim : s₁.heap.NoLimit) (hgens : s₁.gens = #[])
    (ha : s₁.heap.get? a = some { cls := .type "list", data := .seq vs.toArray }) (hi : IntsAre vs ns) (hl : ns.length ≤ sizeLine) (hr : Room k callerA)
    (F : ∀ base : Heap, K.In base → base.Ns mainGlobals mg → FnG P w K mg base CX k fa fd [x] sp) (hbind : ∀ (s : Shared) (u : Value), BindsTo s fd ⟨[u], []⟩ [(x, u)])
    (hsp : ∀ H : Hp, Only H → SqL K H a (ns.map V.int) → sp [.ref a] H (fun v _ => v = .bl true) fun _ _ _ => False)
    (hCX : ∀ H e s', CX [] H s₁ (fun _ _ _ => False) e s' → False) :
    codeAny (model P w) callerA (.call (.ref fa) ⟨[.ref a], []⟩) (fun r s' => r = .ok (.ret (.bool true)) ∧ OldK s₁.heap s'.heap ∧ s'.os = s₁.os ∧ AllBare s'.gens) s₁ := by
  have rv := vals_ints hi
  have run : ∀ H : Hp, Only H → SqL K H a (ns.map V.int) → HOk P w H s₁.heap → (∀ b u, H b = some u → b = a ∧ K.lookup a = none) →
      codeAny (model P w) callerA (.call (.ref fa) ⟨[.ref a], []⟩) (fun r s' => r = .ok (.ret (.bool true)) ∧ OldK s₁.heap s'.heap ∧ s'.os = s₁.os ∧ AllBare s'.gens) s₁ := by
    intro H only hS hok at_a
    -- what is no list stays in the base
    have free : ∀ {b : Addr} {o : Obj}, s₁.heap.get? b = some o → (∀ its n, o.data ≠ .seq its n) → H b = none := fun {b o} e hd => by
      cases q : H b with
      | none => rfl
      | some u =>
        obtain ⟨rfl, _⟩ := at_a b u q
        rw [ha] at e; cases e
        exact absurd rfl (hd _ _)
    have names : ∀ {b : Addr} {m : Str → Option Value}, s₁.heap.Ns b m → (hidT s₁.heap H).Ns b m := fun {b m} hn => by
      obtain ⟨o, es, ep, e, d, r⟩ := hn
      exact ⟨o, es, ep, hidT_get e (free e fun its n z => by rw [d] at z; cases z), d, r⟩
    have inb : K.In (hidT s₁.heap H) := fun b o e => by
      refine hidT_get (inn b o e) ?_
      cases q : H b with
      | none => rfl
      | some u =>
        obtain ⟨rfl, hk⟩ := at_a b u q
        rw [e] at hk; cases hk
    have md : Mod K mg (hidT s₁.heap H) := by
      obtain ⟨mc, h1, h2⟩ := hlim
      exact ⟨inb, names hns, ⟨mb, names hb, hbb⟩, ⟨mc, names h1, h2⟩⟩
    have none_in : ∀ b : Addr, b ∉ ([] : List Addr) := fun b z => nomatch z
    have e0 : Env0 P w K mg (hidT s₁.heap H) callerA [] s₁ H := ⟨rfl, md, fun b o e => of_hidT e, Nat.le_of_eq (hidT_size _ _), trivial, fun b z => absurd z (none_in b), hok, .of_eq hgens⟩
    refine codeAny_mono ((F _ inb (names hns)).run callerA [] s₁ H ⟨[.ref a], []⟩ [.ref a] [.ref a] _ _ hr rfl e0 (hbind s₁ (.ref a)) (.cons rfl .nil) (hsp H only hS)) fun r s' h => ?_
    match r, h with
    | .error e, h => exact (hCX H e s' h).elim
    | .ok .next, h => exact False.elim h
    | .ok .brk, h => exact False.elim h
    | .ok .cont, h => exact False.elim h
    | .ok (.ret u), h =>
      obtain ⟨v, H', os, bare, un, hok', r', q⟩ := h
      obtain rfl : v = V.bl true := q
      obtain rfl : u = Value.bool true := r'
      refine ⟨rfl, OldK.of_keep fun b o e => ?_, os, bare⟩
      cases q : H b with
      | none => exact un.keep b o e q (none_in b) (none_in b)
      | some u =>
        rcases only b with z | ⟨ob, xs, z⟩
        · rw [q] at z; cases z
        · have e1 : s₁.heap.get? b = some ob := (hok b _ z).1
          rw [e] at e1; cases e1
          exact (hok' b _ (un.frzs b o _ z)).1
  cases hk : K.lookup a with
  | some o =>
    have e := inn a o hk
    rw [ha] at e; cases e
    have sz : vs.toArray.size ≤ sizeLine := by rw [List.size_toArray, hi.length]; exact hl
    exact run (fun _ => none) (fun _ => .inl rfl) (.inr ⟨_, vs.toArray, _, hk, rfl, rfl, rfl, sz, by simpa using rv⟩) (fun b u z => nomatch (show (none : Option HO) = some u from z)) fun b u z => nomatch (show (none : Option HO) = some u from z)
  | none =>
    let u0 : HO := .frz { cls := .type "list", data := .seq vs.toArray } (.lst (ns.map V.int))
    have at1 : ∀ b u, upd (fun _ => none) a u0 b = some u → b = a ∧ u = u0 := fun b u z => by
      by_cases hb : b = a
      · subst hb; rw [upd_same] at z; exact ⟨rfl, (Option.some.inj z).symm⟩
      · rw [upd_ne hb] at z; cases z
    refine run (upd (fun _ => none) a u0) (fun b => ?_) (.inl (.inr ⟨_, upd_same⟩)) (fun b u z => ?_) fun b u z => ⟨(at1 b u z).1, hk⟩
    · by_cases hb : b = a
      · subst hb; exact .inr ⟨_, _, upd_same⟩
      · exact .inl (by rw [upd_ne hb])
    · obtain ⟨rfl, rfl⟩ := at1 b u z
      exact ⟨ha, by rw [List.length_map]; exact hl, vs, _, rv, ha⟩
theorem walkG {l : PySem.W.OpenLaw} {n k : Nat} {q : Program} {loose : List Str} {XP : (Str → Option Value) → Heap → Prop} {YP : World → Heap → Prop} {d : DefRec} {K : Params → PySem.W.Frag} {CX : CXT} {sp : PySem.W.Frag → Sp} {x : Str}
    (hn : l.most = some n) (hn2 : n ≤ sizeLine) (hdf : d.params.defaults = []) (hr : Room k callerA)
    (hY : ∀ (w : World) (h : Heap), YP w h → (K w.params).In h)
    (F : ∀ (w : World) (mg : Str → Option Value) (fa : Addr) (h : Heap), (K w.params).In h → h.Ns mainGlobals mg → mg d.name = some (.ref fa) →
      ∃ fd : FuncData, (∀ (s : Shared) (u : Value), BindsTo s fd ⟨[u], []⟩ [(x, u)]) ∧
        ∀ base : Heap, (K w.params).In base → base.Ns mainGlobals mg → FnG l.prog w (K w.params) mg base CX k fa fd [x] (sp (K w.params)))
    (hsp : ∀ (K : PySem.W.Frag) (H : Hp) (a : Addr) (ns : List Int), ns.length ≤ n → Only H → SqL K H a (ns.map V.int) → sp K [.ref a] H (fun v _ => v = .bl true) fun _ _ _ => False)
    (hCX : ∀ (H : Hp) (s : Shared) (e : Value) (s' : Shared), CX [] H s (fun _ _ _ => False) e s' → False) :
    PySem.W.WalkO q loose XP YP l.row.toRowW d [] (fun f vs => PySem.call f vs) :=
  Att.attach_call hn hdf fun w s₀ s₁ mg mb fa o pm cd doc a vs ns G Y ho hd hcd hmg hobj hints hlen hg =>
    let ⟨fd, hb, hF⟩ := F w mg fa _ (hY w _ Y) G.T.g hmg
    law_callG (hY w _ Y) G.T.g G.T.b G.T.builtins G.T.nolimit hg hobj hints (Nat.le_trans hlen hn2) hr hF hb (fun H hO hS => hsp (K w.params) H a ns hlen hO hS) fun H e s' => hCX H s₁ e s'
/-- from the top's facts: the law's def and its arguments -/
theorem law_use {P : Program} {w : World} {K : PySem.W.Frag} {mg : Str → Option Value} {h : Heap} {CX : CXT} {k : Nat} {fa : Addr} {st : Stmt} {x : Str} {sp : Sp} (L : HasFn K "law" st) (X : K.In h) (G : h.Ns mainGlobals mg) (hfa : mg "law" = some (.ref fa))
    (hb : ∀ (kV doc pm : Value) (an : Option Addr) (cdv ct v : Value), bindArgs (PySem.W.fnOf "law" "law" (defArgs st) (defBody st) (defScope st) .none kV doc pm an cdv ct) ⟨[v], []⟩ = pure [(x, v)])
    (ok : ∀ base : Heap, K.In base → base.Ns mainGlobals mg → ∀ fd, Fun K "law" "law" st fa fd → FnG P w K mg base CX k fa fd [x] sp) :
    ∃ fd : FuncData, (∀ (s : Shared) (v : Value), BindsTo s fd ⟨[v], []⟩ [(x, v)]) ∧ ∀ base : Heap, K.In base → base.Ns mainGlobals mg → FnG P w K mg base CX k fa fd [x] sp := by
  obtain ⟨f, oc, od, an, kV, doc, pm, cdv, ct, osl, e, l, c, kp⟩ := L
  have z := hfa.symm.trans (PySem.W.mg_of X G e)
  cases z
  have Fn := fun_mk (st := st) l c kp
  exact ⟨_, fun s v => .of_eq (hb ..), fun base h1 h2 => ok base h1 h2 _ Fn⟩

/-! ### tests whose answer is known -/
theorem iteFb {c : Bool} {A B : Prop} (h : c = false) (b : B) : if c = true then A else B := by rw [h]; exact iteF b
theorem iteTb {c : Bool} {A B : Prop} (h : c = true) (a : A) : if c = true then A else B := by rw [h]; exact iteT a
theorem ite3 {c : Bool} {A B : Prop} (h1 : c = true → A) (h2 : c = false → B) : if c = true then A else B := by
  cases c with
  | true => exact iteT (h1 rfl)
  | false => exact iteF (h2 rfl)

/-! ### constants of the top -/
def HasInt (K : PySem.W.Frag) (x : Str) (n : Int) : Prop := ∃ (t : Tok) (m : Int), PySem.W.nsIn K mainGlobals x = some (some (.int m t)) ∧ m = n
def KTup (K : PySem.W.Frag) (a : Addr) (xs : List V) : Prop := ∃ (od : Option Addr) (its : Array Value) (n : Nat) (sl : Array (Option Value)), K.lookup a = some ⟨.type "tuple", od, .seq its n, sl⟩ ∧ its.size ≤ sizeLine ∧ Vals xs its.toList
def HasTup (K : PySem.W.Frag) (x : Str) (xs : List V) : Prop := ∃ a, PySem.W.nsIn K mainGlobals x = some (some (.ref a)) ∧ KTup K a xs
theorem KTup.sq {K : PySem.W.Frag} {a : Addr} {xs : List V} (h : KTup K a xs) (H : Hp) : SqT K H a xs := by
  obtain ⟨od, its, n, sl, e, z, v⟩ := h
  exact .inr ⟨_, its, n, e, rfl, rfl, z, v⟩
/-- the module's names, as the defs see them -/
def GInt (mg : Str → Option Value) (x : Str) (n : Int) : Prop := ∃ t, mg x = some (.int n t)
def GTup (K : PySem.W.Frag) (mg : Str → Option Value) (x : Str) (xs : List V) : Prop := ∃ a, mg x = some (.ref a) ∧ KTup K a xs
theorem HasInt.g {K : PySem.W.Frag} {mg : Str → Option Value} {h : Heap} {x : Str} {n : Int} (i : HasInt K x n) (X : K.In h) (G : h.Ns mainGlobals mg) : GInt mg x n := by
  obtain ⟨t, m, e, rfl⟩ := i
  exact ⟨t, PySem.W.mg_of X G e⟩
theorem HasTup.g {K : PySem.W.Frag} {mg : Str → Option Value} {h : Heap} {x : Str} {xs : List V} (i : HasTup K x xs) (X : K.In h) (G : h.Ns mainGlobals mg) : GTup K mg x xs := by
  obtain ⟨a, e, k⟩ := i
  exact ⟨a, PySem.W.mg_of X G e, k⟩
section
variable {X : Cx} {x : Str} {pos : Pos}
theorem pe_globI {n : Int} (h : GInt X.mg x n) (hg : Gl X x) (hd : (x == ("__debug__" : Str)) = false := by decide) : PE X (.Name x pos) (tC (.int n)) := by
  obtain ⟨t, e⟩ := h
  exact pe_glob hg e ⟨t, rfl⟩ hd
/-- a tuple of the top: it is read as xs, wherever it stands -/
def tGT (K : PySem.W.Frag) (xs : List V) : TE := fun _ H Q => ∀ a, KTup K a xs → Q (.ref a) H
theorem pe_globT {xs : List V} (h : GTup X.K X.mg x xs) (hg : Gl X x) (hd : (x == ("__debug__" : Str)) = false := by decide) : PE X (.Name x pos) (tGT X.K xs) := by
  obtain ⟨a, e, k⟩ := h
  exact ⟨fun pins s σ H Q I q => (pe_glob (v := .ref a) hg e rfl hd).run pins s σ H Q I (q a k)⟩
end

/-! ### // by any divisor but 0 -/
def CDivX (_ j : Int) : Prop := j ≠ 0 ∧ j.natAbs.log2 < 9000
theorem op_fdivX {X : Cx} : OpR X (binaryOp .FloorDiv) (rI CDivX fun i j => .int (i.fdiv j)) := opI fun _ _ _ _ _ _ _ hc q => floordiv_int hc.1 q (.inl (PyProof.noPylong_of_log2 hc.2))
theorem fdiv_le_pos (i : Int) {j : Int} (hj : 0 < j) : (i.fdiv j).natAbs ≤ i.natAbs + 1 := by
  have e := Int.mul_fdiv_add_fmod i j
  have h0 := Int.fmod_nonneg_of_pos i hj
  have h1 := Int.fmod_lt_of_pos i hj
  have a : (i.fdiv j).natAbs ≤ (j * i.fdiv j).natAbs := by
    rw [Int.natAbs_mul]; exact Nat.le_mul_of_pos_left _ (by omega)
  by_cases hi : 0 ≤ i
  · have : 0 ≤ i.fdiv j := Int.fdiv_nonneg hi (by omega)
    have : 0 ≤ j * i.fdiv j := Int.mul_nonneg (by omega) this
    omega
  · have q : i.fdiv j ≤ -1 := by
      by_cases z : 0 ≤ i.fdiv j
      · have := Int.mul_nonneg (show 0 ≤ j by omega) z
        omega
      · omega
    have r : -1 + i ≤ i.fdiv j := by
      have : i.fdiv j * (j - 1) ≤ (-1) * (j - 1) := Int.mul_le_mul_of_nonneg_right q (by omega)
      have e2 : j * i.fdiv j = i.fdiv j * (j - 1) + i.fdiv j := by rw [Int.mul_sub, Int.mul_one, Int.mul_comm]; omega
      omega
    omega
theorem fdiv_le (i j : Int) : (i.fdiv j).natAbs ≤ i.natAbs + 1 := by
  by_cases h : 0 < j
  · exact fdiv_le_pos i h
  · by_cases h2 : j = 0
    · subst h2; rw [Int.fdiv_zero]; omega
    · have e : i.fdiv j = (-i).fdiv (-j) := by rw [Int.neg_fdiv_neg]
      have := fdiv_le_pos (-i) (show 0 < -j by omega)
      rw [e]; omega

/-! ### how long a shown thing is at most -/
structure Sm (d : PyData) (dp N : Nat) : Prop where
  ok : d.showable = true
  dp : d.depth ≤ dp
  sz : d.shown.length ≤ N
structure SmAll (ds : List PyData) (dp n N : Nat) : Prop where
  ok : PyData.showableAll ds = true
  dp : PyData.depthAll ds ≤ dp
  len : ds.length ≤ n
  sz : ((PyData.shownAll ds).map (·.length)).sum ≤ N
theorem Sm.show {d : PyData} {dp N : Nat} (h : Sm d dp N) (h1 : dp ≤ 60) (h2 : N ≤ sizeLine) : ShowOk d := ⟨h.ok, Nat.le_trans h.dp h1, Nat.le_trans h.sz h2⟩
theorem Sm.mono {d : PyData} {dp N dp' N' : Nat} (h : Sm d dp N) (h1 : dp ≤ dp') (h2 : N ≤ N') : Sm d dp' N' := ⟨h.ok, Nat.le_trans h.dp h1, Nat.le_trans h.sz h2⟩
theorem shownAll_length : ∀ ds : List PyData, (PyData.shownAll ds).length = ds.length
  | [] => rfl
  | d :: ds => by simp [PyData.shownAll, shownAll_length ds]
theorem Sm.int {i : Int} (h : i.natAbs < 2 ^ 1900) : Sm (.int i) 0 2000 := by
  have hl : i.natAbs.log2 < 1900 := PySem.Flt.log2_lt_of (by decide) h
  refine ⟨?_, Nat.le_refl 0, ?_⟩
  · simp only [PyData.showable, decide_eq_true_eq]; omega
  · have e := int_text_length_le (k := 1900) (by decide) hl
    show (Str.ofString (toString i)).length ≤ 2000
    rw [PySem.ofString_length]; omega
theorem Sm.bool (b : Bool) : Sm (.bool b) 0 10 := ⟨rfl, Nat.le_refl 0, by cases b <;> decide +kernel⟩
theorem Sm.none : Sm .none 0 10 := ⟨rfl, Nat.le_refl 0, by decide +kernel⟩
theorem Sm.str {x : Str} {n : Nat} (h : x.length ≤ n) (hc : ∀ c ∈ x.cps.toList, c < 16 ^ 8) : Sm (.str x) 0 (10 * n + 2) := ⟨rfl, Nat.le_refl 0, by
  have e := PySem.StrLaws.reprText_len x hc
  show (reprText x).length ≤ _
  omega⟩
theorem SmAll.nil : SmAll [] 0 0 0 := ⟨rfl, Nat.le_refl 0, Nat.le_refl 0, Nat.le_refl 0⟩
theorem SmAll.cons {d : PyData} {ds : List PyData} {dp dp' n N M : Nat} (h : Sm d dp N) (t : SmAll ds dp' n M) : SmAll (d :: ds) (max dp dp') (n + 1) (N + M) := by
  have h1 := h.dp
  have h2 := t.dp
  refine ⟨by simp [PyData.showableAll, h.ok, t.ok], ?_, by have := t.len; simp; omega, ?_⟩
  · simp only [PyData.depthAll]; omega
  · have := h.sz
    have := t.sz
    simp only [PyData.shownAll, List.map_cons, List.sum_cons]; omega
theorem Sm.tup {ds : List PyData} {dp n N : Nat} (h : SmAll ds dp n N) : Sm (.tuple ds) (dp + 1) (N + 2 * n + 3) := by
  refine ⟨by simpa [PyData.showable] using h.ok, by simp only [PyData.depth]; have := h.dp; omega, ?_⟩
  have e := tupleText_len_le (PyData.shownAll ds)
  have := h.sz
  have := h.len
  rw [shownAll_length] at e
  show (tupleText (PyData.shownAll ds)).length ≤ _
  omega
theorem Sm.lst {ds : List PyData} {dp n N : Nat} (h : SmAll ds dp n N) : Sm (.list ds) (dp + 1) (N + 2 * n + 3) := by
  refine ⟨by simpa [PyData.showable] using h.ok, by simp only [PyData.depth]; have := h.dp; omega, ?_⟩
  have e := listText_len_le (PyData.shownAll ds)
  have := h.sz
  have := h.len
  rw [shownAll_length] at e
  show (listText (PyData.shownAll ds)).length ≤ _
  omega
theorem SmAll.many {dp N : Nat} : ∀ {ds : List PyData}, (∀ d ∈ ds, Sm d dp N) → SmAll ds dp ds.length (N * ds.length)
  | [], _ => ⟨rfl, Nat.zero_le _, Nat.le_refl 0, Nat.zero_le _⟩
  | d :: ds, h => by
    have t := SmAll.cons (h d (by simp)) (SmAll.many (fun e he => h e (List.mem_cons_of_mem _ he)))
    rw [Nat.max_self] at t
    refine ⟨t.ok, t.dp, t.len, Nat.le_trans t.sz ?_⟩
    rw [List.length_cons, Nat.mul_succ]; omega
theorem sz_0 : (0 : Nat) ≤ sizeLine := by decide
theorem sz_1 : (1 : Nat) ≤ sizeLine := by decide
theorem sz_2 : (2 : Nat) ≤ sizeLine := by decide
theorem sz_3 : (3 : Nat) ≤ sizeLine := by decide
theorem sz_4 : (4 : Nat) ≤ sizeLine := by decide
theorem sz_5 : (5 : Nat) ≤ sizeLine := by decide
/-! ### the ends: each premise a fact that k_is finds -/
theorem HasFn.mk' {K : PySem.W.Frag} {x : Str} {st : Stmt} {f : Addr} {oc : Value} {od an : Option Addr} {kV doc pm cdv ct : Value} {osl : Array (Option Value)} (a : PySem.W.nsIn K mainGlobals x = some (some (.ref f)))
    (b : K.lookup f = some ⟨oc, od, .func (PySem.W.fnOf x x (defArgs st) (defBody st) (defScope st) .none kV doc pm an cdv ct), osl⟩) (c : PySem.W.codeIn K cdv x = true) (d : PySem.W.keepIn K (.ref f) = true) : HasFn K x st :=
  ⟨f, oc, od, an, kV, doc, pm, cdv, ct, osl, a, b, c, d⟩
theorem HasInt.mk' {K : PySem.W.Frag} {x : Str} {n m : Int} {t : Tok} (a : PySem.W.nsIn K mainGlobals x = some (some (.int m t))) (e : m = n) : HasInt K x n := ⟨t, m, a, e⟩
theorem HasTup.mk' {K : PySem.W.Frag} {x : Str} {xs : List V} {a : Addr} {od : Option Addr} {its : Array Value} {n : Nat} {sl : Array (Option Value)} (h : PySem.W.nsIn K mainGlobals x = some (some (.ref a)))
    (b : K.lookup a = some ⟨.type "tuple", od, .seq its n, sl⟩) (z : its.size ≤ sizeLine) (v : Vals xs its.toList) : HasTup K x xs := ⟨a, h, od, its, n, sl, b, z, v⟩
/-! ### what the laws' helpers promise -/
/-! the digits and the place -/
def BoxAt (H : Hp) (p dl : Addr) : Prop := ∃ (ds : List Int) (k : Int), H p = some (.lst [.ref dl, .int k]) ∧ 0 ≤ k ∧ H dl = some (.lst (ds.map V.int)) ∧ ds.length ≤ 4000 ∧ ∀ d ∈ ds, 0 ≤ d ∧ d < 1000
theorem BoxAt.at_ {H : Hp} {p dl : Addr} (h : BoxAt H p dl) : ∃ xs, H p = some (.lst xs) := let ⟨_, _, a, _⟩ := h; ⟨_, a⟩
theorem BoxAt.dg {H : Hp} {p dl : Addr} (h : BoxAt H p dl) : ∃ xs, H dl = some (.lst xs) := let ⟨_, _, _, _, c, _⟩ := h; ⟨_, c⟩
def Keep (p : Addr) (H H' : Hp) : Prop := ∀ b o, H b = some o → b ≠ p → H' b = some o
def spDraw (K : PySem.W.Frag) : Sp := fun vs H Q _ => ∃ (p dl : Addr) (m : Int), vs = [.ref p, .int m] ∧ BoxAt H p dl ∧ 0 < m ∧ ∀ r H', 0 ≤ r → r < m → BoxAt H' p dl → Keep p H H' → Q (.int r) H'
def spCell (K : PySem.W.Frag) : Sp := fun vs H Q _ => ∃ (a : Addr) (ns : List Int) (i : Int), vs = [.ref a, .int i] ∧ SqL K H a (ns.map V.int) ∧ 0 ≤ i ∧ ∀ r, Q (.int r) H
def DigAt (H0 H : Hp) (dl : Addr) (n : Nat) : Prop := ∃ ds : List Int, H dl = some (.lst (ds.map V.int)) ∧ ds.length ≤ n ∧ (∀ d ∈ ds, 0 ≤ d ∧ d < 1000) ∧ Same H0 H
theorem DigAt.mono {H0 H : Hp} {dl : Addr} {n m : Nat} (h : DigAt H0 H dl n) (l : n ≤ m) : DigAt H0 H dl m := let ⟨ds, a, b, c, d⟩ := h; ⟨ds, a, by omega, c, d⟩
theorem DigAt.add {H0 H : Hp} {dl : Addr} {n : Nat} {r : Int} {xs : List V} (h : DigAt H0 H dl n) (hx : H dl = some (.lst xs)) (nd : H0 dl = none) (h0 : 0 ≤ r) (h1 : r < 1000) : DigAt H0 (upd H dl (.lst (xs ++ [.int r]))) dl (n + 1) := by
  obtain ⟨ds, a, b, c, d⟩ := h
  rw [hx] at a
  obtain rfl := HO.lst.inj (Option.some.inj a)
  refine ⟨ds ++ [r], by rw [upd_same, List.map_append]; rfl, by simp; omega, fun z hz => ?_, fun q o e => by rw [upd_ne (ne_of_none e nd)]; exact d q o e⟩
  rcases List.mem_append.mp hz with hz | hz
  · exact c z hz
  · have : z = r := by simpa using hz
    omega
def spDigits (K : PySem.W.Frag) : Sp := fun vs H Q _ => ∃ (a : Addr) (ns : List Int) (lo hi : Nat), vs = [.ref a, .int lo, .int hi] ∧ SqL K H a (ns.map V.int) ∧ lo ≤ hi ∧ hi ≤ 64 ∧
  ∀ (p : Addr) (H' : Hp), H p = none → DigAt H H' p 4000 → Q (.ref p) H'
def spBound : Sp := fun vs H Q _ => vs = [] ∧ Q (.int (2 ^ 256)) H
theorem Keep.trans {p : Addr} {H H1 H2 : Hp} (a : Keep p H H1) (b : Keep p H1 H2) : Keep p H H2 := fun c o h ne => b c o (a c o h ne) ne
theorem Keep.refl (p : Addr) (H : Hp) : Keep p H H := fun _ _ h _ => h
def Sgn (z : Int) : Prop := z = 1 ∨ z = -1
theorem Sgn.mul {z n : Int} (h : Sgn z) : (z * n).natAbs = n.natAbs := by
  rcases h with rfl | rfl <;> omega
theorem Sgn.wide {z n : Int} (h : Sgn z) (hn : n.natAbs < 2 ^ 300) : CMulW z n := wide_mul (a := 2) (b := 300) (by rcases h with rfl | rfl <;> decide) hn (by decide) (by decide) (by decide)
def spNumber (K : PySem.W.Frag) : Sp := fun vs H Q _ => ∃ (p dl : Addr), vs = [.ref p] ∧ BoxAt H p dl ∧ ∀ (n : Int) H', n.natAbs < 2 ^ 260 → BoxAt H' p dl → Keep p H H' → Q (.int n) H'
def spSame (K : PySem.W.Frag) : Sp := fun vs H Q _ => ∃ (x y : V) (d : PyData), vs = [x, y] ∧ Dp K H x d ∧ Dp K H y d ∧ ShowOk d ∧ Q (.bl true) H
theorem Same.keep {p : Addr} {H H' : Hp} (e : Same H H') : Keep p H H' := fun b o h _ => e b o h
theorem BoxAt.same {p dl : Addr} {H H' : Hp} (h : BoxAt H p dl) (e : Same H H') : BoxAt H' p dl := by
  obtain ⟨ds, k, a, b, c, d⟩ := h
  exact ⟨ds, k, e _ _ a, b, e _ _ c, d⟩
theorem BoxAt.upd {p dl l : Addr} {H : Hp} {o : HO} (h : BoxAt H p dl) (h1 : l ≠ p) (h2 : l ≠ dl) : BoxAt (L2.upd H l o) p dl := by
  obtain ⟨ds, k, a, b, c, d⟩ := h
  exact ⟨ds, k, by rw [upd_ne (Ne.symm h1)]; exact a, b, by rw [upd_ne (Ne.symm h2)]; exact c, d⟩
theorem strOk (s : Str) (h : s.cps.toList.all (fun c => decide (c < 16 ^ 8)) = true) : ∀ c ∈ s.cps.toList, c < 16 ^ 8 := fun c hc => of_decide_eq_true (List.all_eq_true.mp h c hc)

/-! ### data without lists: what no change of a list can reach -/
mutual
inductive Dt (K : PySem.W.Frag) (H : Hp) : V → PyData → Prop
  | non : Dt K H .non .none
  | bl (b : Bool) : Dt K H (.bl b) (.bool b)
  | int (i : Int) : Dt K H (.int i) (.int i)
  | str (x : Str) : Dt K H (.str x) (.str x)
  | tup {a : Addr} {xs : List V} {ds : List PyData} : SqT K H a xs → DtAll K H xs ds → Dt K H (.ref a) (.tuple ds)
inductive DtAll (K : PySem.W.Frag) (H : Hp) : List V → List PyData → Prop
  | nil : DtAll K H [] []
  | cons {v : V} {vs : List V} {d : PyData} {ds : List PyData} : Dt K H v d → DtAll K H vs ds → DtAll K H (v :: vs) (d :: ds)
end
mutual
theorem Dt.dp {K : PySem.W.Frag} {H : Hp} : ∀ {v : V} {d : PyData}, Dt K H v d → Dp K H v d
  | _, _, .non => .non
  | _, _, .bl b => .bl b
  | _, _, .int i => .int i
  | _, _, .str x => .str x
  | _, _, .tup h a => .tup h (DtAll.dp a)
theorem DtAll.dp {K : PySem.W.Frag} {H : Hp} : ∀ {vs : List V} {ds : List PyData}, DtAll K H vs ds → DpAll K H vs ds
  | _, _, .nil => .nil
  | _, _, .cons h a => .cons (Dt.dp h) (DtAll.dp a)
end
/-- every tuple that H reads H' reads as well -/
def KeepT (K : PySem.W.Frag) (H H' : Hp) : Prop := ∀ a xs, SqT K H a xs → SqT K H' a xs
mutual
theorem Dt.keepT {K : PySem.W.Frag} {H H' : Hp} (e : KeepT K H H') : ∀ {v : V} {d : PyData}, Dt K H v d → Dt K H' v d
  | _, _, .non => .non
  | _, _, .bl b => .bl b
  | _, _, .int i => .int i
  | _, _, .str x => .str x
  | _, _, .tup h a => .tup (e _ _ h) (DtAll.keepT e a)
theorem DtAll.keepT {K : PySem.W.Frag} {H H' : Hp} (e : KeepT K H H') : ∀ {vs : List V} {ds : List PyData}, DtAll K H vs ds → DtAll K H' vs ds
  | _, _, .nil => .nil
  | _, _, .cons h a => .cons (Dt.keepT e h) (DtAll.keepT e a)
end
theorem KeepT.refl (K : PySem.W.Frag) (H : Hp) : KeepT K H H := fun _ _ h => h
theorem KeepT.trans {K : PySem.W.Frag} {H H1 H2 : Hp} (a : KeepT K H H1) (b : KeepT K H1 H2) : KeepT K H H2 := fun c xs h => b c xs (a c xs h)
theorem Same.keepT {K : PySem.W.Frag} {H H' : Hp} (e : Same H H') : KeepT K H H' := fun _ _ h => Same.tupl e h
theorem Keep.keepT {K : PySem.W.Frag} {p : Addr} {H H' : Hp} (e : Keep p H H') (hp : ∃ xs, H p = some (.lst xs)) : KeepT K H H' := fun a xs h => by
  obtain ⟨ys, hp⟩ := hp
  rcases h with (h | ⟨o, h⟩) | h
  · exact .inl (.inl (e _ _ h (ne_of h hp (by intro z; cases z))))
  · exact .inl (.inr ⟨o, e _ _ h (ne_of h hp (by intro z; cases z))⟩)
  · exact .inr h
theorem KeepT.upd {K : PySem.W.Frag} {p : Addr} {H : Hp} {o : HO} {xs : List V} (hp : H p = some (.lst xs)) : KeepT K H (upd H p o) :=
  Keep.keepT (p := p) (fun b u e hb => by rw [upd_ne hb]; exact e) ⟨xs, hp⟩
theorem Dt.mono {K : PySem.W.Frag} {H H' : Hp} {v : V} {d : PyData} (e : Same H H') (h : Dt K H v d) : Dt K H' v d := h.keepT (Same.keepT e)
theorem DtAll.mono {K : PySem.W.Frag} {H H' : Hp} {v : List V} {d : List PyData} (e : Same H H') (h : DtAll K H v d) : DtAll K H' v d := h.keepT (Same.keepT e)
theorem Dt.made {K : PySem.W.Frag} {H : Hp} {p : Addr} {xs : List V} {ds : List PyData} (hp : H p = none) (h : DtAll K H xs ds) : Dt K (L2.upd H p (.tup xs)) (.ref p) (.tuple ds) := .tup (SqT.of upd_same) (DtAll.mono (Same.new hp) h)
theorem DtAll.length {K : PySem.W.Frag} {H : Hp} {vs : List V} {ds : List PyData} (h : DtAll K H vs ds) : vs.length = ds.length := LK.DpAll.length h.dp
theorem DtAll.app {K : PySem.W.Frag} {H : Hp} : ∀ {vs ws : List V} {ds es : List PyData}, DtAll K H vs ds → DtAll K H ws es → DtAll K H (vs ++ ws) (ds ++ es)
  | _, _, _, _, .nil, t => t
  | _, _, _, _, .cons h a, t => .cons h (DtAll.app a t)
theorem DtAll.get {K : PySem.W.Frag} {H : Hp} : ∀ {vs : List V} {ds : List PyData} {i : Nat} {d : PyData}, DtAll K H vs ds → ds[i]? = some d → ∃ v, vs[i]? = some v ∧ Dt K H v d
  | _, _, 0, _, .cons h _, e => ⟨_, rfl, Option.some.inj e ▸ h⟩
  | _, _, i + 1, _, .cons _ a, e => DtAll.get (i := i) a e
theorem DtAll.getV {K : PySem.W.Frag} {H : Hp} : ∀ {vs : List V} {ds : List PyData} {i : Nat} {v : V}, DtAll K H vs ds → vs[i]? = some v → ∃ d, ds[i]? = some d ∧ Dt K H v d
  | _, _, 0, _, .cons h _, e => ⟨_, rfl, Option.some.inj e ▸ h⟩
  | _, _, i + 1, _, .cons _ a, e => DtAll.getV (i := i) a e
theorem Dt.tuple_inv {K : PySem.W.Frag} {H : Hp} {v : V} {ds : List PyData} (h : Dt K H v (.tuple ds)) : ∃ a xs, v = .ref a ∧ SqT K H a xs ∧ DtAll K H xs ds := by
  cases h with
  | tup h a => exact ⟨_, _, rfl, h, a⟩
theorem DtAll.cons_inv {K : PySem.W.Frag} {H : Hp} {vs : List V} {d : PyData} {ds : List PyData} (h : DtAll K H vs (d :: ds)) : ∃ v ws, vs = v :: ws ∧ Dt K H v d ∧ DtAll K H ws ds := by
  cases h with
  | cons h a => exact ⟨_, _, rfl, h, a⟩
theorem DtAll.nil_inv {K : PySem.W.Frag} {H : Hp} {vs : List V} (h : DtAll K H vs []) : vs = [] := by cases h; rfl
theorem Dt.int_inv {K : PySem.W.Frag} {H : Hp} {v : V} {i : Int} (h : Dt K H v (.int i)) : v = .int i := by cases h; rfl
theorem Dt.str_inv {K : PySem.W.Frag} {H : Hp} {v : V} {x : Str} (h : Dt K H v (.str x)) : v = .str x := by cases h; rfl
theorem Dt.bool_inv {K : PySem.W.Frag} {H : Hp} {v : V} {b : Bool} (h : Dt K H v (.bool b)) : v = .bl b := by cases h; rfl
theorem dtStrs {K : PySem.W.Frag} {H : Hp} : ∀ xs : List Str, DtAll K H (xs.map V.str) (xs.map PyData.str)
  | [] => .nil
  | x :: xs => .cons (.str x) (dtStrs xs)
end LK

set_option Elab.async false
set_option linter.all false
set_option maxRecDepth 100000
set_option maxHeartbeats 4000000
/-! enumerate of a tuple. -/
namespace LK
open PySem PySem.Spec PyProof.Rows L2
open AutoSeq1 (wpAny_loadPart')
open Sem (wp)
def enumObj (it : Addr) : Obj := { cls := .type "enumerate", data := .fields #[.none, .bool false, .ref it, rawInt 0, .none, .none] }
def tupIt (t : Addr) : Obj := { cls := .type "tuple_iterator", data := .fields #[.ref t, .int 0 0] }
theorem meets_enumT (t : Addr) (items : Array Value) (n : Nat) (dct : Option Addr) (sl : Array (Option Value)) :
    Meets (Builtin.«enumerate.__new__» ⟨[.type "enumerate", .ref t], []⟩) (fun _ R s => s.heap.get? t = some { cls := .type "tuple", dict := dct, data := .seq items n, slots := sl } ∧
      R (.ok (.ret (.ref (s.heap.push (tupIt t)).objs.size))) { s with heap := (s.heap.push (tupIt t)).push (enumObj s.heap.objs.size) }) :=
  .of_wp fun prog w A R s h => by
    obtain ⟨hp, g, d, tk, os⟩ := s
    obtain ⟨hl, h⟩ := h
    have hsub := sub_enumerate
    have hT : Heap.IsTuple (Shared.heap ⟨hp, g, d, tk, os⟩) t items := ⟨_, hl, rfl, n, rfl⟩
    wp_walk using wpAny_loadPart' hl
    refine wpAny_stack_any fun st => wpAny_pure ?_
    split
    · rename_i c _ _ _ _ _
      cases (c == Value.type "enumerate") <;> (wp_walk using wpAny_loadPart' hl, wpAny_pyIter_tuple hT; exact ⟨_, rfl, h⟩)
    · wp_walk using wpAny_loadPart' hl, wpAny_pyIter_tuple hT
      exact ⟨_, rfl, h⟩
section
variable {prog : Program} {w : World} {A : Around} {E : Value → Shared → Prop} {s : Shared}
theorem call_enumT {t : Addr} {items : Array Value} {Q : Value → Shared → Prop} (hT : s.heap.IsTuple t items)
    (h : ∀ h', IsEnum h' (s.heap.objs.size + 1) s.heap.objs.size 0 .none → h'.IsTupleIter s.heap.objs.size t 0 → (∀ b o, s.heap.get? b = some o → h'.get? b = some o) → Q (.ref (s.heap.objs.size + 1)) { s with heap := h' }) :
    wpAny (model prog w) A (call (.type "enumerate") [.ref t]) Q E s := by
  obtain ⟨⟨c, dct, dt, sl⟩, hl, hc, n, hd⟩ := hT
  obtain rfl : c = .type "tuple" := hc
  obtain rfl : dt = .seq items n := hd
  refine callType_new F.called_enumerate (by decide) (F.typeCall_enumerate_1 _) (F.newCall_enumerate_1 _) (fun obj => F.args_object_init_2 obj _) F.entry_enumerate_new (meets_enumT t items n dct sl) ⟨hl, ?_⟩
  have hz : (s.heap.push (tupIt t)).objs.size = s.heap.objs.size + 1 := Heap.size_push ..
  have he : IsEnum ((s.heap.push (tupIt t)).push (enumObj s.heap.objs.size)) (s.heap.objs.size + 1) s.heap.objs.size 0 .none := by
    have q := Heap.get?_push_size (s.heap.push (tupIt t)) (o := enumObj s.heap.objs.size) rfl
    rw [hz] at q
    exact q
  show _ ∧ _
  rw [hz]
  exact ⟨⟨_, he, rfl⟩, h _ he (Heap.get?_push_of_some _ (Heap.get?_push_size _ rfl) |> fun q => ⟨_, q, rfl, rfl⟩) fun b o x => Heap.get?_push_of_some _ (Heap.get?_push_of_some _ x)⟩
end
/-- the tuple at a, each item in a new pair with its place -/
def IteT (K : PySem.W.Frag) (a : Addr) : It where
  go := fun i H => ∃ (xs : List V) (x : V), SqT K H a xs ∧ xs[i]? = some x
  yld := fun i H v H' => ∃ T x, v = .ref T ∧ H T = none ∧ H' = upd H T (.tup [.int (i : Nat), x]) ∧ ∀ xs, SqT K H a xs → xs[i]? = some x
  stop := fun i H => ∃ xs : List V, SqT K H a xs ∧ xs.length = i
theorem turn_enumT {P : Program} {w : World} {K : PySem.W.Frag} {elts : List Expr} {kk : Nat} {tpos : Pos} (a e it : Addr) :
    Turn P w K (.Tuple elts kk tpos) (IteT K a) [e, it] e (fun i h => (∃ old, IsEnum h e it ((i : Nat) : Int) old) ∧ h.IsTupleIter it a i ∧ e ≠ it) where
  mem := List.mem_cons_self
  obj := fun i h st b hb => by
    obtain ⟨⟨old, he⟩, ⟨o, ho, hc, hd⟩, _⟩ := st
    have hb : b = e ∨ b = it := by simpa using hb
    rcases hb with rfl | rfl
    · exact ⟨_, he, fun v q => nomatch q⟩
    · exact ⟨o, ho, fun v q => by rw [hd] at q; cases q⟩
  keep := fun i h h' st k => by
    obtain ⟨⟨old, he⟩, hi, hne⟩ := st
    exact ⟨⟨old, k e (by simp) _ he⟩, hi.at fun o q => k it (by simp) o q, hne⟩
  item := by
    intro X hP hw hK hc i pins s σ H E I hf st hg
    subst hP hw hK
    obtain ⟨⟨old, he⟩, hit, hne⟩ := st
    obtain ⟨xs, x, hq, hx⟩ := hg
    obtain ⟨its, rv, p, hz⟩ := I.tuple hq
    obtain ⟨u, hu, ru⟩ := rv.get hx
    have hel : e < s.heap.objs.size := Heap.lt_size he
    have hil : it < s.heap.objs.size := by obtain ⟨_, q, _⟩ := hit; exact Heap.lt_size q
    have hat : a ≠ it := by
      intro z
      subst z
      obtain ⟨o, q1, c1, _⟩ := hit
      obtain ⟨o', q2, c2, _⟩ := p
      rw [q1] at q2; cases q2
      exact absurd (Value.type.inj (c1.symm.trans c2)) (by decide)
    have D := Draws.tuple (prog := X.prog) (w := X.w) (A := X.A.in1) (I.ok.hd hc) it a hat its.toArray
    have Dst : (fun i (h : Heap) => h.IsTupleIter it a i ∧ h.IsTuple a its.toArray) i s.heap := ⟨hit, p⟩
    have eat : e ≠ a := by
      intro z
      subst z
      obtain ⟨o', q2, c2, _⟩ := p
      rw [he] at q2; cases q2
      exact absurd (Value.type.inj c2) (by decide)
    have hi : i < its.toArray.size := by
      have := (List.getElem?_eq_some_iff.mp hu).1
      simpa using this
    refine wpAny_pyNext_enum_itemD D he Dst hi hne (by simp [hne, eat]) fun v h' tk hv ho hst hT hsz hk => ?_
    obtain rfl : v = u := by
      have hv : its.toArray[i]? = some v := hv
      rw [show its.toArray[i]? = some u by simpa using hu] at hv
      exact (Option.some.inj hv).symm
    refine ⟨_, rfl, wpAny_letOwnedTupleGo_enum (s := { s with heap := h', toks := tk + 1 }) ho fun h'' he' sb => ?_⟩
    have hT2 := (sb.2 _ (Nat.ne_of_gt hel)).trans hT
    have new : ObjOk X.prog X.w (upd H s.heap.objs.size (.tup [.int (i : Nat), x])) h'' s.heap.objs.size (.tup [.int (i : Nat), x]) :=
      ⟨by show 2 ≤ sizeLine; decide, [.int i tk, v], .cons ⟨_, rfl⟩ (.cons ru .nil), ⟨_, hT2, rfl, _, rfl⟩⟩
    have I1 : Inv X pins σ (upd H s.heap.objs.size (.tup [.int (i : Nat), x])) { s with heap := h'', toks := tk + 1 } :=
      I.turnedNew (ch := [e, it]) (fun b ob hb q => (sb.2 b (fun z => hb (by simp [z]))).trans (hk b ob (fun z => hb (by simp [z])) (fun z => hb (by simp [z])) q)) hf (Nat.le_refl _) new
    refine ⟨.ref s.heap.objs.size, _, I1, rfl, ⟨_, x, rfl, I.hok.fresh (Nat.le_refl _), rfl, fun ys hy => by rw [I.tuple_inj hy hq]; exact hx⟩, ⟨⟨v, ?_⟩, hst.1.at fun o q => (sb.2 it (Ne.symm hne)).trans q, hne⟩, fun b hb => ?_⟩
    · rw [show ((i + 1 : Nat) : Int) = (i : Int) + 1 by omega]
      exact he'
    · have hb' : b < s.heap.objs.size := by
        have z : b = e ∨ b = it := by simpa using hb
        rcases z with rfl | rfl <;> assumption
      rw [upd_ne (Nat.ne_of_lt hb')]
      exact (hf b hb).1
  done := by
    intro X hP hw hK hc i pins s σ H E I hf st hg
    subst hP hw hK
    obtain ⟨⟨old, he⟩, hit, hne⟩ := st
    obtain ⟨xs, hq, hx⟩ := hg
    obtain ⟨its, rv, p, hz⟩ := I.tuple hq
    obtain ⟨f0, f1, f2, f3, f4, f5⟩ := hf it (by simp)
    have hl := rv.length
    have hat : a ≠ it := by
      intro z
      subst z
      obtain ⟨o, q1, c1, _⟩ := hit
      obtain ⟨o', q2, c2, _⟩ := p
      rw [q1] at q2; cases q2
      exact absurd (Value.type.inj (c1.symm.trans c2)) (by decide)
    have D := Draws.tuple (prog := X.prog) (w := X.w) (A := X.A.in1) (I.ok.hd hc) it a hat its.toArray
    have hn : i = its.toArray.size := by simp; omega
    subst hn
    exact wpAny_pyNext_enum_endD D he ⟨hit, p⟩ fun h' eb => ⟨rfl, I.turned (t' := s.toks) (fun b o hb q => eb b o hb q) f0 f1 f3 f4 f5⟩
  self := fun A i s Q E st h => let ⟨⟨_, he⟩, _⟩ := st; wpAny_pyIter_enum he h
def iEnumT (K : PySem.W.Frag) (ta : TA) : TI := fun σ H R => ta σ H fun vs H1 => ∃ a xs, vs = [.ref a] ∧ SqT K H1 a xs ∧ R (IteT K a) H1
theorem pi_enumT {X : Cx} {e : Expr} {ta : TA} {p pos tpos : Pos} {elts : List Expr} {kk : Nat} (hg : Gl X "enumerate") (hm : X.mg "enumerate" = none) (ha : PA X [e] ta) (hs : starEach [e] X.env = [(false, eval e X.env)] := by rfl) :
    PI X (.Tuple elts kk tpos) (.Call (.Name "enumerate" p) [e] [] pos) (iEnumT X.K ta) := by
  refine ⟨fun pins s σ H R I h => ?_⟩
  refine Call_ (ld_blt I hg hm boot_enumerate (PyProof.Rows.callWith_type1 (thn (ha.run pos pins s σ H _ I h) fun us s1 ⟨vs, H1, I1, r1, q1⟩ => ?_) hs rfl))
  obtain ⟨a, xs, rfl, hq, q⟩ := q1
  cases r1 with
  | cons r rr =>
    cases rr
    cases r
    obtain ⟨its, rv, p', hz⟩ := I1.tuple hq
    refine call_enumT (show s1.heap.IsTuple a its.toArray from p') fun h' he hit hk => wpAny_pyIter_enum he ?_
    refine ⟨s1.heap.objs.size + 1, [s1.heap.objs.size + 1, s1.heap.objs.size], _, _, H1, rfl, I1.kept (t' := s1.toks) hk, turn_enumT a (s1.heap.objs.size + 1) s1.heap.objs.size, ⟨⟨.none, he⟩, hit, Nat.succ_ne_self _⟩, fun b hb => ?_, q⟩
    have hle : s1.heap.objs.size ≤ b := by
      have z : b = s1.heap.objs.size + 1 ∨ b = s1.heap.objs.size := by simpa using hb
      rcases z with rfl | rfl <;> omega
    exact I1.fpOk hle (I1.hok.fresh hle)
theorem walk_enumT {K : PySem.W.Frag} {a : Addr} {xs : List V} : Walk (IteT K a) xs.length (fun H => SqT K H a xs) (YPair (fun i => some (.int (i : Nat))) (fun i => xs[i]?)) := by
  refine ⟨fun i _ hi q => ⟨xs, xs[i], q, by simp [hi]⟩, fun _ q => ⟨xs, q, rfl⟩, fun i H v H' _ q y => ?_⟩
  obtain ⟨T, x, h1, h2, h3, h4⟩ := y
  exact ⟨T, .int (i : Nat), x, h1, h2, h3, rfl, h4 xs q⟩

/-! ### comprehensions whose items are data -/
theorem tYes_of {σ : L2.St} {H : Hp} {P R : Hp → Prop} (h : P H) : tYes σ H fun b H3 => if b = true then P H3 else R H3 := by
  show (if true = true then P H else R H)
  rw [if_pos rfl]
  exact h
/-- each turn gives data and leaves what stood; no test -/
theorem lc_dt {K : PySem.W.Frag} {J : It} {n : Nat} {G : Hp → Prop} {Y : Nat → Hp → V → Hp → Prop} (w : Walk J n G Y) {g : TG} {te : TE} {vs : List Nat} {σ : L2.St} {H : Hp} {D : Addr} {Qd : Hp → Prop} (hD : H D = none) (ds : List PyData) (hn : ds.length = n) (hz : n < sizeLine)
    (hG : ∀ H', Same H H' → G H')
    (hs : ∀ i x H1 H2 d (Nx : V → Hp → Prop), i < n → ds[i]? = some d → Same H H1 → (∃ acc, H1 D = some (.lst acc)) → Y i H1 x H2 → (∀ y H5, Same H1 H5 → Dt K H5 y d → Nx y H5) →
      g x (wipe σ vs) H2 fun σ2 H3 => wipe σ2 vs = wipe σ vs ∧ te σ2 H3 Nx)
    (hd : ∀ H' acc, Same H H' → H' D = some (.lst acc) → DtAll K H' acc ds → Qd H')
    (mono : ∀ x σ H Q Q', (∀ σ' H', Q σ' H' → Q' σ' H') → g x σ H Q → g x σ H Q') :
    ∃ W : Nat → Nat → Hp → Prop, (∃ m, W 0 m (upd H D (.lst []))) ∧ ∀ i m H, W i m H →
      (J.stop i H ∧ Qd H) ∨ (J.go i H ∧ ∃ Nx : Hp → Prop, (∀ H', Nx H' → ∃ m', m' < m ∧ W (i + 1) m' H') ∧ ∀ x H', J.yld i H x H' → g x (wipe σ vs) H' fun σ2 H2 => wipe σ2 vs = wipe σ vs ∧ tYes σ2 H2 fun b H3 =>
        if b = true then te σ2 H3 fun y H4 => ∃ acc, H4 D = some (.lst acc) ∧ acc.length < sizeLine ∧ Nx (upd H4 D (.lst (acc ++ [y]))) else Nx H3) := by
  refine lc_it w (fun i H' => ∃ acc, H' D = some (.lst acc) ∧ DtAll K H' acc (ds.take i) ∧ Same H H') ⟨[], upd_same, .nil, Same.new hD⟩ (fun i H' _ h => let ⟨_, _, _, s⟩ := h; hG H' s) (fun i x H1 H2 hi h y => ?_) fun H' h => ?_
  · obtain ⟨acc, a1, a2, a3⟩ := h
    have hi' : i < ds.length := by omega
    have hg := hs i x H1 H2 ds[i] (fun y H4 => ∃ acc, H4 D = some (.lst acc) ∧ acc.length < sizeLine ∧ ∃ acc', upd H4 D (.lst (acc ++ [y])) D = some (.lst acc') ∧ DtAll K (upd H4 D (.lst (acc ++ [y]))) acc' (ds.take (i + 1)) ∧ Same H (upd H4 D (.lst (acc ++ [y]))))
      hi (List.getElem?_eq_getElem hi') a3 ⟨acc, a1⟩ y fun y H5 s hy => ?_
    · exact mono _ _ _ _ _ (fun σ2 H3 q => ⟨q.1, tYes_of q.2⟩) hg
    · have b1 := s _ _ a1
      have kt : KeepT K H5 (upd H5 D (.lst (acc ++ [y]))) := KeepT.upd b1
      refine ⟨acc, b1, ?_, _, upd_same, ?_, fun b o e => ?_⟩
      · rw [a2.length, List.length_take]; omega
      · rw [List.take_succ, List.getElem?_eq_getElem hi']
        exact DtAll.app (DtAll.keepT (KeepT.trans (Same.keepT s) kt) a2) (.cons (Dt.keepT kt hy) .nil)
      · rw [upd_ne (ne_of_none e hD)]
        exact s _ _ (a3 _ _ e)
  · obtain ⟨acc, a1, a2, a3⟩ := h
    rw [← hn, List.take_length] at a2
    exact hd H' acc a3 a1 a2
theorem mono_name {i : Nat} : ∀ x (σ : L2.St) (H : Hp) (Q Q' : L2.St → Hp → Prop), (∀ σ' H', Q σ' H' → Q' σ' H') → gName i x σ H Q → gName i x σ H Q' := fun _ _ _ _ _ h q => h _ _ q
theorem mono_tup2 {K : PySem.W.Frag} {i j n : Nat} : ∀ x (σ : L2.St) (H : Hp) (Q Q' : L2.St → Hp → Prop), (∀ σ' H', Q σ' H' → Q' σ' H') → gTup K n (gCons (gName i) (gCons (gName j) gNil)) x σ H Q → gTup K n (gCons (gName i) (gCons (gName j) gNil)) x σ H Q' := by
  rintro x σ H Q Q' h ⟨a, xs, e1, e2, e3, v, r, e4, v', r', e5, e6, q⟩
  exact ⟨a, xs, e1, e2, e3, v, r, e4, v', r', e5, e6, h _ _ q⟩
end LK

set_option Elab.async false
set_option linter.all false
set_option maxRecDepth 100000
set_option maxHeartbeats 4000000
set_option exponentiation.threshold 3000
/-! More rules: text * int, two rules at one place, what == says of data. -/
namespace LK
open PySem PySem.Spec PyProof.Rows L2
theorem at_of' {α : Type} {xs : List α} {z : Int} {j : Nat} {v : α} (e : z = (j : Int)) (h : xs[j]? = some v) : atI xs z = some v := by
  rw [e]
  exact atI_nat h
/-- z repeated k times, by its codes -/
def repC (z : List Nat) (k : Int) : List Nat := (List.replicate k.toNat z).flatten
def repS (z : Str) (k : Int) : Str := ⟨(repC z.cps.toList k).toArray⟩
theorem repC_length (z : List Nat) (k : Int) : (repC z k).length = k.toNat * z.length := by simp [repC]
theorem foldl_arr (z : Array Nat) : ∀ (n : Nat) (acc : Array Nat), (List.replicate n z).foldl (· ++ ·) acc = acc ++ (List.replicate n z.toList).flatten.toArray
  | 0, acc => by simp
  | n + 1, acc => by
    rw [List.replicate_succ, List.foldl_cons, foldl_arr z n, List.replicate_succ, List.flatten_cons]
    apply Array.ext'
    simp
def rRepS : R2 := fun x y H Q => ∃ (z : Str) (k : Int), x = .str z ∧ y = .int k ∧ -1000000000000 ≤ k ∧ k < 1000000000000 ∧ z.length * k.toNat ≤ 1000000 ∧ Q (.str (repS z k)) H
theorem repS_arr (z : Str) (k : Int) : (⟨(List.replicate k.toNat z.cps).foldl (· ++ ·) #[]⟩ : Str) = repS z k := by
  rw [foldl_arr]
  simp [repS, repC]
theorem op_rep_str {X : Cx} : OpR X (binaryOp .Mult) rRepS := by
  intro pins s σ H x y v u Q I rx ry h
  obtain ⟨z, k, rfl, rfl, h1, h2, h3, q⟩ := h
  obtain ⟨t, rfl⟩ := rx
  obtain ⟨t', rfl⟩ := ry
  have szl : (1000000 : Nat) ≤ sizeLine := by decide
  have e1 : ¬ k < 1 → k = (k.toNat : Int) := fun h => by omega
  refine PySem.P.mul_str ?_ (fun hk hz => ?_) (fun hk hz => ?_) ?_
  · rw [decide_eq_false (by omega), decide_eq_false (by omega)]; rfl
  · have e0 : z.length ≠ 0 := fun e => by rw [e] at hz; simp at hz
    have hd : (9223372036854775807 : Int) / k ≥ 1000000 := by
      apply Int.le_ediv_of_mul_le (by omega)
      have hlen : k.toNat ≤ 1000000 := Nat.le_trans (Nat.le_mul_of_pos_left _ (by omega)) h3
      omega
    have hl : z.length ≤ 1000000 := Nat.le_trans (Nat.le_mul_of_pos_right _ (by omega)) h3
    show ¬ ((z.length : Int) > 9223372036854775807 / k)
    omega
  · unfold Builtin.Str.tooLong
    simp
    omega
  · split
    · rename_i hk
      have e : repS z k = Str.empty := by
        have : k.toNat = 0 := by omega
        simp [repS, repC, this]; rfl
      refine ⟨by decide, .str _, H, I.tok _, ⟨_, rfl⟩, ?_⟩
      rw [← e]; exact q
    · rename_i hk
      split
      · rename_i hz
        have e : repS z k = z := by
          rcases Bool.or_eq_true_iff.mp hz with h | h
          · have : k = 1 := by simpa using h
            subst this
            simp [repS, repC]
          · have : z.cps.toList = [] := by
              have : z.cps.size = 0 := by simpa [Str.length] using h
              exact List.eq_nil_of_length_eq_zero (by simpa using this)
            have e2 : (List.replicate k.toNat ([] : List Nat)).flatten = [] := by simp
            unfold repS repC
            rw [this, e2]
            cases z with
            | mk c =>
              have : c = #[] := Array.toList_inj.mp (by simpa using this)
              subst this; rfl
        refine ⟨.str _, H, I, ⟨t, rfl⟩, ?_⟩
        rw [← e]; exact q
      · rw [repS_arr]
        refine ⟨?_, .str _, H, I.tok _, ⟨_, rfl⟩, q⟩
        show (repC z.cps.toList k).toArray.size ≤ sizeLine
        rw [List.size_toArray, repC_length]
        have : z.cps.toList.length = z.length := by simp [Str.length]
        rw [this, Nat.mul_comm]; omega
/-! ### the objects at the beginning -/
def clsNames : List Str := ["Exception", "ArithmeticError", "ZeroDivisionError", "OverflowError", "LookupError", "IndexError", "KeyError", "NameError", "AttributeError", "TypeError", "ValueError", "StopIteration", "RuntimeError", "RecursionError", "MemoryError", "HostError"]
def clsBases : List Int := [-1, 1, 2, 2, 1, 5, 5, 1, 1, 1, 1, 1, 1, 13, 1, 1]
def builtNames : List Str := ["print", "len", "range", "repr", "str", "int", "list", "tuple", "dict", "iter", "next", "isinstance", "abs"]
def clsVar (i : Nat) (n : Str) : PyData := .tuple [.str n, .tuple [.str "ref", .int ((i : Int) + 1)]]
def nameVar (k n : Str) : PyData := .tuple [.str n, .tuple [.str k, .str n]]
def clsObj (n : Str) (b : Int) : PyData := .tuple [.str "class", .str n, .int b, .tuple []]
def clsVars : List PyData := clsNames.mapIdx clsVar
def startVars (hs : List Str) : List PyData := clsVars ++ builtNames.map (nameVar "built") ++ hs.map (nameVar "host")
def startD (hs : List Str) : List PyData := .tuple [.str "scope", .tuple (startVars hs), .tuple [], .tuple [], .int (-1), .bool false] :: List.zipWith clsObj clsNames clsBases
/-- a list at p, of the data ds -/
def ListAt (K : PySem.W.Frag) (H : Hp) (p : Addr) (ds : List PyData) : Prop := ∃ xs, H p = some (.lst xs) ∧ DtAll K H xs ds
def spStart (K : PySem.W.Frag) : Sp := fun vs H Q _ => ∃ (t : Addr) (hs : List Str), vs = [.ref t] ∧ SqT K H t (hs.map V.str) ∧ hs.length ≤ 1000 ∧
  ∀ (p : Addr) (H' : Hp), H p = none → Same H H' → ListAt K H' p (startD hs) → Q (.ref p) H'
theorem at0 {α : Type} {x : α} {ws : List α} : atI (x :: ws) 0 = some x := at_of' (j := 0) rfl rfl
theorem at1 {α : Type} {x y : α} {ws : List α} : atI (x :: y :: ws) 1 = some y := at_of' (j := 1) rfl rfl
theorem at2 {α : Type} {x y z : α} {ws : List α} : atI (x :: y :: z :: ws) 2 = some z := at_of' (j := 2) rfl rfl
/-- a written pair, triple as it is read -/
theorem Dt.head {K : PySem.W.Frag} {H : Hp} {v : V} {z : Str} {rest : List PyData} (h : Dt K H v (.tuple (.str z :: rest))) : ∃ a ws, v = .ref a ∧ SqT K H a (.str z :: ws) ∧ DtAll K H ws rest := by
  obtain ⟨q, xs, rfl, hs, ha⟩ := h.tuple_inv
  obtain ⟨x, ws, rfl, h1, hw⟩ := ha.cons_inv
  cases h1.str_inv
  exact ⟨q, ws, rfl, hs, hw⟩
theorem Dt.pair {K : PySem.W.Frag} {H : Hp} {v : V} {z : Str} {d : PyData} (h : Dt K H v (.tuple [.str z, d])) : ∃ a x, v = .ref a ∧ SqT K H a [.str z, x] ∧ Dt K H x d := by
  obtain ⟨a, ws, rfl, hs, hw⟩ := h.head
  obtain ⟨x, ws', rfl, h1, hn⟩ := hw.cons_inv
  cases hn.nil_inv
  exact ⟨a, x, rfl, hs, h1⟩
theorem Dt.triple {K : PySem.W.Frag} {H : Hp} {v : V} {z : Str} {d e : PyData} (h : Dt K H v (.tuple [.str z, d, e])) : ∃ a x y, v = .ref a ∧ SqT K H a [.str z, x, y] ∧ Dt K H x d ∧ Dt K H y e := by
  obtain ⟨a, ws, rfl, hs, hw⟩ := h.head
  obtain ⟨x, ws', rfl, h1, hn⟩ := hw.cons_inv
  obtain ⟨y, ws'', rfl, h2, hn2⟩ := hn.cons_inv
  cases hn2.nil_inv
  exact ⟨a, x, y, rfl, hs, h1, h2⟩
theorem listAt_mono {K : PySem.W.Frag} {H H' : Hp} {p : Addr} {ds : List PyData} (h : ListAt K H p ds) (e : Same H H') : ListAt K H' p ds := by
  obtain ⟨xs, hx, ax⟩ := h
  exact ⟨xs, e _ _ hx, DtAll.mono e ax⟩
theorem eqv_nil (ds : List PyData) : PyData.eqv (.tuple ds) (.tuple []) = ds.isEmpty := by
  cases ds <;> simp [PyData.eqv, PyData.eqvAll]
theorem listAt_upd {K : PySem.W.Frag} {H : Hp} {l l' : Addr} {ds : List PyData} {xs : List V} {o : HO} (h : ListAt K H l ds) (ne : l ≠ l') (hl : H l' = some (.lst xs)) : ListAt K (upd H l' o) l ds := by
  obtain ⟨ys, hy, ay⟩ := h
  exact ⟨ys, by rw [upd_ne ne]; exact hy, DtAll.keepT (KeepT.upd hl) ay⟩
theorem listAt_app {K : PySem.W.Frag} {H : Hp} {l : Addr} {ds : List PyData} {xs : List V} {v : V} {d : PyData} (h : ListAt K H l ds) (hl : H l = some (.lst xs)) (hd : Dt K H v d) : ListAt K (upd H l (.lst (xs ++ [v]))) l (ds ++ [d]) := by
  obtain ⟨ys, hy, ay⟩ := h
  rw [hl] at hy
  obtain rfl := HO.lst.inj (Option.some.inj hy)
  exact ⟨_, upd_same, DtAll.app (DtAll.keepT (KeepT.upd hl) ay) (.cons (Dt.keepT (KeepT.upd hl) hd) .nil)⟩
theorem listAt_keep {K : PySem.W.Frag} {H H' : Hp} {l p : Addr} {ds : List PyData} (h : ListAt K H l ds) (e : Keep p H H') (ne : l ≠ p) (hp : ∃ xs, H p = some (.lst xs)) : ListAt K H' l ds := by
  obtain ⟨ys, hy, ay⟩ := h
  exact ⟨ys, e _ _ hy ne, DtAll.keepT (Keep.keepT e hp) ay⟩
theorem listAt_made {K : PySem.W.Frag} {H : Hp} {l : Addr} {xs : List V} {ds : List PyData} (hl : H l = none) (h : DtAll K H xs ds) : ListAt K (upd H l (.lst xs)) l ds := ⟨xs, upd_same, DtAll.mono (Same.new hl) h⟩
/-! how long the objects at the beginning are, shown -/
def shortS (n : Str) : Bool := decide (n.length ≤ 40) && n.cps.toList.all (fun c => decide (c < 16 ^ 8))
theorem Sm.short {n : Str} (h : shortS n = true) : Sm (.str n) 0 500 := by
  obtain ⟨h1, h2⟩ := Bool.and_eq_true_iff.mp h
  exact (Sm.str (of_decide_eq_true h1) (strOk n h2)).mono (by decide) (by decide)
theorem cls_short : ∀ n ∈ clsNames, shortS n = true := by decide +kernel
theorem built_short : ∀ n ∈ builtNames, shortS n = true := by decide +kernel
theorem Sm.nm {k n : Str} (hk : shortS k = true) (hn : shortS n = true) : Sm (nameVar k n) 3 4000 :=
  (Sm.tup (.cons (Sm.short hn) (.cons (Sm.tup (.cons (Sm.short hk) (.cons (Sm.short hn) .nil))) .nil))).mono (by decide) (by decide)
theorem Sm.cv {i : Nat} {n : Str} (hi : i < 1000) (hn : shortS n = true) : Sm (clsVar i n) 3 4000 :=
  (Sm.tup (.cons (Sm.short hn) (.cons (Sm.tup (.cons (Sm.short (n := "ref") (by decide +kernel)) (.cons (Sm.int (Nat.lt_of_lt_of_le (show ((i : Int) + 1).natAbs < 2 ^ 20 by omega) (Nat.pow_le_pow_right (by decide) (by decide)))) .nil))) .nil))).mono (by decide) (by decide)
theorem Sm.co {b : Int} {n : Str} (hb : b.natAbs < 1000) (hn : shortS n = true) : Sm (clsObj n b) 3 4000 :=
  (Sm.tup (.cons (Sm.short (n := "class") (by decide +kernel)) (.cons (Sm.short hn) (.cons (Sm.int (Nat.lt_of_lt_of_le (show b.natAbs < 2 ^ 20 by omega) (Nat.pow_le_pow_right (by decide) (by decide)))) (.cons (Sm.tup .nil) .nil))))).mono (by decide) (by decide)
theorem SmAll.mem {ds : List PyData} {dp n N m M : Nat} (h : SmAll ds dp n N) (h1 : n ≤ m) (h2 : N ≤ M) : SmAll ds dp m M := ⟨h.ok, h.dp, Nat.le_trans h.len h1, Nat.le_trans h.sz h2⟩
theorem sm_vars {hs : List Str} {L : Nat} (h : ∀ n ∈ hs, shortS n = true) (hl : hs.length ≤ L) : SmAll (startVars hs) 3 (29 + L) (4000 * (29 + L)) := by
  have h1 : ∀ d ∈ startVars hs, Sm d 3 4000 := fun d hd => by
    rcases List.mem_append.mp hd with hd | hd
    · rcases List.mem_append.mp hd with hd | hd
      · obtain ⟨i, hi, rfl⟩ := List.mem_mapIdx.mp hd
        exact Sm.cv (Nat.lt_trans hi (by decide)) (cls_short _ (List.getElem_mem hi))
      · obtain ⟨n, hn, rfl⟩ := List.mem_map.mp hd
        exact Sm.nm (by decide +kernel) (built_short n hn)
    · obtain ⟨n, hn, rfl⟩ := List.mem_map.mp hd
      exact Sm.nm (by decide +kernel) (h n hn)
  have hlen : (startVars hs).length = 29 + hs.length := by
    simp only [startVars, List.length_append, List.length_map]
    have : clsVars.length = 16 := by decide
    have : builtNames.length = 13 := by decide
    omega
  exact (SmAll.many h1).mem (by omega) (by omega)
theorem sm_start {hs : List Str} {L : Nat} (h : ∀ n ∈ hs, shortS n = true) (hl : hs.length ≤ L) : ∀ d ∈ startD hs, Sm d 5 (5000 * (30 + L)) := fun d hd => by
  rcases List.mem_cons.mp hd with rfl | hd
  · exact (Sm.tup (.cons (Sm.short (n := "scope") (by decide +kernel)) (.cons (Sm.tup (sm_vars h hl)) (.cons (Sm.tup .nil) (.cons (Sm.tup .nil) (.cons (Sm.int (by decide)) (.cons (Sm.bool false) .nil))))))).mono (by decide) (by omega)
  · have : ∃ n b, d = clsObj n b ∧ n ∈ clsNames ∧ b.natAbs < 1000 := by
      have key : ∀ q ∈ List.zip clsNames clsBases, q.1 ∈ clsNames ∧ q.2.natAbs < 1000 := by decide +kernel
      rw [← List.map_uncurry_zip_eq_zipWith] at hd
      obtain ⟨q, hq, rfl⟩ := List.mem_map.mp hd
      exact ⟨q.1, q.2, rfl, key q hq⟩
    obtain ⟨n, b, rfl, hn, hb⟩ := this
    exact (Sm.co hb (cls_short n hn)).mono (by decide) (by omega)
theorem start_cls {hs : List Str} {k : Nat} (h1 : 1 ≤ k) (h2 : k ≤ 16) : ∃ rest, (startD hs)[k]? = some (.tuple (.str "class" :: rest)) := by
  obtain ⟨j, rfl⟩ : ∃ j, k = j + 1 := ⟨k - 1, by omega⟩
  have l1 : clsNames.length = 16 := by decide
  have l2 : clsBases.length = 16 := by decide
  refine ⟨[.str clsNames[j]!, .int clsBases[j]!, .tuple []], ?_⟩
  have e1 : clsNames[j]? = some clsNames[j]! := by rw [List.getElem!_eq_getElem?_getD]; rw [List.getElem?_eq_getElem (by omega)]; rfl
  have e2 : clsBases[j]? = some clsBases[j]! := by rw [List.getElem!_eq_getElem?_getD]; rw [List.getElem?_eq_getElem (by omega)]; rfl
  show (List.zipWith clsObj clsNames clsBases)[j]? = _
  rw [List.getElem?_zipWith, e1, e2]
  rfl
end LK

set_option Elab.async false
set_option linter.all false
set_option maxRecDepth 100000
set_option maxHeartbeats 4000000
set_option exponentiation.threshold 3000
/-! tuple * 1; rows: texts or tuples at one place; the type of what is read as a tuple; data equal to itself. -/
namespace LK
open PySem PySem.Spec PyProof.Rows L2
theorem tuple_mul1 (l : Addr) (items : Array Value) (n : Nat) (dd : Option Addr) (sl : Array (Option Value)) (u : Tok) :
    Meets (Builtin.«tuple.__mul__» ⟨[.ref l, .int 1 u], []⟩) (fun _ R s => s.heap.get? l = some { cls := .type "tuple", dict := dd, data := .seq items n, slots := sl } ∧ R (.ok (.ret (Value.ref l))) s) :=
  .of_wp fun prog w A R s h => by
    obtain ⟨hp, g, d, tk, os⟩ := s
    obtain ⟨hl, h⟩ := h
    have f1 := AutoSeq1.idx_int
    have c0 : (decide ((1 : Int) < -(2 ^ 63)) || decide ((1 : Int) ≥ 2 ^ 63)) = false := by decide
    have c1 : (items.isEmpty || (1 : Int) == 1) = true := by simp
    wp_walk using wpAny_loadPart' hl
    exact ⟨_, rfl, h⟩
/-- a tuple times an int from 1 to 1000 -/
def rRepTA (K : PySem.W.Frag) : R2 := fun x y H Q => ∃ l k xs, x = .ref l ∧ y = .int k ∧ SqT K H l xs ∧ xs ≠ [] ∧ 1 ≤ k ∧ k ≤ 1000 ∧ xs.length ≤ 1000 ∧ (k = 1 → Q (.ref l) H) ∧ (k ≠ 1 → ∀ p, H p = none → Q (.ref p) (upd H p (.tup (List.replicate k.toNat xs).flatten)))
section
variable {X : Cx}
theorem op_repTA : OpR X (binaryOp .Mult) (rRepTA X.K) := by
  intro pins s σ H x y v u Q I rx ry h
  obtain ⟨l, k, xs, rfl, rfl, hT, hne, h1, h2, hz, q1, q2⟩ := h
  by_cases hk : k = 1
  · subst hk
    cases rx
    obtain ⟨t, rfl⟩ := ry
    obtain ⟨its, r, ⟨⟨cls, dd, data, sl⟩, ho, hc, n, hd⟩, hs⟩ := I.tuple hT
    simp only at hc hd
    subst hc hd
    refine wpAny_binaryOp_repeat_ref (T := "tuple") (U := "int") (by decide) ⟨_, ho, rfl⟩ (fun s' => typeIs_int s' 1 t) noFill_tuple_mul F.fills_int_mul F.slot_int_rmul repeat_tuple F.slot_int_index.lookup
      (call_meets F.slot_int_rmul (typeIs_int s 1 t) F.entry_int_rmul (F.args_int_rmul_2 _ _) (int_rmul_tuple 1 t l its.toArray n dd sl)
        ⟨ho, rfl, ⟨_, ho, rfl⟩, call_meets F.slot_tuple_mul ⟨_, ho, rfl⟩ F.entry_tuple_mul (F.args_tuple_mul_2 _ _) (tuple_mul1 l its.toArray n dd sl t) ⟨ho, ?_⟩⟩)
    exact ⟨.ref l, H, I, rfl, q1 rfl⟩
  · exact op_repT pins s σ H _ _ v u Q I rx ry ⟨l, k, xs, rfl, rfl, hT, hne, by omega, h2, hz, q2 hk⟩
end
theorem SqT.tyX {K : PySem.W.Frag} {H : Hp} {a : Addr} {xs : List V} (h : SqT K H a xs) : TyX K H (.ref a) (.type "tuple") := by
  rcases h with (h | ⟨o, h⟩) | ⟨o, its, n, e, c, _⟩
  · exact .base (.tup h)
  · exact .fTuple h
  · exact .kTuple e c
/-! ### data equal to itself -/
mutual
theorem eqv_self : ∀ {d : PyData}, d.canLay0 = true → PyData.eqv d d = true
  | .none, _ => by simp [PyData.eqv]
  | .bool _, _ => by simp [PyData.eqv]
  | .int _, _ => by simp [PyData.eqv]
  | .str _, _ => by simp [PyData.eqv]
  | .list xs, h => by rw [PyData.eqv]; exact eqvAll_self (by simpa [PyData.canLay0] using h)
  | .tuple xs, h => by rw [PyData.eqv]; exact eqvAll_self (by simpa [PyData.canLay0] using h)
  | .dict _, h => absurd h (by simp [PyData.canLay0])
theorem eqvAll_self : ∀ {xs : List PyData}, PyData.canLayAll0 xs = true → PyData.eqvAll xs xs = true
  | [], _ => by simp [PyData.eqvAll]
  | x :: xs, h => by
    rw [PyData.canLayAll0, Bool.and_eq_true] at h
    rw [PyData.eqvAll, eqv_self h.1, eqvAll_self h.2]; rfl
end
theorem canLayAll0_of {ds : List PyData} (h : ∀ d ∈ ds, d.canLay0 = true) : PyData.canLayAll0 ds = true := by
  induction ds with
  | nil => rfl
  | cons d ds ih => rw [PyData.canLayAll0, h d (by simp), ih fun e he => h e (List.mem_cons_of_mem _ he)]; rfl
theorem depthAll_of {ds : List PyData} {n : Nat} (h : ∀ d ∈ ds, d.depth ≤ n) : PyData.depthAll ds ≤ n := by
  induction ds with
  | nil => exact Nat.zero_le _
  | cons d ds ih => rw [PyData.depthAll]; exact Nat.max_le.mpr ⟨h d (by simp), ih fun e he => h e (List.mem_cons_of_mem _ he)⟩
/-! ### rows: a text, or a tuple of small ints -/
def Item (d : PyData) : Prop := ∃ i : Int, d = .tuple [.str "int", .int i] ∧ 0 ≤ i ∧ i < 11
def Low (z : Str) : Prop := ∀ c ∈ z.cps.toList, c < 128
inductive Row : Bool → PyData → Nat → Prop
  | txt {z : Str} {n : Nat} : z.length = n → Low z → Row true (.str z) n
  | tup {ds : List PyData} {n : Nat} : ds.length = n → (∀ d ∈ ds, Item d) → Row false (.tuple ds) n
def catD : PyData → PyData → PyData
  | .str a, .str b => .str (a ++ b)
  | .tuple a, .tuple b => .tuple (a ++ b)
  | a, _ => a
def repD (d : PyData) (k : Int) : PyData := match d with
  | .str a => .str (repS a k)
  | .tuple a => .tuple (List.replicate k.toNat a).flatten
  | a => a
def noneD : PyData → PyData
  | .str a => .str (cutS a none (some 0))
  | .tuple _ => .tuple []
  | a => a
theorem len_app (a b : Str) : (a ++ b).length = a.length + b.length := strLen_append a b
theorem len_rep (z : Str) (k : Int) : (repS z k).length = z.length * k.toNat := by
  show (repC z.cps.toList k).toArray.size = _
  rw [List.size_toArray, repC_length, Nat.mul_comm]
  simp [Str.length]
theorem Low.app {a b : Str} (h : Low a) (g : Low b) : Low (a ++ b) := by
  intro c hc
  have e : (a ++ b).cps.toList = a.cps.toList ++ b.cps.toList := by
    show (a.cps ++ b.cps).toList = _
    simp
  rw [e] at hc
  rcases List.mem_append.mp hc with hc | hc
  · exact h c hc
  · exact g c hc
theorem Low.rep {a : Str} (h : Low a) (k : Int) : Low (repS a k) := by
  intro c hc
  have hc : c ∈ (List.replicate k.toNat a.cps.toList).flatten := by simpa [repS, repC] using hc
  obtain ⟨l, hl, hcl⟩ := List.mem_flatten.mp hc
  exact h c (List.eq_of_mem_replicate hl ▸ hcl)
theorem Low.cut {a : Str} (h : Low a) (lo hi : Option Int) : Low (cutS a lo hi) := by
  intro c hc
  have hc : c ∈ (a.cps.toList.drop (HT.sIx a.length 0 lo)).take (HT.sIx a.length a.length hi - HT.sIx a.length 0 lo) := hc
  exact h c (List.mem_of_mem_drop (List.mem_of_mem_take hc))
theorem cut_to (a : Str) (m : Nat) : (cutS a none (some (m : Int))).length ≤ m := by
  show ((a.cps.toList.drop (HT.sIx a.length 0 none)).take (HT.sIx a.length a.length (some (m : Int)) - HT.sIx a.length 0 none)).toArray.size ≤ m
  rw [List.size_toArray, List.length_take, HT.sIx_nat]
  omega
theorem Row.cat {t : Bool} {a b : PyData} {n m : Nat} (h : Row t a n) (g : Row t b m) : Row t (catD a b) (n + m) := by
  cases h with
  | txt e l =>
    cases g with
    | txt e2 l2 => exact .txt (by rw [len_app, e, e2]) (l.app l2)
  | tup e l =>
    cases g with
    | tup e2 l2 => exact .tup (by rw [List.length_append, e, e2]) fun d hd => (List.mem_append.mp hd).elim (l d) (l2 d)
theorem Row.rep {t : Bool} {a : PyData} {n : Nat} (h : Row t a n) (k : Int) : Row t (repD a k) (n * k.toNat) := by
  cases h with
  | txt e l => exact .txt (by rw [len_rep, e]) (l.rep k)
  | tup e l =>
    refine .tup (by rw [PyProof.Rows.lm_len_rep_flat, e, Nat.mul_comm]) fun d hd => ?_
    obtain ⟨x, hx, hdx⟩ := List.mem_flatten.mp hd
    exact l d (List.eq_of_mem_replicate hx ▸ hdx)
theorem Row.none {t : Bool} {a : PyData} {n : Nat} (h : Row t a n) : Row t (noneD a) 0 := by
  cases h with
  | @txt z _ e l => exact .txt (Nat.le_zero.mp (cut_to z 0)) (l.cut _ _)
  | tup e l => exact .tup rfl fun d hd => by cases hd
theorem Item.sm {d : PyData} (h : Item d) : Sm d 1 3000 := by
  obtain ⟨i, rfl, h0, h1⟩ := h
  exact (Sm.tup (.cons (Sm.short (n := "int") (by decide +kernel)) (.cons (Sm.int (Nat.lt_of_lt_of_le (show i.natAbs < 2 ^ 20 by omega) (Nat.pow_le_pow_right (by decide) (by decide)))) .nil))).mono (by decide) (by decide)
theorem Row.sm {t : Bool} {d : PyData} {n : Nat} (h : Row t d n) (hn : n ≤ 1000) : Sm d 2 3100000 := by
  cases h with
  | txt e l => exact (Sm.str (n := 1000) (by omega) fun c hc => Nat.lt_of_lt_of_le (l c hc) (by decide)).mono (by decide) (by decide)
  | tup e l => exact (Sm.tup ((SmAll.many fun d hd => (l d hd).sm).mem (m := 1000) (M := 3000000) (by omega) (by omega))).mono (by decide) (by decide)
theorem Row.lay {t : Bool} {d : PyData} {n : Nat} (h : Row t d n) : d.canLay0 = true := by
  cases h with
  | @txt z _ e l =>
    rw [PyData.canLay0]
    exact Array.all_eq_true_iff_forall_mem.mpr fun c hc => by
      have := l c (Array.mem_toList_iff.mpr hc)
      exact decide_eq_true (by omega)
  | tup e l =>
    rw [PyData.canLay0]
    exact canLayAll0_of fun d hd => by obtain ⟨i, rfl, _⟩ := l d hd; simp only [PyData.canLay0, PyData.canLayAll0, Bool.and_true]; decide +kernel
section
variable {X : Cx}
/-- a + b, two rows -/
def rCatD (K : PySem.W.Frag) : R2 := fun x y H Q => ∃ (t : Bool) (a b : PyData) (n m : Nat), Row t a n ∧ Row t b m ∧ Dt K H x a ∧ Dt K H y b ∧ n + m ≤ 2000 ∧ ∀ v H', Same H H' → Dt K H' v (catD a b) → Q v H'
theorem op_catD : OpR X (binaryOp .Add) (rCatD X.K) := by
  intro pins s σ H x y v u Q I rx ry h
  obtain ⟨t, a, b, n, m, ha, hb, da, db, hz, q⟩ := h
  cases ha with
  | txt e l =>
    cases hb with
    | txt e2 l2 =>
      cases da.str_inv; cases db.str_inv
      exact op_add_str pins s σ H _ _ v u Q I rx ry ⟨_, _, rfl, rfl, by rw [e, e2]; exact Nat.le_trans hz (by decide), q _ _ (Same.refl _) (.str _)⟩
  | @tup ds _ e l =>
    cases hb with
    | @tup es _ e2 l2 =>
      obtain ⟨p, xs, rfl, hs, ax⟩ := da.tuple_inv
      obtain ⟨p2, ys, rfl, hs2, ay⟩ := db.tuple_inv
      have lx := ax.length
      have ly := ay.length
      refine op_catA pins s σ H _ _ v u Q I rx ry ⟨p, p2, xs, ys, rfl, rfl, hs, hs2, by rw [lx, ly, e, e2]; exact Nat.le_trans hz (by decide), fun h0 => ?_, fun _ h0 => ?_, fun _ _ z hz => ?_⟩
      · subst h0
        have : ds = [] := List.eq_nil_of_length_eq_zero (by rw [← lx]; rfl)
        subst this
        exact q _ _ (Same.refl _) db
      · subst h0
        have : es = [] := List.eq_nil_of_length_eq_zero (by rw [← ly]; rfl)
        subst this
        refine q _ _ (Same.refl _) ?_
        show Dt X.K H (.ref p) (.tuple (ds ++ []))
        rw [List.append_nil]; exact da
      · exact q _ _ (Same.new hz) (Dt.made hz (DtAll.app ax ay))
/-- a * k, a row and an int -/
def rRepD (K : PySem.W.Frag) : R2 := fun x y H Q => ∃ (t : Bool) (a : PyData) (n : Nat) (k : Int), Row t a n ∧ Dt K H x a ∧ y = .int k ∧ 1 ≤ n ∧ 1 ≤ k ∧ n * k ≤ 1000 ∧ ∀ v H', Same H H' → Dt K H' v (repD a k) → Q v H'
theorem dtRep {K : PySem.W.Frag} {H : Hp} {xs : List V} {ds : List PyData} (h : DtAll K H xs ds) : ∀ m : Nat, DtAll K H (List.replicate m xs).flatten (List.replicate m ds).flatten
  | 0 => .nil
  | m + 1 => by
    rw [List.replicate_succ, List.flatten_cons, List.replicate_succ, List.flatten_cons]
    exact DtAll.app h (dtRep h m)
theorem op_repD : OpR X (binaryOp .Mult) (rRepD X.K) := by
  intro pins s σ H x y v u Q I rx ry h
  obtain ⟨t, a, n, k, ha, da, rfl, hn, hk, hz, q⟩ := h
  have k1 : k ≤ 1000 := by
    have : 1 * k ≤ n * k := Int.mul_le_mul_of_nonneg_right (by omega) (by omega)
    omega
  have n1 : n ≤ 1000 := by
    have : (n : Int) * 1 ≤ n * k := Int.mul_le_mul_of_nonneg_left hk (by omega)
    omega
  cases ha with
  | txt e l =>
    cases da.str_inv
    refine op_rep_str pins s σ H _ _ v u Q I rx ry ⟨_, k, rfl, rfl, by omega, by omega, ?_, q _ _ (Same.refl _) (.str _)⟩
    rw [e]
    exact Nat.le_trans (Nat.mul_le_mul n1 (show k.toNat ≤ 1000 by omega)) (by decide)
  | @tup ds _ e l =>
    obtain ⟨p, xs, rfl, hs, ax⟩ := da.tuple_inv
    have lx := ax.length
    refine op_repTA pins s σ H _ _ v u Q I rx ry ⟨p, k, xs, rfl, rfl, hs, fun z => ?_, hk, k1, by omega, fun h1 => ?_, fun h1 z hz => ?_⟩
    · subst z
      rw [List.length_nil] at lx
      omega
    · subst h1
      refine q _ _ (Same.refl _) ?_
      show Dt X.K H (.ref p) (.tuple (List.replicate 1 ds).flatten)
      rw [show (List.replicate 1 ds).flatten = ds by simp]
      exact da
    · exact q _ _ (Same.new hz) (Dt.made hz (dtRep ax _))
/-- a[:0], a row -/
def rNoneD (K : PySem.W.Frag) : V → Option Int → Option Int → Hp → VK → Prop := fun x lo hi H Q => ∃ (t : Bool) (a : PyData) (n : Nat), Row t a n ∧ Dt K H x a ∧ n ≤ 2000 ∧ lo = none ∧ hi = some 0 ∧ ∀ v H', Same H H' → Dt K H' v (noneD a) → Q v H'
theorem sl_noneD : SlR X (rNoneD X.K) := by
  intro pins s σ H x v vl vu lo hi sl Q I rx hs pl pu h
  obtain ⟨t, a, n, ha, da, hn, rfl, rfl, q⟩ := h
  cases ha with
  | txt e l =>
    cases da.str_inv
    exact sl_str pins s σ H _ v vl vu _ _ sl Q I rx hs pl pu ⟨_, rfl, by rw [e]; exact Nat.le_trans hn (by decide), q _ _ (Same.refl _) (.str _)⟩
  | @tup ds _ e l =>
    obtain ⟨p, xs, rfl, hq, ax⟩ := da.tuple_inv
    have lx := ax.length
    refine sl_tupA pins s σ H _ v vl vu _ _ sl Q I rx hs pl pu ⟨p, xs, rfl, hq, fun hw => ?_, fun _ z hz => ?_⟩
    · have h0 : ds.length = 0 := by
        have := hw.2
        rw [show (some (0 : Int)) = some ((0 : Nat) : Int) from rfl, HT.sIx_nat] at this
        omega
      have := List.eq_nil_of_length_eq_zero h0
      subst this
      exact q _ _ (Same.refl _) da
    · refine q _ _ (Same.new hz) (Dt.made hz ?_)
      have : cutV xs none (some 0) = [] := by
        apply List.eq_nil_of_length_eq_zero
        unfold cutV
        rw [List.length_take, show (some (0 : Int)) = some ((0 : Nat) : Int) from rfl, HT.sIx_nat]
        omega
      rw [this]
      exact .nil
/-- len(a), a row -/
def rLenD (K : PySem.W.Frag) : List V → Hp → VK → Prop := fun vs H Q => ∃ (v : V) (t : Bool) (a : PyData) (n : Nat), vs = [v] ∧ Row t a n ∧ Dt K H v a ∧ n ≤ 2000 ∧ Q (.int (n : Int)) H
theorem call_lenD' : CallR X (.builtin "len") (rLenD X.K) := by
  intro pins s σ H xs us Q I r h
  obtain ⟨v, t, a, n, rfl, ha, da, hn, q⟩ := h
  cases ha with
  | txt e l =>
    cases da.str_inv
    exact call_len pins s σ H _ us Q I r ⟨_, n, rfl, ⟨by rw [e]; exact Nat.le_trans hn (by decide), e.symm⟩, q⟩
  | @tup ds _ e l =>
    obtain ⟨p, ys, rfl, hq, ax⟩ := da.tuple_inv
    exact call_len pins s σ H _ us Q I r ⟨_, n, rfl, .inr ⟨_, hq, by rw [ax.length, e]⟩, q⟩
end
end LK

set_option Elab.async false
set_option linter.all false
set_option maxRecDepth 100000
set_option maxHeartbeats 4000000
set_option exponentiation.threshold 3000
/-! Letters, digits, underscores; texts of the top. -/
namespace LK
open PySem PySem.Spec PyProof.Rows L2 SX
def isD (c : Nat) : Bool := decide (48 ≤ c) && decide (c ≤ 57)
def isL (c : Nat) : Bool := (decide (65 ≤ c) && decide (c ≤ 90)) || (decide (97 ≤ c) && decide (c ≤ 122)) || c == 95
def isW (c : Nat) : Bool := isD c || isL c
theorem isW_lt {c : Nat} (h : isW c = true) : c < 128 := by
  simp [isW, isD, isL] at h; omega
theorem uni_alpha : ∀ c < 128, Unicode.isAlpha c = (isL c && c != 95) := by decide +kernel
theorem uni_digit : ∀ c < 128, Unicode.isDigit c = isD c := by decide +kernel
theorem uni_alnum : ∀ c < 128, Unicode.isAlnum c = (isW c && c != 95) := by decide +kernel
theorem alpha1 {c : Nat} (h : c < 128) : Txt.isalpha (S [c]) = (isL c && c != 95) := by
  show (decide ((S [c]).length > 0) && (S [c]).cps.all Unicode.isAlpha) = _
  rw [S_len]; simp [S, uni_alpha c h]
theorem digit1 {c : Nat} (h : c < 128) : Txt.isdigit (S [c]) = isD c := by
  show (decide ((S [c]).length > 0) && (S [c]).cps.all Unicode.isDigit) = _
  rw [S_len]; simp [S, uni_digit c h]
theorem alnum1 {c : Nat} (h : c < 128) : Txt.isalnum (S [c]) = (isW c && c != 95) := by
  show (decide ((S [c]).length > 0) && (S [c]).cps.all Unicode.isAlnum) = _
  rw [S_len]; simp [S, uni_alnum c h]
theorem digitS {a : List Nat} (h : ∀ c ∈ a, c < 128) (hne : a ≠ []) : Txt.isdigit (S a) = a.all isD := by
  show (decide ((S a).length > 0) && (S a).cps.all Unicode.isDigit) = _
  have : 0 < a.length := List.length_pos_iff.mpr hne
  rw [S_len, decide_eq_true this, Bool.true_and]
  show a.toArray.all Unicode.isDigit = _
  rw [List.all_toArray]
  apply Bool.eq_iff_iff.mpr
  rw [List.all_eq_true, List.all_eq_true]
  exact ⟨fun g c hc => uni_digit c (h c hc) ▸ g c hc, fun g c hc => (uni_digit c (h c hc)).symm ▸ g c hc⟩
/-! texts of the top -/
def GStr (mg : Str → Option Value) (x : Str) (z : Str) : Prop := ∃ t, mg x = some (.str z t)
def HasStr (K : PySem.W.Frag) (x : Str) (p : Str → Prop) : Prop := ∃ (z : Str) (t : Tok), PySem.W.nsIn K mainGlobals x = some (some (.str z t)) ∧ p z
theorem HasStr.mk' {K : PySem.W.Frag} {x : Str} {p : Str → Prop} {z : Str} {t : Tok} (a : PySem.W.nsIn K mainGlobals x = some (some (.str z t))) (b : p z) : HasStr K x p := ⟨z, t, a, b⟩
theorem HasStr.g {K : PySem.W.Frag} {mg : Str → Option Value} {h : Heap} {x : Str} {p : Str → Prop} (i : HasStr K x p) (X : K.In h) (G : h.Ns mainGlobals mg) : ∃ z, GStr mg x z ∧ p z := by
  obtain ⟨z, t, e, hp⟩ := i
  exact ⟨z, ⟨t, PySem.W.mg_of X G e⟩, hp⟩
theorem pe_globS {X : Cx} {x z : Str} {pos : Pos} (h : GStr X.mg x z) (hg : Gl X x) (hd : (x == ("__debug__" : Str)) = false := by decide) : PE X (.Name x pos) (tC (.str z)) := by
  obtain ⟨t, e⟩ := h
  exact pe_glob hg e ⟨t, rfl⟩ hd
theorem split1 {a : List Nat} {c : Nat} (h : c ∉ a) (hc : c < 256) : Txt.split (S a) (S [c]) = [S a] := by
  rw [split_S (by simp) (by simpa using hc)]
  have := SX.spl_join (c := c) (sep := []) (parts := [a]) (by simp) (by simpa using h)
  have e : TL.joinL [c] [a] = a := by simp [TL.joinL]
  rw [e] at this
  rw [this]; rfl
theorem lstrip1 {a : List Nat} {b : List Nat} (h : ∀ c, a.head? = some c → c ∉ b) : Txt.lstripChars (S a) (S b) = S a := by
  have e1 : (S a).cps.toList.takeWhile (S b).cps.contains = [] := tw0 a fun c hc => by
    have := h c hc
    show b.toArray.contains c = false
    rw [List.contains_toArray]
    simpa using this
  have e0 : stripLo (S b).cps.contains true (S a) = 0 := by
    unfold stripLo
    rw [if_pos rfl, e1] <;> rfl
  have e3 : stripHi (S b).cps.contains false (S a) 0 = (S a).length := by
    unfold stripHi
    rw [if_neg Bool.false_ne_true]
  unfold Txt.lstripChars Txt.stripBy stripSame
  rw [e0, e3]
  exact if_pos (by simp)
/-! while, its test's reading made monotone -/
def tUp (c : TT) : TT := fun σ H Q => ∃ P : Bool → Hp → Prop, c σ H P ∧ ∀ b H1, P b H1 → Q b H1
theorem pt_up {X : Cx} {e : Expr} {c : TT} (h : PT X e c) : PT X e (tUp c) :=
  ⟨fun pins s σ H Q I ⟨P, hP, k⟩ => thn (h.run pins s σ H P I hP) fun b s1 ⟨H1, I1, q⟩ => ⟨H1, I1, k _ _ q⟩⟩
theorem while_up {c : TT} {tb : TS} {D : Ends} {σ : L2.St} {H : Hp} (Pv : L2.St → Hp → Prop) (μ : L2.St → Hp → Nat) (h0 : Pv σ H)
    (hs : ∀ σ H, Pv σ H → c σ H fun b H1 => if b = true then tb { D with nx := fun σ' H' => Pv σ' H' ∧ μ σ' H' < μ σ H, ct := fun σ' H' => Pv σ' H' ∧ μ σ' H' < μ σ H, bk := D.nx } σ H1 else D.nx σ H1) : tWhile (tUp c) tb D σ H :=
  while_by Pv μ h0 (fun σ H p => ⟨_, hs σ H p, fun _ _ h => h⟩) (fun σ H Q Q' hq ⟨P, hP, k⟩ => ⟨P, hP, fun b H1 h => hq b H1 (k b H1 h)⟩)
theorem nl_S : ("\n" : Str) = S [10] := by decide +kernel
theorem us_S : ("_" : Str) = S [95] := by decide +kernel
theorem sp_S : (" " : Str) = S [32] := by decide +kernel
theorem hash_S : ("#" : Str) = S [35] := by decide +kernel
theorem sign_eq {c d : Nat} : decide (V.str ⟨#[c]⟩ = V.str (S [d])) = decide (c = d) := by
  by_cases h : c = d
  · subst h; rw [decide_eq_true rfl, decide_eq_true rfl]
  · rw [decide_eq_false h, decide_eq_false]
    intro e
    have := S_inj (a := [c]) (b := [d]) (V.str.inj e)
    exact h (by simpa using this)
theorem str_eq {a b : List Nat} : decide (V.str (S a) = V.str (S b)) = decide (a = b) := by
  by_cases h : a = b
  · subst h; rw [decide_eq_true rfl, decide_eq_true rfl]
  · rw [decide_eq_false h, decide_eq_false]
    intro e
    exact h (S_inj (V.str.inj e))
theorem starts1 {c d : Nat} {r : List Nat} : Txt.startswith (S (c :: r)) (S [d]) = decide (c = d) := by
  show (decide (0 + (S [d]).length ≤ (S (c :: r)).length) && ((c :: r).toArray.extract 0 (0 + (S [d]).length) == [d].toArray)) = _
  rw [S_len, S_len]
  have e : (c :: r).toArray.extract 0 (0 + [d].length) = #[c] := by simp
  rw [e]
  by_cases h : c = d
  · subst h; simp
  · simp [h]
theorem at_S {a : List Nat} {j c : Nat} (h : a[j]? = some c) : atI (S a).cps.toList (j : Int) = some c := atI_nat h
theorem cut_all {a : List Nat} : cutS (S a) (some 0) (some ((a.length : Nat) : Int)) = S a := by
  unfold cutS
  rw [S_len, show (some (0 : Int)) = some ((0 : Nat) : Int) from rfl, HT.sIx_nat, HT.sIx_nat]
  show (⟨((a.drop (min 0 a.length)).take (min a.length a.length - min 0 a.length)).toArray⟩ : Str) = ⟨a.toArray⟩
  rw [Nat.zero_min, List.drop_zero, Nat.min_self, Nat.sub_zero, List.take_length]
/-! a promise at a higher level -/
theorem FnG.mono {P : Program} {w : World} {K : PySem.W.Frag} {mg : Str → Option Value} {base : Heap} {CX : CXT} {j k : Nat} {f : Addr} {fd : FuncData} {ps : List Str} {sp : Sp} (F : FnG P w K mg base CX j f fd ps sp) (h : j ≤ k) : FnG P w K mg base CX k f fd ps sp :=
  ⟨F.len, fun A outer s H args us vs Q E hr => F.run A outer s H args us vs Q E (hr.mono h)⟩
theorem Use.mono {P : Program} {w : World} {K : PySem.W.Frag} {mg : Str → Option Value} {base : Heap} {CX : CXT} {x : Str} {j k : Nat} {ps : List Str} {sp : Sp} (U : Use P w K mg base CX x j ps sp) (h : j ≤ k) : Use P w K mg base CX x k ps sp := by
  obtain ⟨f, fd, ok, r⟩ := U.ex
  exact ⟨f, fd, ok.mono h, r⟩
/-! the signs that a program may hold -/
def okC (c : Nat) : Bool := c == 10 || (decide (32 ≤ c) && decide (c ≤ 126) && c != 37)
theorem okC_lt {c : Nat} (h : okC c = true) : c < 128 := by
  simp [okC] at h; omega
theorem lstrip_sp (a : List Nat) : Txt.lstripChars (S a) (S [32]) = S (a.dropWhile (· == 32)) := by
  have e1 : (S a).cps.toList.takeWhile (S [32]).cps.contains = a.takeWhile (· == 32) := by
    show a.takeWhile _ = _
    congr 1
    funext c
    show #[32].contains c = _
    simp [Array.contains, BEq.comm]
  have el : (a.takeWhile (· == 32)).length ≤ a.length := (List.takeWhile_prefix _).length_le
  have ed : a.drop (a.takeWhile (· == 32)).length = a.dropWhile (· == 32) := by
    have h := List.takeWhile_append_dropWhile (p := (· == 32)) (l := a)
    have : (a.takeWhile (· == 32) ++ a.dropWhile (· == 32)).drop (a.takeWhile (· == 32)).length = a.dropWhile (· == 32) := List.drop_left
    rwa [h] at this
  have e0 : stripLo (S [32]).cps.contains true (S a) = (a.takeWhile (· == 32)).length := by
    unfold stripLo
    rw [if_pos rfl, e1] <;> rfl
  have e3 : stripHi (S [32]).cps.contains false (S a) (a.takeWhile (· == 32)).length = (S a).length := by
    unfold stripHi
    rw [if_neg Bool.false_ne_true]
  unfold Txt.lstripChars Txt.stripBy stripSame stripped
  rw [e0, e3]
  split
  · rename_i h
    simp at h
    have : (a.takeWhile (· == 32)).length = 0 := by simpa using h
    rw [this, List.drop_zero] at ed
    rw [← ed]
  · show (⟨a.toArray.extract (a.takeWhile (· == 32)).length (S a).length⟩ : Str) = _
    rw [S_len, ← ed]
    congr 1
    apply Array.toList_inj.mp
    simp only [Array.toList_extract, List.extract_eq_drop_take]
    exact List.take_of_length_le (by rw [List.length_drop]; omega)
/-- z[i:j] by codes -/
theorem cut_S {a : List Nat} {i j : Nat} (hi : i ≤ a.length) (hj : j ≤ a.length) : cutS (S a) (some ((i : Nat) : Int)) (some ((j : Nat) : Int)) = S ((a.drop i).take (j - i)) := by
  unfold cutS
  rw [S_len, HT.sIx_nat, HT.sIx_nat, Nat.min_eq_left hi, Nat.min_eq_left hj]
/-- a line: so many spaces, and perhaps a word -/
def lnT (s : Nat) (w : List Nat) : List Nat := List.replicate s 32 ++ w
theorem lnT_len (s : Nat) (w : List Nat) : (lnT s w).length = s + w.length := by simp [lnT]
theorem lnT_sp {s : Nat} {w : List Nat} {i : Nat} (h : i < s) : (lnT s w)[i]? = some 32 := by
  unfold lnT
  rw [List.getElem?_append_left (by simpa using h), List.getElem?_replicate, if_pos h]
theorem lnT_w {s : Nat} {w : List Nat} {i : Nat} : (lnT s w)[s + i]? = w[i]? := by
  unfold lnT
  rw [List.getElem?_append_right (by simp), List.length_replicate, Nat.add_sub_cancel_left]
theorem lnT_drop (s : Nat) (w : List Nat) : (lnT s w).drop s = w := by
  unfold lnT
  rw [List.drop_append_of_le_length (by simp)]
  simp
end LK

set_option Elab.async false
set_option linter.all false
set_option maxRecDepth 100000
set_option maxHeartbeats 4000000
/-! dicts of the top: what a literal dict of the program gives, read where it stands. -/
namespace LK
open PySem PySem.Spec PyProof.Rows L2
/-- at a lies a dict of the top with these entries -/
def KDct (P : Program) (w : World) (K : PySem.W.Frag) (a : Addr) (kvs : List (Key × V)) : Prop := (a == sysModules) = false ∧ ∃ vs, KV kvs vs ∧ ∀ h : Heap, K.In h → h.DictOf (mixKind P w) a vs
def tDGetK (P : Program) (w : World) (K : PySem.W.Frag) (td ty : TE) : TE := fun σ H Q => td σ H fun x H1 => ty σ H1 fun y H2 => ∃ a kvs k v, x = .ref a ∧ KDct P w K a kvs ∧ y = kV k ∧ valV kvs k = some v ∧ Q v H2
def tDInK (P : Program) (w : World) (K : PySem.W.Frag) (ty td : TE) : TE := fun σ H Q => ty σ H fun y H1 => td σ H1 fun x H2 => ∃ a kvs k, x = .ref a ∧ KDct P w K a kvs ∧ y = kV k ∧ Q (.bl (valV kvs k).isSome) H2
section
variable {X : Cx} {o i : Expr} {pos : Pos} {td ty : TE}
theorem pe_dgetK (ho : PE X o td) (hi : PE X i ty) (hs : NoSl i) : PE X (.Subscript o i pos) (tDGetK X.prog X.w X.K td ty) := by
  refine ⟨fun pins s σ H Q I h => ?_⟩
  refine subD_of PySem.F.slot_dict_getitem.lookup hs (thn (ho.run pins s σ H _ I h) fun u s1 ⟨x, H1, I1, rx, q1⟩ => thn (hi.run pins s1 σ H1 _ I1 q1) fun iv s2 ⟨y, H2, I2, ry, a, kvs, k, v, ex, ⟨hsys, vs, rel, dd⟩, ey, l, q2⟩ => ?_)
  subst ex ey
  obtain rfl : u = Value.ref a := rx
  have dd := dd _ I2.kIn
  refine ⟨dd.typeIs, ?_⟩
  obtain ⟨w', hw, rw'⟩ := RelO.some_of (v := v) (o := valueAt vs k) (by rw [← l]; exact rel.val k)
  exact wpAny_getItem_of (kV_is ry) dd.mapOf hw ⟨v, H2, I2.tok _, rw', q2⟩
theorem pc_dinK (hi : PE X i ty) (ho : PE X o td) : PC X .In i o (tDInK X.prog X.w X.K ty td) := by
  refine ⟨fun pins s σ H Q I h => ?_⟩
  refine thn (hi.run pins s σ H _ I h) fun iv s1 ⟨y, H1, I1, ry, q1⟩ => thn (ho.run pins s1 σ H1 _ I1 q1) fun u s2 ⟨x, H2, I2, rx, a, kvs, k, ex, ⟨hsys, vs, rel, dd⟩, ey, q2⟩ => ?_
  subst ex ey
  obtain rfl : u = Value.ref a := rx
  have dd := dd _ I2.kIn
  refine wpAny_in_of (kV_is ry) hsys dd.mapOf ?_
  rw [← (rel.val k).isSome_eq]
  exact ⟨.bl _, H2, I2.tok _, rfl, q2⟩
end
/-! its fact from the top -/
def HasDct (P : Program) (w : World) (K : PySem.W.Frag) (x : Str) (kvs : List (Key × V)) : Prop := ∃ a, PySem.W.nsIn K mainGlobals x = some (some (.ref a)) ∧ KDct P w K a kvs
structure UseD (P : Program) (w : World) (K : PySem.W.Frag) (mg : Str → Option Value) (x : Str) (kvs : List (Key × V)) : Prop where
  ex : ∃ a, mg x = some (.ref a) ∧ KDct P w K a kvs
/-- entries whose keys and values are texts -/
inductive DEnt (w : World) : List DictEntry → List (Str × Str) → Prop
  | nil : DEnt w [] []
  | cons {e : DictEntry} {es : List DictEntry} {k v : Str} {ps : List (Str × Str)} {t t' : Tok} : e.key = .str k t → e.hash = hashStr w k → e.val = .str v t' → DEnt w es ps → DEnt w (e :: es) ((k, v) :: ps)
def txtKV (ps : List (Str × Str)) : List (Key × V) := ps.map fun p => (.inr p.1, .str p.2)
theorem DEnt.pairs {P : Program} {w : World} : ∀ {es : List DictEntry} {ps : List (Str × Str)}, DEnt w es ps → ∃ vs : List (Key × Value), KV (txtKV ps) vs ∧ PySem.Pairs (mixKind P w) es vs ∧ vs.map (·.1) = ps.map (fun p => (Sum.inr p.1 : Key)) ∧ ∀ e ∈ es, ∃ k, (mixKind P w).is k e.key = true ∧ e.hash = (mixKind P w).hash k
  | _, _, .nil => ⟨[], .nil, .nil, rfl, fun _ h => by cases h⟩
  | _, _, .cons (k := k) (v := v) (t := t) (t' := t') hk hh hv r => by
    obtain ⟨vs, a, b, c, d⟩ := DEnt.pairs (P := P) r
    refine ⟨(.inr k, .str v t') :: vs, .cons ⟨rfl, ⟨_, rfl⟩⟩ a, .cons (by rw [hk]; exact mixKind_str P w k t) hv b, by rw [List.map_cons, c]; rfl, fun e he => ?_⟩
    rcases List.mem_cons.mp he with rfl | he
    · exact ⟨.inr k, by rw [hk]; exact mixKind_str P w k t, hh⟩
    · exact d e he
theorem nodup_inr : ∀ {xs : List Str}, xs.Nodup → (xs.map (Sum.inr : Str → Key)).Nodup
  | [], _ => .nil
  | x :: r, h => by
    obtain ⟨h1, h2⟩ := List.nodup_cons.mp h
    refine List.nodup_cons.mpr ⟨fun hm => ?_, nodup_inr h2⟩
    obtain ⟨y, hy, e⟩ := List.mem_map.mp hm
    exact h1 (Sum.inr.inj e ▸ hy)
theorem HasDct.mk' {P : Program} {w : World} {K : PySem.W.Frag} {x : Str} {ps : List (Str × Str)} {a : Addr} {es : Array DictEntry} {ep : Nat} (h : PySem.W.nsIn K mainGlobals x = some (some (.ref a)))
    (b : K.lookup a = some { cls := .type "dict", data := .dict es ep }) (hs : (a == sysModules) = false) (c : DEnt w es.toList ps) (nd : (ps.map (·.1)).Nodup) : HasDct P w K x (txtKV ps) := by
  obtain ⟨vs, v1, v2, v3, v4⟩ := DEnt.pairs (P := P) c
  refine ⟨a, h, hs, vs, v1, fun hh hK => ⟨_, es, ep, hK a _ b, ⟨rfl, rfl, rfl⟩, rfl, fun e he => v4 e (Array.mem_toList_iff.mpr he), v2, ?_⟩⟩
  rw [v3]
  have : ps.map (fun p => (Sum.inr p.1 : Key)) = (ps.map (·.1)).map Sum.inr := by rw [List.map_map]; rfl
  rw [this]
  exact nodup_inr nd
theorem HasDct.g {P : Program} {w : World} {K : PySem.W.Frag} {mg : Str → Option Value} {h : Heap} {x : Str} {kvs : List (Key × V)} (D : HasDct P w K x kvs) (X : K.In h) (G : h.Ns mainGlobals mg) : UseD P w K mg x kvs := by
  obtain ⟨a, e, k⟩ := D
  exact ⟨a, PySem.W.mg_of X G e, k⟩
end LK

set_option Elab.async false
set_option linter.all false
set_option maxRecDepth 100000
set_option maxHeartbeats 4000000
set_option exponentiation.threshold 3000
namespace K33
open PySem PySem.Spec PyProof.Rows LK SX
open L2
def HasDone (K : PySem.W.Frag) : Prop := ∃ a b, PySem.W.nsIn K mainGlobals "DONE" = some (some (.ref a)) ∧ KTup K a [.str "ok", .ref b] ∧ KTup K b [.str "none"]
theorem HasDone.mk' {K : PySem.W.Frag} {a b : Addr} {od od2 : Option Addr} {its its2 : Array Value} {n n2 : Nat} {sl sl2 : Array (Option Value)} (h : PySem.W.nsIn K mainGlobals "DONE" = some (some (.ref a)))
    (e1 : K.lookup a = some ⟨.type "tuple", od, .seq its n, sl⟩) (z1 : its.size ≤ sizeLine) (v1 : Vals [.str "ok", .ref b] its.toList) (e2 : K.lookup b = some ⟨.type "tuple", od2, .seq its2 n2, sl2⟩) (z2 : its2.size ≤ sizeLine) (v2 : Vals [.str "none"] its2.toList) : HasDone K :=
  ⟨a, b, h, ⟨od, its, n, sl, e1, z1, v1⟩, ⟨od2, its2, n2, sl2, e2, z2, v2⟩⟩
theorem HasDone.g {K : PySem.W.Frag} {mg : Str → Option Value} {h : Heap} (D : HasDone K) (X : K.In h) (G : h.Ns mainGlobals mg) : ∃ a b, mg "DONE" = some (.ref a) ∧ KTup K a [.str "ok", .ref b] ∧ KTup K b [.str "none"] := by
  obtain ⟨a, b, e, k⟩ := D
  exact ⟨a, b, PySem.W.mg_of X G e, k⟩
def top (i : Nat) : Stmt := PySem.Challenge.pw_pyhold_k33_set_attributes_read_back.main.body.getD i (.Pass ⟨0, 0, 0, 0⟩)
structure Txt (K : PySem.W.Frag) (mg : Str → Option Value) : Prop where
  c_ATTRIBUTE_ERROR : GInt mg "ATTRIBUTE_ERROR" 9
  c_CLASSES : GTup K mg "CLASSES" (clsNames.map V.str)
  c_BASES : GTup K mg "BASES" (clsBases.map V.int)
  c_BUILT : GTup K mg "BUILT" (builtNames.map V.str)
  c_DONE : ∃ a b, mg "DONE" = some (.ref a) ∧ KTup K a [.str "ok", .ref b] ∧ KTup K b [.str "none"]
  b_len : mg "len" = none
  b_int : mg "int" = none
  b_range : mg "range" = none
  b_list : mg "list" = none
  b_tuple : mg "tuple" = none
  b_repr : mg "repr" = none
  b_zip : mg "zip" = none
  b_enumerate : mg "enumerate" = none
abbrev s_law_cell : Stmt := top 29
abbrev N_law_cell : List Str := ["script", "k"]
abbrev P_law_cell : List Str := ["script", "k"]
theorem sc_law_cell : FnScope N_law_cell P_law_cell (defScope s_law_cell) := ⟨rfl, rfl, rfl, by decide +kernel, rfl, by decide +kernel, by decide +kernel⟩
abbrev s_law_digits : Stmt := top 30
abbrev N_law_digits : List Str := ["script", "first", "last", "digits", "k", "cell", "turn", "seed"]
abbrev P_law_digits : List Str := ["script", "first", "last"]
theorem sc_law_digits : FnScope N_law_digits P_law_digits (defScope s_law_digits) := ⟨rfl, rfl, rfl, by decide +kernel, rfl, by decide +kernel, by decide +kernel⟩
abbrev s_law_draw : Stmt := top 31
abbrev N_law_draw : List Str := ["box", "many", "at"]
abbrev P_law_draw : List Str := ["box", "many"]
theorem sc_law_draw : FnScope N_law_draw P_law_draw (defScope s_law_draw) := ⟨rfl, rfl, rfl, by decide +kernel, rfl, by decide +kernel, by decide +kernel⟩
section
variable {P : Program} {w : World} {K : PySem.W.Frag} {mg : Str → Option Value} {base : Heap}
theorem ok_draw {f : Addr} {fd : FuncData} (F : Fun K "_law_draw" "_law_draw" s_law_draw f fd) (T : Txt K mg) : FnG P w K mg base CX0 1 f fd P_law_draw (spDraw K) := by
  refine okG0 F sc_law_draw (fun vs H Q E h => ?_) fun cdv A outer s H vs Q E hr hg h => ?_
  · obtain ⟨p, dl, m, rfl, _⟩ := h
    rfl
  · obtain ⟨p, dl, m, rfl, B, hm, k⟩ := h
    obtain ⟨ds, n, hp, hn, hd, hl, hds⟩ := id B
    refine ⟨_, (pss_cons (ps_set (i := 2) sc_law_draw.nd rfl (Or.inl rfl) (pe_ix ix_list (pv 0) pe_int (fun _ _ => rfl)))
  (pss_cons (ps_asg (pe_op op_add (pv 2) pe_int) (pg_sub (pv 0) pe_int set_list))
  (pss_cons (ps_if (pt_cmpR op_lt (pv 2) (pe_callB call_len (by rfl) T.b_len PySem.boot_len (pa_cons (pe_ix ix_list (pv 0) pe_int (fun _ _ => rfl)) pa_nil)) (nomark _))
   (pss_one (ps_ret (pe_op op_mod (pe_callTy call_int1 (by rfl) T.b_int (by decide +kernel) (pa_cons (pe_ix ix_list (pe_ix ix_list (pv 0) pe_int (fun _ _ => rfl)) (pv 2) (fun _ _ => rfl)) pa_nil)) (pv 1))))
   pss_nil)
  (pss_one (ps_ret (pe_op op_mod (pe_callTy call_int1 (by rfl) T.b_int (by decide +kernel) (pa_cons (pe_op op_add (pe_op op_mul (pv 2) pe_int) pe_int) pa_nil)) (pv 1))))))), ?_⟩
    -- at = box[1]; box[1] = at + 1
    refine ⟨_, rfl, p, _, _, _, rfl, rfl, SqL.of hp, rfl, ?_⟩
    refine ⟨_, rfl, _, _, rfl, rfl, _, rfl, p, _, _, _, rfl, rfl, hp, rfl, ?_⟩
    have npd : dl ≠ p := by
      intro e
      subst e
      rw [hp] at hd
      have e := HO.lst.inj (Option.some.inj hd)
      cases ds with
      | nil => cases e
      | cons d ds => cases (List.cons.inj e).1
    have B' : BoxAt (upd H p (.lst [.ref dl, .int (n + 1)])) p dl := ⟨ds, n + 1, upd_same, by omega, by rw [upd_ne npd]; exact hd, hl, hds⟩
    have kp : Keep p H (upd H p (.lst [.ref dl, .int (n + 1)])) := fun b o e hb => by rw [upd_ne hb]; exact e
    have hd' : upd H p (.lst [.ref dl, .int (n + 1)]) dl = some (.lst (ds.map V.int)) := by rw [upd_ne npd]; exact hd
    -- if at < len(box[0])
    refine ⟨_, rfl, _, rfl, p, _, _, _, rfl, rfl, SqL.of upd_same, rfl, _, _, rfl, .inl ⟨_, SqL.of hd', rfl⟩, ?_⟩
    refine ⟨_, _, rfl, rfl, _, rfl, ?_⟩
    refine ite2 (fun c => ?_) fun c => ?_
    · have c1 : n < (ds.length : Int) := by simpa using c
      have c2 : n.toNat < ds.length := by omega
      have mem := hds _ (List.getElem_mem c2)
      refine ⟨_, rfl, p, _, _, _, rfl, rfl, SqL.of upd_same, rfl, _, rfl, dl, _, _, .int ds[n.toNat], rfl, rfl, SqL.of hd', ?_, .inl ⟨_, rfl, ?_⟩⟩
      · have e : n = ((n.toNat : Nat) : Int) := by omega
        exact at_of e (by simp [c2])
      · refine ⟨_, rfl, _, _, rfl, rfl, hm, ?_⟩
        exact k _ _ (Int.emod_nonneg _ (by omega)) (Int.emod_lt_of_pos _ hm) B' kp
    · refine ⟨_, rfl, _, _, rfl, rfl, .inr ⟨by decide, by decide⟩, _, _, rfl, rfl, .inl ⟨_, rfl, _, rfl, _, _, rfl, rfl, hm, ?_⟩⟩
      exact k _ _ (Int.emod_nonneg _ (by omega)) (Int.emod_lt_of_pos _ hm) B' kp
theorem ok_cell {f : Addr} {fd : FuncData} (F : Fun K "_law_cell" "_law_cell" s_law_cell f fd) (T : Txt K mg) : FnG P w K mg base CX0 1 f fd P_law_cell (spCell K) := by
  refine okG0 F sc_law_cell (fun vs H Q E h => ?_) fun cdv A outer s H vs Q E hr hg h => ?_
  · obtain ⟨a, ns, i, rfl, _⟩ := h
    rfl
  · obtain ⟨a, ns, i, rfl, hs, hi, k⟩ := h
    refine ⟨_, (pss_cons (ps_if (pt_cmpR op_lt (pv 1) (pe_callB call_len (by rfl) T.b_len PySem.boot_len (pa_cons (pv 0) pa_nil)) (nomark _))
   (pss_one (ps_ret (pe_ix ix_list (pv 0) (pv 1) (fun _ _ => rfl))))
   pss_nil)
  (pss_one (ps_ret pe_int))), ?_⟩
    refine ⟨_, rfl, _, rfl, _, _, rfl, .inl ⟨_, hs, rfl⟩, _, _, rfl, rfl, _, rfl, ?_⟩
    refine ite3 (fun c => ?_) fun _ => k 0
    have c1 : i < (ns.length : Int) := by simpa using c
    have c2 : i.toNat < ns.length := by omega
    exact ⟨_, rfl, _, rfl, a, _, _, .int ns[i.toNat], rfl, rfl, hs, at_of (show i = ((i.toNat : Nat) : Int) by omega) (by simp [c2]), k _⟩
theorem ok_digits {f : Addr} {fd : FuncData} (F : Fun K "_law_digits" "_law_digits" s_law_digits f fd) (T : Txt K mg) (U_law_cell : Use P w K mg base CX0 "_law_cell" 1 P_law_cell (spCell K)) : FnG P w K mg base CX0 2 f fd P_law_digits (spDigits K) := by
  refine okG0 F sc_law_digits (fun vs H Q E h => ?_) fun cdv A outer s H vs Q E hr hg h => ?_
  · obtain ⟨a, ns, lo, hi, rfl, _⟩ := h
    rfl
  · obtain ⟨a, ns, lo, hi, rfl, hs, hlo, hhi, k⟩ := h
    refine ⟨_, (pss_cons (ps_set (i := 3) sc_law_digits.nd rfl (Or.inl rfl) (pe_lst pa_nil))
  (pss_cons (ps_for PassesOwn.never rfl (pi_range2 (by rfl) T.b_range (pa_cons (pv 1) (pa_cons (pv 2) pa_nil))) (pg_name (i := 4) sc_law_digits.nd rfl (Or.inl rfl))
   (pss_cons (ps_set (i := 5) sc_law_digits.nd rfl (Or.inl rfl) (pe_use U_law_cell (hr.mono (by decide)) hg rfl (pa_cons (pv 0) (pa_cons (pv 4) pa_nil))))
  (C8.pss_cut (ps_if (pt_cmpR op_lt (pv 5) pe_int (nomark _))
   (pss_one (ps_set (i := 5) sc_law_digits.nd rfl (Or.inl rfl) (pe_op op_sub pe_int (pe_op op_mul pe_int (pv 5)))))
   pss_nil)
  (pss_one (ps_if (pt_cmpR op_ge (pv 5) (pe_op op_pow pe_int pe_int) (nomark _))
   (pss_one (ps_for PassesOwn.never rfl (pi_range1 (by rfl) T.b_range (pa_cons pe_int pa_nil)) (pg_name (i := 6) sc_law_digits.nd rfl (Or.inl rfl))
   (pss_one (ps_if (pt_cmpR op_gt (pv 5) pe_int (nomark _))
   (pss_cons (ps_expr (pe_bm PySem.F.plainAttrs_list PySem.F.slot_list_append PySem.F.type_list_append mt_append (pv 3) (pa_cons (pe_op op_mod (pe_callTy call_int1 (by rfl) T.b_int (by decide +kernel) (pa_cons (pv 5) pa_nil)) pe_int) pa_nil)))
  (pss_one (ps_set (i := 5) sc_law_digits.nd rfl (Or.inl rfl) (pe_op op_fdiv (pv 5) pe_int))))
   pss_nil))))
   (pss_cons (ps_set (i := 7) sc_law_digits.nd rfl (Or.inl rfl) (pe_op op_mod (pe_callTy call_int1 (by rfl) T.b_int (by decide +kernel) (pa_cons (pe_op op_add (pe_op op_add (pe_op op_mul (pv 5) pe_int) (pe_op op_mul (pv 4) pe_int)) pe_int) pa_nil)) pe_int))
  (pss_one (ps_for PassesOwn.never rfl (pi_range1 (by rfl) T.b_range (pa_cons pe_int pa_nil)) (pg_name (i := 6) sc_law_digits.nd rfl (Or.inl rfl))
   (pss_cons (ps_set (i := 7) sc_law_digits.nd rfl (Or.inl rfl) (pe_op op_mod (pe_callTy call_int1 (by rfl) T.b_int (by decide +kernel) (pa_cons (pe_op op_add (pe_op op_add (pe_op op_mul (pv 7) pe_int) (pe_op op_mul pe_int (pv 6))) pe_int) pa_nil)) pe_int))
  (pss_one (ps_expr (pe_bm PySem.F.plainAttrs_list PySem.F.slot_list_append PySem.F.type_list_append mt_append (pv 3) (pa_cons (pe_op op_mod (pe_callTy call_int1 (by rfl) T.b_int (by decide +kernel) (pa_cons (pe_op op_fdiv (pv 7) pe_int) pa_nil)) pe_int) pa_nil)))))))))))))
  (pss_one (ps_ret (pv 3))))), ?_⟩
    refine ⟨by decide, fun dl nd => ?_⟩
    have sz : (4000 : Nat) < sizeLine := by decide
    -- for k in range(first, last)
    refine ⟨_, rfl, _, rfl, _, _, rfl, ⟨by omega, by omega, by omega, by omega⟩, ?_⟩
    refine for_range (lo := (lo : Int)) (n := ((hi : Int) - (lo : Int)).toNat) (fun i σ H1 => ∃ x5 x6 x7 x4, σ = [some (.ref a), some (.int lo), some (.int hi), some (.ref dl), x4, x5, x6, x7] ∧ DigAt H H1 dl (60 * i)) ?_ ?_ ?_
    · exact ⟨none, none, none, none, rfl, [], upd_same, by simp, by simp, Same.new nd⟩
    · rintro i σ H1 hi' ⟨x5, x6, x7, x4, rfl, D⟩
      have S1 : Same H H1 := let ⟨_, _, _, _, z⟩ := D; z
      -- cell = _law_cell(script, k)
      refine ⟨_, rfl, _, rfl, a, ns, _, rfl, S1.seq hs, by omega, fun cell => ?_⟩
      -- if cell < 0: cell = 1 - 2 * cell
      refine ⟨fun σ H2 => ∃ c : Int, σ = [some (.ref a), some (.int lo), some (.int hi), some (.ref dl), some (.int ((lo : Int) + i)), some (.int c), x6, x7] ∧ H2 = H1, ?_, ?_⟩
      · refine ⟨_, rfl, _, _, rfl, rfl, _, rfl, ?_⟩
        refine ite3 (fun _ => ?_) fun _ => ⟨cell, rfl, rfl⟩
        exact ⟨_, rfl, _, _, rfl, rfl, .inl ⟨by decide, by decide⟩, _, _, rfl, rfl, _, rfl, rfl⟩
      · rintro _ _ ⟨c, rfl, rfl⟩
        -- if cell >= 10 ** 18
        refine ⟨_, rfl, _, _, rfl, rfl, ⟨by decide, by decide, by decide⟩, _, _, rfl, rfl, _, rfl, ?_⟩
        refine ite3 (fun hc => ?_) fun hc => ?_
        · refine ⟨_, rfl, by decide, by decide, ?_⟩
          refine for_range (lo := 0) (n := 60) (fun j σ H1 => ∃ (c : Int) (y6 : Option V), σ = [some (.ref a), some (.int lo), some (.int hi), some (.ref dl), some (.int ((lo : Int) + i)), some (.int c), y6, x7] ∧ DigAt H H1 dl (60 * i + j)) ⟨c, x6, rfl, D⟩ ?_ ?_
          · rintro j σ H2 hj ⟨c, y6, rfl, D2⟩
            obtain ⟨ds, hd, hl, _⟩ := id D2
            refine ⟨_, rfl, _, _, rfl, rfl, _, rfl, ?_⟩
            refine ite3 (fun hp => ?_) fun _ => ⟨c, _, rfl, D2.mono (by omega)⟩
            have hp : 0 < c := by simpa using hp
            refine ⟨_, rfl, .inl ⟨rfl, _, SqL.of hd⟩, _, rfl, .inl ⟨_, rfl, _, _, rfl, rfl, (by show (0 : Int) < 1000; decide), dl, _, _, rfl, rfl, hd, (by simp; omega), ?_⟩⟩
            refine ⟨_, rfl, _, _, rfl, rfl, ⟨by decide, by decide⟩, ?_⟩
            exact ⟨_, _, rfl, D2.add hd nd (Int.emod_nonneg _ (by decide)) (Int.emod_lt_of_pos _ (by decide))⟩
          · rintro σ H2 ⟨c, y6, rfl, D2⟩
            exact ⟨_, _, _, _, rfl, D2.mono (by omega)⟩
        · refine ⟨_, rfl, _, _, rfl, rfl, .inr ⟨by decide, by decide⟩, _, rfl, _, _, rfl, rfl, .inr ⟨by decide, by decide⟩, _, _, rfl, rfl, _, _, rfl, rfl, .inl ⟨_, rfl, _, _, rfl, rfl, (by show (0 : Int) < 2147483647; decide), ?_⟩⟩
          refine ⟨_, rfl, by decide, by decide, ?_⟩
          refine for_range (lo := 0) (n := 12) (fun j σ H1 => ∃ (sd : Int) (y6 : Option V), σ = [some (.ref a), some (.int lo), some (.int hi), some (.ref dl), some (.int ((lo : Int) + i)), some (.int c), y6, some (.int sd)] ∧ DigAt H H1 dl (60 * i + j)) ⟨_, x6, rfl, D⟩ ?_ ?_
          · rintro j σ H2 hj ⟨sd, y6, rfl, D2⟩
            obtain ⟨ds, hd, hl, _⟩ := id D2
            refine ⟨_, rfl, _, _, rfl, rfl, .inr ⟨by decide, by decide⟩, _, rfl, _, _, rfl, rfl, .inl ⟨by decide, by decide⟩, _, _, rfl, rfl, _, _, rfl, rfl, .inl ⟨_, rfl, _, _, rfl, rfl, (by show (0 : Int) < 2147483647; decide), ?_⟩⟩
            refine ⟨_, rfl, .inl ⟨rfl, _, SqL.of hd⟩, _, rfl, _, _, rfl, rfl, ⟨by decide, by decide⟩, .inl ⟨_, rfl, _, _, rfl, rfl, (by show (0 : Int) < 1000; decide), dl, _, _, rfl, rfl, hd, (by simp; omega), ?_⟩⟩
            exact ⟨_, _, rfl, D2.add hd nd (Int.emod_nonneg _ (by decide)) (Int.emod_lt_of_pos _ (by decide))⟩
          · rintro σ H2 ⟨sd, y6, rfl, D2⟩
            exact ⟨_, _, _, _, rfl, D2.mono (by omega)⟩
    · rintro σ H1 ⟨x5, x6, x7, x4, rfl, D⟩
      exact ⟨_, rfl, k dl H1 nd (D.mono (by omega))⟩
end

section
/-! data whose texts are texts and that are not deep -/
def Shp (n : Nat) (d : PyData) : Prop := d.canLay0 = true ∧ d.depth ≤ n
theorem Shp.all {n : Nat} : ∀ {ds : List PyData}, (∀ d ∈ ds, Shp n d) → PyData.canLayAll0 ds = true ∧ PyData.depthAll ds ≤ n
  | [], _ => ⟨rfl, Nat.zero_le _⟩
  | d :: r, h => by
    obtain ⟨a, b⟩ := h d (by simp)
    obtain ⟨c, e⟩ := Shp.all (ds := r) fun x hx => h x (List.mem_cons_of_mem _ hx)
    exact ⟨by simp only [PyData.canLayAll0, a, c]; rfl, Nat.max_le.mpr ⟨b, e⟩⟩
theorem Shp.tup {n : Nat} {ds : List PyData} (h : ∀ d ∈ ds, Shp n d) : Shp (n + 1) (.tuple ds) := by
  obtain ⟨a, b⟩ := Shp.all h
  exact ⟨by simp only [PyData.canLay0]; exact a, show PyData.depthAll ds + 1 ≤ n + 1 by omega⟩
theorem Shp.lst {n : Nat} {ds : List PyData} (h : ∀ d ∈ ds, Shp n d) : Shp (n + 1) (.list ds) := by
  obtain ⟨a, b⟩ := Shp.all h
  exact ⟨by simp only [PyData.canLay0]; exact a, show PyData.depthAll ds + 1 ≤ n + 1 by omega⟩
theorem Shp.sh {n : Nat} {d : PyData} (h : Shp n d) (hn : n ≤ 64) : SeqAt.shaped d = true := by
  unfold SeqAt.shaped
  rw [h.1, decide_eq_true (Nat.le_trans h.2 hn)]; rfl
theorem Shp.mono {n m : Nat} {d : PyData} (h : Shp n d) (l : n ≤ m) : Shp m d := ⟨h.1, Nat.le_trans h.2 l⟩
theorem Shp.str {n : Nat} {x : Str} (h : PyData.canLay0 (.str x) = true) : Shp n (.str x) := ⟨h, Nat.zero_le _⟩
theorem Shp.int (n : Nat) (i : Int) : Shp n (.int i) := ⟨rfl, Nat.zero_le _⟩
theorem Shp.bool (n : Nat) (b : Bool) : Shp n (.bool b) := ⟨rfl, Nat.zero_le _⟩
theorem Shp.nil : Shp 1 (.tuple []) := Shp.tup (n := 0) fun _ h => by cases h
theorem Shp.cons2 {n : Nat} {d : PyData} {ds : List PyData} (h : Shp n d) (t : ∀ x ∈ ds, Shp n x) : ∀ x ∈ d :: ds, Shp n x := fun x hx => by
  rcases List.mem_cons.mp hx with rfl | hx
  · exact h
  · exact t x hx
theorem Shp.none2 {n : Nat} : ∀ x ∈ ([] : List PyData), Shp n x := fun _ h => by cases h
theorem Shp.strS {n : Nat} {a : List Nat} (h : ∀ c ∈ a, c < 128) : Shp n (.str (S a)) := by
  refine Shp.str ?_
  rw [PyData.canLay0]
  exact Array.all_eq_true_iff_forall_mem.mpr fun c hc => by
    have := h c (by simpa [S] using hc)
    exact decide_eq_true (by omega)
end

abbrev s_law_same : Stmt := top 34
abbrev N_law_same : List Str := ["actual", "due"]
abbrev P_law_same : List Str := ["actual", "due"]
theorem sc_law_same : FnScope N_law_same P_law_same (defScope s_law_same) := ⟨rfl, rfl, rfl, by decide +kernel, rfl, by decide +kernel, by decide +kernel⟩
section
variable {P : Program} {w : World} {K : PySem.W.Frag} {mg : Str → Option Value} {base : Heap}
theorem ok_same {f : Addr} {fd : FuncData} (F : Fun K "_law_same" "_law_same" s_law_same f fd) (T : Txt K mg) : FnG P w K mg base CX0 1 f fd P_law_same (spSame K) := by
  refine okG0 F sc_law_same (fun vs H Q E h => ?_) fun cdv A outer s H vs Q E hr hg h => ?_
  · obtain ⟨x, y, d, rfl, _⟩ := h
    rfl
  · obtain ⟨x, y, d, rfl, hx, hy, hs, k⟩ := h
    refine ⟨_, (pss_one (ps_ret (pe_cmpR op_eq (pe_callB (call_repr_data hg hr.units) (by rfl) T.b_repr (by decide +kernel) (pa_cons (pv 0) pa_nil)) (pe_callB (call_repr_data hg hr.units) (by rfl) T.b_repr (by decide +kernel) (pa_cons (pv 1) pa_nil)) (nomark _)))), ?_⟩
    refine ⟨_, rfl, _, d, rfl, hx, hs, _, rfl, _, d, rfl, hy, hs, rfl, ?_⟩
    rw [decide_eq_true rfl]
    exact k
end

abbrev s_law_names : Stmt := top 32
abbrev N_law_names : List Str := ["box", "letters", "first", "place", "names", "k", "letter"]
abbrev P_law_names : List Str := ["box"]
theorem sc_law_names : FnScope N_law_names P_law_names (defScope s_law_names) := ⟨rfl, rfl, rfl, by decide +kernel, rfl, by decide +kernel, by decide +kernel⟩
abbrev s_law_value : Stmt := top 33
abbrev N_law_value : List Str := ["box", "kind"]
abbrev P_law_value : List Str := ["box"]
theorem sc_law_value : FnScope N_law_value P_law_value (defScope s_law_value) := ⟨rfl, rfl, rfl, by decide +kernel, rfl, by decide +kernel, by decide +kernel⟩
section
variable {P : Program} {w : World} {K : PySem.W.Frag} {mg : Str → Option Value} {base : Heap}
structure NameOk (x : Str) : Prop where
  ex : ∃ a : List Nat, x = S a ∧ a.length ≤ 10 ∧ ∀ c ∈ a, c < 128
theorem NameOk.len {x : Str} (h : NameOk x) : x.length ≤ 10 := by
  obtain ⟨a, rfl, h1, _⟩ := h.ex
  rw [S_len]; exact h1
theorem NameOk.sm {x : Str} (h : NameOk x) : Sm (.str x) 0 200 := by
  obtain ⟨a, rfl, h1, h2⟩ := h.ex
  refine (Sm.str (n := 10) (by rw [S_len]; exact h1) fun c hc => ?_).mono (Nat.le_refl _) (by omega)
  have := h2 c (by simpa [S] using hc)
  omega
theorem NameOk.shp {n : Nat} {x : Str} (h : NameOk x) : Shp n (.str x) := by
  obtain ⟨a, rfl, _, h2⟩ := h.ex
  exact Shp.strS h2
def spNames (K : PySem.W.Frag) : Sp := fun vs H Q _ => ∃ p dl, vs = [.ref p] ∧ BoxAt H p dl ∧ ∀ (np : Addr) (ns : List Str) (H' : Hp), H np = none → BoxAt H' p dl → Keep p H H' → H' np = some (.lst (ns.map V.str)) → ns.length = 8 → (∀ x ∈ ns, NameOk x) → Q (.ref np) H'
def lets : List Nat := ("abcdefghijklmnopqrstuvwxyz" : Str).cps.toList
theorem cut_xyz {r : Int} (h0 : 0 ≤ r) (h1 : r < 4) : ∃ u v : List Nat, cutS "xyz" none (some r) = S u ∧ cutS "xyz" (some r) none = S v ∧ u.length ≤ 3 ∧ v.length ≤ 3 ∧ (∀ c ∈ u, c < 128) ∧ (∀ c ∈ v, c < 128) := by
  obtain ⟨i, rfl⟩ := Int.eq_ofNat_of_zero_le h0
  match i, h1 with
  | 0, _ => exact ⟨[], [120, 121, 122], by decide +kernel, by decide +kernel, by decide, by decide, by decide, by decide⟩
  | 1, _ => exact ⟨[120], [121, 122], by decide +kernel, by decide +kernel, by decide, by decide, by decide, by decide⟩
  | 2, _ => exact ⟨[120, 121], [122], by decide +kernel, by decide +kernel, by decide, by decide, by decide, by decide⟩
  | 3, _ => exact ⟨[120, 121, 122], [], by decide +kernel, by decide +kernel, by decide, by decide, by decide, by decide⟩
  | i + 4, h => omega
theorem none_back {p np : Addr} {H H' : Hp} (K1 : Keep p H H') (B : ∃ xs, H' p = some (.lst xs)) (h : H' np = none) : H np = none := by
  cases e : H np with
  | none => rfl
  | some o =>
    by_cases ep : np = p
    · subst ep
      obtain ⟨xs, g⟩ := B
      rw [g] at h; cases h
    · rw [K1 _ _ e ep] at h; cases h
theorem ok_names {f : Addr} {fd : FuncData} (F : Fun K "_law_names" "_law_names" s_law_names f fd) (T : Txt K mg) (U_law_draw : Use P w K mg base CX0 "_law_draw" 1 P_law_draw (spDraw K)) : FnG P w K mg base CX0 2 f fd P_law_names (spNames K) := by
  refine okG0 F sc_law_names (fun vs H Q E h => ?_) fun cdv A outer s H vs Q E hr hg h => ?_
  · obtain ⟨p, dl, rfl, _⟩ := h
    rfl
  · obtain ⟨p, dl, rfl, B, k⟩ := h
    refine ⟨_, (pss_cons (ps_set (i := 1) sc_law_names.nd rfl (Or.inl rfl) pe_str)
  (pss_cons (ps_set (i := 2) sc_law_names.nd rfl (Or.inl rfl) (pe_use U_law_draw (hr.mono (by decide)) hg rfl (pa_cons (pv 0) (pa_cons pe_int pa_nil))))
  (pss_cons (ps_set (i := 3) sc_law_names.nd rfl (Or.inl rfl) (pe_use U_law_draw (hr.mono (by decide)) hg rfl (pa_cons (pv 0) (pa_cons pe_int pa_nil))))
  (pss_cons (ps_set (i := 4) sc_law_names.nd rfl (Or.inl rfl) (pe_lst pa_nil))
  (pss_cons (ps_for PassesOwn.never rfl (pi_range1 (by rfl) T.b_range (pa_cons pe_int pa_nil)) (pg_name (i := 5) sc_law_names.nd rfl (Or.inl rfl))
   (pss_cons (ps_set (i := 6) sc_law_names.nd rfl (Or.inl rfl) (pe_ix ix_str (pv 1) (pe_op op_mod (pe_callTy call_int1 (by rfl) T.b_int (by decide +kernel) (pa_cons (pe_op op_add (pv 2) (pe_op op_mul pe_int (pv 5))) pa_nil)) pe_int) (fun _ _ => rfl)))
  (pss_one (ps_expr (pe_bm PySem.F.plainAttrs_list PySem.F.slot_list_append PySem.F.type_list_append mt_append (pv 4) (pa_cons (pe_op op_add_str (pe_op op_add_str (pe_op op_add_str pe_str (pe_slice sl_str pe_str po_none (po_some (pv 3)))) (pv 6)) (pe_slice sl_str pe_str (po_some (pv 3)) po_none)) pa_nil))))))
  (pss_one (ps_ret (pv 4)))))))), ?_⟩
    refine ⟨_, rfl, p, dl, 26, rfl, B, by decide, fun t H1 t0 t1 B1 K1 => ?_⟩
    refine ⟨_, rfl, p, dl, 4, rfl, B1, by decide, fun r H2 r0 r1 B2 K2 => ?_⟩
    obtain ⟨u, v, eu, ev, lu, lv, hu, hv⟩ := cut_xyz r0 r1
    refine ⟨sz_0, fun np hnp => ?_⟩
    refine ⟨_, rfl, by decide, by decide, ?_⟩
    have hnp0 : H np = none := none_back (K1.trans K2) B2.at_ hnp
    have npp : np ≠ p := fun e => by subst e; obtain ⟨xs, g⟩ := B2.at_; rw [g] at hnp; cases hnp
    have npd : np ≠ dl := fun e => by subst e; obtain ⟨xs, g⟩ := B2.dg; rw [g] at hnp; cases hnp
    refine for_range (lo := 0) (n := 8) (fun i σ H3 => ∃ (ns : List Str) (x5 x6 : Option V), σ = [some (.ref p), some (.str "abcdefghijklmnopqrstuvwxyz"), some (.int t), some (.int r), some (.ref np), x5, x6] ∧ ns.length = i ∧ (∀ x ∈ ns, NameOk x) ∧ H3 np = some (.lst (ns.map V.str)) ∧ BoxAt H3 p dl ∧ (∀ b o, H2 b = some o → H3 b = some o)) ⟨[], none, none, rfl, rfl, by simp, upd_same, B2.upd npp npd, Same.new hnp⟩ ?_ ?_
    · rintro i σ H3 hi ⟨ns, x5, x6, rfl, hl, hok, en, B3, S3⟩
      have hLets : ("abcdefghijklmnopqrstuvwxyz" : Str) = S lets := by decide +kernel
      have hLl : lets.length = 26 := by decide +kernel
      have hL128 : ∀ c ∈ lets, c < 128 := by decide +kernel
      obtain ⟨j, hj⟩ : ∃ j : Nat, (t + 3 * (0 + (i : Int))) % 26 = (j : Int) := ⟨_, (Int.toNat_of_nonneg (Int.emod_nonneg _ (by decide))).symm⟩
      have hj26 : j < lets.length := by
        have := Int.emod_lt_of_pos (t + 3 * (0 + (i : Int))) (show (0 : Int) < 26 by decide)
        omega
      have hc : lets[j]? = some lets[j] := List.getElem?_eq_getElem hj26
      have hcm := hL128 _ (List.getElem_mem hj26)
      generalize lets[j] = c at hc hcm
      have hq : ("n" : Str) = S [110] := by decide +kernel
      have hc1 : (⟨#[c]⟩ : Str) = S [c] := rfl
      have h3 : ("xyz" : Str).length ≤ sizeLine := by decide +kernel
      have sz : ∀ a b : List Nat, a.length + b.length ≤ 100 → (S a).length + (S b).length ≤ sizeLine := fun a b h => by rw [S_len, S_len]; exact Nat.le_trans h (by decide)
      have e : ("n" : Str) ++ cutS "xyz" none (some r) ++ (⟨#[c]⟩ : Str) ++ cutS "xyz" (some r) none = S ([110] ++ u ++ [c] ++ v) := by
        rw [hq, eu, ev, hc1, S_cat, S_cat, S_cat]
      refine ⟨_, rfl, _, rfl, _, rfl, _, _, rfl, rfl, .inl ⟨by decide, by decide⟩, _, _, rfl, rfl, .inl ⟨_, rfl, _, _, rfl, rfl, (by show (0 : Int) < 26; decide), S lets, (j : Int), c, by rw [hLets], congrArg V.int hj, by rw [S_len, hLl]; decide, at_S hc, ?_⟩⟩
      refine ⟨_, rfl, .inl ⟨rfl, _, SqL.of en⟩, _, rfl, _, rfl, _, rfl, h3, _, _, rfl, rfl, by rw [hq, eu]; exact sz _ _ (by simp; omega), ?_⟩
      refine ⟨_, rfl, _, _, rfl, rfl, by rw [hq, eu, hc1, S_cat]; exact sz _ _ (by simp; omega), ?_⟩
      refine ⟨_, rfl, _, rfl, _, rfl, h3, _, _, rfl, rfl, by rw [hq, eu, ev, hc1, S_cat, S_cat]; exact sz _ _ (by simp; omega), ?_⟩
      refine ⟨np, _, _, rfl, rfl, en, by rw [List.length_map, hl]; exact Nat.lt_of_lt_of_le hi (by decide), ?_⟩
      rw [e]
      refine ⟨ns ++ [S ([110] ++ u ++ [c] ++ v)], _, _, rfl, by simp; omega, fun x hx => ?_, by rw [upd_same, List.map_append]; rfl, B3.upd npp npd, fun b o hb => ?_⟩
      · rcases List.mem_append.mp hx with hx | hx
        · exact hok x hx
        · rw [List.mem_singleton.mp hx]
          refine ⟨_, rfl, by simp; omega, fun d hd => ?_⟩
          simp only [List.mem_append, List.mem_singleton] at hd
          rcases hd with ((rfl | hd) | rfl) | hd
          · decide
          · exact hu d hd
          · exact hcm
          · exact hv d hd
      · rw [upd_ne (ne_of_none hb hnp)]; exact S3 b o hb
    · rintro σ H3 ⟨ns, x5, x6, rfl, hl, hok, en, B3, S3⟩
      exact ⟨_, rfl, k np ns H3 hnp0 B3 ((K1.trans K2).trans (Same.keep S3)) en hl hok⟩
/-- a drawn value -/
structure VOk (d : PyData) : Prop where
  tup : ∃ z r, d = .tuple (.str z :: r) ∧ z ≠ ""
  sm : Sm d 1 3000
  shp : Shp 1 d
def spValue (K : PySem.W.Frag) : Sp := fun vs H Q _ => ∃ p dl, vs = [.ref p] ∧ BoxAt H p dl ∧ ∀ v d H', BoxAt H' p dl → Keep p H H' → Dt K H' v d → VOk d → Q v H'
theorem vok1 {z x : Str} (h1 : shortS z = true) (h2 : shortS x = true) (h3 : PyData.canLay0 (.str z) = true) (h4 : PyData.canLay0 (.str x) = true) (hz : z ≠ "") : VOk (.tuple [.str z, .str x]) :=
  ⟨⟨_, _, rfl, hz⟩, (Sm.tup (.cons (Sm.short h1) (.cons (Sm.short h2) .nil))).mono (by decide) (by decide), Shp.tup (Shp.cons2 (Shp.str h3) (Shp.cons2 (Shp.str h4) Shp.none2))⟩
theorem ten_val : ∀ n : Nat, NumText.digitsVal (49 :: List.replicate n 48) = 10 ^ n
  | 0 => rfl
  | n + 1 => by
    rw [List.replicate_succ', ← List.cons_append]
    have h : ∀ (cs : List Nat) (c : Nat), NumText.digitsVal (cs ++ [c]) = NumText.digitsVal cs * 10 + (c - 48) := fun cs c => by
      unfold NumText.digitsVal
      rw [List.foldl_append]
      rfl
    rw [h, ten_val n, Nat.pow_succ]
    simp
theorem ten_S (n : Nat) (hn : n ≤ 100) : PySem.intText? (S ([49] ++ List.replicate n 48)) = some ((10 : Int) ^ n) := by
  have h : ([49] ++ List.replicate n 48).all (fun c => decide (48 ≤ c) && decide (c ≤ 57)) = true := List.all_eq_true.mpr fun c hc => by
    rcases List.mem_append.mp hc with hc | hc
    · rw [List.mem_singleton.mp hc]; rfl
    · rw [List.eq_of_mem_replicate hc]; rfl
  rw [int_S h (by simp) (by simp; omega)]
  have e : NumText.digitsVal ([49] ++ List.replicate n 48) = 10 ^ n := ten_val n
  rw [e]
  congr 1
theorem ok_value {f : Addr} {fd : FuncData} (F : Fun K "_law_value" "_law_value" s_law_value f fd) (T : Txt K mg) (U_law_draw : Use P w K mg base CX0 "_law_draw" 1 P_law_draw (spDraw K)) : FnG P w K mg base CX0 2 f fd P_law_value (spValue K) := by
  refine okG0 F sc_law_value (fun vs H Q E h => ?_) fun cdv A outer s H vs Q E hr hg h => ?_
  · obtain ⟨p, dl, rfl, _⟩ := h
    rfl
  · obtain ⟨p, dl, rfl, B, k⟩ := h
    refine ⟨_, (pss_cons (ps_set (i := 1) sc_law_value.nd rfl (Or.inl rfl) (pe_use U_law_draw (hr.mono (by decide)) hg rfl (pa_cons (pv 0) (pa_cons pe_int pa_nil))))
  (pss_cons (ps_if (pt_cmpR op_eq (pv 1) pe_int (nomark _))
   (pss_one (ps_ret (pe_tup (pa_cons pe_str pa_nil))))
   pss_nil)
  (pss_cons (ps_if (pt_cmpR op_eq (pv 1) pe_int (nomark _))
   (pss_one (ps_ret (pe_tup (pa_cons pe_str (pa_cons (pe_cmpR op_eq (pe_use U_law_draw (hr.mono (by decide)) hg rfl (pa_cons (pv 0) (pa_cons pe_int pa_nil))) pe_int (nomark _)) pa_nil)))))
   pss_nil)
  (pss_cons (ps_if (pt_cmpR op_eq (pv 1) pe_int (nomark _))
   (pss_one (ps_ret (pe_tup (pa_cons pe_str (pa_cons (pe_slice sl_str pe_str po_none (po_some (pe_use U_law_draw (hr.mono (by decide)) hg rfl (pa_cons (pv 0) (pa_cons pe_int pa_nil))))) pa_nil)))))
   pss_nil)
  (pss_cons (ps_if (pt_cmpR op_eq (pv 1) pe_int (nomark _))
   (pss_one (ps_ret (pe_tup (pa_cons pe_str (pa_cons (pe_ix ix_list (pe_lst (pa_cons pe_str (pa_cons pe_str (pa_cons pe_str pa_nil)))) (pe_use U_law_draw (hr.mono (by decide)) hg rfl (pa_cons (pv 0) (pa_cons pe_int pa_nil))) (fun _ _ => rfl)) pa_nil)))))
   pss_nil)
  (pss_one (ps_ret (pe_tup (pa_cons pe_str (pa_cons (pe_op op_sub (pe_op op_mulW (pe_use U_law_draw (hr.mono (by decide)) hg rfl (pa_cons (pv 0) (pa_cons pe_int pa_nil))) (pe_callTy call_int_str (by rfl) T.b_int (by decide +kernel) (pa_cons (pe_op op_add_str pe_str (pe_op op_rep_str pe_str (pe_use U_law_draw (hr.mono (by decide)) hg rfl (pa_cons (pv 0) (pa_cons pe_int pa_nil))))) pa_nil))) (pe_use U_law_draw (hr.mono (by decide)) hg rfl (pa_cons (pv 0) (pa_cons pe_int pa_nil)))) pa_nil)))))))))), ?_⟩
    refine ⟨_, rfl, p, dl, 6, rfl, B, by decide, fun kind H1 k0 k1 B1 K1 => ?_⟩
    refine ⟨_, rfl, rfl, _, rfl, ?_⟩
    refine ite3 (fun _ => ?_) fun _ => ?_
    · refine ⟨sz_1, fun u hu => k _ _ _ (B1.same (Same.new hu)) (K1.trans (Same.keep (Same.new hu))) (Dt.made hu (.cons (.str _) .nil)) ⟨⟨_, _, rfl, by decide +kernel⟩, (Sm.tup (.cons (Sm.short (by decide +kernel)) .nil)).mono (by decide) (by decide), Shp.tup (Shp.cons2 (Shp.str (by decide +kernel)) Shp.none2)⟩⟩
    refine ⟨_, rfl, rfl, _, rfl, ?_⟩
    refine ite3 (fun _ => ?_) fun _ => ?_
    · refine ⟨_, rfl, p, dl, 2, rfl, B1, by decide, fun r H2 r0 r1 B2 K2 => ?_⟩
      refine ⟨rfl, sz_2, fun u hu => k _ _ _ (B2.same (Same.new hu)) ((K1.trans K2).trans (Same.keep (Same.new hu))) (Dt.made hu (.cons (.str _) (.cons (.bl _) .nil))) ⟨⟨_, _, rfl, by decide +kernel⟩, (Sm.tup (.cons (Sm.short (by decide +kernel)) (.cons (Sm.bool _) .nil))).mono (by decide) (by decide), Shp.tup (Shp.cons2 (Shp.str (by decide +kernel)) (Shp.cons2 (Shp.bool _ _) Shp.none2))⟩⟩
    refine ⟨_, rfl, rfl, _, rfl, ?_⟩
    refine ite3 (fun _ => ?_) fun _ => ?_
    · refine ⟨_, rfl, p, dl, 3, rfl, B1, by decide, fun r H2 r0 r1 B2 K2 => ?_⟩
      obtain ⟨z, ez, z1, z2⟩ : ∃ z, cutS "ab" none (some r) = z ∧ shortS z = true ∧ PyData.canLay0 (.str z) = true := by
        obtain ⟨i, rfl⟩ := Int.eq_ofNat_of_zero_le r0
        match i, r1 with
        | 0, _ => exact ⟨"", by decide +kernel, by decide +kernel, by decide +kernel⟩
        | 1, _ => exact ⟨"a", by decide +kernel, by decide +kernel, by decide +kernel⟩
        | 2, _ => exact ⟨"ab", by decide +kernel, by decide +kernel, by decide +kernel⟩
        | i + 3, h => omega
      refine ⟨_, rfl, _, rfl, by decide +kernel, sz_2, fun u hu => ?_⟩
      rw [ez]
      exact k _ _ _ (B2.same (Same.new hu)) ((K1.trans K2).trans (Same.keep (Same.new hu))) (Dt.made hu (.cons (.str _) (.cons (.str _) .nil))) (vok1 (by decide +kernel) z1 (by decide +kernel) z2 (by decide +kernel))
    refine ⟨_, rfl, rfl, _, rfl, ?_⟩
    refine ite3 (fun _ => ?_) fun _ => ?_
    · refine ⟨sz_3, fun l hl => ?_⟩
      have S1 := Same.new (o := .lst [.str "len", .str "print", .str "abs"]) hl
      have lp : l ≠ p := fun e => by subst e; obtain ⟨xs, g⟩ := B1.at_; rw [g] at hl; cases hl
      have el := upd_same (H := H1) (a := l) (o := HO.lst [.str "len", .str "print", .str "abs"])
      have B1' := B1.same S1
      generalize upd H1 l _ = H1' at S1 el B1'
      refine ⟨_, rfl, p, dl, 3, rfl, B1', by decide, fun r H2 r0 r1 B2 K2 => ?_⟩
      obtain ⟨z, ez, z1, z2⟩ : ∃ z, atI [V.str "len", V.str "print", V.str "abs"] r = some (.str z) ∧ shortS z = true ∧ PyData.canLay0 (.str z) = true := by
        obtain ⟨i, rfl⟩ := Int.eq_ofNat_of_zero_le r0
        match i, r1 with
        | 0, _ => exact ⟨"len", at0, by decide +kernel, by decide +kernel⟩
        | 1, _ => exact ⟨"print", at1, by decide +kernel, by decide +kernel⟩
        | 2, _ => exact ⟨"abs", at2, by decide +kernel, by decide +kernel⟩
        | i + 3, h => omega
      refine ⟨l, _, _, _, rfl, rfl, SqL.of (K2 _ _ el lp), ez, sz_2, fun u hu => ?_⟩
      exact k _ _ _ (B2.same (Same.new hu)) (((K1.trans (Same.keep S1)).trans K2).trans (Same.keep (Same.new hu))) (Dt.made hu (.cons (.str _) (.cons (.str _) .nil))) (vok1 (by decide +kernel) z1 (by decide +kernel) z2 (by decide +kernel))
    refine ⟨_, rfl, p, dl, 1000, rfl, B1, by decide, fun r H2 r0 r1 B2 K2 => ?_⟩
    refine ⟨_, rfl, p, dl, 60, rfl, B2, by decide, fun m H3 m0 m1 B3 K3 => ?_⟩
    obtain ⟨n, rfl⟩ := Int.eq_ofNat_of_zero_le m0
    have l0 : ("0" : Str).length = 1 := by decide +kernel
    have e0 : repS "0" (n : Int) = S (List.replicate n 48) := by
      show (⟨(repC ("0" : Str).cps.toList (n : Int)).toArray⟩ : Str) = _
      rw [show ("0" : Str).cps.toList = [48] by decide +kernel]
      have : repC [48] (n : Int) = List.replicate n 48 := by
        show (List.replicate (n : Int).toNat [48]).flatten = List.replicate n 48
        rw [Int.toNat_natCast]
        clear m0 m1
        induction n with
        | zero => rfl
        | succ n ih => rw [List.replicate_succ, List.flatten_cons, ih, List.replicate_succ]; rfl
      rw [this]
    refine ⟨_, _, rfl, rfl, by omega, by omega, by rw [l0]; omega, ?_⟩
    rw [e0, show ("1" : Str) = S [49] by decide +kernel]
    refine ⟨_, _, rfl, rfl, by rw [S_len, S_len]; exact Nat.le_trans (show _ ≤ 100 by simp; omega) (by decide), ?_⟩
    rw [S_cat]
    refine ⟨_, _, rfl, ten_S n (by omega), by rw [S_len]; simp; omega, ?_⟩
    have hb : ((10 : Int) ^ n).natAbs < 2 ^ 250 := by
      have h1 : (10 : Nat) ^ n ≤ 10 ^ 60 := Nat.pow_le_pow_right (by decide) (by omega)
      have h2 : (10 : Nat) ^ 60 < 2 ^ 250 := by decide +kernel
      have h3 : ((10 : Int) ^ n).natAbs = 10 ^ n := by
        rw [Int.natAbs_pow]; rfl
      omega
    refine ⟨_, _, rfl, rfl, wide_mul (a := 10) (b := 250) (by omega) hb (by decide) (by decide) (by decide), ?_⟩
    refine ⟨_, rfl, p, dl, 3, rfl, B3, by decide, fun q H4 q0 q1 B4 K4 => ?_⟩
    refine ⟨_, _, rfl, rfl, sz_2, fun u hu => ?_⟩
    have hi : (r * 10 ^ n - q).natAbs < 2 ^ 1900 := by
      have h1 : (r * 10 ^ n).natAbs < 2 ^ 10 * 2 ^ 250 := by
        rw [Int.natAbs_mul]
        exact Nat.mul_lt_mul'' (by omega) hb
      have h2 : (2 : Nat) ^ 10 * 2 ^ 250 + 3 < 2 ^ 1900 := by decide +kernel
      omega
    exact k _ _ _ (B4.same (Same.new hu)) ((((K1.trans K2).trans K3).trans K4).trans (Same.keep (Same.new hu))) (Dt.made hu (.cons (.str _) (.cons (.int _) .nil))) ⟨⟨_, _, rfl, by decide +kernel⟩, (Sm.tup (.cons (Sm.short (by decide +kernel)) (.cons (Sm.int hi) .nil))).mono (by decide) (by decide), Shp.tup (Shp.cons2 (Shp.str (by decide +kernel)) (Shp.cons2 (Shp.int _ _) Shp.none2))⟩
end

abbrev s_paired : Stmt := top 7
abbrev N_paired : List Str := ["pairs", "x", "name", "value"]
abbrev P_paired : List Str := ["pairs", "x"]
theorem sc_paired : FnScope N_paired P_paired (defScope s_paired) := ⟨rfl, rfl, rfl, by decide +kernel, rfl, by decide +kernel, by decide +kernel⟩
abbrev s_object_kind : Stmt := top 14
abbrev N_object_kind : List Str := ["heap", "value"]
abbrev P_object_kind : List Str := ["heap", "value"]
theorem sc_object_kind : FnScope N_object_kind P_object_kind (defScope s_object_kind) := ⟨rfl, rfl, rfl, by decide +kernel, rfl, by decide +kernel, by decide +kernel⟩
abbrev s_class_line : Stmt := top 19
abbrev N_class_line : List Str := ["heap", "k", "line"]
abbrev P_class_line : List Str := ["heap", "k"]
theorem sc_class_line : FnScope N_class_line P_class_line (defScope s_class_line) := ⟨rfl, rfl, rfl, by decide +kernel, rfl, by decide +kernel, by decide +kernel⟩
abbrev s_member : Stmt := top 20
abbrev N_member : List Str := ["heap", "k", "x", "each", "found"]
abbrev P_member : List Str := ["heap", "k", "x"]
theorem sc_member : FnScope N_member P_member (defScope s_member) := ⟨rfl, rfl, rfl, by decide +kernel, rfl, by decide +kernel, by decide +kernel⟩
section
variable {P : Program} {w : World} {K : PySem.W.Frag} {mg : Str → Option Value} {base : Heap}
abbrev Ms := List (Str × PyData)
def memD (p : Str × PyData) : PyData := .tuple [.str p.1, p.2]
def find : Ms → Str → Option PyData
  | [], _ => none
  | (y, n) :: r, x => if y = x then some n else find r x
def pairD : Option PyData → PyData
  | some d => d
  | none => .tuple []
theorem find_skip {x : Str} : ∀ {vs : Ms} {i : Nat}, (∀ j, j < i → ∀ p, vs[j]? = some p → p.1 ≠ x) → find vs x = find (vs.drop i) x
  | [], i, _ => by simp
  | (y, n) :: r, 0, _ => by simp
  | (y, n) :: r, i + 1, h => by
    have h0 := h 0 (by omega) (y, n) rfl
    show (if y = x then some n else find r x) = find (r.drop i) x
    rw [if_neg h0]
    exact find_skip fun j hj p hp => h (j + 1) (by omega) p hp
theorem find_mem {x : Str} {d : PyData} : ∀ {vs : Ms}, find vs x = some d → ∃ p ∈ vs, p.2 = d
  | [], h => by cases h
  | (y, n) :: r, h => by
    have h : (if y = x then some n else find r x) = some d := h
    split at h
    · exact ⟨_, List.mem_cons_self, Option.some.inj h⟩
    · obtain ⟨p, hp, e⟩ := find_mem h
      exact ⟨p, List.mem_cons_of_mem _ hp, e⟩
theorem find_at {x : Str} {vs : Ms} {i : Nat} {z : Str} {d : PyData} (hall : ∀ j, j < i → ∀ p, vs[j]? = some p → p.1 ≠ x) (hi : vs[i]? = some (z, d)) (c : z = x) : find vs x = some d := by
  have hl : i < vs.length := (List.getElem?_eq_some_iff.mp hi).1
  rw [find_skip (i := i) hall, List.drop_eq_getElem_cons hl]
  have e : vs[i] = (z, d) := Option.some.inj ((List.getElem?_eq_getElem hl).symm.trans hi)
  rw [e]
  show (if z = x then some d else _) = _
  rw [if_pos c]
theorem all_next {x : Str} {vs : Ms} {i : Nat} {z : Str} {d : PyData} (hall : ∀ j, j < i → ∀ p, vs[j]? = some p → p.1 ≠ x) (hi : vs[i]? = some (z, d)) (c : z ≠ x) : ∀ j, j < i + 1 → ∀ p, vs[j]? = some p → p.1 ≠ x := fun j hj p hp => by
  by_cases e : j = i
  · subst e
    rw [hi] at hp
    obtain rfl := Option.some.inj hp
    exact c
  · exact hall j (by omega) p hp
theorem find_none {x : Str} {vs : Ms} (hall : ∀ j, j < vs.length → ∀ p, vs[j]? = some p → p.1 ≠ x) : find vs x = none := by
  rw [find_skip (i := vs.length) hall, List.drop_length]
  rfl
theorem memD_at {H : Hp} {xs : List V} {ms : Ms} {i : Nat} {y : V} (ha : DtAll K H xs (ms.map memD)) (hy : xs[i]? = some y) : ∃ z d q u, ms[i]? = some (z, d) ∧ y = .ref q ∧ SqT K H q [.str z, u] ∧ Dt K H u d := by
  have hl := ha.length
  rw [List.length_map] at hl
  have hi : i < ms.length := by have := (List.getElem?_eq_some_iff.mp hy).1; omega
  have hvi : ms[i]? = some ms[i] := List.getElem?_eq_getElem hi
  generalize ms[i] = p at hvi
  obtain ⟨z, n⟩ := p
  have hd : (ms.map memD)[i]? = some (memD (z, n)) := by rw [List.getElem?_map, hvi]; rfl
  obtain ⟨y', hy', dy⟩ := ha.get hd
  rw [hy] at hy'
  obtain rfl := Option.some.inj hy'
  obtain ⟨q2, u, rfl, hq2, du⟩ := Dt.pair dy
  exact ⟨z, n, q2, u, hvi, rfl, hq2, du⟩
def spPaired (K : PySem.W.Frag) : Sp := fun vs H Q _ => ∃ v vars x, vs = [v, .str x] ∧ Dt K H v (.tuple (vars.map memD)) ∧ ∀ v' H', Same H H' → Dt K H' v' (pairD (find vars x)) → Q v' H'
theorem ok_paired {f : Addr} {fd : FuncData} (F : Fun K "paired" "paired" s_paired f fd) (T : Txt K mg) : FnG P w K mg base CX0 1 f fd P_paired (spPaired K) := by
  refine okG0 F sc_paired (fun vs H Q E h => ?_) fun cdv A outer s H vs Q E hr hg h => ?_
  · obtain ⟨v, vars, x, rfl, _⟩ := h
    rfl
  · obtain ⟨v, vars, x, rfl, hv, k⟩ := h
    refine ⟨_, (pss_cons (ps_for PassesOwn.never rfl (pi_tup (pv 0)) (pg_tup (by rfl) (pgs_cons (pg_name (i := 2) sc_paired.nd rfl (Or.inl rfl)) (pgs_cons (pg_name (i := 3) sc_paired.nd rfl (Or.inl rfl)) pgs_nil)))
   (pss_one (ps_if (pt_cmpR op_eq (pv 2) (pv 1) (nomark _))
   (pss_one (ps_ret (pv 3)))
   pss_nil)))
  (pss_one (ps_ret (pe_tup pa_nil)))), ?_⟩
    obtain ⟨q, xs, rfl, hq, ha⟩ := hv.tuple_inv
    have hl := ha.length
    rw [List.length_map] at hl
    refine ⟨_, rfl, q, rfl, ⟨_, hq⟩, ?_⟩
    refine for_tup (xs := xs) (fun i σ H1 => ∃ x2 x3, σ = [some (.ref q), some (.str x), x2, x3] ∧ H1 = H ∧ (∀ j, j < i → ∀ p, vars[j]? = some p → p.1 ≠ x)) ⟨none, none, rfl, rfl, by simp⟩ ?_ ?_ ?_
    · rintro i σ H1 hi ⟨x2, x3, rfl, rfl, _⟩
      exact hq
    · rintro i y σ H1 hy ⟨x2, x3, rfl, rfl, hall⟩
      obtain ⟨z, n, q2, u, hvi, rfl, hq2, du⟩ := memD_at ha hy
      refine ⟨q2, _, rfl, hq2, rfl, _, _, rfl, _, _, rfl, rfl, ?_⟩
      refine ⟨_, rfl, _, rfl, rfl, _, rfl, ?_⟩
      refine ite3 (fun c => ?_) fun c => ?_
      · have c := V.str.inj (of_decide_eq_true c)
        rw [find_at hall hvi c] at k
        exact ⟨_, rfl, k _ _ (fun _ _ h => h) du⟩
      · have c := of_decide_eq_false c
        exact ⟨_, _, rfl, rfl, all_next hall hvi fun h => c (congrArg V.str h)⟩
    · rintro σ H1 ⟨x2, x3, rfl, rfl, hall⟩
      rw [find_none (by rw [← hl]; exact hall)] at k
      exact ⟨sz_0, fun u hu => k _ _ (Same.new hu) (Dt.made hu .nil)⟩
/-! objects -/
inductive Ob
  | cls (n : Str) (b : Int) (ms : Ms)
  | inst (k : Int) (ms : Ms)
  | other (z : Str) (r : List PyData)
def obD : Ob → PyData
  | .cls n b ms => .tuple [.str "class", .str n, .int b, .tuple (ms.map memD)]
  | .inst k ms => .tuple [.str "inst", .int k, .tuple (ms.map memD)]
  | .other z r => .tuple (.str z :: r)
def tagOf : Ob → Str
  | .cls _ _ _ => "class"
  | .inst _ _ => "inst"
  | .other z _ => z
theorem obD_inv {H : Hp} {v : V} {o : Ob} (h : Dt K H v (obD o)) : ∃ q ws, v = .ref q ∧ SqT K H q (.str (tagOf o) :: ws) := by
  cases o with
  | cls n b ms => obtain ⟨q, ws, e, hs, _⟩ := Dt.head h; exact ⟨q, ws, e, hs⟩
  | inst k ms => obtain ⟨q, ws, e, hs, _⟩ := Dt.head h; exact ⟨q, ws, e, hs⟩
  | other z r => obtain ⟨q, ws, e, hs, _⟩ := Dt.head h; exact ⟨q, ws, e, hs⟩
theorem cls_inv {H : Hp} {v : V} {n : Str} {b : Int} {ms : Ms} (h : Dt K H v (obD (.cls n b ms))) : ∃ q u, v = .ref q ∧ SqT K H q [.str "class", .str n, .int b, u] ∧ Dt K H u (.tuple (ms.map memD)) := by
  obtain ⟨q, ws, rfl, hs, hw⟩ := Dt.head h
  obtain ⟨x1, ws1, rfl, h1, hw⟩ := hw.cons_inv
  obtain ⟨x2, ws2, rfl, h2, hw⟩ := hw.cons_inv
  obtain ⟨x3, ws3, rfl, h3, hw⟩ := hw.cons_inv
  cases hw.nil_inv
  cases h1.str_inv
  cases h2.int_inv
  exact ⟨q, x3, rfl, hs, h3⟩
theorem inst_inv {H : Hp} {v : V} {k : Int} {ms : Ms} (h : Dt K H v (obD (.inst k ms))) : ∃ q u, v = .ref q ∧ SqT K H q [.str "inst", .int k, u] ∧ Dt K H u (.tuple (ms.map memD)) := by
  obtain ⟨q, ws, rfl, hs, hw⟩ := Dt.head h
  obtain ⟨x1, ws1, rfl, h1, hw⟩ := hw.cons_inv
  obtain ⟨x2, ws2, rfl, h2, hw⟩ := hw.cons_inv
  cases hw.nil_inv
  cases h1.int_inv
  exact ⟨q, x2, rfl, hs, h2⟩
theorem ob_at {H : Hp} {hp : Addr} {obs : List Ob} {j : Nat} {o : Ob} (L : ListAt K H hp (obs.map obD)) (h : obs[j]? = some o) : ∃ zs y, H hp = some (.lst zs) ∧ zs[j]? = some y ∧ Dt K H y (obD o) := by
  obtain ⟨zs, ez, az⟩ := L
  obtain ⟨y, hy, dy⟩ := az.get (show (obs.map obD)[j]? = some (obD o) by rw [List.getElem?_map, h]; rfl)
  exact ⟨zs, y, ez, hy, dy⟩
/-- a value, seen with the objects: the kind of the object that it refers to -/
inductive ValK (obs : List Ob) : PyData → Str → Prop
  | ref (j : Nat) (o : Ob) : obs[j]? = some o → ValK obs (.tuple [.str "ref", .int (j : Nat)]) (tagOf o)
  | val (z : Str) (r : List PyData) : z ≠ "ref" → ValK obs (.tuple (.str z :: r)) ""
def spKind (K : PySem.W.Frag) : Sp := fun vs H Q _ => ∃ hp obs v d t, vs = [.ref hp, v] ∧ ListAt K H hp (obs.map obD) ∧ Dt K H v d ∧ ValK obs d t ∧ Q (.str t) H
theorem ok_kind {f : Addr} {fd : FuncData} (F : Fun K "object_kind" "object_kind" s_object_kind f fd) (T : Txt K mg) : FnG P w K mg base CX0 1 f fd P_object_kind (spKind K) := by
  refine okG0 F sc_object_kind (fun vs H Q E h => ?_) fun cdv A outer s H vs Q E hr hg h => ?_
  · obtain ⟨hp, obs, v, d, t, rfl, _⟩ := h
    rfl
  · obtain ⟨hp, obs, v, d, t, rfl, L, dv, hk, k⟩ := h
    refine ⟨_, (pss_cons (ps_if (pt_cmpR op_ne (pe_ix ix_tup (pv 1) pe_int (fun _ _ => rfl)) pe_str (nomark _))
   (pss_one (ps_ret pe_str))
   pss_nil)
  (pss_one (ps_ret (pe_ix ix_tup (pe_ix ix_list (pv 0) (pe_ix ix_tup (pv 1) pe_int (fun _ _ => rfl)) (fun _ _ => rfl)) pe_int (fun _ _ => rfl))))), ?_⟩
    cases hk with
    | ref j o ho =>
      obtain ⟨q, x, rfl, hq, hx⟩ := Dt.pair dv
      cases hx.int_inv
      obtain ⟨zs, y, ez, hy, dy⟩ := ob_at L ho
      obtain ⟨q2, ws, rfl, hq2⟩ := obD_inv dy
      refine ⟨_, rfl, q, _, _, _, rfl, rfl, hq, at0, rfl, _, rfl, iteFb (by decide +kernel) ?_⟩
      exact ⟨_, rfl, _, rfl, q, _, _, _, rfl, rfl, hq, at1, hp, _, _, _, rfl, rfl, SqL.of ez, atI_nat hy, q2, _, _, _, rfl, rfl, hq2, at0, k⟩
    | val z r hz =>
      obtain ⟨q, ws, rfl, hq, _⟩ := Dt.head dv
      refine ⟨_, rfl, q, _, _, _, rfl, rfl, hq, at0, rfl, _, rfl, iteTb ?_ k⟩
      show (!decide (V.str z = V.str "ref")) = true
      rw [decide_eq_false fun h => hz (V.str.inj h)]; rfl
/-! the line of a class -/
inductive Chain (obs : List Ob) : Int → List Int → Prop
  | stop {k : Int} : k < 0 → Chain obs k []
  | next {k : Nat} {n : Str} {b : Int} {ms : Ms} {r : List Int} : obs[k]? = some (.cls n b ms) → b < (k : Int) → Chain obs b r → Chain obs (k : Nat) ((k : Int) :: r)
theorem Chain.mem {obs : List Ob} {k : Int} {l : List Int} (h : Chain obs k l) : ∀ x ∈ l, ∃ (j : Nat) (n : Str) (b : Int) (ms : Ms), x = (j : Int) ∧ obs[j]? = some (.cls n b ms) := by
  induction h with
  | stop _ => intro x hx; cases hx
  | next hk hb _ ih =>
    intro x hx
    rcases List.mem_cons.mp hx with rfl | hx
    · exact ⟨_, _, _, _, rfl, hk⟩
    · exact ih x hx
theorem Chain.len {obs : List Ob} {k : Int} {l : List Int} (h : Chain obs k l) : (l.length : Int) ≤ k + 1 ∨ k < 0 := by
  induction h with
  | stop h => exact .inr h
  | next hk hb hr ih =>
    left
    rw [List.length_cons]
    rcases ih with ih | ih
    · omega
    · cases hr with
      | stop _ => simp; omega
      | next _ _ _ => omega
def spLine (K : PySem.W.Frag) : Sp := fun vs H Q _ => ∃ hp obs k line, vs = [.ref hp, .int k] ∧ ListAt K H hp (obs.map obD) ∧ Chain obs k line ∧ line.length ≤ 1000 ∧ ∀ a H', Same H H' → SqT K H' a (line.map V.int) → Q (.ref a) H'
theorem ok_line {f : Addr} {fd : FuncData} (F : Fun K "class_line" "class_line" s_class_line f fd) (T : Txt K mg) : FnG P w K mg base CX0 1 f fd P_class_line (spLine K) := by
  refine okG0 F sc_class_line (fun vs H Q E h => ?_) fun cdv A outer s H vs Q E hr hg h => ?_
  · obtain ⟨hp, obs, k0, line, rfl, _⟩ := h
    rfl
  · obtain ⟨hp, obs, k0, line, rfl, L, hc, hll, k⟩ := h
    refine ⟨_, (pss_cons (ps_set (i := 2) sc_class_line.nd rfl (Or.inl rfl) (pe_lst pa_nil))
  (pss_cons (ps_while PassesOwn.never (pt_up (pt_cmpR op_ge (pv 1) pe_int (nomark _)))
   (pss_cons (ps_expr (pe_bm PySem.F.plainAttrs_list PySem.F.slot_list_append PySem.F.type_list_append mt_append (pv 2) (pa_cons (pv 1) pa_nil)))
  (pss_one (ps_set (i := 1) sc_class_line.nd rfl (Or.inl rfl) (pe_ix ix_tup (pe_ix ix_list (pv 0) (pv 1) (fun _ _ => rfl)) pe_int (fun _ _ => rfl))))))
  (pss_one (ps_ret (pe_callTy call_tuple_of (by rfl) T.b_tuple (by decide +kernel) (pa_cons (pv 2) pa_nil)))))), ?_⟩
    refine ⟨sz_0, fun la hla => ?_⟩
    have lah : hp ≠ la := by obtain ⟨zs, ez, _⟩ := L; exact ne_of_none ez hla
    refine while_up (fun σ H1 => ∃ (k1 : Int) (dn rest : List Int), σ = [some (.ref hp), some (.int k1), some (.ref la)] ∧ dn ++ rest = line ∧ Chain obs k1 rest ∧ H1 la = some (.lst (dn.map V.int)) ∧ Same H H1)
      (fun (σ : L2.St) (_ : Hp) => match σ[1]? with | some (some (V.int j)) => (j + 1).toNat | _ => 0) ⟨k0, [], line, rfl, rfl, hc, upd_same, Same.new hla⟩ ?_
    rintro σ H1 ⟨k1, dn, rest, rfl, hdr, hc1, e1, S1⟩
    refine ⟨_, rfl, _, _, rfl, rfl, _, rfl, ?_⟩
    cases hc1 with
    | stop hk =>
      refine iteFb (decide_eq_false (by omega)) ?_
      rw [List.append_nil] at hdr
      subst hdr
      exact ⟨_, rfl, la, _, rfl, .inl ⟨SqL.of e1, fun t ht => k t _ (S1.trans (Same.new ht)) (SqT.of upd_same)⟩⟩
    | @next j n b ms r hj hb hr =>
      refine iteTb (decide_eq_true (by omega)) ?_
      have hdl : dn.length ≤ 1000 := by rw [← hdr, List.length_append] at hll; omega
      refine ⟨_, rfl, .inl ⟨rfl, _, SqL.of e1⟩, _, rfl, la, _, _, rfl, rfl, e1, by rw [List.length_map]; exact Nat.lt_of_le_of_lt hdl (by decide), ?_⟩
      have S2 : Same H (upd H1 la (.lst (dn.map V.int ++ [.int (j : Nat)]))) := fun b o hb => by rw [upd_ne (ne_of_none hb hla)]; exact S1 b o hb
      obtain ⟨zs, y, ez, hy, dy⟩ := ob_at (listAt_mono L S2) hj
      obtain ⟨q, u, rfl, hq, du⟩ := cls_inv dy
      refine ⟨_, rfl, _, rfl, hp, _, _, _, rfl, rfl, SqL.of ez, atI_nat hy, q, _, _, _, rfl, rfl, hq, at2, ?_⟩
      refine ⟨⟨b, dn ++ [(j : Int)], r, rfl, by rw [List.append_assoc]; exact hdr, hr, by rw [upd_same, List.map_append]; rfl, S2⟩, ?_⟩
      show (b + 1).toNat < ((j : Int) + 1).toNat
      omega
/-! members -/
def msOf (obs : List Ob) (k : Int) : Ms := match obs[k.toNat]? with
  | some (.cls _ _ ms) => ms
  | _ => []
def memF (obs : List Ob) : List Int → Str → Option PyData
  | [], _ => none
  | k :: r, x => match find (msOf obs k) x with
    | some d => some d
    | none => memF obs r x
theorem msOf_cls {obs : List Ob} {j : Nat} {n : Str} {b : Int} {ms : Ms} (h : obs[j]? = some (.cls n b ms)) : msOf obs (j : Int) = ms := by
  unfold msOf
  rw [Int.toNat_natCast, h]
theorem eqv_pair {o : Option PyData} (h : ∀ d, o = some d → VOk d) : PyData.eqv (pairD o) (.tuple []) = o.isNone := by
  cases o with
  | none => rw [show pairD none = .tuple [] from rfl, eqv_nil]; rfl
  | some d =>
    obtain ⟨z, r, rfl, _⟩ := (h d rfl).tup
    rw [show pairD (some (PyData.tuple (.str z :: r))) = .tuple (.str z :: r) from rfl, eqv_nil]; rfl
theorem shp_pair {o : Option PyData} (h : ∀ d, o = some d → VOk d) : SeqAt.shaped (pairD o) = true := by
  cases o with
  | none => rfl
  | some d => exact (h d rfl).shp.sh (by decide)
/-- each member of each class is a value -/
def MOk (obs : List Ob) : Prop := ∀ (j : Nat) (n : Str) (b : Int) (ms : Ms), obs[j]? = some (.cls n b ms) → ∀ p ∈ ms, VOk p.2
theorem MOk.find {obs : List Ob} (h : MOk obs) {k : Int} {x : Str} : ∀ d, find (msOf obs k) x = some d → VOk d := fun d hd => by
  obtain ⟨p, hp, rfl⟩ := find_mem hd
  unfold msOf at hp
  split at hp
  · next e => exact h _ _ _ _ e p hp
  · cases hp
theorem memF_ok {obs : List Ob} (h : MOk obs) {x : Str} : ∀ {l : List Int} d, memF obs l x = some d → VOk d
  | [], d, hd => by cases hd
  | k :: r, d, hd => by
    have hd : (match find (msOf obs k) x with | some d => some d | none => memF obs r x) = some d := hd
    cases hf : find (msOf obs k) x with
    | some e => rw [hf] at hd; exact h.find d (hf.trans hd)
    | none => rw [hf] at hd; exact memF_ok h d hd
def spMember (K : PySem.W.Frag) : Sp := fun vs H Q _ => ∃ hp obs k line x, vs = [.ref hp, .int k, .str x] ∧ ListAt K H hp (obs.map obD) ∧ Chain obs k line ∧ line.length ≤ 1000 ∧ MOk obs ∧ ∀ v H', Same H H' → Dt K H' v (pairD (memF obs line x)) → Q v H'
theorem ok_member {f : Addr} {fd : FuncData} (F : Fun K "member" "member" s_member f fd) (T : Txt K mg) (U_class_line : Use P w K mg base CX0 "class_line" 1 P_class_line (spLine K)) (U_paired : Use P w K mg base CX0 "paired" 1 P_paired (spPaired K)) :
    FnG P w K mg base CX0 2 f fd P_member (spMember K) := by
  refine okG0 F sc_member (fun vs H Q E h => ?_) fun cdv A outer s H vs Q E hr hg h => ?_
  · obtain ⟨hp, obs, k0, line, x, rfl, _⟩ := h
    rfl
  · obtain ⟨hp, obs, k0, line, x, rfl, L, hc, hll, hM, k⟩ := h
    refine ⟨_, (pss_cons (ps_for PassesOwn.never rfl (pi_tup (pe_use U_class_line (hr.mono (by decide)) hg rfl (pa_cons (pv 0) (pa_cons (pv 1) pa_nil)))) (pg_name (i := 3) sc_member.nd rfl (Or.inl rfl))
   (pss_cons (ps_set (i := 4) sc_member.nd rfl (Or.inl rfl) (pe_use U_paired (hr.mono (by decide)) hg rfl (pa_cons (pe_ix ix_tup (pe_ix ix_list (pv 0) (pv 3) (fun _ _ => rfl)) pe_int (fun _ _ => rfl)) (pa_cons (pv 2) pa_nil))))
  (pss_one (ps_if (pt_cmpR (op_neD hr.units) (pv 4) (pe_tup pa_nil) (nomark _))
   (pss_one (ps_ret (pv 4)))
   pss_nil))))
  (pss_one (ps_ret (pe_tup pa_nil)))), ?_⟩
    refine ⟨_, rfl, _, rfl, hp, obs, k0, line, rfl, L, hc, hll, fun la H1 S1 hla => ?_⟩
    refine ⟨la, rfl, ⟨_, hla⟩, ?_⟩
    refine for_tup (xs := line.map V.int) (fun i σ H2 => ∃ x3 x4, σ = [some (.ref hp), some (.int k0), some (.str x), x3, x4] ∧ Same H1 H2 ∧ memF obs line x = memF obs (line.drop i) x) ⟨none, none, rfl, fun _ _ h => h, by simp⟩ ?_ ?_ ?_
    · rintro i σ H2 hi ⟨x3, x4, rfl, S2, _⟩
      exact Same.tupl S2 hla
    · rintro i y σ H2 hy ⟨x3, x4, rfl, S2, hm⟩
      rw [List.getElem?_map] at hy
      obtain ⟨e, he, rfl⟩ := Option.map_eq_some_iff.mp hy
      obtain ⟨j, n, b, ms, rfl, hj⟩ := hc.mem e (List.mem_of_getElem? he)
      have hil : i < line.length := (List.getElem?_eq_some_iff.mp he).1
      have hdr : line.drop i = (j : Int) :: line.drop (i + 1) := by
        rw [List.drop_eq_getElem_cons hil]
        congr 1
        exact Option.some.inj ((List.getElem?_eq_getElem hil).symm.trans he)
      have hstep : memF obs (line.drop i) x = (match find ms x with | some d => some d | none => memF obs (line.drop (i + 1)) x) := by
        rw [hdr]
        show (match find (msOf obs (j : Int)) x with | some d => some d | none => memF obs (line.drop (i + 1)) x) = _
        rw [msOf_cls hj]
      rw [hstep] at hm
      have hfok : ∀ d, find ms x = some d → VOk d := fun d hd => hM.find (k := (j : Int)) d (by rw [msOf_cls hj]; exact hd)
      obtain ⟨zs, y, ez, hy2, dy⟩ := ob_at (listAt_mono L (S1.trans S2)) hj
      obtain ⟨q, u, rfl, hq, du⟩ := cls_inv dy
      refine ⟨_, rfl, _, rfl, hp, _, _, _, rfl, rfl, SqL.of ez, atI_nat hy2, q, _, _, _, rfl, rfl, hq, at_of' (j := 3) rfl rfl, _, rfl, u, ms, x, rfl, du, fun v1 H3 S3 d1 => ?_⟩
      refine ⟨_, rfl, sz_0, fun u2 hu2 => ?_⟩
      have S4 := Same.new (o := .tup []) hu2
      refine ⟨_, _, (d1.mono S4).dp, (Dt.made hu2 .nil).dp, shp_pair hfok, rfl, ?_⟩
      rw [eqv_pair hfok]
      cases hf : find ms x with
      | some d =>
        rw [hf] at hm d1
        refine ⟨_, rfl, iteTb rfl ?_⟩
        rw [hm] at k
        exact ⟨_, rfl, k _ _ (((S1.trans S2).trans S3).trans S4) (d1.mono S4)⟩
      | none =>
        rw [hf] at hm
        refine ⟨_, rfl, iteFb rfl ?_⟩
        exact ⟨_, _, rfl, (S2.trans S3).trans S4, hm⟩
    · rintro σ H2 ⟨x3, x4, rfl, S2, hm⟩
      rw [List.length_map, List.drop_length] at hm
      rw [hm] at k
      exact ⟨sz_0, fun u hu => k _ _ ((S1.trans S2).trans (Same.new hu)) (Dt.made hu .nil)⟩
end

abbrev s_start_heap : Stmt := top 5
abbrev N_start_heap : List Str := ["hosts", "variables", "at", "name", "heap", "base"]
abbrev P_start_heap : List Str := ["hosts"]
theorem sc_start_heap : FnScope N_start_heap P_start_heap (defScope s_start_heap) := ⟨rfl, rfl, rfl, by decide +kernel, rfl, by decide +kernel, by decide +kernel⟩
section
variable {P : Program} {w : World} {K : PySem.W.Frag} {mg : Str → Option Value} {base : Heap}
theorem ok_start {f : Addr} {fd : FuncData} (F : Fun K "start_heap" "start_heap" s_start_heap f fd) (T : Txt K mg) : FnG P w K mg base CX0 1 f fd P_start_heap (spStart K) := by
  refine okG0 F sc_start_heap (fun vs H Q E h => ?_) fun cdv A outer s H vs Q E hr hg h => ?_
  · obtain ⟨t, hs, rfl, _⟩ := h
    rfl
  · obtain ⟨t, hs, rfl, ht, hl, k⟩ := h
    refine ⟨_, (pss_cons (ps_setLc (i := 1) (own := [("at", 2), ("name", 3)]) (g := (gTup K 2 (gCons (gName 2) (gCons (gName 3) gNil)))) rfl sc_start_heap.nd rfl rfl (sw_true rfl rfl rfl (by decide +kernel)) (pi_enumT (by rfl) T.b_enumerate (pa_cons (pe_globT T.c_CLASSES (by rfl)) pa_nil)) (blkOk_by (N := N_start_heap) (sc := defScope s_start_heap) (by decide +kernel)) (fun _ _ _ _ _ => (pg_tup (by rfl) (pgs_cons (pg_name (i := 2) sc_start_heap.nd rfl (Or.inl rfl)) (pgs_cons (pg_name (i := 3) sc_start_heap.nd rfl (Or.inl rfl)) pgs_nil)))) (fun _ _ _ _ _ => pts_nil) (fun _ _ _ _ _ => (pe_tup (pa_cons (pv 3) (pa_cons (pe_tup (pa_cons pe_str (pa_cons (pe_op op_add (pv 2) pe_int) pa_nil))) pa_nil)))))
  (pss_cons (ps_expr (pe_bm PySem.F.plainAttrs_list PySem.F.slot_list_extend PySem.F.type_list_extend mt_extend (pv 1) (pa_cons (pe_lc (own := [("name", 3)]) (g := (gName 3)) rfl sc_start_heap.nd (pi_tup (pe_globT T.c_BUILT (by rfl))) (blkOk_by (N := N_start_heap) (sc := defScope s_start_heap) (by decide +kernel)) (fun _ _ _ _ _ => (pg_name (i := 3) sc_start_heap.nd rfl (Or.inl rfl))) (fun _ _ _ _ _ => pts_nil) (fun _ _ _ _ _ => (pe_tup (pa_cons (pv 3) (pa_cons (pe_tup (pa_cons pe_str (pa_cons (pv 3) pa_nil))) pa_nil))))) pa_nil)))
  (pss_cons (ps_expr (pe_bm PySem.F.plainAttrs_list PySem.F.slot_list_extend PySem.F.type_list_extend mt_extend (pv 1) (pa_cons (pe_lc (own := [("name", 3)]) (g := (gName 3)) rfl sc_start_heap.nd (pi_tup (pv 0)) (blkOk_by (N := N_start_heap) (sc := defScope s_start_heap) (by decide +kernel)) (fun _ _ _ _ _ => (pg_name (i := 3) sc_start_heap.nd rfl (Or.inl rfl))) (fun _ _ _ _ _ => pts_nil) (fun _ _ _ _ _ => (pe_tup (pa_cons (pv 3) (pa_cons (pe_tup (pa_cons pe_str (pa_cons (pv 3) pa_nil))) pa_nil))))) pa_nil)))
  (pss_cons (ps_set (i := 4) sc_start_heap.nd rfl (Or.inl rfl) (pe_lst (pa_cons (pe_tup (pa_cons pe_str (pa_cons (pe_callTy call_tuple_of (by rfl) T.b_tuple (by decide +kernel) (pa_cons (pv 1) pa_nil)) (pa_cons (pe_tup pa_nil) (pa_cons (pe_tup pa_nil) (pa_cons (pe_un un_neg pe_int) (pa_cons pe_bl pa_nil))))))) pa_nil)))
  (pss_cons (ps_for PassesOwn.never rfl (RZ.pi_zipA (by rfl) T.b_zip (pa_cons (pe_globT T.c_CLASSES (by rfl)) (pa_cons (pe_globT T.c_BASES (by rfl)) pa_nil))) (pg_tup (by rfl) (pgs_cons (pg_name (i := 3) sc_start_heap.nd rfl (Or.inl rfl)) (pgs_cons (pg_name (i := 5) sc_start_heap.nd rfl (Or.inl rfl)) pgs_nil)))
   (pss_one (ps_expr (pe_bm PySem.F.plainAttrs_list PySem.F.slot_list_append PySem.F.type_list_append mt_append (pv 4) (pa_cons (pe_tup (pa_cons pe_str (pa_cons (pv 3) (pa_cons (pv 5) (pa_cons (pe_tup pa_nil) pa_nil))))) pa_nil)))))
  (pss_one (ps_ret (pv 4)))))))), ?_⟩
    -- the classes' names
    refine fun ac kc => ⟨ac, _, rfl, kc.sq _, fun D hD => ?_⟩
    refine lc_dt (K := K) (walk_enumT (xs := clsNames.map V.str)) hD clsVars (by simp [clsVars]) (by decide) (fun H' _ => kc.sq _) ?_ ?_ mono_tup2
    · rintro i x H1 H2 d Nx hi hd S1 _ ⟨u, x1, x2, rfl, hu, rfl, e1, e2⟩ q
      cases e1
      refine ⟨u, _, rfl, SqT.of upd_same, rfl, _, _, rfl, _, _, rfl, rfl, rfl, ?_⟩
      refine ⟨_, rfl, _, rfl, _, _, rfl, rfl, sz_2, fun z hz => ⟨sz_2, fun y hy => q _ _ ((Same.new hu).trans ((Same.new hz).trans (Same.new hy))) ?_⟩⟩
      have hn : ∃ n, x2 = .str n ∧ d = clsVar i n := by
        have e2 : (clsNames.map V.str)[i]? = some x2 := e2
        rw [List.getElem?_map] at e2
        have hd : (clsNames.mapIdx clsVar)[i]? = some d := hd
        rw [List.getElem?_mapIdx] at hd
        cases en : clsNames[i]? with
        | none => rw [en] at e2; cases e2
        | some n => rw [en] at e2 hd; exact ⟨n, (Option.some.inj e2).symm, (Option.some.inj hd).symm⟩
      obtain ⟨n, rfl, rfl⟩ := hn
      exact Dt.made hy (.cons (.str _) (.cons (Dt.made hz (.cons (.str _) (.cons (.int _) .nil))) .nil))
    intro H1 vs1 S1 d1 a1
    -- the built-in functions' names
    refine ⟨_, rfl, .inl ⟨rfl, _, SqL.of d1⟩, fun ab kb => ⟨ab, rfl, ⟨_, kb.sq _⟩, fun D2 hD2 => ?_⟩⟩
    refine lc_dt (K := K) (walk_tup (xs := builtNames.map V.str)) hD2 (builtNames.map (nameVar "built")) (by simp) (by decide) (fun H' _ => kb.sq _) ?_ ?_ mono_name
    · rintro i x H3 H4 d Nx hi hd S3 _ ⟨rfl, e2⟩ q
      refine ⟨rfl, _, rfl, _, rfl, sz_2, fun z hz => ⟨sz_2, fun y hy => q _ _ ((Same.new hz).trans (Same.new hy)) ?_⟩⟩
      have hn : ∃ n, x = .str n ∧ d = nameVar "built" n := by
        rw [List.getElem?_map] at e2 hd
        cases en : builtNames[i]? with
        | none => rw [en] at e2; cases e2
        | some n => rw [en] at e2 hd; exact ⟨n, (Option.some.inj e2).symm, (Option.some.inj hd).symm⟩
      obtain ⟨n, rfl, rfl⟩ := hn
      exact Dt.made hy (.cons (.str _) (.cons (Dt.made hz (.cons (.str _) (.cons (.str _) .nil))) .nil))
    intro H2 vs2 S2 d2 a2
    have d1' := S2 _ _ d1
    have n2 : D ≠ D2 := ne_of_none d1 hD2
    have l1 : vs1.length = 16 := by rw [a1.length]; decide
    have l2 : vs2.length = 13 := by rw [a2.length]; decide
    refine ⟨D, D2, vs1, vs2, rfl, rfl, d1', d2, by rw [l1, l2]; decide, ?_⟩
    have kt3 : KeepT K H2 (upd H2 D (.lst (vs1 ++ vs2))) := KeepT.upd d1'
    have a12 := DtAll.app (DtAll.keepT (KeepT.trans (Same.keepT S2) kt3) a1) (DtAll.keepT kt3 a2)
    have S3 : Same H (upd H2 D (.lst (vs1 ++ vs2))) := fun b o e => by rw [upd_ne (ne_of_none e hD)]; exact S2 _ _ (S1 _ _ e)
    have d3 : upd H2 D (.lst (vs1 ++ vs2)) D = some (.lst (vs1 ++ vs2)) := upd_same
    generalize upd H2 D (.lst (vs1 ++ vs2)) = H3 at a12 S3 d3 ⊢
    -- the host's functions
    refine ⟨_, rfl, .inl ⟨rfl, _, SqL.of d3⟩, _, rfl, t, rfl, ⟨_, SqT.mono ht S3⟩, fun D4 hD4 => ?_⟩
    refine lc_dt (K := K) (walk_tup (xs := hs.map V.str)) hD4 (hs.map (nameVar "host")) (by simp) (Nat.lt_of_le_of_lt (by simpa using hl) (show 1000 < sizeLine by decide)) (fun H' S => SqT.mono ht (S3.trans S)) ?_ ?_ mono_name
    · rintro i x H4 H5 d Nx hi hd S4 _ ⟨rfl, e2⟩ q
      refine ⟨rfl, _, rfl, _, rfl, sz_2, fun z hz => ⟨sz_2, fun y hy => q _ _ ((Same.new hz).trans (Same.new hy)) ?_⟩⟩
      have hn : ∃ n, x = .str n ∧ d = nameVar "host" n := by
        rw [List.getElem?_map] at e2 hd
        cases en : hs[i]? with
        | none => rw [en] at e2; cases e2
        | some n => rw [en] at e2 hd; exact ⟨n, (Option.some.inj e2).symm, (Option.some.inj hd).symm⟩
      obtain ⟨n, rfl, rfl⟩ := hn
      exact Dt.made hy (.cons (.str _) (.cons (Dt.made hz (.cons (.str _) (.cons (.str _) .nil))) .nil))
    intro H4 vs4 S4 d4 a4
    have d3' := S4 _ _ d3
    have l4 : vs4.length ≤ 1000 := by rw [a4.length]; simpa using hl
    refine ⟨D, D4, vs1 ++ vs2, vs4, rfl, rfl, d3', d4, ?_, ?_⟩
    · rw [List.length_append, l1, l2]; exact Nat.le_trans (Nat.add_le_add_left l4 _) (by decide)
    have kt5 : KeepT K H4 (upd H4 D (.lst (vs1 ++ vs2 ++ vs4))) := KeepT.upd d3'
    have a14 := DtAll.app (DtAll.keepT (KeepT.trans (Same.keepT S4) kt5) a12) (DtAll.keepT kt5 a4)
    have S5 : Same H (upd H4 D (.lst (vs1 ++ vs2 ++ vs4))) := fun b o e => by rw [upd_ne (ne_of_none e hD)]; exact S4 _ _ (S3 _ _ e)
    have d5 : upd H4 D (.lst (vs1 ++ vs2 ++ vs4)) D = some (.lst (vs1 ++ vs2 ++ vs4)) := upd_same
    generalize upd H4 D (.lst (vs1 ++ vs2 ++ vs4)) = H5 at a14 S5 d5 ⊢
    -- heap = [("scope", ..)]
    refine ⟨_, rfl, D, _, rfl, .inl ⟨SqL.of d5, fun t1 h1 => ⟨sz_0, fun t2 h2 => ⟨sz_0, fun t3 h3 => ⟨_, rfl, (by show 6 ≤ sizeLine; decide), fun t4 h4 => ⟨sz_1, fun hp hhp => ?_⟩⟩⟩⟩⟩⟩
    have v1 : Dt K (upd H5 t1 (.tup (vs1 ++ vs2 ++ vs4))) (.ref t1) (.tuple (startVars hs)) := Dt.made h1 a14
    have v2 := Dt.mono (Same.new (o := .tup []) h2) v1
    have v3 := Dt.mono (Same.new (o := .tup []) h3) v2
    have w2 : Dt K (upd (upd H5 t1 (.tup (vs1 ++ vs2 ++ vs4))) t2 (.tup [])) (.ref t2) (.tuple []) := Dt.made h2 .nil
    have w3 := Dt.mono (Same.new (o := .tup []) h3) w2
    have w4 : Dt K (upd (upd (upd H5 t1 (.tup (vs1 ++ vs2 ++ vs4))) t2 (.tup [])) t3 (.tup [])) (.ref t3) (.tuple []) := Dt.made h3 .nil
    have v4 := Dt.mono (Same.new (o := .lst [.ref t4]) hhp) (Dt.made h4 (.cons (.str "scope") (.cons v3 (.cons w3 (.cons w4 (.cons (.int (-1)) (.cons (.bl false) .nil)))))))
    have S6 := S5.trans ((Same.new h1).trans ((Same.new h2).trans ((Same.new h3).trans ((Same.new (o := .tup [.str "scope", .ref t1, .ref t2, .ref t3, .int (-1), .bl false]) h4).trans (Same.new (o := .lst [.ref t4]) hhp)))))
    have nh : H hp = none := Same.free (S5.trans ((Same.new h1).trans ((Same.new h2).trans ((Same.new h3).trans (Same.new (o := .tup [.str "scope", .ref t1, .ref t2, .ref t3, .int (-1), .bl false]) h4))))) hhp
    refine fun ac2 kc2 => fun ab2 kb2 => ⟨ac2, ab2, _, _, rfl, .inr ⟨kc2.sq _, kb2.sq _, ?_⟩⟩
    refine RZ.for_zipT (xs := clsNames.map V.str) (ys := clsBases.map V.int) rfl (fun i σ H' => ∃ y3 y5, σ = [some (.ref t), some (.ref D), none, y3, some (.ref hp), y5] ∧ Same H H' ∧ ListAt K H' hp (PyData.tuple [.str "scope", .tuple (startVars hs), .tuple [], .tuple [], .int (-1), .bool false] :: (List.zipWith clsObj clsNames clsBases).take i))
      ⟨none, none, rfl, S6, _, upd_same, .cons v4 .nil⟩ (fun _ _ _ _ => ⟨kc2.sq _, kb2.sq _⟩) ?_ ?_
    · rintro i x y T1 σ H6 hx hy ⟨y3, y5, rfl, S7, xs, hxs, ax⟩ hT1
      have xs1 := Same.new (o := .tup [x, y]) hT1 _ _ hxs
      refine ⟨T1, _, rfl, SqT.of upd_same, rfl, _, _, rfl, _, _, rfl, rfl, _, rfl, .inl ⟨rfl, _, SqL.of xs1⟩, _, rfl, _, rfl, sz_0, fun u hu => ⟨sz_4, fun z hz => ?_⟩⟩
      have hn : ∃ n b, x = .str n ∧ y = .int b ∧ (List.zipWith clsObj clsNames clsBases)[i]? = some (clsObj n b) := by
        rw [List.getElem?_map] at hx hy
        cases en : clsNames[i]? with
        | none => rw [en] at hx; cases hx
        | some n =>
          cases eb : clsBases[i]? with
          | none => rw [eb] at hy; cases hy
          | some b =>
            rw [en] at hx; rw [eb] at hy
            exact ⟨n, b, (Option.some.inj hx).symm, (Option.some.inj hy).symm, by rw [List.getElem?_zipWith, en, eb]⟩
      obtain ⟨n, b, rfl, rfl, he⟩ := hn
      have S8 := (Same.new (o := .tup [.str n, .int b]) hT1).trans ((Same.new (o := .tup []) hu).trans (Same.new (o := .tup [.str "class", .str n, .int b, .ref u]) hz))
      have xs2 := S8 _ _ hxs
      have dz : Dt K _ (.ref z) (clsObj n b) := Dt.made hz (.cons (.str "class") (.cons (.str n) (.cons (.int b) (.cons (Dt.made hu .nil) .nil))))
      have ax2 := DtAll.mono S8 ax
      generalize upd (upd (upd H6 T1 _) u _) z _ = H7 at S8 xs2 dz ax2
      have lx : xs.length ≤ 1 + 16 := by
        rw [ax.length]
        have := List.length_take_le' i (List.zipWith clsObj clsNames clsBases)
        have e16 : (List.zipWith clsObj clsNames clsBases).length = 16 := by decide
        simp only [List.length_cons]
        omega
      refine ⟨hp, xs, .ref z, rfl, rfl, xs2, Nat.lt_of_le_of_lt lx (by decide), _, _, rfl, fun q o e => ?_, _, upd_same, ?_⟩
      · rw [upd_ne (ne_of_none e nh)]
        exact S8 _ _ (S7 _ _ e)
      · rw [List.take_succ, he, ← List.cons_append]
        exact DtAll.app (DtAll.keepT (KeepT.upd xs2) ax2) (.cons (Dt.keepT (KeepT.upd xs2) dz) .nil)
    · rintro σ H6 ⟨y3, y5, rfl, S7, ax⟩
      exact ⟨_, rfl, k hp H6 nh S7 ax⟩
end

abbrev s_with_pair : Stmt := top 8
abbrev N_with_pair : List Str := ["pairs", "x", "value", "made", "found", "pair"]
abbrev P_with_pair : List Str := ["pairs", "x", "value"]
theorem sc_with_pair : FnScope N_with_pair P_with_pair (defScope s_with_pair) := ⟨rfl, rfl, rfl, by decide +kernel, rfl, by decide +kernel, by decide +kernel⟩
abbrev s_kind_name : Stmt := top 13
abbrev N_kind_name : List Str := ["heap", "value", "found"]
abbrev P_kind_name : List Str := ["heap", "value"]
theorem sc_kind_name : FnScope N_kind_name P_kind_name (defScope s_kind_name) := ⟨rfl, rfl, rfl, by decide +kernel, rfl, by decide +kernel, by decide +kernel⟩
abbrev s_no_attribute : Stmt := top 27
abbrev N_no_attribute : List Str := ["heap", "value", "x"]
abbrev P_no_attribute : List Str := ["heap", "value", "x"]
theorem sc_no_attribute : FnScope N_no_attribute P_no_attribute (defScope s_no_attribute) := ⟨rfl, rfl, rfl, by decide +kernel, rfl, by decide +kernel, by decide +kernel⟩
abbrev s_attribute_of_instance : Stmt := top 24
abbrev N_attribute_of_instance : List Str := ["heap", "value", "x", "_", "k", "members", "found", "function"]
abbrev P_attribute_of_instance : List Str := ["heap", "value", "x"]
theorem sc_attribute_of_instance : FnScope N_attribute_of_instance P_attribute_of_instance (defScope s_attribute_of_instance) := ⟨rfl, rfl, rfl, by decide +kernel, rfl, by decide +kernel, by decide +kernel⟩
abbrev s_attribute : Stmt := top 21
abbrev N_attribute : List Str := ["heap", "value", "x", "kind", "found"]
abbrev P_attribute : List Str := ["heap", "value", "x"]
theorem sc_attribute : FnScope N_attribute P_attribute (defScope s_attribute) := ⟨rfl, rfl, rfl, by decide +kernel, rfl, by decide +kernel, by decide +kernel⟩
abbrev s_put_attribute : Stmt := top 22
abbrev N_put_attribute : List Str := ["heap", "value", "x", "w", "kind", "_", "k", "members", "name", "base"]
abbrev P_put_attribute : List Str := ["heap", "value", "x", "w"]
theorem sc_put_attribute : FnScope N_put_attribute P_put_attribute (defScope s_put_attribute) := ⟨rfl, rfl, rfl, by decide +kernel, rfl, by decide +kernel, by decide +kernel⟩
abbrev s_law_put : Stmt := top 35
abbrev N_law_put : List Str := ["rows", "name", "value", "k"]
abbrev P_law_put : List Str := ["rows", "name", "value"]
theorem sc_law_put : FnScope N_law_put P_law_put (defScope s_law_put) := ⟨rfl, rfl, rfl, by decide +kernel, rfl, by decide +kernel, by decide +kernel⟩
abbrev s_law : Stmt := top 36
abbrev N_law : List Str := ["script", "box", "names", "heap", "first", "k", "rows", "at", "name", "value", "before", "due", "told", "n", "target", "words", "thing", "members"]
abbrev P_law : List Str := ["script"]
theorem sc_law : FnScope N_law P_law (defScope s_law) := ⟨rfl, rfl, rfl, by decide +kernel, rfl, by decide +kernel, by decide +kernel⟩
section
variable {P : Program} {w : World} {K : PySem.W.Frag} {mg : Str → Option Value} {base : Heap}
def repl (vs : Ms) (x : Str) (n : PyData) : Ms := vs.map fun p => if p.1 = x then (x, n) else p
def has (vs : Ms) (x : Str) : Bool := vs.any fun p => decide (p.1 = x)
def withP (vs : Ms) (x : Str) (n : PyData) : Ms := if has vs x = true then repl vs x n else vs ++ [(x, n)]
def spWith (K : PySem.W.Frag) : Sp := fun vs H Q _ => ∃ (v u : V) (vars : Ms) (x : Str) (n : PyData), vs = [v, .str x, u] ∧ Dt K H v (.tuple (vars.map memD)) ∧ Dt K H u n ∧ vars.length ≤ 1000 ∧ ∀ v' H', Same H H' → Dt K H' v' (.tuple ((withP vars x n).map memD)) → Q v' H'
theorem ok_with {f : Addr} {fd : FuncData} (F : Fun K "with_pair" "with_pair" s_with_pair f fd) (T : Txt K mg) : FnG P w K mg base CX0 1 f fd P_with_pair (spWith K) := by
  refine okG0 F sc_with_pair (fun vs H Q E h => ?_) fun cdv A outer s H vs Q E hr hg h => ?_
  · obtain ⟨v, u, vars, x, n, rfl, _⟩ := h
    rfl
  · obtain ⟨v, u, vars, x, n, rfl, hv, hu, hvl, k⟩ := h
    refine ⟨_, (pss_cons (ps_set (i := 3) sc_with_pair.nd rfl (Or.inl rfl) (pe_lst pa_nil))
  (pss_cons (ps_set (i := 4) sc_with_pair.nd rfl (Or.inl rfl) pe_bl)
  (pss_cons (ps_for PassesOwn.never rfl (pi_tup (pv 0)) (pg_name (i := 5) sc_with_pair.nd rfl (Or.inl rfl))
   (pss_one (ps_if (pt_cmpR op_eq (pe_ix ix_tup (pv 5) pe_int (fun _ _ => rfl)) (pv 1) (nomark _))
   (pss_cons (ps_expr (pe_bm PySem.F.plainAttrs_list PySem.F.slot_list_append PySem.F.type_list_append mt_append (pv 3) (pa_cons (pe_tup (pa_cons (pv 1) (pa_cons (pv 2) pa_nil))) pa_nil)))
  (pss_one (ps_set (i := 4) sc_with_pair.nd rfl (Or.inl rfl) pe_bl)))
   (pss_one (ps_expr (pe_bm PySem.F.plainAttrs_list PySem.F.slot_list_append PySem.F.type_list_append mt_append (pv 3) (pa_cons (pv 5) pa_nil)))))))
  (C8.pss_cut (ps_if (pt_not (pt_val (pv 4)))
   (pss_one (ps_expr (pe_bm PySem.F.plainAttrs_list PySem.F.slot_list_append PySem.F.type_list_append mt_append (pv 3) (pa_cons (pe_tup (pa_cons (pv 1) (pa_cons (pv 2) pa_nil))) pa_nil))))
   pss_nil)
  (pss_one (ps_ret (pe_callTy call_tuple_of (by rfl) T.b_tuple (by decide +kernel) (pa_cons (pv 3) pa_nil)))))))), ?_⟩
    obtain ⟨q, xs, rfl, hq, ha⟩ := hv.tuple_inv
    have hl := ha.length
    rw [List.length_map] at hl
    refine ⟨sz_0, fun ml hml => ?_⟩
    have S0 := Same.new (o := .lst []) hml
    refine ⟨_, rfl, q, rfl, ⟨_, Same.tupl S0 hq⟩, ?_⟩
    refine for_tup (xs := xs) (fun i σ H1 => ∃ x5, σ = [some (.ref q), some (.str x), some u, some (.ref ml), some (.bl (has (vars.take i) x)), x5] ∧ Same H H1 ∧ ListAt K H1 ml ((repl (vars.take i) x n).map memD)) ⟨none, rfl, S0, ⟨[], upd_same, .nil⟩⟩ ?_ ?_ ?_
    · rintro i σ H1 _ ⟨x5, rfl, S1, _⟩
      exact Same.tupl S1 hq
    · rintro i y σ H1 hy ⟨x5, rfl, S1, L1⟩
      obtain ⟨z, n0, q2, u2, hvi, rfl, hq2, du2⟩ := memD_at (DtAll.mono S1 ha) hy
      have hi : i < vars.length := (List.getElem?_eq_some_iff.mp hvi).1
      have htk : vars.take (i + 1) = vars.take i ++ [(z, n0)] := by rw [List.take_add_one, hvi]; rfl
      obtain ⟨zs, ez, az⟩ := id L1
      have lz := az.length
      rw [List.length_map] at lz
      have lz2 : zs.length ≤ 1000 := by rw [lz]; unfold repl; rw [List.length_map, List.length_take]; omega
      have S2 : ∀ (H2 : Hp) o, Same H1 H2 → Same H (upd H2 ml o) := fun H2 o S b o' hb => by rw [upd_ne (ne_of_none hb hml)]; exact S _ _ (S1 b o' hb)
      refine ⟨_, rfl, q2, _, _, _, rfl, rfl, hq2, at0, _, rfl, rfl, _, rfl, ?_⟩
      refine ite3 (fun c => ?_) fun c => ?_
      · have c := V.str.inj (of_decide_eq_true c)
        refine ⟨_, rfl, .inl ⟨rfl, _, SqL.of ez⟩, _, rfl, _, rfl, sz_2, fun w2 hw2 => ⟨ml, _, _, rfl, rfl, Same.new hw2 _ _ ez, Nat.lt_of_le_of_lt lz2 (by decide), ?_⟩⟩
        have T1 := Same.new (o := .tup [.str x, u]) hw2
        have eh : has (vars.take (i + 1)) x = true := by
          unfold has
          rw [htk, List.any_append]
          simp [c]
        refine ⟨_, by rw [eh]; rfl, S2 _ _ T1, ?_⟩
        have er : repl (vars.take (i + 1)) x n = repl (vars.take i) x n ++ [(x, n)] := by
          unfold repl
          rw [htk, List.map_append, List.map_singleton, if_pos c]
        rw [er, List.map_append]
        exact listAt_app (listAt_mono L1 T1) (T1 _ _ ez) (Dt.made hw2 (.cons (.str _) (.cons (hu.mono S1) .nil)))
      · have c := of_decide_eq_false c
        have c' : z ≠ x := fun h => c (congrArg V.str h)
        refine ⟨_, rfl, .inl ⟨rfl, _, SqL.of ez⟩, _, rfl, ml, _, _, rfl, rfl, ez, Nat.lt_of_le_of_lt lz2 (by decide), ?_⟩
        have eh : has (vars.take (i + 1)) x = has (vars.take i) x := by
          unfold has
          rw [htk, List.any_append]
          simp [c']
        refine ⟨_, by rw [eh]; rfl, S2 _ _ (fun _ _ h => h), ?_⟩
        have er : repl (vars.take (i + 1)) x n = repl (vars.take i) x n ++ [(z, n0)] := by
          unfold repl
          rw [htk, List.map_append, List.map_singleton, if_neg c']
        rw [er, List.map_append]
        exact listAt_app L1 ez (.tup hq2 (.cons (.str _) (.cons du2 .nil)))
    · rintro σ H1 ⟨x5, rfl, S1, L1⟩
      rw [hl, List.take_length] at *
      refine ⟨fun σ H2 => ∃ b, σ = [some (.ref q), some (.str x), some u, some (.ref ml), some (.bl b), x5] ∧ Same H H2 ∧ ListAt K H2 ml ((withP vars x n).map memD), ?_, ?_⟩
      · refine ⟨_, rfl, _, rfl, ?_⟩
        unfold withP
        cases hh : has vars x with
        | true =>
          refine iteFb rfl ?_
          rw [if_pos rfl]
          exact ⟨_, rfl, S1, L1⟩
        | false =>
          refine iteTb rfl ?_
          rw [if_neg Bool.false_ne_true]
          have er : repl vars x n = vars := by
            unfold repl
            have : ∀ p ∈ vars, (if p.1 = x then (x, n) else p) = p := fun p hp => by
              rw [if_neg]
              intro e
              unfold has at hh
              rw [List.any_eq_false] at hh
              exact hh p hp (decide_eq_true e)
            rw [List.map_congr_left this]
            simp
          rw [er] at L1
          obtain ⟨zs, ez, az⟩ := id L1
          have lz := az.length
          rw [List.length_map] at lz
          refine ⟨_, rfl, .inl ⟨rfl, _, SqL.of ez⟩, _, rfl, _, rfl, sz_2, fun w2 hw2 => ⟨ml, _, _, rfl, rfl, Same.new hw2 _ _ ez, Nat.lt_of_le_of_lt (show zs.length ≤ 1000 by omega) (by decide), ?_⟩⟩
          have T1 := Same.new (o := .tup [.str x, u]) hw2
          refine ⟨_, rfl, fun b o hb => by rw [upd_ne (ne_of_none hb hml)]; exact T1 _ _ (S1 b o hb), ?_⟩
          rw [List.map_append]
          exact listAt_app (listAt_mono L1 T1) (T1 _ _ ez) (Dt.made hw2 (.cons (.str _) (.cons (hu.mono S1) .nil)))
      · rintro _ H2 ⟨b, rfl, S2, L2⟩
        obtain ⟨zs, ez, az⟩ := id L2
        exact ⟨_, rfl, ml, _, rfl, .inl ⟨SqL.of ez, fun t ht => k _ _ (S2.trans (Same.new ht)) (Dt.made ht az)⟩⟩
/-! what is refused -/
def raiseD (t : Str) : PyData := .tuple [.str "raise", .int 9, .str t]
def doneD : PyData := .tuple [.str "ok", .tuple [.str "none"]]
/-- the kind's name of a value that is no object here: a list's, or a text's -/
inductive NameIs (obs : List Ob) : PyData → Str → Prop
  | lst (j : Nat) (r : List PyData) : obs[j]? = some (.other "list" r) → NameIs obs (.tuple [.str "ref", .int (j : Nat)]) "list"
  | txt (r : List PyData) : NameIs obs (.tuple (.str "text" :: r)) "str"
def spKName (K : PySem.W.Frag) : Sp := fun vs H Q _ => ∃ hp obs v d t, vs = [.ref hp, v] ∧ ListAt K H hp (obs.map obD) ∧ Dt K H v d ∧ NameIs obs d t ∧ Q (.str t) H
theorem ok_kname {f : Addr} {fd : FuncData} (F : Fun K "kind_name" "kind_name" s_kind_name f fd) (T : Txt K mg)
    (U_VALUE_KINDS : UseD P w K mg "VALUE_KINDS" (txtKV [("none", "NoneType"), ("bool", "bool"), ("int", "int"), ("text", "str"), ("span", "range"), ("built", "builtin"), ("host", "host")]))
    (U_OBJECT_KINDS : UseD P w K mg "OBJECT_KINDS" (txtKV [("list", "list"), ("tuple", "tuple"), ("dict", "dict"), ("scope", "scope"), ("func", "function"), ("class", "class"), ("bound", "method"), ("iter", "iterator"), ("gen", "generator")])) : FnG P w K mg base CX0 1 f fd P_kind_name (spKName K) := by
  refine okG0 F sc_kind_name (fun vs H Q E h => ?_) fun cdv A outer s H vs Q E hr hg h => ?_
  · obtain ⟨hp, obs, v, d, t, rfl, _⟩ := h
    rfl
  · obtain ⟨hp, obs, v, d, t, rfl, L, dv, hk, k⟩ := h
    obtain ⟨aD_VALUE_KINDS, gD_VALUE_KINDS, kD1⟩ := U_VALUE_KINDS.ex
    obtain ⟨aD_OBJECT_KINDS, gD_OBJECT_KINDS, kD2⟩ := U_OBJECT_KINDS.ex
    refine ⟨_, (pss_cons (ps_if (pt_cmpR op_ne (pe_ix ix_tup (pv 1) pe_int (fun _ _ => rfl)) pe_str (nomark _))
   (pss_one (ps_ret (pe_dgetK (pe_glob (v := .ref aD_VALUE_KINDS) (by rfl) gD_VALUE_KINDS rfl) (pe_ix ix_tup (pv 1) pe_int (fun _ _ => rfl)) (fun _ _ => rfl))))
   pss_nil)
  (pss_cons (ps_set (i := 2) sc_kind_name.nd rfl (Or.inl rfl) (pe_ix ix_list (pv 0) (pe_ix ix_tup (pv 1) pe_int (fun _ _ => rfl)) (fun _ _ => rfl)))
  (pss_cons (ps_if (pt_cmpR op_eq (pe_ix ix_tup (pv 2) pe_int (fun _ _ => rfl)) pe_str (nomark _))
   pss_never
   pss_nil)
  (pss_one (ps_ret (pe_dgetK (pe_glob (v := .ref aD_OBJECT_KINDS) (by rfl) gD_OBJECT_KINDS rfl) (pe_ix ix_tup (pv 2) pe_int (fun _ _ => rfl)) (fun _ _ => rfl))))))), ?_⟩
    cases hk with
    | lst j r ho =>
      obtain ⟨q, x, rfl, hq, hx⟩ := Dt.pair dv
      cases hx.int_inv
      obtain ⟨zs, y, ez, hy, dy⟩ := ob_at L ho
      obtain ⟨q2, ws, rfl, hq2⟩ := obD_inv dy
      refine ⟨_, rfl, q, _, _, _, rfl, rfl, hq, at0, rfl, _, rfl, iteFb (by decide +kernel) ?_⟩
      refine ⟨_, rfl, _, rfl, q, _, _, _, rfl, rfl, hq, at1, hp, _, _, _, rfl, rfl, SqL.of ez, atI_nat hy, ?_⟩
      refine ⟨_, rfl, q2, _, _, _, rfl, rfl, hq2, at0, rfl, _, rfl, iteFb (by show decide (V.str "list" = V.str "inst") = false; decide +kernel) ?_⟩
      exact ⟨_, rfl, q2, _, _, _, rfl, rfl, hq2, at0, aD_OBJECT_KINDS, _, .inr "list", _, rfl, kD2, rfl, by decide +kernel, k⟩
    | txt r =>
      obtain ⟨q, ws, rfl, hq, _⟩ := Dt.head dv
      refine ⟨_, rfl, q, _, _, _, rfl, rfl, hq, at0, rfl, _, rfl, iteTb (by decide +kernel) ?_⟩
      exact ⟨_, rfl, q, _, _, _, rfl, rfl, hq, at0, aD_VALUE_KINDS, _, .inr "text", _, rfl, kD1, rfl, by decide +kernel, k⟩
def spNoAttr (K : PySem.W.Frag) : Sp := fun vs H Q _ => ∃ hp obs v d t x, vs = [.ref hp, v, .str x] ∧ ListAt K H hp (obs.map obD) ∧ Dt K H v d ∧ NameIs obs d t ∧ x.length ≤ 100 ∧ ∀ v' H', Same H H' → Dt K H' v' (raiseD (t ++ " has no attribute " ++ x)) → Q v' H'
theorem ok_noattr {f : Addr} {fd : FuncData} (F : Fun K "_no_attribute" "_no_attribute" s_no_attribute f fd) (T : Txt K mg) (U_kind_name : Use P w K mg base CX0 "kind_name" 1 P_kind_name (spKName K)) : FnG P w K mg base CX0 2 f fd P_no_attribute (spNoAttr K) := by
  refine okG0 F sc_no_attribute (fun vs H Q E h => ?_) fun cdv A outer s H vs Q E hr hg h => ?_
  · obtain ⟨hp, obs, v, d, t, x, rfl, _⟩ := h
    rfl
  · obtain ⟨hp, obs, v, d, t, x, rfl, L, dv, hk, hx, k⟩ := h
    refine ⟨_, (pss_one (ps_ret (pe_tup (pa_cons pe_str (pa_cons (pe_globI T.c_ATTRIBUTE_ERROR (by rfl)) (pa_cons (pe_op op_add_str (pe_op op_add_str (pe_use U_kind_name (hr.mono (by decide)) hg rfl (pa_cons (pv 0) (pa_cons (pv 1) pa_nil))) pe_str) (pv 2)) pa_nil)))))), ?_⟩
    have ht : (t ++ " has no attribute ").length ≤ 100 := by
      cases hk with
      | lst j r _ => decide +kernel
      | txt r => decide +kernel
    have ht2 : t.length + (" has no attribute " : Str).length ≤ sizeLine := by
      cases hk with
      | lst j r _ => decide +kernel
      | txt r => decide +kernel
    refine ⟨_, rfl, _, rfl, hp, obs, v, d, t, rfl, L, dv, hk, ?_⟩
    refine ⟨_, _, rfl, rfl, ht2, ?_⟩
    refine ⟨_, rfl, _, _, rfl, rfl, Nat.le_trans (Nat.add_le_add ht hx) (by decide), sz_3, fun u hu => k _ _ (Same.new hu) (Dt.made hu (.cons (.str _) (.cons (.int _) (.cons (.str _) .nil))))⟩
def spAInst (K : PySem.W.Frag) : Sp := fun vs H Q _ => ∃ (hp : Addr) (obs : List Ob) (v : V) (j : Nat) (c : Int) (ms : Ms) (x : Str) (d : PyData), vs = [.ref hp, v, .str x] ∧ ListAt K H hp (obs.map obD) ∧ Dt K H v (.tuple [.str "ref", .int (j : Nat)]) ∧ obs[j]? = some (.inst c ms) ∧ find ms x = some d ∧ VOk d ∧ ∀ v' H', Same H H' → Dt K H' v' d → Q v' H'
theorem ok_ainst {f : Addr} {fd : FuncData} (F : Fun K "_attribute_of_instance" "_attribute_of_instance" s_attribute_of_instance f fd) (T : Txt K mg) (U_paired : Use P w K mg base CX0 "paired" 1 P_paired (spPaired K)) : FnG P w K mg base CX0 2 f fd P_attribute_of_instance (spAInst K) := by
  refine okG0 F sc_attribute_of_instance (fun vs H Q E h => ?_) fun cdv A outer s H vs Q E hr hg h => ?_
  · obtain ⟨hp, obs, v, j, c, ms, x, d, rfl, _⟩ := h
    rfl
  · obtain ⟨hp, obs, v, j, c, ms, x, d, rfl, L, dv, ho, hf, hd, k⟩ := h
    refine ⟨_, (pss_cons (ps_asg (pe_ix ix_list (pv 0) (pe_ix ix_tup (pv 1) pe_int (fun _ _ => rfl)) (fun _ _ => rfl)) (pg_tup (by rfl) (pgs_cons (pg_name (i := 3) sc_attribute_of_instance.nd rfl (Or.inl rfl)) (pgs_cons (pg_name (i := 4) sc_attribute_of_instance.nd rfl (Or.inl rfl)) (pgs_cons (pg_name (i := 5) sc_attribute_of_instance.nd rfl (Or.inl rfl)) pgs_nil)))))
  (pss_cons (ps_set (i := 6) sc_attribute_of_instance.nd rfl (Or.inl rfl) (pe_use U_paired (hr.mono (by decide)) hg rfl (pa_cons (pv 5) (pa_cons (pv 2) pa_nil))))
  (pss_cons (ps_if (pt_cmpR (op_neD hr.units) (pv 6) (pe_tup pa_nil) (nomark _))
   (pss_one (ps_ret (pv 6)))
   pss_nil)
  pss_never))), ?_⟩
    obtain ⟨q, y, rfl, hq, hx⟩ := Dt.pair dv
    cases hx.int_inv
    obtain ⟨zs, y, ez, hy, dy⟩ := ob_at L ho
    obtain ⟨q2, u, rfl, hq2, du⟩ := inst_inv dy
    refine ⟨_, rfl, _, rfl, q, _, _, _, rfl, rfl, hq, at1, hp, _, _, _, rfl, rfl, SqL.of ez, atI_nat hy, q2, _, rfl, hq2, rfl, _, _, rfl, _, _, rfl, _, _, rfl, rfl, ?_⟩
    refine ⟨_, rfl, _, rfl, u, ms, x, rfl, du, fun v1 H1 S1 d1 => ?_⟩
    refine ⟨_, rfl, sz_0, fun u2 hu2 => ?_⟩
    have S2 := Same.new (o := .tup []) hu2
    have hfo : ∀ d', find ms x = some d' → VOk d' := fun d' h' => by rw [hf] at h'; cases h'; exact hd
    refine ⟨_, _, (d1.mono S2).dp, (Dt.made hu2 .nil).dp, shp_pair hfo, rfl, ?_⟩
    rw [eqv_pair hfo]
    rw [hf] at d1 ⊢
    refine ⟨_, rfl, iteTb rfl ?_⟩
    exact ⟨_, rfl, k _ _ (S1.trans S2) (d1.mono S2)⟩
/-- what is told of an object's own member -/
inductive OwnIs (obs : List Ob) (x : Str) (d : PyData) : Nat → Prop
  | inst {j : Nat} {c : Int} {ms : Ms} : obs[j]? = some (.inst c ms) → find ms x = some d → OwnIs obs x d j
  | cls {j : Nat} {n : Str} {b : Int} {ms : Ms} {line : List Int} : obs[j]? = some (.cls n b ms) → Chain obs (j : Nat) line → line.length ≤ 1000 → find ms x = some d → OwnIs obs x d j
def spAttr (K : PySem.W.Frag) : Sp := fun vs H Q _ => ∃ (hp : Addr) (obs : List Ob) (v : V) (j : Nat) (x : Str) (d : PyData), vs = [.ref hp, v, .str x] ∧ ListAt K H hp (obs.map obD) ∧ Dt K H v (.tuple [.str "ref", .int (j : Nat)]) ∧ MOk obs ∧ OwnIs obs x d j ∧ VOk d ∧ ∀ v' H', Same H H' → Dt K H' v' (.tuple [.str "ok", d]) → Q v' H'
theorem ok_attr {f : Addr} {fd : FuncData} (F : Fun K "attribute" "attribute" s_attribute f fd) (T : Txt K mg) (U_object_kind : Use P w K mg base CX0 "object_kind" 1 P_object_kind (spKind K)) (U_attribute_of_instance : Use P w K mg base CX0 "_attribute_of_instance" 2 P_attribute_of_instance (spAInst K)) (U_member : Use P w K mg base CX0 "member" 2 P_member (spMember K)) :
    FnG P w K mg base CX0 3 f fd P_attribute (spAttr K) := by
  refine okG0 F sc_attribute (fun vs H Q E h => ?_) fun cdv A outer s H vs Q E hr hg h => ?_
  · obtain ⟨hp, obs, v, j, x, d, rfl, _⟩ := h
    rfl
  · obtain ⟨hp, obs, v, j, x, d, rfl, L, dv, hM, hO, hd, k⟩ := h
    refine ⟨_, (pss_cons (ps_set (i := 3) sc_attribute.nd rfl (Or.inl rfl) (pe_use U_object_kind (hr.mono (by decide)) hg rfl (pa_cons (pv 0) (pa_cons (pv 1) pa_nil))))
  (C8.pss_cut (ps_if (pt_cmpR op_eq (pv 3) pe_str (nomark _))
   (pss_one (ps_set (i := 4) sc_attribute.nd rfl (Or.inl rfl) (pe_use U_attribute_of_instance (hr.mono (by decide)) hg rfl (pa_cons (pv 0) (pa_cons (pv 1) (pa_cons (pv 2) pa_nil))))))
   (pss_one (ps_if (pt_cmpR op_eq (pv 3) pe_str (nomark _))
   (pss_one (ps_set (i := 4) sc_attribute.nd rfl (Or.inl rfl) (pe_use U_member (hr.mono (by decide)) hg rfl (pa_cons (pv 0) (pa_cons (pe_ix ix_tup (pv 1) pe_int (fun _ _ => rfl)) (pa_cons (pv 2) pa_nil))))))
   pss_never)))
  (pss_cons (ps_if (pt_cmpR (op_eqD hr.units) (pv 4) (pe_tup pa_nil) (nomark _))
   pss_never
   pss_nil)
  (pss_one (ps_ret (pe_tup (pa_cons pe_str (pa_cons (pv 4) pa_nil)))))))), ?_⟩
    have hz := id dv
    obtain ⟨q, y, rfl, hq, hx⟩ := Dt.pair hz
    cases hx.int_inv
    have fin : ∀ (σ : L2.St) (kk : V) (v1 : V) (H1 : Hp), Same H H1 → Dt K H1 v1 d → True := fun _ _ _ _ _ _ => trivial
    obtain ⟨o, ho, ht⟩ : ∃ o, obs[j]? = some o ∧ (tagOf o = "inst" ∨ tagOf o = "class") := by
      cases hO with
      | inst h _ => exact ⟨_, h, .inl rfl⟩
      | cls h _ _ _ => exact ⟨_, h, .inr rfl⟩
    refine ⟨_, rfl, _, rfl, hp, obs, _, _, _, rfl, L, dv, .ref j o ho, ?_⟩
    refine ⟨fun σ H1 => ∃ v1, σ = [some (.ref hp), some (.ref q), some (.str x), some (.str (tagOf o)), some v1] ∧ Same H H1 ∧ Dt K H1 v1 d, ?_, ?_⟩
    · cases hO with
      | @inst c ms h hf =>
        obtain rfl := Option.some.inj (ho.symm.trans h)
        refine ⟨_, rfl, rfl, _, rfl, iteTb (show decide (V.str "inst" = V.str "inst") = true by decide +kernel) ?_⟩
        refine ⟨_, rfl, _, rfl, _, rfl, hp, obs, _, j, c, ms, x, d, rfl, L, dv, ho, hf, hd, fun v1 H1 S1 d1 => ⟨_, rfl, S1, d1⟩⟩
      | @cls n b ms line h hc hl hf =>
        obtain rfl := Option.some.inj (ho.symm.trans h)
        refine ⟨_, rfl, rfl, _, rfl, iteFb (show decide (V.str "class" = V.str "inst") = false by decide +kernel) ?_⟩
        refine ⟨_, rfl, rfl, _, rfl, iteTb (show decide (V.str "class" = V.str "class") = true by decide +kernel) ?_⟩
        refine ⟨_, rfl, _, rfl, q, _, _, _, rfl, rfl, hq, at1, _, rfl, hp, obs, (j : Nat), line, x, rfl, L, hc, hl, hM, fun v1 H1 S1 d1 => ⟨_, rfl, S1, ?_⟩⟩
        have e : memF obs line x = some d := by
          cases hc with
          | stop h0 => exact absurd h0 (by omega)
          | @next k0 n0 b0 ms0 r h0 hb hr =>
            show (match find (msOf obs ((j : Nat) : Int)) x with | some d => some d | none => memF obs r x) = _
            rw [msOf_cls ho, hf]
        rw [e] at d1
        exact d1
    · rintro _ H1 ⟨v1, rfl, S1, d1⟩
      refine ⟨_, rfl, sz_0, fun u2 hu2 => ?_⟩
      have S2 := Same.new (o := .tup []) hu2
      refine ⟨_, _, (d1.mono S2).dp, (Dt.made hu2 .nil).dp, hd.shp.sh (by decide), rfl, ?_⟩
      obtain ⟨z, r, ed, _⟩ := hd.tup
      rw [ed, eqv_nil]
      refine ⟨_, rfl, iteFb rfl ?_⟩
      exact ⟨_, rfl, sz_2, fun u3 hu3 => k _ _ ((S1.trans S2).trans (Same.new hu3)) (Dt.made hu3 (.cons (.str _) (.cons (d1.mono S2) .nil)))⟩
theorem dtAll_set {H : Hp} {xs : List V} {ds : List PyData} {i : Nat} {v : V} {d : PyData} (h : DtAll K H xs ds) (hd : Dt K H v d) : DtAll K H (xs.set i v) (ds.set i d) := by
  induction xs generalizing ds i with
  | nil => cases h; exact .nil
  | cons y r ih =>
    cases h with
    | cons h1 h2 =>
      cases i with
      | zero => exact .cons hd h2
      | succ i => exact .cons h1 (ih h2)
theorem ixN_nat {n k : Nat} (h : k < n) : ixN n ((k : Nat) : Int) = some k := by
  unfold ixN
  rw [if_pos (by omega), if_pos (by omega), Int.toNat_natCast]
inductive PutCase (obs : List Ob) (x : Str) (n : PyData) : PyData → PyData → List Ob → Prop
  | inst {j : Nat} {c : Int} {ms : Ms} : obs[j]? = some (.inst c ms) → ms.length ≤ 1000 → PutCase obs x n (.tuple [.str "ref", .int (j : Nat)]) doneD (obs.set j (.inst c (withP ms x n)))
  | cls {j : Nat} {nm : Str} {b : Int} {ms : Ms} : obs[j]? = some (.cls nm b ms) → 16 < j → ms.length ≤ 1000 → PutCase obs x n (.tuple [.str "ref", .int (j : Nat)]) doneD (obs.set j (.cls nm b (withP ms x n)))
  | built {j : Nat} {nm : Str} {b : Int} {ms : Ms} : obs[j]? = some (.cls nm b ms) → j ≤ 16 → nm.length ≤ 100 → PutCase obs x n (.tuple [.str "ref", .int (j : Nat)]) (raiseD ("class " ++ nm ++ " cannot be changed")) obs
  | no {d : PyData} {t : Str} : NameIs obs d t → x.length ≤ 100 → PutCase obs x n d (raiseD (t ++ " has no attribute " ++ x)) obs
def spPut (K : PySem.W.Frag) : Sp := fun vs H Q _ => ∃ (hp : Addr) (obs obs' : List Ob) (v u : V) (d n out : PyData) (x : Str), vs = [.ref hp, v, .str x, u] ∧ ListAt K H hp (obs.map obD) ∧ Dt K H v d ∧ Dt K H u n ∧ PutCase obs x n d out obs' ∧
  ∀ v' H', ListAt K H' hp (obs'.map obD) → Keep hp H H' → Dt K H' v' out → Q v' H'
theorem ok_put {f : Addr} {fd : FuncData} (F : Fun K "put_attribute" "put_attribute" s_put_attribute f fd) (T : Txt K mg) (U_object_kind : Use P w K mg base CX0 "object_kind" 1 P_object_kind (spKind K)) (U_with_pair : Use P w K mg base CX0 "with_pair" 1 P_with_pair (spWith K)) (U_no_attribute : Use P w K mg base CX0 "_no_attribute" 2 P_no_attribute (spNoAttr K)) :
    FnG P w K mg base CX0 3 f fd P_put_attribute (spPut K) := by
  refine okG0 F sc_put_attribute (fun vs H Q E h => ?_) fun cdv A outer s H vs Q E hr hg h => ?_
  · obtain ⟨hp, obs, obs', v, u, d, n, out, x, rfl, _⟩ := h
    rfl
  · obtain ⟨hp, obs, obs', v, u, d, n, out, x, rfl, L, dv, du, hc, k⟩ := h
    obtain ⟨aDN, bDN, gDN, t1, t2⟩ := T.c_DONE
    refine ⟨_, (pss_cons (ps_set (i := 4) sc_put_attribute.nd rfl (Or.inl rfl) (pe_use U_object_kind (hr.mono (by decide)) hg rfl (pa_cons (pv 0) (pa_cons (pv 1) pa_nil))))
  (pss_cons (ps_if (pt_cmpR op_eq (pv 4) pe_str (nomark _))
   (pss_cons (ps_asg (pe_ix ix_list (pv 0) (pe_ix ix_tup (pv 1) pe_int (fun _ _ => rfl)) (fun _ _ => rfl)) (pg_tup (by rfl) (pgs_cons (pg_name (i := 5) sc_put_attribute.nd rfl (Or.inl rfl)) (pgs_cons (pg_name (i := 6) sc_put_attribute.nd rfl (Or.inl rfl)) (pgs_cons (pg_name (i := 7) sc_put_attribute.nd rfl (Or.inl rfl)) pgs_nil)))))
  (pss_cons (ps_asg (pe_tup (pa_cons pe_str (pa_cons (pv 6) (pa_cons (pe_use U_with_pair (hr.mono (by decide)) hg rfl (pa_cons (pv 7) (pa_cons (pv 2) (pa_cons (pv 3) pa_nil)))) pa_nil)))) (pg_sub (pv 0) (pe_ix ix_tup (pv 1) pe_int (fun _ _ => rfl)) set_list))
  (pss_one (ps_ret (pe_glob (v := .ref aDN) (by rfl) gDN rfl)))))
   pss_nil)
  (pss_cons (ps_if (pt_cmpR op_ne (pv 4) pe_str (nomark _))
   (pss_one (ps_ret (pe_use U_no_attribute (hr.mono (by decide)) hg rfl (pa_cons (pv 0) (pa_cons (pv 1) (pa_cons (pv 2) pa_nil))))))
   pss_nil)
  (pss_cons (ps_asg (pe_ix ix_list (pv 0) (pe_ix ix_tup (pv 1) pe_int (fun _ _ => rfl)) (fun _ _ => rfl)) (pg_tup (by rfl) (pgs_cons (pg_name (i := 5) sc_put_attribute.nd rfl (Or.inl rfl)) (pgs_cons (pg_name (i := 8) sc_put_attribute.nd rfl (Or.inl rfl)) (pgs_cons (pg_name (i := 9) sc_put_attribute.nd rfl (Or.inl rfl)) (pgs_cons (pg_name (i := 7) sc_put_attribute.nd rfl (Or.inl rfl)) pgs_nil))))))
  (pss_cons (ps_if (pt_cmpR op_le (pe_ix ix_tup (pv 1) pe_int (fun _ _ => rfl)) (pe_callB call_len (by rfl) T.b_len PySem.boot_len (pa_cons (pe_globT T.c_CLASSES (by rfl)) pa_nil)) (nomark _))
   (pss_one (ps_ret (pe_tup (pa_cons pe_str (pa_cons (pe_globI T.c_ATTRIBUTE_ERROR (by rfl)) (pa_cons (pe_op op_add_str (pe_op op_add_str pe_str (pv 8)) pe_str) pa_nil))))))
   pss_nil)
  (pss_cons (ps_asg (pe_tup (pa_cons pe_str (pa_cons (pv 8) (pa_cons (pv 9) (pa_cons (pe_use U_with_pair (hr.mono (by decide)) hg rfl (pa_cons (pv 7) (pa_cons (pv 2) (pa_cons (pv 3) pa_nil)))) pa_nil))))) (pg_sub (pv 0) (pe_ix ix_tup (pv 1) pe_int (fun _ _ => rfl)) set_list))
  (pss_one (ps_ret (pe_glob (v := .ref aDN) (by rfl) gDN rfl))))))))), ?_⟩
    have dDone : ∀ H', Dt K H' (.ref aDN) doneD := fun H' => .tup (t1.sq _) (.cons (.str _) (.cons (.tup (t2.sq _) (.cons (.str _) .nil)) .nil))
    cases hc with
    | @inst j c ms ho hl =>
      obtain ⟨q, y, rfl, hq, hx⟩ := Dt.pair (id dv)
      cases hx.int_inv
      obtain ⟨zs, ez, az⟩ := id L
      obtain ⟨y, hy, dy⟩ := az.get (show (obs.map obD)[j]? = some (obD (.inst c ms)) by rw [List.getElem?_map, ho]; rfl)
      obtain ⟨q2, m, rfl, hq2, dm⟩ := inst_inv dy
      refine ⟨_, rfl, _, rfl, hp, obs, _, _, _, rfl, L, dv, .ref j _ ho, ?_⟩
      refine ⟨_, rfl, rfl, _, rfl, iteTb (show decide (V.str "inst" = V.str "inst") = true by decide +kernel) ?_⟩
      refine ⟨_, rfl, _, rfl, q, _, _, _, rfl, rfl, hq, at1, hp, _, _, _, rfl, rfl, SqL.of ez, atI_nat hy, q2, _, rfl, hq2, rfl, _, _, rfl, _, _, rfl, _, _, rfl, rfl, ?_⟩
      refine ⟨_, rfl, _, rfl, _, rfl, _, rfl, m, u, ms, x, n, rfl, dm, du, hl, fun v1 H1 S1 d1 => ⟨sz_3, fun u3 hu3 => ?_⟩⟩
      have S2 := Same.new (o := .tup [.str "inst", .int c, v1]) hu3
      have S12 := S1.trans S2
      have dn : Dt K _ (.ref u3) (obD (.inst c (withP ms x n))) := Dt.made hu3 (.cons (.str _) (.cons (.int _) (.cons d1 .nil)))
      have ez1 := S12 _ _ ez
      have lz := az.length
      rw [List.length_map] at lz
      have hix : ixN zs.length ((j : Nat) : Int) = some j := ixN_nat (by rw [lz]; exact (List.getElem?_eq_some_iff.mp ho).1)
      refine ⟨_, rfl, _, rfl, q, _, _, _, rfl, rfl, Same.tupl S12 hq, at1, hp, _, _, j, rfl, rfl, ez1, hix, ?_⟩
      refine k _ _ ⟨_, upd_same, ?_⟩ (fun b o hb ne => by rw [upd_ne ne]; exact S12 _ _ hb) (dDone _)
      rw [List.map_set]
      exact dtAll_set (DtAll.keepT (KeepT.upd ez1) (DtAll.mono S12 az)) (Dt.keepT (KeepT.upd ez1) dn)
    | @cls j nm b ms ho hj hl =>
      obtain ⟨q, y, rfl, hq, hx⟩ := Dt.pair (id dv)
      cases hx.int_inv
      obtain ⟨zs, ez, az⟩ := id L
      obtain ⟨y, hy, dy⟩ := az.get (show (obs.map obD)[j]? = some (obD (.cls nm b ms)) by rw [List.getElem?_map, ho]; rfl)
      obtain ⟨q2, m, rfl, hq2, dm⟩ := cls_inv dy
      refine ⟨_, rfl, _, rfl, hp, obs, _, _, _, rfl, L, dv, .ref j _ ho, ?_⟩
      refine ⟨_, rfl, rfl, _, rfl, iteFb (show decide (V.str "class" = V.str "inst") = false by decide +kernel) ?_⟩
      refine ⟨_, rfl, rfl, _, rfl, iteFb (show (!decide (V.str "class" = V.str "class")) = false by decide +kernel) ?_⟩
      refine ⟨_, rfl, _, rfl, q, _, _, _, rfl, rfl, hq, at1, hp, _, _, _, rfl, rfl, SqL.of ez, atI_nat hy, q2, _, rfl, hq2, rfl, _, _, rfl, _, _, rfl, _, _, rfl, _, _, rfl, rfl, ?_⟩
      have hcl : (clsNames.map V.str).length = 16 := by decide
      refine ⟨_, rfl, q, _, _, _, rfl, rfl, hq, at1, fun ac kc => ⟨_, _, rfl, .inr ⟨_, kc.sq _, rfl⟩, _, _, rfl, rfl, _, rfl, iteFb (by rw [hcl]; exact decide_eq_false (by omega)) ?_⟩⟩
      refine ⟨_, rfl, _, rfl, _, rfl, _, rfl, _, rfl, m, u, ms, x, n, rfl, dm, du, hl, fun v1 H1 S1 d1 => ⟨(show 4 ≤ sizeLine by decide), fun u3 hu3 => ?_⟩⟩
      have S2 := Same.new (o := .tup [.str "class", .str nm, .int b, v1]) hu3
      have S12 := S1.trans S2
      have dn : Dt K _ (.ref u3) (obD (.cls nm b (withP ms x n))) := Dt.made hu3 (.cons (.str _) (.cons (.str _) (.cons (.int _) (.cons d1 .nil))))
      have ez1 := S12 _ _ ez
      have lz := az.length
      rw [List.length_map] at lz
      have hix : ixN zs.length ((j : Nat) : Int) = some j := ixN_nat (by rw [lz]; exact (List.getElem?_eq_some_iff.mp ho).1)
      refine ⟨_, rfl, _, rfl, q, _, _, _, rfl, rfl, Same.tupl S12 hq, at1, hp, _, _, j, rfl, rfl, ez1, hix, ?_⟩
      refine k _ _ ⟨_, upd_same, ?_⟩ (fun b o hb ne => by rw [upd_ne ne]; exact S12 _ _ hb) (dDone _)
      rw [List.map_set]
      exact dtAll_set (DtAll.keepT (KeepT.upd ez1) (DtAll.mono S12 az)) (Dt.keepT (KeepT.upd ez1) dn)
    | @built j nm b ms ho hj hl =>
      obtain ⟨q, y, rfl, hq, hx⟩ := Dt.pair (id dv)
      cases hx.int_inv
      obtain ⟨zs, ez, az⟩ := id L
      obtain ⟨y, hy, dy⟩ := az.get (show (obs.map obD)[j]? = some (obD (.cls nm b ms)) by rw [List.getElem?_map, ho]; rfl)
      obtain ⟨q2, m, rfl, hq2, dm⟩ := cls_inv dy
      refine ⟨_, rfl, _, rfl, hp, obs, _, _, _, rfl, L, dv, .ref j _ ho, ?_⟩
      refine ⟨_, rfl, rfl, _, rfl, iteFb (show decide (V.str "class" = V.str "inst") = false by decide +kernel) ?_⟩
      refine ⟨_, rfl, rfl, _, rfl, iteFb (show (!decide (V.str "class" = V.str "class")) = false by decide +kernel) ?_⟩
      refine ⟨_, rfl, _, rfl, q, _, _, _, rfl, rfl, hq, at1, hp, _, _, _, rfl, rfl, SqL.of ez, atI_nat hy, q2, _, rfl, hq2, rfl, _, _, rfl, _, _, rfl, _, _, rfl, _, _, rfl, rfl, ?_⟩
      have hcl : (clsNames.map V.str).length = 16 := by decide
      refine ⟨_, rfl, q, _, _, _, rfl, rfl, hq, at1, fun ac kc => ⟨_, _, rfl, .inr ⟨_, kc.sq _, rfl⟩, _, _, rfl, rfl, _, rfl, iteTb (by rw [hcl]; exact decide_eq_true (by omega)) ?_⟩⟩
      have b1 : ("class " : Str).length = 6 := by decide +kernel
      have b2 : (" cannot be changed" : Str).length = 18 := by decide +kernel
      have b3 : (("class " : Str) ++ nm).length = 6 + nm.length := by rw [len_app, b1]
      exact ⟨_, rfl, _, _, rfl, rfl, by rw [b1]; exact Nat.le_trans (show _ ≤ 200 by omega) (by decide), _, _, rfl, rfl, by rw [b2, b3]; exact Nat.le_trans (show _ ≤ 200 by omega) (by decide), sz_3, fun u3 hu3 => k _ _ (listAt_mono L (Same.new hu3)) (Same.keep (Same.new hu3)) (Dt.made hu3 (.cons (.str _) (.cons (.int _) (.cons (.str _) .nil))))⟩
    | @no d t hn hx =>
      have fin := fun (v' : V) (H' : Hp) (S' : Same H H') => k v' H' (listAt_mono L S') (Same.keep S')
      cases hn with
      | lst j r ho =>
        refine ⟨_, rfl, _, rfl, hp, obs, _, _, _, rfl, L, dv, .ref j _ ho, ?_⟩
        refine ⟨_, rfl, rfl, _, rfl, iteFb (show decide (V.str "list" = V.str "inst") = false by decide +kernel) ?_⟩
        refine ⟨_, rfl, rfl, _, rfl, iteTb (show (!decide (V.str "list" = V.str "class")) = true by decide +kernel) ?_⟩
        exact ⟨_, rfl, _, rfl, _, rfl, hp, obs, _, _, _, x, rfl, L, dv, .lst j r ho, hx, fin⟩
      | txt r =>
        refine ⟨_, rfl, _, rfl, hp, obs, _, _, _, rfl, L, dv, .val _ _ (by decide +kernel), ?_⟩
        refine ⟨_, rfl, rfl, _, rfl, iteFb (show decide (V.str "" = V.str "inst") = false by decide +kernel) ?_⟩
        refine ⟨_, rfl, rfl, _, rfl, iteTb (show (!decide (V.str "" = V.str "class")) = true by decide +kernel) ?_⟩
        exact ⟨_, rfl, _, rfl, _, rfl, hp, obs, _, _, _, x, rfl, L, dv, .txt r, hx, fin⟩
/-! rows kept by the law -/
def Nd (ms : Ms) : Prop := (ms.map (·.1)).Nodup
theorem repl_names (ms : Ms) (x : Str) (d : PyData) : (repl ms x d).map (·.1) = ms.map (·.1) := by
  unfold repl
  rw [List.map_map]
  refine List.map_congr_left fun p _ => ?_
  show (if p.1 = x then (x, d) else p).1 = p.1
  split
  · next e => exact e.symm
  · rfl
theorem has_iff {ms : Ms} {x : Str} : has ms x = true ↔ x ∈ ms.map (·.1) := by
  unfold has
  rw [List.any_eq_true, List.mem_map]
  exact ⟨fun ⟨p, h, e⟩ => ⟨p, h, of_decide_eq_true e⟩, fun ⟨p, h, e⟩ => ⟨p, h, decide_eq_true e⟩⟩
theorem withP_nd {ms : Ms} {x : Str} {d : PyData} (h : Nd ms) : Nd (withP ms x d) := by
  unfold Nd withP
  split
  · rw [repl_names]; exact h
  · next e =>
    rw [List.map_append]
    refine List.nodup_append.mpr ⟨h, by simp, fun a ha b hb => ?_⟩
    rw [List.map_singleton, List.mem_singleton] at hb
    subst hb
    intro e2
    subst e2
    exact e (has_iff.mpr ha)
theorem withP_len {ms : Ms} {x : Str} {d : PyData} : (withP ms x d).length ≤ ms.length + 1 := by
  unfold withP
  split
  · unfold repl; rw [List.length_map]; omega
  · simp
theorem withP_mem {ms : Ms} {x : Str} {d : PyData} {p : Str × PyData} (h : p ∈ withP ms x d) : p ∈ ms ∨ p = (x, d) := by
  unfold withP at h
  split at h
  · unfold repl at h
    obtain ⟨q, hq, e⟩ := List.mem_map.mp h
    split at e
    · exact .inr e.symm
    · subst e; exact .inl hq
  · rcases List.mem_append.mp h with h | h
    · exact .inl h
    · exact .inr (List.mem_singleton.mp h)
theorem repl_none {ms : Ms} {x : Str} {d : PyData} (h : ¬ x ∈ ms.map (·.1)) : repl ms x d = ms := by
  unfold repl
  have : ∀ p ∈ ms, (if p.1 = x then (x, d) else p) = p := fun p hp => if_neg fun e => h (List.mem_map.mpr ⟨p, hp, e⟩)
  rw [List.map_congr_left this]
  simp
theorem find_with {x : Str} {d : PyData} : ∀ {ms : Ms}, find (withP ms x d) x = some d
  | [] => by
    show (if x = x then some d else _) = _
    rw [if_pos rfl]
  | (y, e) :: r => by
    by_cases c : y = x
    · have : withP ((y, e) :: r) x d = (x, d) :: repl r x d := by
        unfold withP
        rw [if_pos (has_iff.mpr (by rw [← c]; simp))]
        unfold repl
        rw [List.map_cons, if_pos c]
      rw [this]
      show (if x = x then some d else _) = _
      rw [if_pos rfl]
    · have : withP ((y, e) :: r) x d = (y, e) :: withP r x d := by
        unfold withP
        have hh : has ((y, e) :: r) x = has r x := by
          unfold has
          rw [List.any_cons]
          simp [c]
        rw [hh]
        split
        · unfold repl; rw [List.map_cons, if_neg c]
        · rfl
      rw [this]
      show (if y = x then some e else find (withP r x d) x) = _
      rw [if_neg c]
      exact find_with
theorem set_with {x : Str} {d : PyData} : ∀ {ms : Ms} {i : Nat} {e : PyData}, Nd ms → ms[i]? = some (x, e) → withP ms x d = ms.set i (x, d) := by
  intro ms i e hn hi
  have hx : x ∈ ms.map (·.1) := List.mem_map.mpr ⟨_, List.mem_of_getElem? hi, rfl⟩
  unfold withP
  rw [if_pos (has_iff.mpr hx)]
  clear hx
  induction ms generalizing i with
  | nil => simp at hi
  | cons p r ih =>
    obtain ⟨h1, h2⟩ := List.nodup_cons.mp (show (p.1 :: r.map (·.1)).Nodup from hn)
    cases i with
    | zero =>
      obtain rfl := Option.some.inj hi
      show (if x = x then (x, d) else _) :: repl r x d = _
      rw [if_pos rfl, repl_none h1]
      rfl
    | succ i =>
      have hi : r[i]? = some (x, e) := hi
      have hne : ¬ p.1 = x := fun c => h1 (by rw [c]; exact List.mem_map.mpr ⟨_, List.mem_of_getElem? hi, rfl⟩)
      show (if p.1 = x then (x, d) else p) :: repl r x d = _
      rw [if_neg hne, ih h2 hi]
      rfl
theorem app_with {x : Str} {d : PyData} {ms : Ms} (h : ∀ j, j < ms.length → ∀ p, ms[j]? = some p → p.1 ≠ x) : withP ms x d = ms ++ [(x, d)] := by
  unfold withP
  rw [if_neg]
  intro c
  obtain ⟨p, hp, e⟩ := List.mem_map.mp (has_iff.mp c)
  obtain ⟨j, hj, e2⟩ := List.mem_iff_getElem.mp hp
  exact h j hj p (by rw [List.getElem?_eq_getElem hj, e2]) e
def spLPut (K : PySem.W.Frag) : Sp := fun vs H Q _ => ∃ (a : Addr) (ms : Ms) (x : Str) (v : V) (d : PyData), vs = [.ref a, .str x, v] ∧ ListAt K H a (ms.map memD) ∧ Dt K H v d ∧ Nd ms ∧ ms.length ≤ 1000 ∧ ∀ H', ListAt K H' a ((withP ms x d).map memD) → Keep a H H' → Q .non H'
theorem ok_lput {f : Addr} {fd : FuncData} (F : Fun K "_law_put" "_law_put" s_law_put f fd) (T : Txt K mg) : FnG P w K mg base CX0 1 f fd P_law_put (spLPut K) := by
  refine okG0 F sc_law_put (fun vs H Q E h => ?_) fun cdv A outer s H vs Q E hr hg h => ?_
  · obtain ⟨a, ms, x, v, d, rfl, _⟩ := h
    rfl
  · obtain ⟨a, ms, x, v, d, rfl, L, dv, hnd, hml, k⟩ := h
    refine ⟨_, (pss_cons (ps_for PassesOwn.never rfl (pi_range1 (by rfl) T.b_range (pa_cons (pe_callB call_len (by rfl) T.b_len PySem.boot_len (pa_cons (pv 0) pa_nil)) pa_nil)) (pg_name (i := 3) sc_law_put.nd rfl (Or.inl rfl))
   (pss_one (ps_if (pt_cmpR op_eq (pe_ix ix_tup (pe_ix ix_list (pv 0) (pv 3) (fun _ _ => rfl)) pe_int (fun _ _ => rfl)) (pv 1) (nomark _))
   (pss_cons (ps_asg (pe_tup (pa_cons (pv 1) (pa_cons (pv 2) pa_nil))) (pg_sub (pv 0) (pv 3) set_list))
  (pss_one ps_retN))
   pss_nil)))
  (pss_one (ps_expr (pe_bm PySem.F.plainAttrs_list PySem.F.slot_list_append PySem.F.type_list_append mt_append (pv 0) (pa_cons (pe_tup (pa_cons (pv 1) (pa_cons (pv 2) pa_nil))) pa_nil))))), ?_⟩
    obtain ⟨zs, ez, az⟩ := id L
    have lz := az.length
    rw [List.length_map] at lz
    refine ⟨_, rfl, _, _, rfl, .inl ⟨_, SqL.of ez, rfl⟩, _, rfl, by omega, by omega, ?_⟩
    rw [show ((zs.length : Nat) : Int).toNat = ms.length by omega]
    refine for_range (lo := 0) (n := ms.length) (fun i σ H1 => ∃ x3, σ = [some (.ref a), some (.str x), some v, x3] ∧ H1 = H ∧ (∀ j, j < i → ∀ p, ms[j]? = some p → p.1 ≠ x)) ⟨none, rfl, rfl, by simp⟩ ?_ ?_
    · rintro i σ H1 hi ⟨x3, rfl, rfl, hall⟩
      rw [Int.zero_add]
      obtain ⟨y, hy⟩ : ∃ y, zs[i]? = some y := ⟨_, List.getElem?_eq_getElem (by omega)⟩
      obtain ⟨z, n0, q2, u2, hvi, rfl, hq2, du2⟩ := memD_at az hy
      refine ⟨_, rfl, _, rfl, a, _, _, _, rfl, rfl, SqL.of ez, atI_nat hy, q2, _, _, _, rfl, rfl, hq2, at0, _, rfl, rfl, _, rfl, ?_⟩
      refine ite3 (fun c => ?_) fun c => ?_
      · have c := V.str.inj (of_decide_eq_true c)
        subst c
        refine ⟨_, rfl, _, rfl, sz_2, fun w2 hw2 => ?_⟩
        have S1 := Same.new (o := .tup [.str z, v]) hw2
        have ez1 := S1 _ _ ez
        refine ⟨_, rfl, _, rfl, a, _, _, i, rfl, rfl, ez1, ixN_nat (by omega), ?_⟩
        refine k _ ⟨_, upd_same, ?_⟩ fun b o hb ne => by rw [upd_ne ne]; exact S1 _ _ hb
        rw [set_with hnd hvi, List.map_set]
        exact dtAll_set (DtAll.keepT (KeepT.upd ez1) (DtAll.mono S1 az)) (Dt.keepT (KeepT.upd ez1) (Dt.made hw2 (.cons (.str _) (.cons dv .nil))))
      · have c := of_decide_eq_false c
        exact ⟨_, rfl, rfl, all_next hall hvi fun h => c (congrArg V.str h)⟩
    · rintro σ H1 ⟨x3, rfl, rfl, hall⟩
      refine ⟨_, rfl, .inl ⟨rfl, _, SqL.of ez⟩, _, rfl, _, rfl, sz_2, fun w2 hw2 => ?_⟩
      have S1 := Same.new (o := .tup [.str x, v]) hw2
      have ez1 := S1 _ _ ez
      refine ⟨a, _, _, rfl, rfl, ez1, Nat.lt_of_le_of_lt (show zs.length ≤ 1000 by omega) (by decide), ?_⟩
      refine k _ ?_ fun b o hb ne => by rw [upd_ne ne]; exact S1 _ _ hb
      rw [app_with hall, List.map_append]
      exact listAt_app (listAt_mono L S1) ez1 (Dt.made hw2 (.cons (.str _) (.cons dv .nil)))
/-! the law -/
def startObs : List Ob := .other "scope" [.tuple (startVars []), .tuple [], .tuple [], .int (-1), .bool false] :: List.zipWith (fun n b => Ob.cls n b []) clsNames clsBases
theorem startObs_D : startObs.map obD = startD [] := rfl
structure Cs where
  c0 : Int
  c1 : Int
  c2 : Int
def ownObs (c : Cs) (m : Nat → Ms) : List Ob := [.cls "A" (-1) (m 0), .cls "B" 17 (m 1), .inst c.c0 (m 2), .inst c.c1 (m 3), .inst c.c2 (m 4), .other "list" [.tuple []]]
def obsOf (c : Cs) (m : Nat → Ms) : List Ob := startObs ++ ownObs c m
structure Wb (K : PySem.W.Frag) (H : Hp) (p dl np : Addr) (nms : List Str) (hp : Addr) (obs : List Ob) : Prop where
  box : BoxAt H p dl
  nm : H np = some (.lst (nms.map V.str))
  ob : ListAt K H hp (obs.map obD)
structure Dw (p dl np hp : Addr) : Prop where
  n1 : np ≠ p
  h1 : hp ≠ p
  h2 : hp ≠ dl
  h3 : hp ≠ np
section
variable {H H' : Hp} {p dl np hp : Addr} {nms : List Str} {obs : List Ob}
theorem Wb.draw (X : Wb K H p dl np nms hp obs) (D : Dw p dl np hp) (B : BoxAt H' p dl) (k : Keep p H H') : Wb K H' p dl np nms hp obs :=
  ⟨B, k _ _ X.nm D.n1, listAt_keep X.ob k D.h1 X.box.at_⟩
theorem Wb.same (X : Wb K H p dl np nms hp obs) (e : Same H H') : Wb K H' p dl np nms hp obs :=
  ⟨X.box.same e, e _ _ X.nm, listAt_mono X.ob e⟩
theorem Wb.addO (X : Wb K H p dl np nms hp obs) (D : Dw p dl np hp) {xs : List V} (ex : H hp = some (.lst xs)) {u : Addr} {o : Ob} (h : Dt K H (.ref u) (obD o)) : Wb K (upd H hp (.lst (xs ++ [.ref u]))) p dl np nms hp (obs ++ [o]) :=
  ⟨X.box.upd D.h1 D.h2, by rw [upd_ne (Ne.symm D.h3)]; exact X.nm, by rw [List.map_append]; exact listAt_app X.ob ex h⟩
theorem Wb.put (X : Wb K H p dl np nms hp obs) (D : Dw p dl np hp) {obs' : List Ob} (L : ListAt K H' hp (obs'.map obD)) (k : Keep hp H H') : Wb K H' p dl np nms hp obs' := by
  refine ⟨?_, k _ _ X.nm (Ne.symm D.h3), L⟩
  obtain ⟨ds, at', e1, e2, e3, e4, e5⟩ := X.box
  exact ⟨ds, at', k _ _ e1 (Ne.symm D.h1), e2, k _ _ e3 (Ne.symm D.h2), e4, e5⟩
theorem Wb.len (X : Wb K H p dl np nms hp obs) : ∃ zs, H hp = some (.lst zs) ∧ zs.length = obs.length ∧ DtAll K H zs (obs.map obD) := by
  obtain ⟨zs, e, z⟩ := X.ob
  exact ⟨zs, e, by rw [z.length, List.length_map], z⟩
end
/-- the rows that the law keeps -/
structure Rw (K : PySem.W.Frag) (H : Hp) (rp : Addr) (ra : Nat → Addr) (m : Nat → Ms) : Prop where
  eR : H rp = some (.lst [.ref (ra 0), .ref (ra 1), .ref (ra 2), .ref (ra 3), .ref (ra 4)])
  row : ∀ i, i < 5 → ListAt K H (ra i) ((m i).map memD)
structure Dr (p dl np hp rp : Addr) (ra : Nat → Addr) : Prop where
  r1 : rp ≠ p
  r2 : rp ≠ hp
  a1 : ∀ i, i < 5 → ra i ≠ p
  a2 : ∀ i, i < 5 → ra i ≠ dl
  a3 : ∀ i, i < 5 → ra i ≠ np
  a4 : ∀ i, i < 5 → ra i ≠ hp
  a5 : ∀ i, i < 5 → ra i ≠ rp
  inj : ∀ i j, i < 5 → j < 5 → i ≠ j → ra i ≠ ra j
def setM (m : Nat → Ms) (i : Nat) (ms : Ms) : Nat → Ms := fun j => if j = i then ms else m j
section
variable {H H' : Hp} {p dl np hp rp : Addr} {ra : Nat → Addr} {m : Nat → Ms} {nms : List Str} {obs : List Ob}
theorem listAt_k2 {b l : Addr} {ds : List PyData} (h : ListAt K H l ds) (e : Keep b H H') (ne : l ≠ b) (hb : ∃ xs, H b = some (.lst xs)) : ListAt K H' l ds := listAt_keep h e ne hb
theorem listAt_ex {l : Addr} {ds : List PyData} (h : ListAt K H l ds) : ∃ xs, H l = some (.lst xs) := let ⟨xs, e, _⟩ := h; ⟨xs, e⟩
theorem Rw.same (X : Rw K H rp ra m) (e : Same H H') : Rw K H' rp ra m := ⟨e _ _ X.eR, fun i h => listAt_mono (X.row i h) e⟩
theorem Rw.draw (X : Rw K H rp ra m) (D : Dr p dl np hp rp ra) (B : BoxAt H p dl) (k : Keep p H H') : Rw K H' rp ra m :=
  ⟨k _ _ X.eR D.r1, fun i h => listAt_keep (X.row i h) k (D.a1 i h) B.at_⟩
theorem Rw.put (X : Rw K H rp ra m) (D : Dr p dl np hp rp ra) (L : ∃ xs, H hp = some (.lst xs)) (k : Keep hp H H') : Rw K H' rp ra m :=
  ⟨k _ _ X.eR D.r2, fun i h => listAt_keep (X.row i h) k (D.a4 i h) L⟩
theorem Rw.set (X : Rw K H rp ra m) (D : Dr p dl np hp rp ra) {i : Nat} (hi : i < 5) {ms : Ms} (L : ListAt K H' (ra i) (ms.map memD)) (k : Keep (ra i) H H') : Rw K H' rp ra (setM m i ms) := by
  refine ⟨k _ _ X.eR (Ne.symm (D.a5 i hi)), fun j hj => ?_⟩
  unfold setM
  by_cases e : j = i
  · subst e; rw [if_pos rfl]; exact L
  · rw [if_neg e]; exact listAt_keep (X.row j hj) k (D.inj j i hj hi e) (listAt_ex (X.row i hi))
theorem Wb.row (X : Wb K H p dl np nms hp obs) (D : Dr p dl np hp rp ra) {i : Nat} (hi : i < 5) (h : ∃ xs, H (ra i) = some (.lst xs)) (k : Keep (ra i) H H') : Wb K H' p dl np nms hp obs := by
  refine ⟨?_, k _ _ X.nm (Ne.symm (D.a3 i hi)), listAt_keep X.ob k (Ne.symm (D.a4 i hi)) h⟩
  obtain ⟨ds, at', e1, e2, e3, e4, e5⟩ := X.box
  exact ⟨ds, at', k _ _ e1 (Ne.symm (D.a1 i hi)), e2, k _ _ e3 (Ne.symm (D.a2 i hi)), e4, e5⟩
end
def raOf (a0 a1 a2 a3 a4 : Addr) : Nat → Addr
  | 0 => a0
  | 1 => a1
  | 2 => a2
  | 3 => a3
  | _ => a4
structure MM (m : Nat → Ms) (t : Nat) : Prop where
  nd : ∀ i, Nd (m i)
  len : ∀ i, (m i).length ≤ t
  nm : ∀ i, ∀ p ∈ m i, NameOk p.1
  vl : ∀ i, ∀ p ∈ m i, VOk p.2
theorem MM.put {m : Nat → Ms} {t : Nat} (h : MM m t) {i : Nat} {x : Str} {d : PyData} (hx : NameOk x) (hd : VOk d) : MM (setM m i (withP (m i) x d)) (t + 1) := by
  refine ⟨fun j => ?_, fun j => ?_, fun j q hq => ?_, fun j q hq => ?_⟩
  · unfold setM; split
    · exact withP_nd (h.nd i)
    · exact h.nd j
  · unfold setM; split
    · exact Nat.le_trans withP_len (Nat.succ_le_succ (h.len i))
    · exact Nat.le_succ_of_le (h.len j)
  · unfold setM at hq; split at hq
    · rcases withP_mem hq with hq | rfl
      · exact h.nm i q hq
      · exact hx
    · exact h.nm j q hq
  · unfold setM at hq; split at hq
    · rcases withP_mem hq with hq | rfl
      · exact h.vl i q hq
      · exact hd
    · exact h.vl j q hq
theorem MM.sm {m : Nat → Ms} {t : Nat} (h : MM m t) (ht : t ≤ 40) (i : Nat) : Sm (.tuple ((m i).map memD)) 3 140000 := by
  have h1 : ∀ d ∈ (m i).map memD, Sm d 2 3207 := fun d hd => by
    obtain ⟨q, hq, rfl⟩ := List.mem_map.mp hd
    exact (Sm.tup (.cons (h.nm i q hq).sm (.cons (h.vl i q hq).sm .nil))).mono (by decide) (by decide)
  have hl := h.len i
  refine (Sm.tup (SmAll.many h1)).mono (by decide) ?_
  rw [List.length_map]
  omega
theorem MOk_of {c : Cs} {m : Nat → Ms} {t : Nat} (h : MM m t) : MOk (obsOf c m) := by
  intro j n b ms e q hq
  have hm : Ob.cls n b ms ∈ obsOf c m := List.mem_of_getElem? e
  rcases List.mem_append.mp hm with hm | hm
  · have : ms = [] := by
      simp [startObs, clsNames, clsBases] at hm
      rcases hm with hm | hm | hm | hm | hm | hm | hm | hm | hm | hm | hm | hm | hm | hm | hm | hm <;> exact hm.2.2
    subst this
    cases hq
  · simp [ownObs] at hm
    rcases hm with ⟨_, _, rfl⟩ | ⟨_, _, rfl⟩
    · exact h.vl 0 q hq
    · exact h.vl 1 q hq
theorem put_case {c : Cs} {m : Nat → Ms} {t : Nat} (h : MM m t) (ht : t ≤ 40) {x : Str} {d : PyData} (i : Nat) (hi : i < 5) : PutCase (obsOf c m) x d (.tuple [.str "ref", .int ((17 + i : Nat) : Int)]) doneD (obsOf c (setM m i (withP (m i) x d))) := by
  have hl : ∀ j, (m j).length ≤ 1000 := fun j => Nat.le_trans (h.len j) (by omega)
  match i, hi with
  | 0, _ => exact .cls (j := 17) (nm := "A") (b := -1) (ms := m 0) rfl (by decide) (hl 0)
  | 1, _ => exact .cls (j := 18) (nm := "B") (b := 17) (ms := m 1) rfl (by decide) (hl 1)
  | 2, _ => exact .inst (j := 19) (c := c.c0) (ms := m 2) rfl (hl 2)
  | 3, _ => exact .inst (j := 20) (c := c.c1) (ms := m 3) rfl (hl 3)
  | 4, _ => exact .inst (j := 21) (c := c.c2) (ms := m 4) rfl (hl 4)
  | i + 5, h => omega
theorem own_is {c : Cs} {m : Nat → Ms} {x : Str} {d : PyData} (i : Nat) (hi : i < 5) (hf : find (m i) x = some d) : OwnIs (obsOf c m) x d (17 + i) := by
  have ch17 : Chain (obsOf c m) ((17 : Nat) : Int) [((17 : Nat) : Int)] := .next (k := 17) (n := "A") (b := -1) (ms := m 0) rfl (by decide) (.stop (by decide))
  match i, hi with
  | 0, _ => exact .cls (n := "A") (b := -1) (ms := m 0) rfl ch17 (by decide) hf
  | 1, _ => exact .cls (n := "B") (b := 17) (ms := m 1) rfl (.next (k := 18) (n := "B") (b := 17) (ms := m 1) rfl (by decide) ch17) (by decide) hf
  | 2, _ => exact .inst (c := c.c0) (ms := m 2) rfl hf
  | 3, _ => exact .inst (c := c.c1) (ms := m 3) rfl hf
  | 4, _ => exact .inst (c := c.c2) (ms := m 4) rfl hf
  | i + 5, h => omega
theorem show_obs {c : Cs} {m : Nat → Ms} {t : Nat} (h : MM m t) (ht : t ≤ 40) (k0 : 17 ≤ c.c0 ∧ c.c0 ≤ 18) (k1 : 17 ≤ c.c1 ∧ c.c1 ≤ 18) (k2 : 17 ≤ c.c2 ∧ c.c2 ≤ 18) : ShowOk (.list ((obsOf c m).map obD)) := by
  have hi : ∀ b : Int, b.natAbs < 1000 → Sm (.int b) 0 2000 := fun b hb => Sm.int (Nat.lt_of_lt_of_le (show b.natAbs < 2 ^ 20 by omega) (Nat.pow_le_pow_right (by decide) (by decide)))
  have h1 : ∀ d ∈ (obsOf c m).map obD, Sm d 5 200000 := fun d hd => by
    unfold obsOf at hd
    rw [List.map_append, startObs_D] at hd
    rcases List.mem_append.mp hd with hd | hd
    · exact (sm_start (hs := []) (L := 0) (by simp) (by simp) d hd).mono (by decide) (by decide)
    · simp only [ownObs, List.map_cons, List.map_nil, List.mem_cons, List.not_mem_nil, or_false] at hd
      have cl : ∀ (n : Str) (b : Int) (j : Nat), shortS n = true → b.natAbs < 1000 → Sm (obD (.cls n b (m j))) 5 200000 := fun n b j hn hb => (Sm.tup (.cons (Sm.short (n := "class") (by decide +kernel)) (.cons (Sm.short hn) (.cons (hi b hb) (.cons (h.sm ht j) .nil))))).mono (by decide) (by decide)
      have ins : ∀ (b : Int) (j : Nat), b.natAbs < 1000 → Sm (obD (.inst b (m j))) 5 200000 := fun b j hb => (Sm.tup (.cons (Sm.short (n := "inst") (by decide +kernel)) (.cons (hi b hb) (.cons (h.sm ht j) .nil)))).mono (by decide) (by decide)
      rcases hd with rfl | rfl | rfl | rfl | rfl | rfl
      · exact cl "A" (-1) 0 (by decide +kernel) (by decide)
      · exact cl "B" 17 1 (by decide +kernel) (by decide)
      · exact ins _ 2 (by omega)
      · exact ins _ 3 (by omega)
      · exact ins _ 4 (by omega)
      · exact (Sm.tup (.cons (Sm.short (n := "list") (by decide +kernel)) (.cons (Sm.tup .nil) .nil))).mono (by decide) (by decide)
  refine (Sm.lst (SmAll.many h1)).show (by decide) ?_
  rw [List.length_map]
  have : (obsOf c m).length = 23 := rfl
  rw [this]
  decide
theorem MM.up {m : Nat → Ms} {t : Nat} (h : MM m t) : MM m (t + 1) := ⟨h.nd, fun i => Nat.le_succ_of_le (h.len i), h.nm, h.vl⟩
theorem start_at {c : Cs} {m : Nat → Ms} (n : Nat) (hn : n < 16) : ∃ (nm : Str) (b : Int), clsNames[n]? = some nm ∧ (obsOf c m)[1 + n]? = some (.cls nm b []) ∧ nm.length ≤ 100 ∧ Sm (.str ("class " ++ nm ++ " cannot be changed")) 0 2000 := by
  match n, hn with
  | 0, _ => exact ⟨_, _, rfl, rfl, by decide +kernel, (Sm.str (n := 100) (by decide +kernel) (strOk _ (by decide +kernel))).mono (by decide) (by decide)⟩
  | 1, _ => exact ⟨_, _, rfl, rfl, by decide +kernel, (Sm.str (n := 100) (by decide +kernel) (strOk _ (by decide +kernel))).mono (by decide) (by decide)⟩
  | 2, _ => exact ⟨_, _, rfl, rfl, by decide +kernel, (Sm.str (n := 100) (by decide +kernel) (strOk _ (by decide +kernel))).mono (by decide) (by decide)⟩
  | 3, _ => exact ⟨_, _, rfl, rfl, by decide +kernel, (Sm.str (n := 100) (by decide +kernel) (strOk _ (by decide +kernel))).mono (by decide) (by decide)⟩
  | 4, _ => exact ⟨_, _, rfl, rfl, by decide +kernel, (Sm.str (n := 100) (by decide +kernel) (strOk _ (by decide +kernel))).mono (by decide) (by decide)⟩
  | 5, _ => exact ⟨_, _, rfl, rfl, by decide +kernel, (Sm.str (n := 100) (by decide +kernel) (strOk _ (by decide +kernel))).mono (by decide) (by decide)⟩
  | 6, _ => exact ⟨_, _, rfl, rfl, by decide +kernel, (Sm.str (n := 100) (by decide +kernel) (strOk _ (by decide +kernel))).mono (by decide) (by decide)⟩
  | 7, _ => exact ⟨_, _, rfl, rfl, by decide +kernel, (Sm.str (n := 100) (by decide +kernel) (strOk _ (by decide +kernel))).mono (by decide) (by decide)⟩
  | 8, _ => exact ⟨_, _, rfl, rfl, by decide +kernel, (Sm.str (n := 100) (by decide +kernel) (strOk _ (by decide +kernel))).mono (by decide) (by decide)⟩
  | 9, _ => exact ⟨_, _, rfl, rfl, by decide +kernel, (Sm.str (n := 100) (by decide +kernel) (strOk _ (by decide +kernel))).mono (by decide) (by decide)⟩
  | 10, _ => exact ⟨_, _, rfl, rfl, by decide +kernel, (Sm.str (n := 100) (by decide +kernel) (strOk _ (by decide +kernel))).mono (by decide) (by decide)⟩
  | 11, _ => exact ⟨_, _, rfl, rfl, by decide +kernel, (Sm.str (n := 100) (by decide +kernel) (strOk _ (by decide +kernel))).mono (by decide) (by decide)⟩
  | 12, _ => exact ⟨_, _, rfl, rfl, by decide +kernel, (Sm.str (n := 100) (by decide +kernel) (strOk _ (by decide +kernel))).mono (by decide) (by decide)⟩
  | 13, _ => exact ⟨_, _, rfl, rfl, by decide +kernel, (Sm.str (n := 100) (by decide +kernel) (strOk _ (by decide +kernel))).mono (by decide) (by decide)⟩
  | 14, _ => exact ⟨_, _, rfl, rfl, by decide +kernel, (Sm.str (n := 100) (by decide +kernel) (strOk _ (by decide +kernel))).mono (by decide) (by decide)⟩
  | 15, _ => exact ⟨_, _, rfl, rfl, by decide +kernel, (Sm.str (n := 100) (by decide +kernel) (strOk _ (by decide +kernel))).mono (by decide) (by decide)⟩
  | n + 16, h => omega
theorem sm_cat {p x : Str} (hp : p.length ≤ 100) (hc : p.cps.toList.all (fun c => decide (c < 16 ^ 8)) = true) (hx : NameOk x) : Sm (.str (p ++ x)) 0 2000 := by
  obtain ⟨a, rfl, h1, h2⟩ := hx.ex
  have e1 := len_app p (S a)
  have e2 := S_len a
  refine (Sm.str (x := p ++ S a) (n := 150) (by omega) fun c h => ?_).mono (by decide) (by decide)
  have e : (p ++ S a).cps.toList = p.cps.toList ++ a := by
    show (p.cps ++ (S a).cps).toList = _
    simp [S]
  rw [e] at h
  rcases List.mem_append.mp h with h | h
  · exact of_decide_eq_true (List.all_eq_true.mp hc c h)
  · exact Nat.lt_trans (h2 c h) (by decide)
theorem show_raise {t : Str} (h : Sm (.str t) 0 2000) : ShowOk (raiseD t) := (Sm.tup (.cons (Sm.short (n := "raise") (by decide +kernel)) (.cons (Sm.int (i := 9) (Nat.lt_of_lt_of_le (show (9 : Int).natAbs < 2 ^ 20 by decide) (Nat.pow_le_pow_right (by decide) (by decide)))) (.cons h .nil)))).show (by decide) (by decide)
theorem dtAll_take {H : Hp} : ∀ (n : Nat) {xs : List V} {ds : List PyData}, DtAll K H xs ds → DtAll K H (xs.take n) (ds.take n)
  | 0, _, _, _ => .nil
  | n + 1, _, _, .nil => .nil
  | n + 1, _, _, .cons h r => .cons h (dtAll_take n r)
theorem showDone : ShowOk doneD := (Sm.tup (.cons (Sm.short (n := "ok") (by decide +kernel)) (.cons (Sm.tup (.cons (Sm.short (n := "none") (by decide +kernel)) .nil)) .nil))).show (by decide) (by decide)
def spLaw (K : PySem.W.Frag) : Sp := fun vs H Q _ => ∃ (a : Addr) (ns : List Int), vs = [.ref a] ∧ SqL K H a (ns.map V.int) ∧ ns.length ≤ 63 ∧ ∀ H', Q (.bl true) H'
theorem ok_law {f : Addr} {fd : FuncData} (F : Fun K "law" "law" s_law f fd) (T : Txt K mg) (U_law_digits : Use P w K mg base CX0 "_law_digits" 2 P_law_digits (spDigits K)) (U_law_draw : Use P w K mg base CX0 "_law_draw" 1 P_law_draw (spDraw K))
    (U_law_names : Use P w K mg base CX0 "_law_names" 2 P_law_names (spNames K)) (U_law_value : Use P w K mg base CX0 "_law_value" 2 P_law_value (spValue K)) (U_start_heap : Use P w K mg base CX0 "start_heap" 1 P_start_heap (spStart K)) (U_law_put : Use P w K mg base CX0 "_law_put" 1 P_law_put (spLPut K))
    (U_put_attribute : Use P w K mg base CX0 "put_attribute" 3 P_put_attribute (spPut K)) (U_attribute : Use P w K mg base CX0 "attribute" 3 P_attribute (spAttr K)) (U_law_same : Use P w K mg base CX0 "_law_same" 1 P_law_same (spSame K)) : FnG P w K mg base CX0 4 f fd P_law (spLaw K) := by
  refine okG0 F sc_law (fun vs H Q E h => ?_) fun cdv A outer s H vs Q E hr hg h => ?_
  · obtain ⟨a, ns, rfl, _⟩ := h
    rfl
  · obtain ⟨a, ns, rfl, hs, hn, k⟩ := h
    refine ⟨_, (pss_cons (ps_set (i := 1) sc_law.nd rfl (Or.inl rfl) (pe_lst (pa_cons (pe_use U_law_digits (hr.mono (by decide)) hg rfl (pa_cons (pv 0) (pa_cons pe_int (pa_cons pe_int pa_nil)))) (pa_cons pe_int pa_nil))))
  (pss_cons (ps_set (i := 2) sc_law.nd rfl (Or.inl rfl) (pe_use U_law_names (hr.mono (by decide)) hg rfl (pa_cons (pv 1) pa_nil)))
  (pss_cons (ps_set (i := 3) sc_law.nd rfl (Or.inl rfl) (pe_use U_start_heap (hr.mono (by decide)) hg rfl (pa_cons (pe_tup pa_nil) pa_nil)))
  (pss_cons (ps_set (i := 4) sc_law.nd rfl (Or.inl rfl) (pe_callB call_len (by rfl) T.b_len PySem.boot_len (pa_cons (pv 3) pa_nil)))
  (pss_cons (ps_expr (pe_bm PySem.F.plainAttrs_list PySem.F.slot_list_append PySem.F.type_list_append mt_append (pv 3) (pa_cons (pe_tup (pa_cons pe_str (pa_cons pe_str (pa_cons (pe_un un_neg pe_int) (pa_cons (pe_tup pa_nil) pa_nil))))) pa_nil)))
  (pss_cons (ps_expr (pe_bm PySem.F.plainAttrs_list PySem.F.slot_list_append PySem.F.type_list_append mt_append (pv 3) (pa_cons (pe_tup (pa_cons pe_str (pa_cons pe_str (pa_cons (pv 4) (pa_cons (pe_tup pa_nil) pa_nil))))) pa_nil)))
  (pss_cons (ps_for PassesOwn.never rfl (pi_range1 (by rfl) T.b_range (pa_cons pe_int pa_nil)) (pg_name (i := 5) sc_law.nd rfl (Or.inl rfl))
   (pss_one (ps_expr (pe_bm PySem.F.plainAttrs_list PySem.F.slot_list_append PySem.F.type_list_append mt_append (pv 3) (pa_cons (pe_tup (pa_cons pe_str (pa_cons (pe_op op_add (pv 4) (pe_callTy call_int1 (by rfl) T.b_int (by decide +kernel) (pa_cons (pe_use U_law_draw (hr.mono (by decide)) hg rfl (pa_cons (pv 1) (pa_cons pe_int pa_nil))) pa_nil))) (pa_cons (pe_tup pa_nil) pa_nil)))) pa_nil)))))
  (pss_cons (ps_expr (pe_bm PySem.F.plainAttrs_list PySem.F.slot_list_append PySem.F.type_list_append mt_append (pv 3) (pa_cons (pe_tup (pa_cons pe_str (pa_cons (pe_tup pa_nil) pa_nil))) pa_nil)))
  (pss_cons (ps_set (i := 6) sc_law.nd rfl (Or.inl rfl) (pe_lst (pa_cons (pe_lst pa_nil) (pa_cons (pe_lst pa_nil) (pa_cons (pe_lst pa_nil) (pa_cons (pe_lst pa_nil) (pa_cons (pe_lst pa_nil) pa_nil)))))))
  (pss_cons (ps_for PassesOwn.never rfl (pi_range1 (by rfl) T.b_range (pa_cons (pe_op op_add pe_int (pe_use U_law_draw (hr.mono (by decide)) hg rfl (pa_cons (pv 1) (pa_cons pe_int pa_nil)))) pa_nil)) (pg_name (i := 5) sc_law.nd rfl (Or.inl rfl))
   (pss_cons (ps_set (i := 7) sc_law.nd rfl (Or.inl rfl) (pe_use U_law_draw (hr.mono (by decide)) hg rfl (pa_cons (pv 1) (pa_cons pe_int pa_nil))))
  (pss_cons (ps_set (i := 8) sc_law.nd rfl (Or.inl rfl) (pe_ix ix_list (pv 2) (pe_use U_law_draw (hr.mono (by decide)) hg rfl (pa_cons (pv 1) (pa_cons pe_int pa_nil))) (fun _ _ => rfl)))
  (pss_cons (ps_set (i := 9) sc_law.nd rfl (Or.inl rfl) (pe_use U_law_value (hr.mono (by decide)) hg rfl (pa_cons (pv 1) pa_nil)))
  (pss_cons (ps_set (i := 10) sc_law.nd rfl (Or.inl rfl) (pe_callB (call_repr_data hg hr.units) (by rfl) T.b_repr (by decide +kernel) (pa_cons (pv 3) pa_nil)))
  (pss_cons (ps_set (i := 11) sc_law.nd rfl (Or.inl rfl) (pe_tup (pa_cons pe_str (pa_cons (pe_tup (pa_cons pe_str pa_nil)) pa_nil))))
  (C8.pss_cut (ps_if (pt_cmpR op_lt (pv 7) pe_int (nomark _))
   (pss_cons (ps_expr (pe_use U_law_put (hr.mono (by decide)) hg rfl (pa_cons (pe_ix ix_list (pv 6) (pv 7) (fun _ _ => rfl)) (pa_cons (pv 8) (pa_cons (pv 9) pa_nil)))))
  (pss_cons (ps_set (i := 12) sc_law.nd rfl (Or.inl rfl) (pe_use U_put_attribute (hr.mono (by decide)) hg rfl (pa_cons (pv 3) (pa_cons (pe_tup (pa_cons pe_str (pa_cons (pe_op op_add (pv 4) (pv 7)) pa_nil))) (pa_cons (pv 8) (pa_cons (pv 9) pa_nil))))))
  (pss_one (ps_if (pt_not (pt_val (pe_use U_law_same (hr.mono (by decide)) hg rfl (pa_cons (pe_use U_attribute (hr.mono (by decide)) hg rfl (pa_cons (pv 3) (pa_cons (pe_tup (pa_cons pe_str (pa_cons (pe_op op_add (pv 4) (pv 7)) pa_nil))) (pa_cons (pv 8) pa_nil)))) (pa_cons (pe_tup (pa_cons pe_str (pa_cons (pv 9) pa_nil))) pa_nil)))))
   (pss_one (ps_ret pe_bl))
   pss_nil))))
   (pss_cons (ps_set (i := 13) sc_law.nd rfl (Or.inl rfl) (pe_op op_add pe_int (pe_use U_law_draw (hr.mono (by decide)) hg rfl (pa_cons (pv 1) (pa_cons pe_int pa_nil)))))
  (pss_cons (ps_set (i := 14) sc_law.nd rfl (Or.inl rfl) (pe_ix ix_list (pe_lst (pa_cons (pe_tup (pa_cons pe_str (pa_cons (pv 13) pa_nil))) (pa_cons (pe_tup (pa_cons pe_str (pa_cons (pe_op op_add (pv 4) pe_int) pa_nil))) (pa_cons (pe_tup (pa_cons pe_str (pa_cons pe_str pa_nil))) pa_nil)))) (pe_op op_sub (pv 7) pe_int) (fun _ _ => rfl)))
  (pss_cons (ps_set (i := 15) sc_law.nd rfl (Or.inl rfl) (pe_lst (pa_cons (pe_op op_add_str (pe_op op_add_str pe_str (pe_ix ix_tup (pe_globT T.c_CLASSES (by rfl)) (pe_op op_sub (pv 13) pe_int) (fun _ _ => rfl))) pe_str) (pa_cons (pe_op op_add_str pe_str (pv 8)) (pa_cons (pe_op op_add_str pe_str (pv 8)) pa_nil)))))
  (pss_cons (ps_set (i := 11) sc_law.nd rfl (Or.inl rfl) (pe_tup (pa_cons pe_str (pa_cons pe_int (pa_cons (pe_ix ix_list (pv 15) (pe_op op_sub (pv 7) pe_int) (fun _ _ => rfl)) pa_nil)))))
  (pss_cons (ps_set (i := 12) sc_law.nd rfl (Or.inl rfl) (pe_use U_put_attribute (hr.mono (by decide)) hg rfl (pa_cons (pv 3) (pa_cons (pv 14) (pa_cons (pv 8) (pa_cons (pv 9) pa_nil))))))
  (pss_one (ps_if (pt_cmpR op_ne (pe_callB (call_repr_data hg hr.units) (by rfl) T.b_repr (by decide +kernel) (pa_cons (pv 3) pa_nil)) (pv 10) (nomark _))
   (pss_one (ps_ret pe_bl))
   pss_nil))))))))
  (pss_one (ps_if (pt_not (pt_val (pe_use U_law_same (hr.mono (by decide)) hg rfl (pa_cons (pv 12) (pa_cons (pv 11) pa_nil)))))
   (pss_one (ps_ret pe_bl))
   pss_nil)))))))))
  (pss_cons (ps_for PassesOwn.never rfl (pi_range1 (by rfl) T.b_range (pa_cons pe_int pa_nil)) (pg_name (i := 5) sc_law.nd rfl (Or.inl rfl))
   (pss_cons (ps_set (i := 16) sc_law.nd rfl (Or.inl rfl) (pe_ix ix_list (pv 3) (pe_op op_add (pv 4) (pv 5)) (fun _ _ => rfl)))
  (pss_cons (ps_set (i := 17) sc_law.nd rfl (Or.inl rfl) (pe_ix ix_tup (pv 16) pe_int (fun _ _ => rfl)))
  (C8.pss_cut (ps_if (pt_cmpR op_lt (pv 5) pe_int (nomark _))
   (pss_one (ps_set (i := 17) sc_law.nd rfl (Or.inl rfl) (pe_ix ix_tup (pv 16) pe_int (fun _ _ => rfl))))
   pss_nil)
  (pss_one (ps_if (pt_not (pt_val (pe_use U_law_same (hr.mono (by decide)) hg rfl (pa_cons (pv 17) (pa_cons (pe_callTy call_tuple_of (by rfl) T.b_tuple (by decide +kernel) (pa_cons (pe_ix ix_list (pv 6) (pv 5) (fun _ _ => rfl)) pa_nil)) pa_nil)))))
   (pss_one (ps_ret pe_bl))
   pss_nil))))))
  (pss_one (ps_ret (pe_and (pe_cmpR op_eq (pe_callB (call_repr_data hg hr.units) (by rfl) T.b_repr (by decide +kernel) (pa_cons (pe_slice sl_list (pv 3) po_none (po_some (pv 4))) pa_nil)) (pe_callB (call_repr_data hg hr.units) (by rfl) T.b_repr (by decide +kernel) (pa_cons (pe_use U_start_heap (hr.mono (by decide)) hg rfl (pa_cons (pe_tup pa_nil) pa_nil)) pa_nil)) (nomark _)) (pe_one (pe_cmpR op_eq (pe_callB call_len (by rfl) T.b_len PySem.boot_len (pa_cons (pv 3) pa_nil)) (pe_op op_add (pv 4) pe_int) (nomark _))))))))))))))))), ?_⟩
    refine ⟨_, rfl, a, ns, 0, 63, rfl, hs, by decide, by decide, fun dl H1 nd D => ?_⟩
    obtain ⟨ds, hd, hl, hds, S1⟩ := D
    refine ⟨sz_2, fun p hp0 => ?_⟩
    have B0 : BoxAt (upd H1 p (.lst [.ref dl, .int 0])) p dl := ⟨ds, 0, upd_same, by decide, by rw [upd_ne (ne_of_none hd hp0)]; exact hd, hl, hds⟩
    generalize upd H1 p (.lst [.ref dl, .int 0]) = H2 at B0
    refine ⟨_, rfl, p, dl, rfl, B0, fun np nms H3 hnp B3 K3 en hnl hno => ?_⟩
    have hnpp : np ≠ p := fun e => by subst e; obtain ⟨xs, g⟩ := B0.at_; rw [g] at hnp; cases hnp
    refine ⟨sz_0, fun t0 ht0 => ⟨t0, [], rfl, SqT.of upd_same, by decide, fun hp H4 nh S4 L4 => ?_⟩⟩
    have St := Same.new (o := .tup []) ht0
    have ne1 : ∀ {H : Hp} {a b : Addr} {o : HO}, H a = some o → H b = none → b ≠ a := fun h1 h2 e => by subst e; rw [h1] at h2; cases h2
    have Dd : Dw p dl np hp := by
      obtain ⟨bx, hbx⟩ := (B3.same St).at_
      obtain ⟨bd, hbd⟩ := (B3.same St).dg
      exact ⟨hnpp, ne1 hbx nh, ne1 hbd nh, ne1 (St _ _ en) nh⟩
    have X4 : Wb K H4 p dl np nms hp startObs := ⟨(B3.same St).same S4, S4 _ _ (St _ _ en), by rw [startObs_D]; exact L4⟩
    clear St S4 L4 nh ht0 B3 K3 en hnp B0 hp0
    obtain ⟨zs, ez, lz, _⟩ := X4.len
    have lz : zs.length = 17 := lz.trans (by decide)
    refine ⟨_, rfl, _, 17, rfl, .inl ⟨_, SqL.of ez, lz.symm⟩, ?_⟩
    refine ⟨_, rfl, .inl ⟨rfl, _, SqL.of ez⟩, _, rfl, sz_0, fun u hu => ⟨(show 4 ≤ sizeLine by decide), fun u2 hu2 => ?_⟩⟩
    have T1 := Same.new (o := .tup []) hu
    have T2 := Same.new (o := .tup [.str "class", .str "A", .int (-1), .ref u]) hu2
    have ez2 := T2 _ _ (T1 _ _ ez)
    refine ⟨hp, _, _, rfl, rfl, ez2, Nat.lt_of_le_of_lt (show zs.length ≤ 20 by omega) (by decide), ?_⟩
    have X5 := ((X4.same T1).same T2).addO Dd ez2 (o := .cls "A" (-1) []) (Dt.made hu2 (.cons (.str _) (.cons (.str _) (.cons (.int _) (.cons (Dt.made hu .nil) .nil)))))
    dsimp only
    generalize upd (upd (upd H4 u _) u2 _) hp _ = H5 at X5
    clear X4 T1 T2 hu hu2 ez2 ez
    obtain ⟨zs, ez, lz, _⟩ := X5.len
    have lz : zs.length = 18 := lz.trans (by decide)
    refine ⟨_, rfl, .inl ⟨rfl, _, SqL.of ez⟩, _, rfl, sz_0, fun u hu => ⟨(show 4 ≤ sizeLine by decide), fun u2 hu2 => ?_⟩⟩
    have T1 := Same.new (o := .tup []) hu
    have T2 := Same.new (o := .tup [.str "class", .str "B", .int 17, .ref u]) hu2
    have ez2 := T2 _ _ (T1 _ _ ez)
    refine ⟨hp, _, _, rfl, rfl, ez2, Nat.lt_of_le_of_lt (show zs.length ≤ 20 by omega) (by decide), ?_⟩
    have X6 := ((X5.same T1).same T2).addO Dd ez2 (o := .cls "B" 17 []) (Dt.made hu2 (.cons (.str _) (.cons (.str _) (.cons (.int _) (.cons (Dt.made hu .nil) .nil)))))
    dsimp only
    generalize upd (upd (upd H5 u _) u2 _) hp _ = H6 at X6
    clear X5 T1 T2 hu hu2 ez2 ez
    refine ⟨_, rfl, by decide, by decide, ?_⟩
    refine for_range (lo := 0) (n := 3) (fun i σ H7 => ∃ (cs : List Int) (x5 : Option V), σ = [some (.ref a), some (.ref p), some (.ref np), some (.ref hp), some (.int 17), x5, none, none, none, none, none, none, none, none, none, none, none, none] ∧ Wb K H7 p dl np nms hp (startObs ++ [.cls "A" (-1) []] ++ [.cls "B" 17 []] ++ cs.map fun c => .inst c []) ∧ cs.length = i ∧ ∀ c ∈ cs, 17 ≤ c ∧ c ≤ 18) ⟨[], none, rfl, by rw [List.map_nil, List.append_nil]; exact X6, rfl, by simp⟩ ?_ ?_
    · rintro i σ H7 hi ⟨cs, x5, rfl, X7, hcl, hcs⟩
      obtain ⟨zs, ez, lz, _⟩ := X7.len
      refine ⟨_, rfl, .inl ⟨rfl, _, SqL.of ez⟩, _, rfl, _, rfl, p, dl, 2, rfl, X7.box, by decide, fun r H8 r0 r1 B8 K8 => .inl ⟨_, rfl, _, _, rfl, rfl, sz_0, fun u hu => ⟨sz_3, fun u2 hu2 => ?_⟩⟩⟩
      have X8 := X7.draw Dd B8 K8
      have T1 := Same.new (o := .tup []) hu
      have T2 := Same.new (o := .tup [.str "inst", .int (17 + r), .ref u]) hu2
      have ez2 := T2 _ _ (T1 _ _ (K8 _ _ ez Dd.h1))
      have lz2 : zs.length ≤ 30 := by
        rw [lz]
        simp only [List.length_append, List.length_map, hcl]
        have : startObs.length = 17 := by decide
        rw [this]
        simp
        omega
      refine ⟨hp, _, _, rfl, rfl, ez2, Nat.lt_of_le_of_lt lz2 (by decide), ?_⟩
      have X9 := ((X8.same T1).same T2).addO Dd ez2 (o := .inst (17 + r) []) (Dt.made hu2 (.cons (.str _) (.cons (.int _) (.cons (Dt.made hu .nil) .nil))))
      refine ⟨cs ++ [17 + r], _, rfl, by rw [List.map_append, ← List.append_assoc]; exact X9, by simp; omega, fun c hc => ?_⟩
      rcases List.mem_append.mp hc with hc | hc
      · exact hcs c hc
      · rw [List.mem_singleton.mp hc]; omega
    rintro σ H7 ⟨cs, x5, rfl, X7, hcl, hcs⟩
    obtain ⟨zs, ez, lz, _⟩ := X7.len
    obtain ⟨c0, c1, c2, rfl⟩ : ∃ c0 c1 c2, cs = [c0, c1, c2] := by
      match cs, hcl with
      | [c0, c1, c2], _ => exact ⟨c0, c1, c2, rfl⟩
    have hc0 := hcs c0 (by simp)
    have hc1 := hcs c1 (by simp)
    have hc2 := hcs c2 (by simp)
    refine ⟨_, rfl, .inl ⟨rfl, _, SqL.of ez⟩, sz_0, fun u hu => ⟨sz_2, fun u2 hu2 => ?_⟩⟩
    have T1 := Same.new (o := .tup []) hu
    have T2 := Same.new (o := .tup [.str "list", .ref u]) hu2
    have ez2 := T2 _ _ (T1 _ _ ez)
    have lz : zs.length = 22 := lz.trans rfl
    refine ⟨hp, _, _, rfl, rfl, ez2, Nat.lt_of_le_of_lt (show zs.length ≤ 30 by omega) (by decide), ?_⟩
    have X8 := ((X7.same T1).same T2).addO Dd ez2 (o := .other "list" [.tuple []]) (Dt.made hu2 (.cons (.str _) (.cons (Dt.made hu .nil) .nil)))
    dsimp only
    generalize upd (upd (upd H7 u _) u2 _) hp _ = H8 at X8
    have X9 : Wb K H8 p dl np nms hp (obsOf ⟨c0, c1, c2⟩ fun _ => []) := X8
    clear X8 X7 T1 T2 hu hu2 ez2 ez X6
    refine ⟨sz_0, fun a0 g0 => ⟨sz_0, fun a1 g1 => ⟨sz_0, fun a2 g2 => ⟨sz_0, fun a3 g3 => ⟨sz_0, fun a4 g4 => ⟨(show 5 ≤ sizeLine by decide), fun rp gr => ?_⟩⟩⟩⟩⟩⟩
    have S0 := Same.new (o := .lst []) g0
    have S1 := Same.new (o := .lst []) g1
    have S2 := Same.new (o := .lst []) g2
    have S3 := Same.new (o := .lst []) g3
    have S4 := Same.new (o := .lst []) g4
    have S5 := Same.new (o := .lst [.ref a0, .ref a1, .ref a2, .ref a3, .ref a4]) gr
    have e0 : (upd H8 a0 (.lst [])) a0 = some (.lst []) := upd_same
    have e1 : (upd (upd H8 a0 (.lst [])) a1 (.lst [])) a1 = some (.lst []) := upd_same
    have e2 : (upd (upd (upd H8 a0 (.lst [])) a1 (.lst [])) a2 (.lst [])) a2 = some (.lst []) := upd_same
    have e3 : (upd (upd (upd (upd H8 a0 (.lst [])) a1 (.lst [])) a2 (.lst [])) a3 (.lst [])) a3 = some (.lst []) := upd_same
    have e4 : (upd (upd (upd (upd (upd H8 a0 (.lst [])) a1 (.lst [])) a2 (.lst [])) a3 (.lst [])) a4 (.lst [])) a4 = some (.lst []) := upd_same
    have eR : (upd (upd (upd (upd (upd (upd H8 a0 (.lst [])) a1 (.lst [])) a2 (.lst [])) a3 (.lst [])) a4 (.lst [])) rp (.lst [.ref a0, .ref a1, .ref a2, .ref a3, .ref a4])) rp = some (.lst [.ref a0, .ref a1, .ref a2, .ref a3, .ref a4]) := upd_same
    have n10 := ne1 e0 g1
    have n20 := ne1 (S1 _ _ e0) g2
    have n21 := ne1 e1 g2
    have n30 := ne1 (S2 _ _ (S1 _ _ e0)) g3
    have n31 := ne1 (S2 _ _ e1) g3
    have n32 := ne1 e2 g3
    have n40 := ne1 (S3 _ _ (S2 _ _ (S1 _ _ e0))) g4
    have n41 := ne1 (S3 _ _ (S2 _ _ e1)) g4
    have n42 := ne1 (S3 _ _ e2) g4
    have n43 := ne1 e3 g4
    have m0 := ne1 (S4 _ _ (S3 _ _ (S2 _ _ (S1 _ _ e0)))) gr
    have m1 := ne1 (S4 _ _ (S3 _ _ (S2 _ _ e1))) gr
    have m2 := ne1 (S4 _ _ (S3 _ _ e2)) gr
    have m3 := ne1 (S4 _ _ e3) gr
    have m4 := ne1 e4 gr
    have o0 : ∀ {b : Addr} {o : HO}, H8 b = some o → a0 ≠ b := fun h => ne1 h g0
    have o1 : ∀ {b : Addr} {o : HO}, H8 b = some o → a1 ≠ b := fun h => ne1 (S0 _ _ h) g1
    have o2 : ∀ {b : Addr} {o : HO}, H8 b = some o → a2 ≠ b := fun h => ne1 (S1 _ _ (S0 _ _ h)) g2
    have o3 : ∀ {b : Addr} {o : HO}, H8 b = some o → a3 ≠ b := fun h => ne1 (S2 _ _ (S1 _ _ (S0 _ _ h))) g3
    have o4 : ∀ {b : Addr} {o : HO}, H8 b = some o → a4 ≠ b := fun h => ne1 (S3 _ _ (S2 _ _ (S1 _ _ (S0 _ _ h)))) g4
    have o5 : ∀ {b : Addr} {o : HO}, H8 b = some o → rp ≠ b := fun h => ne1 (S4 _ _ (S3 _ _ (S2 _ _ (S1 _ _ (S0 _ _ h))))) gr
    have oA : ∀ {b : Addr} {o : HO}, H8 b = some o → ∀ i, i < 5 → raOf a0 a1 a2 a3 a4 i ≠ b := fun h i hi => match i, hi with
      | 0, _ => o0 h
      | 1, _ => o1 h
      | 2, _ => o2 h
      | 3, _ => o3 h
      | 4, _ => o4 h
    obtain ⟨bx, hbx⟩ := X9.box.at_
    obtain ⟨bd, hbd⟩ := X9.box.dg
    obtain ⟨bo, hbo⟩ := listAt_ex X9.ob
    have Dd2 : Dr p dl np hp rp (raOf a0 a1 a2 a3 a4) := ⟨o5 hbx, o5 hbo, oA hbx, oA hbd, oA X9.nm, oA hbo,
      fun i hi => match i, hi with
        | 0, _ => m0.symm
        | 1, _ => m1.symm
        | 2, _ => m2.symm
        | 3, _ => m3.symm
        | 4, _ => m4.symm,
      fun i j hi hj ne => by
        rcases i with _ | _ | _ | _ | _ | i <;> rcases j with _ | _ | _ | _ | _ | j <;>
          first
          | omega
          | exact n10 | exact n10.symm | exact n20 | exact n20.symm | exact n21 | exact n21.symm | exact n30 | exact n30.symm | exact n31 | exact n31.symm | exact n32 | exact n32.symm
          | exact n40 | exact n40.symm | exact n41 | exact n41.symm | exact n42 | exact n42.symm | exact n43 | exact n43.symm⟩
    have R9 : Rw K _ rp (raOf a0 a1 a2 a3 a4) (fun _ => []) := ⟨eR, fun i hi => match i, hi with
      | 0, _ => ⟨[], S5 _ _ (S4 _ _ (S3 _ _ (S2 _ _ (S1 _ _ e0)))), .nil⟩
      | 1, _ => ⟨[], S5 _ _ (S4 _ _ (S3 _ _ (S2 _ _ e1))), .nil⟩
      | 2, _ => ⟨[], S5 _ _ (S4 _ _ (S3 _ _ e2)), .nil⟩
      | 3, _ => ⟨[], S5 _ _ (S4 _ _ e3), .nil⟩
      | 4, _ => ⟨[], S5 _ _ e4, .nil⟩⟩
    have X10 := (((((X9.same S0).same S1).same S2).same S3).same S4).same S5
    generalize upd (upd (upd (upd (upd (upd H8 a0 _) a1 _) a2 _) a3 _) a4 _) rp _ = H10 at R9 X10
    generalize raOf a0 a1 a2 a3 a4 = ra at R9 Dd2
    clear X9 S0 S1 S2 S3 S4 S5 e0 e1 e2 e3 e4 eR n10 n20 n21 n30 n31 n32 n40 n41 n42 n43 m0 m1 m2 m3 m4 o0 o1 o2 o3 o4 o5 oA hbx hbd hbo g0 g1 g2 g3 g4 gr
    refine ⟨_, rfl, p, dl, 40, rfl, X10.box, by decide, fun r H11 r0 r1 B11 K11 => ?_⟩
    have X11 := X10.draw Dd B11 K11
    have R11 := R9.draw Dd2 X10.box K11
    clear X10 R9 B11 K11
    obtain ⟨N, rfl⟩ := Int.eq_ofNat_of_zero_le r0
    refine ⟨_, _, rfl, rfl, _, rfl, by omega, by omega, ?_⟩
    rw [show ((1 : Int) + (N : Int)).toNat = N + 1 by omega]
    refine for_range (lo := 0) (n := N + 1) (fun i σ H => ∃ (m : Nat → Ms) (x5 x7 x8 x9 x10 x11 x12 x13 x14 x15 : Option V), σ = [some (.ref a), some (.ref p), some (.ref np), some (.ref hp), some (.int 17), x5, some (.ref rp), x7, x8, x9, x10, x11, x12, x13, x14, x15, none, none] ∧ Wb K H p dl np nms hp (obsOf ⟨c0, c1, c2⟩ m) ∧ Rw K H rp ra m ∧ MM m i)
      ⟨_, _, _, _, _, _, _, _, _, _, _, rfl, X11, R11, ⟨fun _ => List.nodup_nil, fun _ => Nat.le_refl _, fun _ _ h => (by cases h), fun _ _ h => (by cases h)⟩⟩ ?_ ?_
    · rintro i σ H12 hi ⟨m, x5, x7, x8, x9, x10, x11, x12, x13, x14, x15, rfl, X12, R12, M⟩
      refine ⟨_, rfl, p, dl, 8, rfl, X12.box, by decide, fun at8 H13 q0 q1 B13 K13 => ?_⟩
      have X13 := X12.draw Dd B13 K13
      have R13 := R12.draw Dd2 X12.box K13
      clear X12 R12 B13 K13
      refine ⟨_, rfl, _, rfl, p, dl, 8, rfl, X13.box, by decide, fun jx H14 j0 j1 B14 K14 => ?_⟩
      have X14 := X13.draw Dd B14 K14
      have R14 := R13.draw Dd2 X13.box K14
      clear X13 R13 B14 K14
      obtain ⟨j, rfl⟩ := Int.eq_ofNat_of_zero_le j0
      have hx : nms[j]? = some nms[j] := List.getElem?_eq_getElem (by omega)
      have hxo := hno _ (List.getElem_mem (show j < nms.length by omega))
      generalize nms[j] = x at hx hxo
      refine ⟨np, _, _, _, rfl, rfl, SqL.of X14.nm, atI_nat (by rw [List.getElem?_map, hx]; rfl), ?_⟩
      refine ⟨_, rfl, p, dl, rfl, X14.box, fun v d H15 B15 K15 dv hv => ?_⟩
      have X15 := X14.draw Dd B15 K15
      have R15 := R14.draw Dd2 X14.box K15
      clear X14 R14 B15 K15
      have hsh := show_obs (c := ⟨c0, c1, c2⟩) M (by omega) hc0 hc1 hc2
      have dL : ∀ {H : Hp}, ListAt K H hp ((obsOf ⟨c0, c1, c2⟩ m).map obD) → Dp K H (.ref hp) (.list ((obsOf ⟨c0, c1, c2⟩ m).map obD)) := fun L => let ⟨zs, ez, az⟩ := L; .lst (SqL.of ez) az.dp
      refine ⟨_, rfl, _, _, rfl, dL X15.ob, hsh, ?_⟩
      refine ⟨sz_1, fun u1 hu1 => ⟨sz_2, fun u2 hu2 => ?_⟩⟩
      have T1 := Same.new (o := .tup [.str "none"]) hu1
      have T2 := Same.new (o := .tup [.str "ok", .ref u1]) hu2
      have dDue : Dt K _ (.ref u2) doneD := Dt.made hu2 (.cons (.str _) (.cons (Dt.made hu1 (.cons (.str _) .nil)) .nil))
      have X16 := (X15.same T1).same T2
      have R16 := (R15.same T1).same T2
      have dv := (dv.mono T1).mono T2
      generalize upd (upd H15 u1 _) u2 _ = H16 at X16 R16 dv dDue
      clear T1 T2 X15 R15 hu1 hu2
      refine ⟨fun σ H17 => ∃ (m' : Nat → Ms) (vd vt : V) (dd : PyData) (x10 x13 x14 x15 : Option V), σ = [some (.ref a), some (.ref p), some (.ref np), some (.ref hp), some (.int 17), some (.int (0 + (i : Int))), some (.ref rp), some (.int at8), some (.str x), some v, x10, some vd, some vt, x13, x14, x15, none, none] ∧ Wb K H17 p dl np nms hp (obsOf ⟨c0, c1, c2⟩ m') ∧ Rw K H17 rp ra m' ∧ MM m' (i + 1) ∧ Dt K H17 vd dd ∧ Dt K H17 vt dd ∧ ShowOk dd, ?_, ?_⟩
      · refine ⟨_, rfl, _, _, rfl, rfl, _, rfl, ?_⟩
        refine ite3 (fun c => ?_) fun c => ?_
        · have c := of_decide_eq_true c
          obtain ⟨t, rfl⟩ := Int.eq_ofNat_of_zero_le q0
          have ht : t < 5 := by omega
          have hat : atI [V.ref (ra 0), V.ref (ra 1), V.ref (ra 2), V.ref (ra 3), V.ref (ra 4)] ((t : Nat) : Int) = some (.ref (ra t)) := by
            match t, ht with
            | 0, _ => exact at_of' (j := 0) rfl rfl
            | 1, _ => exact at_of' (j := 1) rfl rfl
            | 2, _ => exact at_of' (j := 2) rfl rfl
            | 3, _ => exact at_of' (j := 3) rfl rfl
            | 4, _ => exact at_of' (j := 4) rfl rfl
            | t + 5, h => omega
          refine ⟨_, rfl, _, rfl, rp, _, _, _, rfl, rfl, SqL.of R16.eR, hat, _, rfl, _, rfl, ra t, m t, x, v, d, rfl, R16.row t ht, dv, M.nd t, Nat.le_trans (M.len t) (by omega), fun H17 L17 K17 => ?_⟩
          have dv17 := Dt.keepT (Keep.keepT K17 (listAt_ex (R16.row t ht))) dv
          have X17 := X16.row Dd2 ht (listAt_ex (R16.row t ht)) K17
          have R17 := R16.set Dd2 ht L17 K17
          refine ⟨_, rfl, _, rfl, _, rfl, _, _, rfl, rfl, sz_2, fun u hu => ⟨_, rfl, _, rfl, ?_⟩⟩
          have e17 : ((17 + t : Nat) : Int) = 17 + (t : Int) := by omega
          have T1 := Same.new (o := .tup [.str "ref", .int (17 + (t : Int))]) hu
          have pc := put_case (c := ⟨c0, c1, c2⟩) (x := x) (d := d) M (by omega) t ht
          rw [e17] at pc
          refine ⟨hp, _, _, .ref u, v, _, d, _, x, rfl, listAt_mono X17.ob T1, Dt.made hu (.cons (.str _) (.cons (.int _) .nil)), dv17.mono T1, pc, fun vt H18 L18 K18 d18 => ?_⟩
          have X18 := (X17.same T1).put Dd L18 K18
          have R18 := (R17.same T1).put Dd2 (listAt_ex (listAt_mono X17.ob T1)) K18
          have M2 := M.put (i := t) hxo hv
          have dv18 := Dt.keepT (Keep.keepT K18 (listAt_ex (listAt_mono X17.ob T1))) (dv17.mono T1)
          refine ⟨_, rfl, _, rfl, _, rfl, _, _, rfl, rfl, sz_2, fun u3 hu3 => ⟨_, rfl, ?_⟩⟩
          have T3 := Same.new (o := .tup [.str "ref", .int (17 + (t : Int))]) hu3
          refine ⟨hp, _, .ref u3, 17 + t, x, d, rfl, listAt_mono X18.ob T3, (by rw [e17]; exact Dt.made hu3 (.cons (.str _) (.cons (.int _) .nil))), MOk_of M2, own_is t ht (by show find (if t = t then _ else _) x = _; rw [if_pos rfl]; exact find_with), hv, fun va H19 S19 da => ?_⟩
          refine ⟨_, rfl, sz_2, fun u5 hu5 => ?_⟩
          have T5 := Same.new (o := .tup [.str "ok", v]) hu5
          have S35 := (T3.trans S19).trans T5
          refine ⟨_, _, _, rfl, (da.mono T5).dp, (Dt.made hu5 (.cons (.str _) (.cons (dv18.mono (T3.trans S19)) .nil))).dp, (Sm.tup (.cons (Sm.short (n := "ok") (by decide +kernel)) (.cons hv.sm .nil))).show (by decide) (by decide), true, rfl, iteFb rfl ?_⟩
          have dDue17 := Dt.keepT (Keep.keepT K17 (listAt_ex (R16.row t ht))) dDue
          have dDue18 := Dt.keepT (Keep.keepT K18 (listAt_ex (listAt_mono X17.ob T1))) (dDue17.mono T1)
          exact ⟨_, .ref u2, vt, doneD, _, _, _, _, rfl, X18.same S35, R18.same S35, M2, dDue18.mono S35, d18.mono S35, showDone⟩
        · have c := of_decide_eq_false c
          refine ⟨_, rfl, p, dl, 16, rfl, X16.box, by decide, fun nx H17 n0 n1 B17 K17 => ⟨_, _, rfl, rfl, ?_⟩⟩
          have X17 := X16.draw Dd B17 K17
          have R17 := R16.draw Dd2 X16.box K17
          have dv17 := Dt.keepT (Keep.keepT K17 X16.box.at_) dv
          obtain ⟨n, rfl⟩ := Int.eq_ofNat_of_zero_le n0
          obtain ⟨nm, b, hnm, hob, hnl2, hns⟩ := start_at (c := ⟨c0, c1, c2⟩) (m := m) n (by omega)
          refine ⟨_, rfl, sz_2, fun v1 h1 => ⟨_, rfl, _, _, rfl, rfl, sz_2, fun v2 h2 => ⟨sz_2, fun v3 h3 => ⟨sz_3, fun tl htl => ?_⟩⟩⟩⟩
          have T1 := Same.new (o := .tup [.str "ref", .int (1 + (n : Int))]) h1
          have T2 := Same.new (o := .tup [.str "ref", .int (17 + 5)]) h2
          have T3 := Same.new (o := .tup [.str "text", .str "a"]) h3
          have T4 := Same.new (o := .lst [.ref v1, .ref v2, .ref v3]) htl
          have S14 := ((T1.trans T2).trans T3).trans T4
          have d1 : Dt K _ (.ref v1) (.tuple [.str "ref", .int (1 + (n : Int))]) := (((Dt.made h1 (.cons (.str _) (.cons (.int _) .nil))).mono T2).mono T3).mono T4
          have d2 : Dt K _ (.ref v2) (.tuple [.str "ref", .int (17 + 5)]) := ((Dt.made h2 (.cons (.str _) (.cons (.int _) .nil))).mono T3).mono T4
          have d3 : Dt K _ (.ref v3) (.tuple [.str "text", .str "a"]) := (Dt.made h3 (.cons (.str _) (.cons (.str _) .nil))).mono T4
          obtain ⟨tv, td, wd, hat, hwat, dtv, pc, hwd⟩ : ∃ (tv : V) (td : PyData) (wd : Str), atI [V.ref v1, V.ref v2, V.ref v3] (at8 - 5) = some tv ∧ atI [V.str ("class " ++ nm ++ " cannot be changed"), V.str ("list has no attribute " ++ x), V.str ("str has no attribute " ++ x)] (at8 - 5) = some (.str wd) ∧ Dt K (upd (upd (upd (upd H17 v1 (.tup [.str "ref", .int (1 + (n : Int))])) v2 (.tup [.str "ref", .int (17 + 5)])) v3 (.tup [.str "text", .str "a"])) tl (.lst [.ref v1, .ref v2, .ref v3])) tv td ∧ PutCase (obsOf ⟨c0, c1, c2⟩ m) x d td (raiseD wd) (obsOf ⟨c0, c1, c2⟩ m) ∧ Sm (.str wd) 0 2000 := by
            have hxl : x.length ≤ 100 := Nat.le_trans hxo.len (by decide)
            rcases (show at8 = 5 ∨ at8 = 6 ∨ at8 = 7 by omega) with rfl | rfl | rfl
            · refine ⟨_, _, _, at0, at0, d1, ?_, hns⟩
              have := PutCase.built (x := x) (n := d) hob (by omega) hnl2
              rw [show ((1 + n : Nat) : Int) = 1 + (n : Int) by omega] at this
              exact this
            · refine ⟨_, _, _, at1, at1, d2, ?_, sm_cat (by decide +kernel) (by decide +kernel) hxo⟩
              have := PutCase.no (obs := obsOf ⟨c0, c1, c2⟩ m) (x := x) (n := d) (.lst 22 [.tuple []] rfl) hxl
              rw [show ("list" : Str) ++ " has no attribute " = "list has no attribute " by decide +kernel] at this
              exact this
            · refine ⟨_, _, _, at2, at2, d3, ?_, sm_cat (by decide +kernel) (by decide +kernel) hxo⟩
              have := PutCase.no (obs := obsOf ⟨c0, c1, c2⟩ m) (x := x) (n := d) (.txt [.str "a"]) hxl
              rw [show ("str" : Str) ++ " has no attribute " = "str has no attribute " by decide +kernel] at this
              exact this
          refine ⟨_, rfl, _, _, rfl, rfl, tl, _, _, _, rfl, rfl, SqL.of upd_same, hat, ?_⟩
          have X18 := X17.same S14
          have R18 := R17.same S14
          have dv18 := dv17.mono S14
          generalize upd (upd (upd (upd H17 v1 _) v2 _) v3 _) tl _ = H18 at X18 R18 dv18 dtv
          clear T1 T2 T3 T4 S14 d1 d2 d3 hat
          have hcn : atI (clsNames.map V.str) (1 + (n : Int) - 1) = some (.str nm) := by
            rw [show 1 + (n : Int) - 1 = ((n : Nat) : Int) by omega]
            exact atI_nat (by rw [List.getElem?_map, hnm]; rfl)
          have z1 : ("class " : Str).length = 6 := by decide +kernel
          have z2 : (" cannot be changed" : Str).length = 18 := by decide +kernel
          have z3 : ("list has no attribute " : Str).length = 22 := by decide +kernel
          have z4 : ("str has no attribute " : Str).length = 21 := by decide +kernel
          have zx := hxo.len
          have zb : ∀ k : Nat, k ≤ 400 → k ≤ sizeLine := fun k h => Nat.le_trans h (by decide)
          refine fun ac kc => ⟨_, rfl, _, _, rfl, rfl, ac, _, _, _, rfl, rfl, kc.sq _, hcn, _, _, rfl, rfl, zb _ (by omega), _, _, rfl, rfl, zb _ (by rw [len_app]; omega), _, rfl, _, _, rfl, rfl, zb _ (by omega), _, rfl, _, _, rfl, rfl, zb _ (by omega), sz_3, fun wl hwl => ?_⟩
          have T5 := Same.new (o := .lst [.str ("class " ++ nm ++ " cannot be changed"), .str ("list has no attribute " ++ x), .str ("str has no attribute " ++ x)]) hwl
          refine ⟨_, rfl, _, rfl, _, _, rfl, rfl, wl, _, _, _, rfl, rfl, SqL.of upd_same, hwat, sz_3, fun u7 h7 => ?_⟩
          have T6 := Same.new (o := .tup [.str "raise", .int 9, .str wd]) h7
          have X19 := X18.same (T5.trans T6)
          have R19 := R18.same (T5.trans T6)
          have dDue2 : Dt K _ (.ref u7) (raiseD wd) := Dt.made h7 (.cons (.str _) (.cons (.int _) (.cons (.str _) .nil)))
          refine ⟨_, rfl, _, rfl, _, rfl, _, rfl, hp, _, _, tv, v, td, d, _, x, rfl, X19.ob, dtv.mono (T5.trans T6), dv18.mono (T5.trans T6), pc, fun vt H20 L20 K20 d20 => ?_⟩
          have X20 := X19.put Dd L20 K20
          have R20 := R19.put Dd2 (listAt_ex X19.ob) K20
          have dDue3 := Dt.keepT (Keep.keepT K20 (listAt_ex X19.ob)) dDue2
          refine ⟨_, rfl, _, _, rfl, dL L20, hsh, ?_⟩
          refine ⟨_, rfl, rfl, _, rfl, iteFb (by rw [decide_eq_true rfl]; rfl) ?_⟩
          exact ⟨m, .ref u7, vt, raiseD wd, _, _, _, _, rfl, X20, R20, M.up, dDue3, d20, show_raise hwd⟩
      · rintro _ H17 ⟨m', vd, vt, dd, y10, y13, y14, y15, rfl, X17, R17, M17, dvd, dvt, hdd⟩
        refine ⟨_, rfl, _, rfl, vt, vd, dd, rfl, dvt.dp, dvd.dp, hdd, ?_⟩
        refine ⟨true, rfl, iteFb rfl ?_⟩
        exact ⟨m', _, _, _, _, _, _, _, _, _, _, rfl, X17, R17, M17⟩
    rintro σ H12 ⟨m, x5, x7, x8, x9, x10, x11, x12, x13, x14, x15, rfl, X12, R12, M⟩
    have hlen : (obsOf ⟨c0, c1, c2⟩ m).length = 23 := rfl
    refine ⟨_, rfl, by decide, by decide, ?_⟩
    refine for_range (lo := 0) (n := 5) (fun i σ H13 => ∃ x5 x16 x17, σ = [some (.ref a), some (.ref p), some (.ref np), some (.ref hp), some (.int 17), x5, some (.ref rp), x7, x8, x9, x10, x11, x12, x13, x14, x15, x16, x17] ∧ Same H12 H13) ⟨_, _, _, rfl, fun _ _ h => h⟩ ?_ ?_
    · rintro i σ H13 hi ⟨y5, x16, x17, rfl, S13⟩
      rw [Int.zero_add]
      have X13 := X12.same S13
      have R13 := R12.same S13
      obtain ⟨zs, ez, lz, az⟩ := X13.len
      obtain ⟨y, hy⟩ : ∃ y, zs[17 + i]? = some y := ⟨_, List.getElem?_eq_getElem (by omega)⟩
      have e17 : ((17 + i : Nat) : Int) = 17 + (i : Int) := by omega
      have hat : atI zs (17 + (i : Int)) = some y := by rw [← e17]; exact atI_nat hy
      have hob : ∃ o, (obsOf ⟨c0, c1, c2⟩ m)[17 + i]? = some o ∧ ((i < 2 ∧ ∃ n b, o = .cls n b (m i)) ∨ (2 ≤ i ∧ ∃ c, o = .inst c (m i))) := by
        match i, hi with
        | 0, _ => exact ⟨_, rfl, .inl ⟨by decide, _, _, rfl⟩⟩
        | 1, _ => exact ⟨_, rfl, .inl ⟨by decide, _, _, rfl⟩⟩
        | 2, _ => exact ⟨_, rfl, .inr ⟨by decide, _, rfl⟩⟩
        | 3, _ => exact ⟨_, rfl, .inr ⟨by decide, _, rfl⟩⟩
        | 4, _ => exact ⟨_, rfl, .inr ⟨by decide, _, rfl⟩⟩
        | i + 5, h => omega
      obtain ⟨o, ho, hcase⟩ := hob
      obtain ⟨y2, hy2, dy⟩ := az.get (show ((obsOf ⟨c0, c1, c2⟩ m).map obD)[17 + i]? = some (obD o) by rw [List.getElem?_map, ho]; rfl)
      obtain rfl := Option.some.inj (hy.symm.trans hy2)
      have hrow : atI [V.ref (ra 0), V.ref (ra 1), V.ref (ra 2), V.ref (ra 3), V.ref (ra 4)] ((i : Nat) : Int) = some (.ref (ra i)) := by
        match i, hi with
        | 0, _ => exact at_of' (j := 0) rfl rfl
        | 1, _ => exact at_of' (j := 1) rfl rfl
        | 2, _ => exact at_of' (j := 2) rfl rfl
        | 3, _ => exact at_of' (j := 3) rfl rfl
        | 4, _ => exact at_of' (j := 4) rfl rfl
        | t + 5, h => omega
      refine ⟨_, rfl, _, rfl, _, rfl, _, _, rfl, rfl, hp, _, _, _, rfl, rfl, SqL.of ez, hat, ?_⟩
      have fin : ∀ (mv : V) (H14 : Hp), Same H13 H14 → Dt K H14 mv (.tuple ((m i).map memD)) → True := fun _ _ _ _ => trivial
      rcases hcase with ⟨hi2, n, b, rfl⟩ | ⟨hi2, cc, rfl⟩
      · obtain ⟨q, u, rfl, hq, du⟩ := cls_inv dy
        refine ⟨_, rfl, q, _, _, _, rfl, rfl, hq, at2, ?_⟩
        refine ⟨fun σ H14 => σ = [some (.ref a), some (.ref p), some (.ref np), some (.ref hp), some (.int 17), some (.int (i : Int)), some (.ref rp), x7, x8, x9, x10, x11, x12, x13, x14, x15, some (.ref q), some u] ∧ H14 = H13, ?_, ?_⟩
        · refine ⟨_, rfl, _, _, rfl, rfl, _, rfl, iteTb (decide_eq_true (by omega)) ?_⟩
          exact ⟨_, rfl, q, _, _, _, rfl, rfl, hq, at_of' (j := 3) rfl rfl, rfl, rfl⟩
        · rintro _ _ ⟨rfl, rfl⟩
          obtain ⟨rs, er, ar⟩ := R13.row i hi
          refine ⟨_, rfl, _, rfl, _, rfl, rp, _, _, _, rfl, rfl, SqL.of R13.eR, hrow, ra i, _, rfl, .inl ⟨SqL.of er, fun t ht => ?_⟩⟩
          have T1 := Same.new (o := .tup rs) ht
          refine ⟨u, .ref t, .tuple ((m i).map memD), rfl, (du.mono T1).dp, (Dt.made ht ar).dp, (M.sm (by omega) i).show (by decide) (by decide), true, rfl, iteFb rfl ?_⟩
          exact ⟨_, _, _, rfl, S13.trans T1⟩
      · obtain ⟨q, u, rfl, hq, du⟩ := inst_inv dy
        refine ⟨_, rfl, q, _, _, _, rfl, rfl, hq, at2, ?_⟩
        refine ⟨fun σ H14 => σ = [some (.ref a), some (.ref p), some (.ref np), some (.ref hp), some (.int 17), some (.int (i : Int)), some (.ref rp), x7, x8, x9, x10, x11, x12, x13, x14, x15, some (.ref q), some u] ∧ H14 = H13, ?_, ?_⟩
        · refine ⟨_, rfl, _, _, rfl, rfl, _, rfl, iteFb (decide_eq_false (by omega)) ?_⟩
          exact ⟨rfl, rfl⟩
        · rintro _ _ ⟨rfl, rfl⟩
          obtain ⟨rs, er, ar⟩ := R13.row i hi
          refine ⟨_, rfl, _, rfl, _, rfl, rp, _, _, _, rfl, rfl, SqL.of R13.eR, hrow, ra i, _, rfl, .inl ⟨SqL.of er, fun t ht => ?_⟩⟩
          have T1 := Same.new (o := .tup rs) ht
          refine ⟨u, .ref t, .tuple ((m i).map memD), rfl, (du.mono T1).dp, (Dt.made ht ar).dp, (M.sm (by omega) i).show (by decide) (by decide), true, rfl, iteFb rfl ?_⟩
          exact ⟨_, _, _, rfl, S13.trans T1⟩
    rintro σ H13 ⟨y5, x16, x17, rfl, S13⟩
    have X13 := X12.same S13
    obtain ⟨zs, ez, lz, az⟩ := X13.len
    have hcut : cutV zs none (some 17) = zs.take 17 := by
      unfold cutV
      rw [lz, hlen, show HT.sIx 23 0 none = 0 by decide, show HT.sIx 23 23 (some 17) = 17 by decide, List.drop_zero]
    have htk : DtAll K H13 (zs.take 17) (startD []) := dtAll_take 17 az
    have hsd : ShowOk (.list (startD [])) := (Sm.lst (SmAll.many (sm_start (hs := []) (L := 0) (by simp) (by simp)))).show (by decide) (by decide)
    refine ⟨_, rfl, _, rfl, _, rfl, hp, _, rfl, SqL.of ez, fun sp hsp => ?_⟩
    have T1 := Same.new (o := .lst (cutV zs none (some 17))) hsp
    have dsp : Dp K (upd H13 sp (.lst (cutV zs none (some 17)))) (.ref sp) (.list (startD [])) := .lst (SqL.of upd_same) (DtAll.mono T1 (by rw [hcut]; exact htk)).dp
    have ez2 := T1 _ _ ez
    generalize upd H13 sp _ = H14 at dsp ez2
    refine ⟨_, _, rfl, dsp, hsd, ?_⟩
    refine ⟨sz_0, fun t0 h0 => ⟨t0, [], rfl, SqT.of upd_same, by decide, fun h2 H15 nh S15 L15 => ?_⟩⟩
    have ez3 := S15 _ _ (Same.new h0 _ _ ez2)
    refine ⟨_, _, rfl, (let ⟨ys, ey, ay⟩ := L15; .lst (SqL.of ey) ay.dp), hsd, ?_⟩
    refine ⟨rfl, _, rfl, ?_⟩
    rw [decide_eq_true rfl]
    refine iteT ?_
    refine ⟨_, rfl, _, _, rfl, .inl ⟨_, SqL.of ez3, rfl⟩, _, rfl, _, _, rfl, rfl, rfl, ?_⟩
    rw [lz, hlen]
    exact k _
end
theorem walk_mk {l : PySem.W.OpenLaw} {w : World} {K : PySem.W.Frag} {h : Heap} {mg : Str → Option Value} {fa : Addr} (X : K.In h) (G : h.Ns mainGlobals mg) (hfa : mg "law" = some (.ref fa))
    (f0 : HasFn K "_law_cell" s_law_cell)
    (f1 : HasFn K "_law_digits" s_law_digits)
    (f2 : HasFn K "_law_draw" s_law_draw)
    (f3 : HasFn K "_law_names" s_law_names)
    (f4 : HasFn K "_law_value" s_law_value)
    (f5 : HasFn K "start_heap" s_start_heap)
    (f6 : HasFn K "_law_put" s_law_put)
    (f7 : HasFn K "object_kind" s_object_kind)
    (f8 : HasFn K "with_pair" s_with_pair)
    (f9 : HasFn K "kind_name" s_kind_name)
    (f10 : HasFn K "_no_attribute" s_no_attribute)
    (f11 : HasFn K "put_attribute" s_put_attribute)
    (f12 : HasFn K "paired" s_paired)
    (f13 : HasFn K "_attribute_of_instance" s_attribute_of_instance)
    (f14 : HasFn K "class_line" s_class_line)
    (f15 : HasFn K "member" s_member)
    (f16 : HasFn K "attribute" s_attribute)
    (f17 : HasFn K "_law_same" s_law_same)
    (f18 : HasFn K "law" s_law)
    (c0 : HasInt K "ATTRIBUTE_ERROR" 9)
    (c1 : HasTup K "CLASSES" (clsNames.map V.str))
    (c2 : HasTup K "BASES" (clsBases.map V.int))
    (c3 : HasTup K "BUILT" (builtNames.map V.str))
    (c4 : HasDone K)
    (b_len : PySem.W.nsIn K mainGlobals "len" = some none)
    (b_int : PySem.W.nsIn K mainGlobals "int" = some none)
    (b_range : PySem.W.nsIn K mainGlobals "range" = some none)
    (b_list : PySem.W.nsIn K mainGlobals "list" = some none)
    (b_tuple : PySem.W.nsIn K mainGlobals "tuple" = some none)
    (b_repr : PySem.W.nsIn K mainGlobals "repr" = some none)
    (b_zip : PySem.W.nsIn K mainGlobals "zip" = some none)
    (b_enumerate : PySem.W.nsIn K mainGlobals "enumerate" = some none)
    (d_VALUE_KINDS : HasDct l.prog w K "VALUE_KINDS" (txtKV [("none", "NoneType"), ("bool", "bool"), ("int", "int"), ("text", "str"), ("span", "range"), ("built", "builtin"), ("host", "host")]))
    (d_OBJECT_KINDS : HasDct l.prog w K "OBJECT_KINDS" (txtKV [("list", "list"), ("tuple", "tuple"), ("dict", "dict"), ("scope", "scope"), ("func", "function"), ("class", "class"), ("bound", "method"), ("iter", "iterator"), ("gen", "generator")])) :
    ∃ fd : FuncData, (∀ (s : Shared) (v : Value), BindsTo s fd ⟨[v], []⟩ [("script", v)]) ∧ ∀ base : Heap, K.In base → base.Ns mainGlobals mg → FnG l.prog w K mg base CX0 4 fa fd ["script"] (spLaw K) := by
  have T : Txt K mg := ⟨c0.g X G, c1.g X G, c2.g X G, c3.g X G, c4.g X G, PySem.W.mg_none_of X G b_len, PySem.W.mg_none_of X G b_int, PySem.W.mg_none_of X G b_range, PySem.W.mg_none_of X G b_list, PySem.W.mg_none_of X G b_tuple, PySem.W.mg_none_of X G b_repr, PySem.W.mg_none_of X G b_zip, PySem.W.mg_none_of X G b_enumerate⟩
  refine law_use f18 X G hfa (fun _ _ _ _ _ _ _ => rfl) fun base X' G' fd F => ?_
  have U_VALUE_KINDS : UseD l.prog w K mg "VALUE_KINDS" _ := d_VALUE_KINDS.g X G
  have U_OBJECT_KINDS : UseD l.prog w K mg "OBJECT_KINDS" _ := d_OBJECT_KINDS.g X G
  have U_law_cell := mk_use (P := l.prog) (w := w) (mg := mg) (base := base) f0 X G (fun _ _ _ _ _ _ us hl => match us, hl with | [_, _], _ => rfl) fun f fd F => ok_cell F T 
  have U_law_digits := mk_use (P := l.prog) (w := w) (mg := mg) (base := base) f1 X G (fun _ _ _ _ _ _ us hl => match us, hl with | [_, _, _], _ => rfl) fun f fd F => ok_digits F T U_law_cell
  have U_law_draw := mk_use (P := l.prog) (w := w) (mg := mg) (base := base) f2 X G (fun _ _ _ _ _ _ us hl => match us, hl with | [_, _], _ => rfl) fun f fd F => ok_draw F T 
  have U_law_names := mk_use (P := l.prog) (w := w) (mg := mg) (base := base) f3 X G (fun _ _ _ _ _ _ us hl => match us, hl with | [_], _ => rfl) fun f fd F => ok_names F T U_law_draw
  have U_law_value := mk_use (P := l.prog) (w := w) (mg := mg) (base := base) f4 X G (fun _ _ _ _ _ _ us hl => match us, hl with | [_], _ => rfl) fun f fd F => ok_value F T U_law_draw
  have U_start_heap := mk_use (P := l.prog) (w := w) (mg := mg) (base := base) f5 X G (fun _ _ _ _ _ _ us hl => match us, hl with | [_], _ => rfl) fun f fd F => ok_start F T 
  have U_law_put := mk_use (P := l.prog) (w := w) (mg := mg) (base := base) f6 X G (fun _ _ _ _ _ _ us hl => match us, hl with | [_, _, _], _ => rfl) fun f fd F => ok_lput F T 
  have U_object_kind := mk_use (P := l.prog) (w := w) (mg := mg) (base := base) f7 X G (fun _ _ _ _ _ _ us hl => match us, hl with | [_, _], _ => rfl) fun f fd F => ok_kind F T 
  have U_with_pair := mk_use (P := l.prog) (w := w) (mg := mg) (base := base) f8 X G (fun _ _ _ _ _ _ us hl => match us, hl with | [_, _, _], _ => rfl) fun f fd F => ok_with F T 
  have U_kind_name := mk_use (P := l.prog) (w := w) (mg := mg) (base := base) f9 X G (fun _ _ _ _ _ _ us hl => match us, hl with | [_, _], _ => rfl) fun f fd F => ok_kname F T U_VALUE_KINDS U_OBJECT_KINDS
  have U_no_attribute := mk_use (P := l.prog) (w := w) (mg := mg) (base := base) f10 X G (fun _ _ _ _ _ _ us hl => match us, hl with | [_, _, _], _ => rfl) fun f fd F => ok_noattr F T U_kind_name
  have U_put_attribute := mk_use (P := l.prog) (w := w) (mg := mg) (base := base) f11 X G (fun _ _ _ _ _ _ us hl => match us, hl with | [_, _, _, _], _ => rfl) fun f fd F => ok_put F T U_object_kind U_with_pair U_no_attribute
  have U_paired := mk_use (P := l.prog) (w := w) (mg := mg) (base := base) f12 X G (fun _ _ _ _ _ _ us hl => match us, hl with | [_, _], _ => rfl) fun f fd F => ok_paired F T 
  have U_attribute_of_instance := mk_use (P := l.prog) (w := w) (mg := mg) (base := base) f13 X G (fun _ _ _ _ _ _ us hl => match us, hl with | [_, _, _], _ => rfl) fun f fd F => ok_ainst F T U_paired
  have U_class_line := mk_use (P := l.prog) (w := w) (mg := mg) (base := base) f14 X G (fun _ _ _ _ _ _ us hl => match us, hl with | [_, _], _ => rfl) fun f fd F => ok_line F T 
  have U_member := mk_use (P := l.prog) (w := w) (mg := mg) (base := base) f15 X G (fun _ _ _ _ _ _ us hl => match us, hl with | [_, _, _], _ => rfl) fun f fd F => ok_member F T U_class_line U_paired
  have U_attribute := mk_use (P := l.prog) (w := w) (mg := mg) (base := base) f16 X G (fun _ _ _ _ _ _ us hl => match us, hl with | [_, _, _], _ => rfl) fun f fd F => ok_attr F T U_object_kind U_attribute_of_instance U_member
  have U_law_same := mk_use (P := l.prog) (w := w) (mg := mg) (base := base) f17 X G (fun _ _ _ _ _ _ us hl => match us, hl with | [_, _], _ => rfl) fun f fd F => ok_same F T 
  exact ok_law F T U_law_digits U_law_draw U_law_names U_law_value U_start_heap U_law_put U_put_attribute U_attribute U_law_same
end K33
open PySem PySem.W PyProof.Rows
set_option maxRecDepth 100000 in
set_option maxHeartbeats 0 in
theorem PySem.Challenge.cw_pyhold_k33_set_attributes_read_back_holds : PySem.Challenge.rw_pyhold_k33_set_attributes_read_back.Holds := by
  w_on; o_law; k_head; (case hw => w_witness2)
  k_fill
  refine LK.walkG (l := PySem.Challenge.rw_pyhold_k33_set_attributes_read_back) (n := 63) (k := 4) (x := "script") (CX := L2.CX0) (sp := K33.spLaw) rfl (by decide) rfl ⟨rfl, by decide, by decide⟩ (fun w h Y => PySem.W.kIn_of Y) ?F (fun K H a ns hl _ hS => ⟨a, ns, rfl, hS, hl, fun _ => rfl⟩) (fun _ _ _ _ z => z)
  case F =>
    intro w mg fa h KX G hmg
    refine' K33.walk_mk KX G hmg ?f0 ?f1 ?f2 ?f3 ?f4 ?f5 ?f6 ?f7 ?f8 ?f9 ?f10 ?f11 ?f12 ?f13 ?f14 ?f15 ?f16 ?f17 ?f18 ?c0 ?c1 ?c2 ?c3 ?c4 ?b_len ?b_int ?b_range ?b_list ?b_tuple ?b_repr ?b_zip ?b_enumerate ?d_VALUE_KINDS ?d_OBJECT_KINDS
    case f0 => refine' LK.HasFn.mk' ?a ?b ?c ?d; (case a => k_is); (case b => k_is); (case c => k_is); (case d => k_is)
    case f1 => refine' LK.HasFn.mk' ?a ?b ?c ?d; (case a => k_is); (case b => k_is); (case c => k_is); (case d => k_is)
    case f2 => refine' LK.HasFn.mk' ?a ?b ?c ?d; (case a => k_is); (case b => k_is); (case c => k_is); (case d => k_is)
    case f3 => refine' LK.HasFn.mk' ?a ?b ?c ?d; (case a => k_is); (case b => k_is); (case c => k_is); (case d => k_is)
    case f4 => refine' LK.HasFn.mk' ?a ?b ?c ?d; (case a => k_is); (case b => k_is); (case c => k_is); (case d => k_is)
    case f5 => refine' LK.HasFn.mk' ?a ?b ?c ?d; (case a => k_is); (case b => k_is); (case c => k_is); (case d => k_is)
    case f6 => refine' LK.HasFn.mk' ?a ?b ?c ?d; (case a => k_is); (case b => k_is); (case c => k_is); (case d => k_is)
    case f7 => refine' LK.HasFn.mk' ?a ?b ?c ?d; (case a => k_is); (case b => k_is); (case c => k_is); (case d => k_is)
    case f8 => refine' LK.HasFn.mk' ?a ?b ?c ?d; (case a => k_is); (case b => k_is); (case c => k_is); (case d => k_is)
    case f9 => refine' LK.HasFn.mk' ?a ?b ?c ?d; (case a => k_is); (case b => k_is); (case c => k_is); (case d => k_is)
    case f10 => refine' LK.HasFn.mk' ?a ?b ?c ?d; (case a => k_is); (case b => k_is); (case c => k_is); (case d => k_is)
    case f11 => refine' LK.HasFn.mk' ?a ?b ?c ?d; (case a => k_is); (case b => k_is); (case c => k_is); (case d => k_is)
    case f12 => refine' LK.HasFn.mk' ?a ?b ?c ?d; (case a => k_is); (case b => k_is); (case c => k_is); (case d => k_is)
    case f13 => refine' LK.HasFn.mk' ?a ?b ?c ?d; (case a => k_is); (case b => k_is); (case c => k_is); (case d => k_is)
    case f14 => refine' LK.HasFn.mk' ?a ?b ?c ?d; (case a => k_is); (case b => k_is); (case c => k_is); (case d => k_is)
    case f15 => refine' LK.HasFn.mk' ?a ?b ?c ?d; (case a => k_is); (case b => k_is); (case c => k_is); (case d => k_is)
    case f16 => refine' LK.HasFn.mk' ?a ?b ?c ?d; (case a => k_is); (case b => k_is); (case c => k_is); (case d => k_is)
    case f17 => refine' LK.HasFn.mk' ?a ?b ?c ?d; (case a => k_is); (case b => k_is); (case c => k_is); (case d => k_is)
    case f18 => refine' LK.HasFn.mk' ?a ?b ?c ?d; (case a => k_is); (case b => k_is); (case c => k_is); (case d => k_is)
    case c0 => refine' LK.HasInt.mk' ?a ?b; (case a => k_is); (case b => decide +kernel)
    case c1 => refine' LK.HasTup.mk' ?a ?b ?c ?d; (case a => k_is); (case b => k_is); (case c => decide); (case d => repeat (first | exact .nil | refine .cons ⟨_, rfl⟩ ?_))
    case c2 => refine' LK.HasTup.mk' ?a ?b ?c ?d; (case a => k_is); (case b => k_is); (case c => decide); (case d => repeat (first | exact .nil | refine .cons ⟨_, rfl⟩ ?_))
    case c3 => refine' LK.HasTup.mk' ?a ?b ?c ?d; (case a => k_is); (case b => k_is); (case c => decide); (case d => repeat (first | exact .nil | refine .cons ⟨_, rfl⟩ ?_))
    case c4 => refine' K33.HasDone.mk' ?a ?b ?c ?d ?e ?f ?g; (case a => k_is); (case b => k_is); (case c => decide); (case d => exact .cons ⟨_, rfl⟩ (.cons rfl .nil)); (case e => k_is); (case f => decide); (case g => exact .cons ⟨_, rfl⟩ .nil)
    case b_len => k_is
    case b_int => k_is
    case b_range => k_is
    case b_list => k_is
    case b_tuple => k_is
    case b_repr => k_is
    case b_zip => k_is
    case b_enumerate => k_is
    case d_VALUE_KINDS => refine' LK.HasDct.mk' ?a ?b ?c ?d ?e; (case a => k_is); (case b => k_is); (case c => rfl); (case d => repeat (first | exact .nil | refine .cons rfl rfl rfl ?_)); (case e => decide +kernel)
    case d_OBJECT_KINDS => refine' LK.HasDct.mk' ?a ?b ?c ?d ?e; (case a => k_is); (case b => k_is); (case c => rfl); (case d => repeat (first | exact .nil | refine .cons rfl rfl rfl ?_)); (case e => decide +kernel)


