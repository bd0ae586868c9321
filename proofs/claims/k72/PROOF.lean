import PyProof.Rows.All
import Wide.All
import OpenK.AllK
import Wide.FinOn
import HandS.ForMost
import HandS.Wide
import HandS.WideMore
import HandS.TupAny
import HandS.TupLen
import HandS.Evl
import HandS.Codes
import PyProof.ReprLen
import PyProof.StrLawsRepr
import HandS.Walk
import HandS.Zip
import KE.GoesMore
import HandS.Style
import HandS.TupMul
import PyProof.StrOps2
import HandS.IsInst
import HandS.StrMore
import HandS.Dict
import HandS.Text
import HandS.Replace
import PyProof.Rows.RuleB_pow
import HandS.Defaults
import PySem.Challenge.RW_pyhold_k72_values
set_option Elab.async false
set_option linter.all false
set_option maxRecDepth 100000
set_option maxHeartbeats 4000000
/-! A layer of one's own over the hand layer: defs by name, data, the helpers that the laws share. -/
namespace LK
open PySem PySem.Spec PyProof.Rows L2

/-! ### a def's promise where nothing is being shown (repr asks who is) -/
structure FnG (P : Program) (w : World) (K : PySem.W.Frag) (mg : Str → Option Value) (base : Heap) (CX : CXT) (k : Nat) (f : Addr) (fd : FuncData) (ps : List Str) (sp : Sp) : Prop where
  len : ∀ vs H Q E, sp vs H Q E → vs.length = ps.length
  run : ∀ (A : Around) (outer : List Env) (s : Shared) (H : Hp) (args : Args) (us : List Value) (vs : List V) (Q : VK) (E : XK), Room k A → A.guards = some [] →
    Env0 P w K mg base A outer s H → BindsTo s fd args (ps.zip us) → Vals vs us → sp vs H Q E → codeAny (model P w) A (.call (.ref f) args) (CR CX outer P w H s Q E) s
section
variable {P : Program} {w : World} {K : PySem.W.Frag} {mg : Str → Option Value} {base : Heap} {CX : CXT}
theorem FnG.imp {k : Nat} {f : Addr} {fd : FuncData} {ps : List Str} {sp sp' : Sp} (F : FnG P w K mg base CX k f fd ps sp) (h : ∀ vs H Q E, sp' vs H Q E → sp vs H Q E) : FnG P w K mg base CX k f fd ps sp' where
  len := fun vs H Q E q => F.len vs H Q E (h vs H Q E q)
  run := fun A outer s H args us vs Q E hr hg he hb hv hs => F.run A outer s H args us vs Q E hr hg he hb hv (h vs H Q E hs)
/-- the rule for a def: its body as a term of rules, and the reading of that term -/
theorem okG {x qual : Str} {st : Stmt} {f : Addr} {fd : FuncData} {N ps : List Str} {k : Nat} {sp : Sp} (F : Fun K x qual st f fd) (S : FnScope N ps (defScope st)) (len : ∀ vs H Q E, sp vs H Q E → vs.length = ps.length)
    (body : ∀ (cdv : Value) (A : Around) (outer : List Env) (s : Shared) (H : Hp) (vs : List V) (Q : VK) (E : XK), Room k (A.deeper (envOfC qual (defScope st) s.heap.objs.size f cdv)) →
      (A.deeper (envOfC qual (defScope st) s.heap.objs.size f cdv)).guards = some [] → sp vs H Q E →
      ∃ t, PSs (cxOf CX P w K mg base N qual (defScope st) f cdv A outer s H E) (defBody st) t ∧ t { nx := fun _ H' => Q .non H', rt := Q } (start N vs) H) :
    FnG P w K mg base CX (k + 1) f fd ps sp := by
  obtain ⟨oc, od, kV, doc, pm, an, cdv, ct, osl, rfl, lk, hcd⟩ := F.ex
  refine ⟨len, fun A outer s H args us vs Q E hr hgd e0 hb r hsp => ?_⟩
  have inn : K.In s.heap := e0.mod.kin.keeps fun b o e => (e0.bs b o e).1
  refine codeAny_call_function hr.depth (inn _ _ lk) rfl S.co S.gen rfl (PySem.W.codeRec_of inn hcd) (hb _ _ _ _ ?_)
  refine wpAny_newFunctionEnv_cells S.kind (fun y hy => ?_) fun env he s1 made => ?_
  · obtain ⟨n, v⟩ := y
    exact (S.par n (List.of_mem_zip hy).1).elim .inl fun q => .inr ⟨q, PySem.W.cellsFrom_some _ _ _ (.inl q)⟩
  · subst he
    have lim : s.heap.NoLimit := e0.mod.nolimit.keeps fun b o e => (e0.bs b o e).1
    refine ⟨lim.keeps made.toInCall.keep, codeAny_func ?_⟩
    obtain ⟨t, ht, hq⟩ := body cdv A outer s H vs Q E (hr.deeper _) hgd hsp
    refine wpAny_mono (ht.run [] s1 (start N vs) H _ (inv_start S hr.hd e0 (len _ _ _ _ hsp) r made) hq) (fun fl s' hs => ?_) fun e s' hs => hs
    cases fl with
    | ret u => exact let ⟨v, _, H', J, rv, q⟩ := hs; ⟨v, H', J.os, J.bare, J.base, J.hok, rv, q⟩
    | next => exact let ⟨_, H', J, q⟩ := hs; ⟨V.non, H', J.os, J.bare, J.base, J.hok, rfl, q⟩
    | brk => exact let ⟨_, _, _, q⟩ := hs; q.elim
    | cont => exact let ⟨_, _, _, q⟩ := hs; q.elim
/-- .. whose body lets no exception out -/
theorem okG0 {x qual : Str} {st : Stmt} {f : Addr} {fd : FuncData} {N ps : List Str} {k : Nat} {sp : Sp} (F : Fun K x qual st f fd) (S : FnScope N ps (defScope st)) (len : ∀ vs H Q E, sp vs H Q E → vs.length = ps.length)
    (body : ∀ (cdv : Value) (A : Around) (outer : List Env) (s : Shared) (H : Hp) (vs : List V) (Q : VK) (E : XK), Room k (A.deeper (envOfC qual (defScope st) s.heap.objs.size f cdv)) →
      (A.deeper (envOfC qual (defScope st) s.heap.objs.size f cdv)).guards = some [] → sp vs H Q E →
      ∃ t, PSs (cxOf CX0 P w K mg base N qual (defScope st) f cdv A outer s H E).nox (defBody st) t ∧ t { nx := fun _ H' => Q .non H', rt := Q } (start N vs) H) :
    FnG P w K mg base CX0 (k + 1) f fd ps sp :=
  okG F S len fun cdv A outer s H vs Q E hr hg hs => let ⟨t, ht, q⟩ := body cdv A outer s H vs Q E hr hg hs; ⟨t, ht.nox, q⟩
end
section
variable {X : Cx} {CX : CXT} {k : Nat} {f : Addr} {fd : FuncData} {ps : List Str} {sp : Sp} {E : XK} {x : Str} {p pos : Pos} {e : Expr} {es : List Expr} {t : TA}
theorem run_fnG {pins : List (Addr × Obj)} {σ : L2.St} {H : Hp} {s : Shared} {Q : VK} {us : List Value} {vs : List V} (F : FnG X.prog X.w X.K X.mg X.base CX k f fd ps sp) (hr : Room k X.A) (hg : X.A.guards = some []) (hb : Binds X.K fd ps [])
    (hx : Passes CX X E) (I : Inv X pins σ H s) (r : Vals vs us) (h : sp vs H Q E) : wpAny (model X.prog X.w) X.A (call (.ref f) us) (EP X pins σ Q) X.xe s := by
  have hl : (us ++ []).length = ps.length := by rw [List.append_nil, ← r.length, F.len _ _ _ _ h]
  have hbs := hb s us I.kIn hl
  rw [List.append_nil] at hbs
  refine wpAny_call (codeAny_mono (F.run X.A X.stack s H ⟨us, []⟩ us vs Q E hr hg I.env0 hbs r h) fun res s' hq => ?_)
  match res, hq with
  | .error e, hq => exact hx pins σ H s e s' I hq
  | .ok (.ret u), hq => exact I.after hq
  | .ok .next, hq => exact hq.elim
  | .ok .brk, hq => exact hq.elim
  | .ok .cont, hq => exact hq.elim
end

/-! ### defs of the text, by name -/
/-- what the top has left of the def x, whose statement is st -/
def HasFn (K : PySem.W.Frag) (x : Str) (st : Stmt) : Prop := ∃ (f : Addr) (oc : Value) (od an : Option Addr) (kV doc pm cdv ct : Value) (osl : Array (Option Value)),
  PySem.W.nsIn K mainGlobals x = some (some (.ref f)) ∧ K.lookup f = some ⟨oc, od, .func (PySem.W.fnOf x x (defArgs st) (defBody st) (defScope st) .none kV doc pm an cdv ct), osl⟩ ∧
  PySem.W.codeIn K cdv x = true ∧ PySem.W.keepIn K (.ref f) = true
/-- the def x may be called: its promise sp, by level k -/
structure Use (P : Program) (w : World) (K : PySem.W.Frag) (mg : Str → Option Value) (base : Heap) (CX : CXT) (x : Str) (k : Nat) (ps : List Str) (sp : Sp) : Prop where
  ex : ∃ (f : Addr) (fd : FuncData), FnG P w K mg base CX k f fd ps sp ∧ mg x = some (.ref f) ∧ PySem.W.keepIn K (.ref f) = true ∧ Binds K fd ps []
section
variable {P : Program} {w : World} {K : PySem.W.Frag} {mg : Str → Option Value} {base h : Heap} {CX : CXT}
theorem mk_use {x : Str} {st : Stmt} {k : Nat} {ps : List Str} {sp : Sp} (F : HasFn K x st) (X : K.In h) (G : h.Ns mainGlobals mg)
    (hb : ∀ (kV doc pm : Value) (an : Option Addr) (cdv ct : Value) (us : List Value), us.length = ps.length → bindArgs (PySem.W.fnOf x x (defArgs st) (defBody st) (defScope st) .none kV doc pm an cdv ct) ⟨us, []⟩ = pure (ps.zip us))
    (ok : ∀ (f : Addr) (fd : FuncData), Fun K x x st f fd → FnG P w K mg base CX k f fd ps sp) : Use P w K mg base CX x k ps sp := by
  obtain ⟨f, oc, od, an, kV, doc, pm, cdv, ct, osl, e, l, c, kp⟩ := F
  have Fn := fun_mk (st := st) l c kp
  exact ⟨f, _, ok f _ Fn, PySem.W.mg_of X G e, kp, Fn.binds hb⟩
theorem Use.imp {x : Str} {k : Nat} {ps : List Str} {sp sp' : Sp} (U : Use P w K mg base CX x k ps sp) (h : ∀ vs H Q E, sp' vs H Q E → sp vs H Q E) : Use P w K mg base CX x k ps sp' := by
  obtain ⟨f, fd, ok, r⟩ := U.ex
  exact ⟨f, fd, ok.imp h, r⟩
end
section
variable {X : Cx} {CX : CXT} {E : XK} {k : Nat} {x : Str} {ps : List Str} {sp : Sp} {p pos : Pos} {e : Expr} {es : List Expr} {t : TA}
theorem pe_useX (U : Use X.prog X.w X.K X.mg X.base CX x k ps sp) (hx : Passes CX X E) (hr : Room k X.A) (gd : X.A.guards = some []) (hg : Gl X x) (ha : PA X (e :: es) t) (hdb : (x == ("__debug__" : Str)) = false := by decide)
    (he : starEach (e :: es) X.env = (false, eval e X.env) :: starEach es X.env := by rfl) (hpl : (backTo pos (starEach es X.env)).any (·.1) = false := by rfl) : PE X (.Call (.Name x p) (e :: es) [] pos) (fun σ H Q => t σ H fun vs H1 => sp vs H1 Q E) := by
  obtain ⟨f, fd, ok, hm, kp, hb⟩ := U.ex
  refine ⟨fun pins s σ H Q I h => wpAny_Call_Name_kw (ld_glob I hg hm ?_ hdb)⟩
  exact PySem.W.callWith_K (h₀ := X.base) I.ok.mod.kin kp (thn (ha.run pos pins s σ H _ I h) fun us s1 ⟨vs, H1, I1, r, q⟩ => ⟨I1.kIn, run_fnG ok hr gd hb hx I1 r q⟩) he hpl
def tUse (sp : Sp) (E : XK) (t : TA) : TE := fun σ H Q => t σ H fun vs H1 => sp vs H1 Q E
theorem pe_use (U : Use X.prog X.w X.K X.mg X.base CX0 x k ps sp) (hr : Room k X.A) (gd : X.A.guards = some []) (hg : Gl X x) (ha : PA X (e :: es) t) (hdb : (x == ("__debug__" : Str)) = false := by decide)
    (he : starEach (e :: es) X.env = (false, eval e X.env) :: starEach es X.env := by rfl) (hpl : (backTo pos (starEach es X.env)).any (·.1) = false := by rfl) : PE X (.Call (.Name x p) (e :: es) [] pos) (tUse sp E0 t) := pe_useX U pass0 hr gd hg ha hdb he hpl
theorem pe_use0 (U : Use X.prog X.w X.K X.mg X.base CX0 x k ps sp) (hr : Room k X.A) (gd : X.A.guards = some []) (hg : Gl X x) (hdb : (x == ("__debug__" : Str)) = false := by decide) : PE X (.Call (.Name x p) [] [] pos) (tUse sp E0 tNil) := by
  obtain ⟨f, fd, ok, hm, kp, hb⟩ := U.ex
  exact ⟨fun pins s σ H Q I h => wpAny_Call_Name_kw (ld_glob I hg hm (PySem.W.callWith_K0 I.kIn kp (run_fnG (us := []) ok hr gd hb pass0 I .nil h)) hdb)⟩
end

/-! ### what stays -/
theorem Same.new {H : Hp} {p : Addr} {o : HO} (h : H p = none) : Same H (upd H p o) := fun b u e => by
  rw [upd_ne (ne_of_none e h)]; exact e
theorem Same.rd {H H' : Hp} {a : Addr} {u : HO} (e : Same H H') (h : Rd H a u) : Rd H' a u := by
  rcases h with h | ⟨o, h⟩
  · exact .inl (e _ _ h)
  · exact .inr ⟨o, e _ _ h⟩
theorem Same.tupl {K : PySem.W.Frag} {H H' : Hp} {a : Addr} {xs : List V} (e : Same H H') (h : SqT K H a xs) : SqT K H' a xs := by
  rcases h with h | h
  · exact .inl (Same.rd e h)
  · exact .inr h
theorem SqT.mono {K : PySem.W.Frag} {H H' : Hp} {a : Addr} {xs : List V} (h : SqT K H a xs) (e : Same H H') : SqT K H' a xs := Same.tupl e h
theorem SqL.mono {K : PySem.W.Frag} {H H' : Hp} {a : Addr} {xs : List V} (h : SqL K H a xs) (e : Same H H') : SqL K H' a xs := e.seq h

/-! ### data: none, bools, ints, texts, tuples (and lists that stand still) -/
mutual
theorem Dp.mono {K : PySem.W.Frag} {H H' : Hp} (e : Same H H') : ∀ {v : V} {d : PyData}, Dp K H v d → Dp K H' v d
  | _, _, .non => .non
  | _, _, .bl b => .bl b
  | _, _, .int i => .int i
  | _, _, .str x => .str x
  | _, _, .lst h a => .lst (e.seq h) (DpAll.mono e a)
  | _, _, .tup h a => .tup (Same.tupl e h) (DpAll.mono e a)
theorem DpAll.mono {K : PySem.W.Frag} {H H' : Hp} (e : Same H H') : ∀ {vs : List V} {ds : List PyData}, DpAll K H vs ds → DpAll K H' vs ds
  | _, _, .nil => .nil
  | _, _, .cons h a => .cons (Dp.mono e h) (DpAll.mono e a)
end
/-- a tuple just made -/
theorem Dp.made {K : PySem.W.Frag} {H : Hp} {p : Addr} {xs : List V} {ds : List PyData} (hp : H p = none) (h : DpAll K H xs ds) : Dp K (upd H p (.tup xs)) (.ref p) (.tuple ds) :=
  .tup (SqT.of upd_same) (DpAll.mono (Same.new hp) h)
theorem DpAll.length {K : PySem.W.Frag} {H : Hp} : ∀ {vs : List V} {ds : List PyData}, DpAll K H vs ds → vs.length = ds.length
  | _, _, .nil => rfl
  | _, _, .cons _ t => by simp [DpAll.length t]
theorem DpAll.app {K : PySem.W.Frag} {H : Hp} : ∀ {vs ws : List V} {ds es : List PyData}, DpAll K H vs ds → DpAll K H ws es → DpAll K H (vs ++ ws) (ds ++ es)
  | _, _, _, _, .nil, t => t
  | _, _, _, _, .cons h a, t => .cons h (DpAll.app a t)

/-! ### repr of data -/
mutual
theorem Dp.noDict {K : PySem.W.Frag} {H : Hp} : ∀ {v : V} {d : PyData}, Dp K H v d → d.hasDict = false
  | _, _, .non => rfl
  | _, _, .bl _ => rfl
  | _, _, .int _ => rfl
  | _, _, .str _ => rfl
  | _, _, .lst _ a => by simp only [PyData.hasDict]; exact DpAll.noDict a
  | _, _, .tup _ a => by simp only [PyData.hasDict]; exact DpAll.noDict a
theorem DpAll.noDict {K : PySem.W.Frag} {H : Hp} : ∀ {vs : List V} {ds : List PyData}, DpAll K H vs ds → PyData.hasDictAll ds = false
  | _, _, .nil => rfl
  | _, _, .cons h a => by simp only [PyData.hasDictAll, Dp.noDict h, DpAll.noDict a, Bool.or_self]
end
/-- what repr asks of data -/
structure ShowOk (d : PyData) : Prop where
  ok : d.showable = true
  dp : d.depth ≤ 60
  sz : d.shown.length ≤ sizeLine
def rRepr (K : PySem.W.Frag) : List V → Hp → VK → Prop := fun xs H Q => ∃ v d, xs = [v] ∧ Dp K H v d ∧ ShowOk d ∧ Q (.str d.shown) H
section
variable {X : Cx}
theorem call_repr_data (hg : X.A.guards = some []) (hu : X.A.units + 64 < cLine) : CallR X (.builtin "repr") (rRepr X.K) := by
  intro pins s σ H xs us Q I r h
  obtain ⟨v, d, rfl, hd, ⟨hs, hdp, hsz⟩, q⟩ := h
  obtain ⟨u, rfl, rv⟩ := vals1 r
  obtain ⟨as, rr⟩ := Dp.reads I d v u hd rv
  have nd := Dp.noDict hd
  cases d with
  | none => cases rr; exact PySem.P.repr_of_none ⟨.str _, H, I.tok _, ⟨_, rfl⟩, q⟩
  | bool b => cases rr; exact PySem.P.repr_of_bool ⟨.str _, H, I.tok _, ⟨_, rfl⟩, by simpa [PyData.shown] using q⟩
  | int i => cases rr; exact PySem.P.repr_of_int (of_decide_eq_true (by simpa [PyData.showable] using hs)) ⟨.str _, H, I.tok _, ⟨_, rfl⟩, by simpa [PyData.shown] using q⟩
  | str x => cases rr; exact PySem.P.repr_of_str (hsz := by simpa [PyData.shown] using hsz) ⟨.str _, H, I.tok _, ⟨_, rfl⟩, by simpa [PyData.shown] using q⟩
  | list ds =>
    obtain ⟨a, rfl⟩ := PyProof.Rows.isRef_of_reads rr rfl
    exact repr_of_reads' rr hs (PyData.noDict_hsm nd) hg (by omega) (fun _ _ e => e) (fun h' u tk hk => ⟨.str _, H, I.kept hk, ⟨_, rfl⟩, q⟩) hsz
  | tuple ds =>
    obtain ⟨a, rfl⟩ := PyProof.Rows.isRef_of_reads rr rfl
    exact repr_of_reads' rr hs (PyData.noDict_hsm nd) hg (by omega) (fun _ _ e => e) (fun h' u tk hk => ⟨.str _, H, I.kept hk, ⟨_, rfl⟩, q⟩) hsz
  | dict kv => cases hd
end

/-! ### the law's own call -/
/-- the heap behind the top, seen with the script at a locked, or with nothing tracked -/
theorem law_callG {P : Program} {w : World} {K : PySem.W.Frag} {mg mb : Str → Option Value} {CX : CXT} {k : Nat} {fa a : Addr} {fd : FuncData} {x : Str} {sp : Sp} {s₁ : Shared} {vs : List Value} {ns : List Int}
    (inn : K.In s₁.heap) (hns : s₁.heap.Ns mainGlobals mg) (hb : s₁.heap.Ns builtinsNs mb) (hbb : ∀ x : Str, x ≠ "__name__" → mb x = bootBuiltins x) (hlim : s₁.heap.NoLimit) (hgens : s₁.gens = #[])
    (ha : s₁.heap.get? a = some { cls := .type "list", data := .seq vs.toArray }) (hi : IntsAre vs ns) (hl : ns.length ≤ sizeLine) (hr : Room k callerA)
    (F : ∀ base : Heap, K.In base → base.Ns mainGlobals mg → FnG P w K mg base CX k fa fd [x] sp) (hbind : ∀ (s : Shared) (u : Value), BindsTo s fd ⟨[u], []⟩ [(x, u)])
    (hsp : ∀ H : Hp, Only H → SqL K H a (ns.map V.int) → sp [.ref a] H (fun v _ => v = .bl true) fun _ _ _ => False)
    (hCX : ∀ H e s', CX [] H s₁ (fun _ _ _ => False) e s' → False) :
    codeAny (model P w) callerA (.call (.ref fa) ⟨[.ref a], []⟩) (fun r s' => r = .ok (.ret (.bool true)) ∧ OldK s₁.heap s'.heap ∧ s'.os = s₁.os ∧ AllBare s'.gens) s₁ := by
  have rv := vals_ints hi
  have run : ∀ H : Hp, Only H → SqL K H a (ns.map V.int) → HOk P w H s₁.heap → (∀ b u, H b = some u → b = a ∧ K.lookup a = none) →
      codeAny (model P w) callerA (.call (.ref fa) ⟨[.ref a], []⟩) (fun r s' => r = .ok (.ret (.bool true)) ∧ OldK s₁.heap s'.heap ∧ s'.os = s₁.os ∧ AllBare s'.gens) s₁ := by
    intro H only hS hok at_a
    -- what is no list stays in the base
    have free : ∀ {b : Addr} {o : Obj}, s₁.heap.get? b = some o → (∀ its n, o.data ≠ .seq its n) → H b = none := fun {b o} e hd => by
      cases q : H b with
      | none => rfl
      | some u =>
        obtain ⟨rfl, _⟩ := at_a b u q
        rw [ha] at e; cases e
        exact absurd rfl (hd _ _)
    have names : ∀ {b : Addr} {m : Str → Option Value}, s₁.heap.Ns b m → (hidT s₁.heap H).Ns b m := fun {b m} hn => by
      obtain ⟨o, es, ep, e, d, r⟩ := hn
      exact ⟨o, es, ep, hidT_get e (free e fun its n z => by rw [d] at z; cases z), d, r⟩
    have inb : K.In (hidT s₁.heap H) := fun b o e => by
      refine hidT_get (inn b o e) ?_
      cases q : H b with
      | none => rfl
      | some u =>
        obtain ⟨rfl, hk⟩ := at_a b u q
        rw [e] at hk; cases hk
    have md : Mod K mg (hidT s₁.heap H) := by
      obtain ⟨mc, h1, h2⟩ := hlim
      exact ⟨inb, names hns, ⟨mb, names hb, hbb⟩, ⟨mc, names h1, h2⟩⟩
    have none_in : ∀ b : Addr, b ∉ ([] : List Addr) := fun b z => nomatch z
    have e0 : Env0 P w K mg (hidT s₁.heap H) callerA [] s₁ H := ⟨rfl, md, fun b o e => of_hidT e, Nat.le_of_eq (hidT_size _ _), trivial, fun b z => absurd z (none_in b), hok, .of_eq hgens⟩
    refine codeAny_mono ((F _ inb (names hns)).run callerA [] s₁ H ⟨[.ref a], []⟩ [.ref a] [.ref a] _ _ hr rfl e0 (hbind s₁ (.ref a)) (.cons rfl .nil) (hsp H only hS)) fun r s' h => ?_
    match r, h with
    | .error e, h => exact (hCX H e s' h).elim
    | .ok .next, h => exact False.elim h
    | .ok .brk, h => exact False.elim h
    | .ok .cont, h => exact False.elim h
    | .ok (.ret u), h =>
      obtain ⟨v, H', os, bare, un, hok', r', q⟩ := h
      obtain rfl : v = V.bl true := q
      obtain rfl : u = Value.bool true := r'
      refine ⟨rfl, OldK.of_keep fun b o e => ?_, os, bare⟩
      cases q : H b with
      | none => exact un.keep b o e q (none_in b) (none_in b)
      | some u =>
        rcases only b with z | ⟨ob, xs, z⟩
        · rw [q] at z; cases z
        · have e1 : s₁.heap.get? b = some ob := (hok b _ z).1
          rw [e] at e1; cases e1
          exact (hok' b _ (un.frzs b o _ z)).1
  cases hk : K.lookup a with
  | some o =>
    have e := inn a o hk
    rw [ha] at e; cases e
    have sz : vs.toArray.size ≤ sizeLine := by rw [List.size_toArray, hi.length]; exact hl
    exact run (fun _ => none) (fun _ => .inl rfl) (.inr ⟨_, vs.toArray, _, hk, rfl, rfl, rfl, sz, by simpa using rv⟩) (fun b u z => nomatch (show (none : Option HO) = some u from z)) fun b u z => nomatch (show (none : Option HO) = some u from z)
  | none =>
    let u0 : HO := .frz { cls := .type "list", data := .seq vs.toArray } (.lst (ns.map V.int))
    have at1 : ∀ b u, upd (fun _ => none) a u0 b = some u → b = a ∧ u = u0 := fun b u z => by
      by_cases hb : b = a
      · subst hb; rw [upd_same] at z; exact ⟨rfl, (Option.some.inj z).symm⟩
      · rw [upd_ne hb] at z; cases z
    refine run (upd (fun _ => none) a u0) (fun b => ?_) (.inl (.inr ⟨_, upd_same⟩)) (fun b u z => ?_) fun b u z => ⟨(at1 b u z).1, hk⟩
    · by_cases hb : b = a
      · subst hb; exact .inr ⟨_, _, upd_same⟩
      · exact .inl (by rw [upd_ne hb])
    · obtain ⟨rfl, rfl⟩ := at1 b u z
      exact ⟨ha, by rw [List.length_map]; exact hl, vs, _, rv, ha⟩
theorem walkG {l : PySem.W.OpenLaw} {n k : Nat} {q : Program} {loose : List Str} {XP : (Str → Option Value) → Heap → Prop} {YP : World → Heap → Prop} {d : DefRec} {K : Params → PySem.W.Frag} {CX : CXT} {sp : PySem.W.Frag → Sp} {x : Str}
    (hn : l.most = some n) (hn2 : n ≤ sizeLine) (hdf : d.params.defaults = []) (hr : Room k callerA)
    (hY : ∀ (w : World) (h : Heap), YP w h → (K w.params).In h)
    (F : ∀ (w : World) (mg : Str → Option Value) (fa : Addr) (h : Heap), (K w.params).In h → h.Ns mainGlobals mg → mg d.name = some (.ref fa) →
      ∃ fd : FuncData, (∀ (s : Shared) (u : Value), BindsTo s fd ⟨[u], []⟩ [(x, u)]) ∧
        ∀ base : Heap, (K w.params).In base → base.Ns mainGlobals mg → FnG l.prog w (K w.params) mg base CX k fa fd [x] (sp (K w.params)))
    (hsp : ∀ (K : PySem.W.Frag) (H : Hp) (a : Addr) (ns : List Int), ns.length ≤ n → Only H → SqL K H a (ns.map V.int) → sp K [.ref a] H (fun v _ => v = .bl true) fun _ _ _ => False)
    (hCX : ∀ (H : Hp) (s : Shared) (e : Value) (s' : Shared), CX [] H s (fun _ _ _ => False) e s' → False) :
    PySem.W.WalkO q loose XP YP l.row.toRowW d [] (fun f vs => PySem.call f vs) :=
  Att.attach_call hn hdf fun w s₀ s₁ mg mb fa o pm cd doc a vs ns G Y ho hd hcd hmg hobj hints hlen hg =>
    let ⟨fd, hb, hF⟩ := F w mg fa _ (hY w _ Y) G.T.g hmg
    law_callG (hY w _ Y) G.T.g G.T.b G.T.builtins G.T.nolimit hg hobj hints (Nat.le_trans hlen hn2) hr hF hb (fun H hO hS => hsp (K w.params) H a ns hlen hO hS) fun H e s' => hCX H s₁ e s'
/-- from the top's facts: the law's def and its arguments -/
theorem law_use {P : Program} {w : World} {K : PySem.W.Frag} {mg : Str → Option Value} {h : Heap} {CX : CXT} {k : Nat} {fa : Addr} {st : Stmt} {x : Str} {sp : Sp} (L : HasFn K "law" st) (X : K.In h) (G : h.Ns mainGlobals mg) (hfa : mg "law" = some (.ref fa))
    (hb : ∀ (kV doc pm : Value) (an : Option Addr) (cdv ct v : Value), bindArgs (PySem.W.fnOf "law" "law" (defArgs st) (defBody st) (defScope st) .none kV doc pm an cdv ct) ⟨[v], []⟩ = pure [(x, v)])
    (ok : ∀ base : Heap, K.In base → base.Ns mainGlobals mg → ∀ fd, Fun K "law" "law" st fa fd → FnG P w K mg base CX k fa fd [x] sp) :
    ∃ fd : FuncData, (∀ (s : Shared) (v : Value), BindsTo s fd ⟨[v], []⟩ [(x, v)]) ∧ ∀ base : Heap, K.In base → base.Ns mainGlobals mg → FnG P w K mg base CX k fa fd [x] sp := by
  obtain ⟨f, oc, od, an, kV, doc, pm, cdv, ct, osl, e, l, c, kp⟩ := L
  have z := hfa.symm.trans (PySem.W.mg_of X G e)
  cases z
  have Fn := fun_mk (st := st) l c kp
  exact ⟨_, fun s v => .of_eq (hb ..), fun base h1 h2 => ok base h1 h2 _ Fn⟩

/-! ### tests whose answer is known -/
theorem iteFb {c : Bool} {A B : Prop} (h : c = false) (b : B) : if c = true then A else B := by rw [h]; exact iteF b
theorem iteTb {c : Bool} {A B : Prop} (h : c = true) (a : A) : if c = true then A else B := by rw [h]; exact iteT a
theorem ite3 {c : Bool} {A B : Prop} (h1 : c = true → A) (h2 : c = false → B) : if c = true then A else B := by
  cases c with
  | true => exact iteT (h1 rfl)
  | false => exact iteF (h2 rfl)

/-! ### constants of the top -/
def HasInt (K : PySem.W.Frag) (x : Str) (n : Int) : Prop := ∃ (t : Tok) (m : Int), PySem.W.nsIn K mainGlobals x = some (some (.int m t)) ∧ m = n
def KTup (K : PySem.W.Frag) (a : Addr) (xs : List V) : Prop := ∃ (od : Option Addr) (its : Array Value) (n : Nat) (sl : Array (Option Value)), K.lookup a = some ⟨.type "tuple", od, .seq its n, sl⟩ ∧ its.size ≤ sizeLine ∧ Vals xs its.toList
def HasTup (K : PySem.W.Frag) (x : Str) (xs : List V) : Prop := ∃ a, PySem.W.nsIn K mainGlobals x = some (some (.ref a)) ∧ KTup K a xs
theorem KTup.sq {K : PySem.W.Frag} {a : Addr} {xs : List V} (h : KTup K a xs) (H : Hp) : SqT K H a xs := by
  obtain ⟨od, its, n, sl, e, z, v⟩ := h
  exact .inr ⟨_, its, n, e, rfl, rfl, z, v⟩
/-- the module's names, as the defs see them -/
def GInt (mg : Str → Option Value) (x : Str) (n : Int) : Prop := ∃ t, mg x = some (.int n t)
def GTup (K : PySem.W.Frag) (mg : Str → Option Value) (x : Str) (xs : List V) : Prop := ∃ a, mg x = some (.ref a) ∧ KTup K a xs
theorem HasInt.g {K : PySem.W.Frag} {mg : Str → Option Value} {h : Heap} {x : Str} {n : Int} (i : HasInt K x n) (X : K.In h) (G : h.Ns mainGlobals mg) : GInt mg x n := by
  obtain ⟨t, m, e, rfl⟩ := i
  exact ⟨t, PySem.W.mg_of X G e⟩
theorem HasTup.g {K : PySem.W.Frag} {mg : Str → Option Value} {h : Heap} {x : Str} {xs : List V} (i : HasTup K x xs) (X : K.In h) (G : h.Ns mainGlobals mg) : GTup K mg x xs := by
  obtain ⟨a, e, k⟩ := i
  exact ⟨a, PySem.W.mg_of X G e, k⟩
section
variable {X : Cx} {x : Str} {pos : Pos}
theorem pe_globI {n : Int} (h : GInt X.mg x n) (hg : Gl X x) (hd : (x == ("__debug__" : Str)) = false := by decide) : PE X (.Name x pos) (tC (.int n)) := by
  obtain ⟨t, e⟩ := h
  exact pe_glob hg e ⟨t, rfl⟩ hd
/-- a tuple of the top: it is read as xs, wherever it stands -/
def tGT (K : PySem.W.Frag) (xs : List V) : TE := fun _ H Q => ∀ a, KTup K a xs → Q (.ref a) H
theorem pe_globT {xs : List V} (h : GTup X.K X.mg x xs) (hg : Gl X x) (hd : (x == ("__debug__" : Str)) = false := by decide) : PE X (.Name x pos) (tGT X.K xs) := by
  obtain ⟨a, e, k⟩ := h
  exact ⟨fun pins s σ H Q I q => (pe_glob (v := .ref a) hg e rfl hd).run pins s σ H Q I (q a k)⟩
end

/-! ### // by any divisor but 0 -/
def CDivX (_ j : Int) : Prop := j ≠ 0 ∧ j.natAbs.log2 < 9000
theorem op_fdivX {X : Cx} : OpR X (binaryOp .FloorDiv) (rI CDivX fun i j => .int (i.fdiv j)) := opI fun _ _ _ _ _ _ _ hc q => floordiv_int hc.1 q (.inl (PyProof.noPylong_of_log2 hc.2))
theorem fdiv_le_pos (i : Int) {j : Int} (hj : 0 < j) : (i.fdiv j).natAbs ≤ i.natAbs + 1 := by
  have e := Int.mul_fdiv_add_fmod i j
  have h0 := Int.fmod_nonneg_of_pos i hj
  have h1 := Int.fmod_lt_of_pos i hj
  have a : (i.fdiv j).natAbs ≤ (j * i.fdiv j).natAbs := by
    rw [Int.natAbs_mul]; exact Nat.le_mul_of_pos_left _ (by omega)
  by_cases hi : 0 ≤ i
  · have : 0 ≤ i.fdiv j := Int.fdiv_nonneg hi (by omega)
    have : 0 ≤ j * i.fdiv j := Int.mul_nonneg (by omega) this
    omega
  · have q : i.fdiv j ≤ -1 := by
      by_cases z : 0 ≤ i.fdiv j
      · have := Int.mul_nonneg (show 0 ≤ j by omega) z
        omega
      · omega
    have r : -1 + i ≤ i.fdiv j := by
      have : i.fdiv j * (j - 1) ≤ (-1) * (j - 1) := Int.mul_le_mul_of_nonneg_right q (by omega)
      have e2 : j * i.fdiv j = i.fdiv j * (j - 1) + i.fdiv j := by rw [Int.mul_sub, Int.mul_one, Int.mul_comm]; omega
      omega
    omega
theorem fdiv_le (i j : Int) : (i.fdiv j).natAbs ≤ i.natAbs + 1 := by
  by_cases h : 0 < j
  · exact fdiv_le_pos i h
  · by_cases h2 : j = 0
    · subst h2; rw [Int.fdiv_zero]; omega
    · have e : i.fdiv j = (-i).fdiv (-j) := by rw [Int.neg_fdiv_neg]
      have := fdiv_le_pos (-i) (show 0 < -j by omega)
      rw [e]; omega

/-! ### how long a shown thing is at most -/
structure Sm (d : PyData) (dp N : Nat) : Prop where
  ok : d.showable = true
  dp : d.depth ≤ dp
  sz : d.shown.length ≤ N
structure SmAll (ds : List PyData) (dp n N : Nat) : Prop where
  ok : PyData.showableAll ds = true
  dp : PyData.depthAll ds ≤ dp
  len : ds.length ≤ n
  sz : ((PyData.shownAll ds).map (·.length)).sum ≤ N
theorem Sm.show {d : PyData} {dp N : Nat} (h : Sm d dp N) (h1 : dp ≤ 60) (h2 : N ≤ sizeLine) : ShowOk d := ⟨h.ok, Nat.le_trans h.dp h1, Nat.le_trans h.sz h2⟩
theorem Sm.mono {d : PyData} {dp N dp' N' : Nat} (h : Sm d dp N) (h1 : dp ≤ dp') (h2 : N ≤ N') : Sm d dp' N' := ⟨h.ok, Nat.le_trans h.dp h1, Nat.le_trans h.sz h2⟩
theorem shownAll_length : ∀ ds : List PyData, (PyData.shownAll ds).length = ds.length
  | [] => rfl
  | d :: ds => by simp [PyData.shownAll, shownAll_length ds]
theorem Sm.int {i : Int} (h : i.natAbs < 2 ^ 1900) : Sm (.int i) 0 2000 := by
  have hl : i.natAbs.log2 < 1900 := PySem.Flt.log2_lt_of (by decide) h
  refine ⟨?_, Nat.le_refl 0, ?_⟩
  · simp only [PyData.showable, decide_eq_true_eq]; omega
  · have e := int_text_length_le (k := 1900) (by decide) hl
    show (Str.ofString (toString i)).length ≤ 2000
    rw [PySem.ofString_length]; omega
theorem Sm.bool (b : Bool) : Sm (.bool b) 0 10 := ⟨rfl, Nat.le_refl 0, by cases b <;> decide +kernel⟩
theorem Sm.none : Sm .none 0 10 := ⟨rfl, Nat.le_refl 0, by decide +kernel⟩
theorem Sm.str {x : Str} {n : Nat} (h : x.length ≤ n) (hc : ∀ c ∈ x.cps.toList, c < 16 ^ 8) : Sm (.str x) 0 (10 * n + 2) := ⟨rfl, Nat.le_refl 0, by
  have e := PySem.StrLaws.reprText_len x hc
  show (reprText x).length ≤ _
  omega⟩
theorem SmAll.nil : SmAll [] 0 0 0 := ⟨rfl, Nat.le_refl 0, Nat.le_refl 0, Nat.le_refl 0⟩
theorem SmAll.cons {d : PyData} {ds : List PyData} {dp dp' n N M : Nat} (h : Sm d dp N) (t : SmAll ds dp' n M) : SmAll (d :: ds) (max dp dp') (n + 1) (N + M) := by
  have h1 := h.dp
  have h2 := t.dp
  refine ⟨by simp [PyData.showableAll, h.ok, t.ok], ?_, by have := t.len; simp; omega, ?_⟩
  · simp only [PyData.depthAll]; omega
  · have := h.sz
    have := t.sz
    simp only [PyData.shownAll, List.map_cons, List.sum_cons]; omega
theorem Sm.tup {ds : List PyData} {dp n N : Nat} (h : SmAll ds dp n N) : Sm (.tuple ds) (dp + 1) (N + 2 * n + 3) := by
  refine ⟨by simpa [PyData.showable] using h.ok, by simp only [PyData.depth]; have := h.dp; omega, ?_⟩
  have e := tupleText_len_le (PyData.shownAll ds)
  have := h.sz
  have := h.len
  rw [shownAll_length] at e
  show (tupleText (PyData.shownAll ds)).length ≤ _
  omega
theorem Sm.lst {ds : List PyData} {dp n N : Nat} (h : SmAll ds dp n N) : Sm (.list ds) (dp + 1) (N + 2 * n + 3) := by
  refine ⟨by simpa [PyData.showable] using h.ok, by simp only [PyData.depth]; have := h.dp; omega, ?_⟩
  have e := listText_len_le (PyData.shownAll ds)
  have := h.sz
  have := h.len
  rw [shownAll_length] at e
  show (listText (PyData.shownAll ds)).length ≤ _
  omega
theorem SmAll.many {dp N : Nat} : ∀ {ds : List PyData}, (∀ d ∈ ds, Sm d dp N) → SmAll ds dp ds.length (N * ds.length)
  | [], _ => ⟨rfl, Nat.zero_le _, Nat.le_refl 0, Nat.zero_le _⟩
  | d :: ds, h => by
    have t := SmAll.cons (h d (by simp)) (SmAll.many (fun e he => h e (List.mem_cons_of_mem _ he)))
    rw [Nat.max_self] at t
    refine ⟨t.ok, t.dp, t.len, Nat.le_trans t.sz ?_⟩
    rw [List.length_cons, Nat.mul_succ]; omega
theorem sz_0 : (0 : Nat) ≤ sizeLine := by decide
theorem sz_1 : (1 : Nat) ≤ sizeLine := by decide
theorem sz_2 : (2 : Nat) ≤ sizeLine := by decide
theorem sz_3 : (3 : Nat) ≤ sizeLine := by decide
theorem sz_4 : (4 : Nat) ≤ sizeLine := by decide
theorem sz_5 : (5 : Nat) ≤ sizeLine := by decide
/-! ### the ends: each premise a fact that k_is finds -/
theorem HasFn.mk' {K : PySem.W.Frag} {x : Str} {st : Stmt} {f : Addr} {oc : Value} {od an : Option Addr} {kV doc pm cdv ct : Value} {osl : Array (Option Value)} (a : PySem.W.nsIn K mainGlobals x = some (some (.ref f)))
    (b : K.lookup f = some ⟨oc, od, .func (PySem.W.fnOf x x (defArgs st) (defBody st) (defScope st) .none kV doc pm an cdv ct), osl⟩) (c : PySem.W.codeIn K cdv x = true) (d : PySem.W.keepIn K (.ref f) = true) : HasFn K x st :=
  ⟨f, oc, od, an, kV, doc, pm, cdv, ct, osl, a, b, c, d⟩
theorem HasInt.mk' {K : PySem.W.Frag} {x : Str} {n m : Int} {t : Tok} (a : PySem.W.nsIn K mainGlobals x = some (some (.int m t))) (e : m = n) : HasInt K x n := ⟨t, m, a, e⟩
theorem HasTup.mk' {K : PySem.W.Frag} {x : Str} {xs : List V} {a : Addr} {od : Option Addr} {its : Array Value} {n : Nat} {sl : Array (Option Value)} (h : PySem.W.nsIn K mainGlobals x = some (some (.ref a)))
    (b : K.lookup a = some ⟨.type "tuple", od, .seq its n, sl⟩) (z : its.size ≤ sizeLine) (v : Vals xs its.toList) : HasTup K x xs := ⟨a, h, od, its, n, sl, b, z, v⟩
/-! ### what the laws' helpers promise -/
/-! the digits and the place -/
def BoxAt (H : Hp) (p dl : Addr) : Prop := ∃ (ds : List Int) (k : Int), H p = some (.lst [.ref dl, .int k]) ∧ 0 ≤ k ∧ H dl = some (.lst (ds.map V.int)) ∧ ds.length ≤ 4000 ∧ ∀ d ∈ ds, 0 ≤ d ∧ d < 1000
theorem BoxAt.at_ {H : Hp} {p dl : Addr} (h : BoxAt H p dl) : ∃ xs, H p = some (.lst xs) := let ⟨_, _, a, _⟩ := h; ⟨_, a⟩
theorem BoxAt.dg {H : Hp} {p dl : Addr} (h : BoxAt H p dl) : ∃ xs, H dl = some (.lst xs) := let ⟨_, _, _, _, c, _⟩ := h; ⟨_, c⟩
def Keep (p : Addr) (H H' : Hp) : Prop := ∀ b o, H b = some o → b ≠ p → H' b = some o
def spDraw (K : PySem.W.Frag) : Sp := fun vs H Q _ => ∃ (p dl : Addr) (m : Int), vs = [.ref p, .int m] ∧ BoxAt H p dl ∧ 0 < m ∧ ∀ r H', 0 ≤ r → r < m → BoxAt H' p dl → Keep p H H' → Q (.int r) H'
def spCell (K : PySem.W.Frag) : Sp := fun vs H Q _ => ∃ (a : Addr) (ns : List Int) (i : Int), vs = [.ref a, .int i] ∧ SqL K H a (ns.map V.int) ∧ 0 ≤ i ∧ ∀ r, Q (.int r) H
def DigAt (H0 H : Hp) (dl : Addr) (n : Nat) : Prop := ∃ ds : List Int, H dl = some (.lst (ds.map V.int)) ∧ ds.length ≤ n ∧ (∀ d ∈ ds, 0 ≤ d ∧ d < 1000) ∧ Same H0 H
theorem DigAt.mono {H0 H : Hp} {dl : Addr} {n m : Nat} (h : DigAt H0 H dl n) (l : n ≤ m) : DigAt H0 H dl m := let ⟨ds, a, b, c, d⟩ := h; ⟨ds, a, by omega, c, d⟩
theorem DigAt.add {H0 H : Hp} {dl : Addr} {n : Nat} {r : Int} {xs : List V} (h : DigAt H0 H dl n) (hx : H dl = some (.lst xs)) (nd : H0 dl = none) (h0 : 0 ≤ r) (h1 : r < 1000) : DigAt H0 (upd H dl (.lst (xs ++ [.int r]))) dl (n + 1) := by
  obtain ⟨ds, a, b, c, d⟩ := h
  rw [hx] at a
  obtain rfl := HO.lst.inj (Option.some.inj a)
  refine ⟨ds ++ [r], by rw [upd_same, List.map_append]; rfl, by simp; omega, fun z hz => ?_, fun q o e => by rw [upd_ne (ne_of_none e nd)]; exact d q o e⟩
  rcases List.mem_append.mp hz with hz | hz
  · exact c z hz
  · have : z = r := by simpa using hz
    omega
def spDigits (K : PySem.W.Frag) : Sp := fun vs H Q _ => ∃ (a : Addr) (ns : List Int) (lo hi : Nat), vs = [.ref a, .int lo, .int hi] ∧ SqL K H a (ns.map V.int) ∧ lo ≤ hi ∧ hi ≤ 64 ∧
  ∀ (p : Addr) (H' : Hp), H p = none → DigAt H H' p 4000 → Q (.ref p) H'
def spBound : Sp := fun vs H Q _ => vs = [] ∧ Q (.int (2 ^ 256)) H
theorem Keep.trans {p : Addr} {H H1 H2 : Hp} (a : Keep p H H1) (b : Keep p H1 H2) : Keep p H H2 := fun c o h ne => b c o (a c o h ne) ne
theorem Keep.refl (p : Addr) (H : Hp) : Keep p H H := fun _ _ h _ => h
def Sgn (z : Int) : Prop := z = 1 ∨ z = -1
theorem Sgn.mul {z n : Int} (h : Sgn z) : (z * n).natAbs = n.natAbs := by
  rcases h with rfl | rfl <;> omega
theorem Sgn.wide {z n : Int} (h : Sgn z) (hn : n.natAbs < 2 ^ 300) : CMulW z n := wide_mul (a := 2) (b := 300) (by rcases h with rfl | rfl <;> decide) hn (by decide) (by decide) (by decide)
def spNumber (K : PySem.W.Frag) : Sp := fun vs H Q _ => ∃ (p dl : Addr), vs = [.ref p] ∧ BoxAt H p dl ∧ ∀ (n : Int) H', n.natAbs < 2 ^ 260 → BoxAt H' p dl → Keep p H H' → Q (.int n) H'
def spSame (K : PySem.W.Frag) : Sp := fun vs H Q _ => ∃ (x y : V) (d : PyData), vs = [x, y] ∧ Dp K H x d ∧ Dp K H y d ∧ ShowOk d ∧ Q (.bl true) H
theorem Same.keep {p : Addr} {H H' : Hp} (e : Same H H') : Keep p H H' := fun b o h _ => e b o h
theorem BoxAt.same {p dl : Addr} {H H' : Hp} (h : BoxAt H p dl) (e : Same H H') : BoxAt H' p dl := by
  obtain ⟨ds, k, a, b, c, d⟩ := h
  exact ⟨ds, k, e _ _ a, b, e _ _ c, d⟩
theorem BoxAt.upd {p dl l : Addr} {H : Hp} {o : HO} (h : BoxAt H p dl) (h1 : l ≠ p) (h2 : l ≠ dl) : BoxAt (L2.upd H l o) p dl := by
  obtain ⟨ds, k, a, b, c, d⟩ := h
  exact ⟨ds, k, by rw [upd_ne (Ne.symm h1)]; exact a, b, by rw [upd_ne (Ne.symm h2)]; exact c, d⟩
theorem strOk (s : Str) (h : s.cps.toList.all (fun c => decide (c < 16 ^ 8)) = true) : ∀ c ∈ s.cps.toList, c < 16 ^ 8 := fun c hc => of_decide_eq_true (List.all_eq_true.mp h c hc)

/-! ### data without lists: what no change of a list can reach -/
mutual
inductive Dt (K : PySem.W.Frag) (H : Hp) : V → PyData → Prop
  | non : Dt K H .non .none
  | bl (b : Bool) : Dt K H (.bl b) (.bool b)
  | int (i : Int) : Dt K H (.int i) (.int i)
  | str (x : Str) : Dt K H (.str x) (.str x)
  | tup {a : Addr} {xs : List V} {ds : List PyData} : SqT K H a xs → DtAll K H xs ds → Dt K H (.ref a) (.tuple ds)
inductive DtAll (K : PySem.W.Frag) (H : Hp) : List V → List PyData → Prop
  | nil : DtAll K H [] []
  | cons {v : V} {vs : List V} {d : PyData} {ds : List PyData} : Dt K H v d → DtAll K H vs ds → DtAll K H (v :: vs) (d :: ds)
end
mutual
theorem Dt.dp {K : PySem.W.Frag} {H : Hp} : ∀ {v : V} {d : PyData}, Dt K H v d → Dp K H v d
  | _, _, .non => .non
  | _, _, .bl b => .bl b
  | _, _, .int i => .int i
  | _, _, .str x => .str x
  | _, _, .tup h a => .tup h (DtAll.dp a)
theorem DtAll.dp {K : PySem.W.Frag} {H : Hp} : ∀ {vs : List V} {ds : List PyData}, DtAll K H vs ds → DpAll K H vs ds
  | _, _, .nil => .nil
  | _, _, .cons h a => .cons (Dt.dp h) (DtAll.dp a)
end
/-- every tuple that H reads H' reads as well -/
def KeepT (K : PySem.W.Frag) (H H' : Hp) : Prop := ∀ a xs, SqT K H a xs → SqT K H' a xs
mutual
theorem Dt.keepT {K : PySem.W.Frag} {H H' : Hp} (e : KeepT K H H') : ∀ {v : V} {d : PyData}, Dt K H v d → Dt K H' v d
  | _, _, .non => .non
  | _, _, .bl b => .bl b
  | _, _, .int i => .int i
  | _, _, .str x => .str x
  | _, _, .tup h a => .tup (e _ _ h) (DtAll.keepT e a)
theorem DtAll.keepT {K : PySem.W.Frag} {H H' : Hp} (e : KeepT K H H') : ∀ {vs : List V} {ds : List PyData}, DtAll K H vs ds → DtAll K H' vs ds
  | _, _, .nil => .nil
  | _, _, .cons h a => .cons (Dt.keepT e h) (DtAll.keepT e a)
end
theorem KeepT.refl (K : PySem.W.Frag) (H : Hp) : KeepT K H H := fun _ _ h => h
theorem KeepT.trans {K : PySem.W.Frag} {H H1 H2 : Hp} (a : KeepT K H H1) (b : KeepT K H1 H2) : KeepT K H H2 := fun c xs h => b c xs (a c xs h)
theorem Same.keepT {K : PySem.W.Frag} {H H' : Hp} (e : Same H H') : KeepT K H H' := fun _ _ h => Same.tupl e h
theorem Keep.keepT {K : PySem.W.Frag} {p : Addr} {H H' : Hp} (e : Keep p H H') (hp : ∃ xs, H p = some (.lst xs)) : KeepT K H H' := fun a xs h => by
  obtain ⟨ys, hp⟩ := hp
  rcases h with (h | ⟨o, h⟩) | h
  · exact .inl (.inl (e _ _ h (ne_of h hp (by intro z; cases z))))
  · exact .inl (.inr ⟨o, e _ _ h (ne_of h hp (by intro z; cases z))⟩)
  · exact .inr h
theorem KeepT.upd {K : PySem.W.Frag} {p : Addr} {H : Hp} {o : HO} {xs : List V} (hp : H p = some (.lst xs)) : KeepT K H (upd H p o) :=
  Keep.keepT (p := p) (fun b u e hb => by rw [upd_ne hb]; exact e) ⟨xs, hp⟩
theorem Dt.mono {K : PySem.W.Frag} {H H' : Hp} {v : V} {d : PyData} (e : Same H H') (h : Dt K H v d) : Dt K H' v d := h.keepT (Same.keepT e)
theorem DtAll.mono {K : PySem.W.Frag} {H H' : Hp} {v : List V} {d : List PyData} (e : Same H H') (h : DtAll K H v d) : DtAll K H' v d := h.keepT (Same.keepT e)
theorem Dt.made {K : PySem.W.Frag} {H : Hp} {p : Addr} {xs : List V} {ds : List PyData} (hp : H p = none) (h : DtAll K H xs ds) : Dt K (L2.upd H p (.tup xs)) (.ref p) (.tuple ds) := .tup (SqT.of upd_same) (DtAll.mono (Same.new hp) h)
theorem DtAll.length {K : PySem.W.Frag} {H : Hp} {vs : List V} {ds : List PyData} (h : DtAll K H vs ds) : vs.length = ds.length := LK.DpAll.length h.dp
theorem DtAll.app {K : PySem.W.Frag} {H : Hp} : ∀ {vs ws : List V} {ds es : List PyData}, DtAll K H vs ds → DtAll K H ws es → DtAll K H (vs ++ ws) (ds ++ es)
  | _, _, _, _, .nil, t => t
  | _, _, _, _, .cons h a, t => .cons h (DtAll.app a t)
theorem DtAll.get {K : PySem.W.Frag} {H : Hp} : ∀ {vs : List V} {ds : List PyData} {i : Nat} {d : PyData}, DtAll K H vs ds → ds[i]? = some d → ∃ v, vs[i]? = some v ∧ Dt K H v d
  | _, _, 0, _, .cons h _, e => ⟨_, rfl, Option.some.inj e ▸ h⟩
  | _, _, i + 1, _, .cons _ a, e => DtAll.get (i := i) a e
theorem DtAll.getV {K : PySem.W.Frag} {H : Hp} : ∀ {vs : List V} {ds : List PyData} {i : Nat} {v : V}, DtAll K H vs ds → vs[i]? = some v → ∃ d, ds[i]? = some d ∧ Dt K H v d
  | _, _, 0, _, .cons h _, e => ⟨_, rfl, Option.some.inj e ▸ h⟩
  | _, _, i + 1, _, .cons _ a, e => DtAll.getV (i := i) a e
theorem Dt.tuple_inv {K : PySem.W.Frag} {H : Hp} {v : V} {ds : List PyData} (h : Dt K H v (.tuple ds)) : ∃ a xs, v = .ref a ∧ SqT K H a xs ∧ DtAll K H xs ds := by
  cases h with
  | tup h a => exact ⟨_, _, rfl, h, a⟩
theorem DtAll.cons_inv {K : PySem.W.Frag} {H : Hp} {vs : List V} {d : PyData} {ds : List PyData} (h : DtAll K H vs (d :: ds)) : ∃ v ws, vs = v :: ws ∧ Dt K H v d ∧ DtAll K H ws ds := by
  cases h with
  | cons h a => exact ⟨_, _, rfl, h, a⟩
theorem DtAll.nil_inv {K : PySem.W.Frag} {H : Hp} {vs : List V} (h : DtAll K H vs []) : vs = [] := by cases h; rfl
theorem Dt.int_inv {K : PySem.W.Frag} {H : Hp} {v : V} {i : Int} (h : Dt K H v (.int i)) : v = .int i := by cases h; rfl
theorem Dt.str_inv {K : PySem.W.Frag} {H : Hp} {v : V} {x : Str} (h : Dt K H v (.str x)) : v = .str x := by cases h; rfl
theorem Dt.bool_inv {K : PySem.W.Frag} {H : Hp} {v : V} {b : Bool} (h : Dt K H v (.bool b)) : v = .bl b := by cases h; rfl
theorem dtStrs {K : PySem.W.Frag} {H : Hp} : ∀ xs : List Str, DtAll K H (xs.map V.str) (xs.map PyData.str)
  | [] => .nil
  | x :: xs => .cons (.str x) (dtStrs xs)
end LK

set_option Elab.async false
set_option linter.all false
set_option maxRecDepth 100000
set_option maxHeartbeats 4000000
/-! enumerate of a tuple. -/
namespace LK
open PySem PySem.Spec PyProof.Rows L2
open AutoSeq1 (wpAny_loadPart')
open Sem (wp)
def enumObj (it : Addr) : Obj := { cls := .type "enumerate", data := .fields #[.none, .bool false, .ref it, rawInt 0, .none, .none] }
def tupIt (t : Addr) : Obj := { cls := .type "tuple_iterator", data := .fields #[.ref t, .int 0 0] }
theorem meets_enumT (t : Addr) (items : Array Value) (n : Nat) (dct : Option Addr) (sl : Array (Option Value)) :
    Meets (Builtin.«enumerate.__new__» ⟨[.type "enumerate", .ref t], []⟩) (fun _ R s => s.heap.get? t = some { cls := .type "tuple", dict := dct, data := .seq items n, slots := sl } ∧
      R (.ok (.ret (.ref (s.heap.push (tupIt t)).objs.size))) { s with heap := (s.heap.push (tupIt t)).push (enumObj s.heap.objs.size) }) :=
  .of_wp fun prog w A R s h => by
    obtain ⟨hp, g, d, tk, os⟩ := s
    obtain ⟨hl, h⟩ := h
    have hsub := sub_enumerate
    have hT : Heap.IsTuple (Shared.heap ⟨hp, g, d, tk, os⟩) t items := ⟨_, hl, rfl, n, rfl⟩
    wp_walk using wpAny_loadPart' hl
    refine wpAny_stack_any fun st => wpAny_pure ?_
    split
    · rename_i c _ _ _ _ _
      cases (c == Value.type "enumerate") <;> (wp_walk using wpAny_loadPart' hl, wpAny_pyIter_tuple hT; exact ⟨_, rfl, h⟩)
    · wp_walk using wpAny_loadPart' hl, wpAny_pyIter_tuple hT
      exact ⟨_, rfl, h⟩
section
variable {prog : Program} {w : World} {A : Around} {E : Value → Shared → Prop} {s : Shared}
theorem call_enumT {t : Addr} {items : Array Value} {Q : Value → Shared → Prop} (hT : s.heap.IsTuple t items)
    (h : ∀ h', IsEnum h' (s.heap.objs.size + 1) s.heap.objs.size 0 .none → h'.IsTupleIter s.heap.objs.size t 0 → (∀ b o, s.heap.get? b = some o → h'.get? b = some o) → Q (.ref (s.heap.objs.size + 1)) { s with heap := h' }) :
    wpAny (model prog w) A (call (.type "enumerate") [.ref t]) Q E s := by
  obtain ⟨⟨c, dct, dt, sl⟩, hl, hc, n, hd⟩ := hT
  obtain rfl : c = .type "tuple" := hc
  obtain rfl : dt = .seq items n := hd
  refine callType_new F.called_enumerate (by decide) (F.typeCall_enumerate_1 _) (F.newCall_enumerate_1 _) (fun obj => F.args_object_init_2 obj _) F.entry_enumerate_new (meets_enumT t items n dct sl) ⟨hl, ?_⟩
  have hz : (s.heap.push (tupIt t)).objs.size = s.heap.objs.size + 1 := Heap.size_push ..
  have he : IsEnum ((s.heap.push (tupIt t)).push (enumObj s.heap.objs.size)) (s.heap.objs.size + 1) s.heap.objs.size 0 .none := by
    have q := Heap.get?_push_size (s.heap.push (tupIt t)) (o := enumObj s.heap.objs.size) rfl
    rw [hz] at q
    exact q
  show _ ∧ _
  rw [hz]
  exact ⟨⟨_, he, rfl⟩, h _ he (Heap.get?_push_of_some _ (Heap.get?_push_size _ rfl) |> fun q => ⟨_, q, rfl, rfl⟩) fun b o x => Heap.get?_push_of_some _ (Heap.get?_push_of_some _ x)⟩
end
/-- the tuple at a, each item in a new pair with its place -/
def IteT (K : PySem.W.Frag) (a : Addr) : It where
  go := fun i H => ∃ (xs : List V) (x : V), SqT K H a xs ∧ xs[i]? = some x
  yld := fun i H v H' => ∃ T x, v = .ref T ∧ H T = none ∧ H' = upd H T (.tup [.int (i : Nat), x]) ∧ ∀ xs, SqT K H a xs → xs[i]? = some x
  stop := fun i H => ∃ xs : List V, SqT K H a xs ∧ xs.length = i
theorem turn_enumT {P : Program} {w : World} {K : PySem.W.Frag} {elts : List Expr} {kk : Nat} {tpos : Pos} (a e it : Addr) :
    Turn P w K (.Tuple elts kk tpos) (IteT K a) [e, it] e (fun i h => (∃ old, IsEnum h e it ((i : Nat) : Int) old) ∧ h.IsTupleIter it a i ∧ e ≠ it) where
  mem := List.mem_cons_self
  obj := fun i h st b hb => by
    obtain ⟨⟨old, he⟩, ⟨o, ho, hc, hd⟩, _⟩ := st
    have hb : b = e ∨ b = it := by simpa using hb
    rcases hb with rfl | rfl
    · exact ⟨_, he, fun v q => nomatch q⟩
    · exact ⟨o, ho, fun v q => by rw [hd] at q; cases q⟩
  keep := fun i h h' st k => by
    obtain ⟨⟨old, he⟩, hi, hne⟩ := st
    exact ⟨⟨old, k e (by simp) _ he⟩, hi.at fun o q => k it (by simp) o q, hne⟩
  item := by
    intro X hP hw hK hc i pins s σ H E I hf st hg
    subst hP hw hK
    obtain ⟨⟨old, he⟩, hit, hne⟩ := st
    obtain ⟨xs, x, hq, hx⟩ := hg
    obtain ⟨its, rv, p, hz⟩ := I.tuple hq
    obtain ⟨u, hu, ru⟩ := rv.get hx
    have hel : e < s.heap.objs.size := Heap.lt_size he
    have hil : it < s.heap.objs.size := by obtain ⟨_, q, _⟩ := hit; exact Heap.lt_size q
    have hat : a ≠ it := by
      intro z
      subst z
      obtain ⟨o, q1, c1, _⟩ := hit
      obtain ⟨o', q2, c2, _⟩ := p
      rw [q1] at q2; cases q2
      exact absurd (Value.type.inj (c1.symm.trans c2)) (by decide)
    have D := Draws.tuple (prog := X.prog) (w := X.w) (A := X.A.in1) (I.ok.hd hc) it a hat its.toArray
    have Dst : (fun i (h : Heap) => h.IsTupleIter it a i ∧ h.IsTuple a its.toArray) i s.heap := ⟨hit, p⟩
    have eat : e ≠ a := by
      intro z
      subst z
      obtain ⟨o', q2, c2, _⟩ := p
      rw [he] at q2; cases q2
      exact absurd (Value.type.inj c2) (by decide)
    have hi : i < its.toArray.size := by
      have := (List.getElem?_eq_some_iff.mp hu).1
      simpa using this
    refine wpAny_pyNext_enum_itemD D he Dst hi hne (by simp [hne, eat]) fun v h' tk hv ho hst hT hsz hk => ?_
    obtain rfl : v = u := by
      have hv : its.toArray[i]? = some v := hv
      rw [show its.toArray[i]? = some u by simpa using hu] at hv
      exact (Option.some.inj hv).symm
    refine ⟨_, rfl, wpAny_letOwnedTupleGo_enum (s := { s with heap := h', toks := tk + 1 }) ho fun h'' he' sb => ?_⟩
    have hT2 := (sb.2 _ (Nat.ne_of_gt hel)).trans hT
    have new : ObjOk X.prog X.w (upd H s.heap.objs.size (.tup [.int (i : Nat), x])) h'' s.heap.objs.size (.tup [.int (i : Nat), x]) :=
      ⟨by show 2 ≤ sizeLine; decide, [.int i tk, v], .cons ⟨_, rfl⟩ (.cons ru .nil), ⟨_, hT2, rfl, _, rfl⟩⟩
    have I1 : Inv X pins σ (upd H s.heap.objs.size (.tup [.int (i : Nat), x])) { s with heap := h'', toks := tk + 1 } :=
      I.turnedNew (ch := [e, it]) (fun b ob hb q => (sb.2 b (fun z => hb (by simp [z]))).trans (hk b ob (fun z => hb (by simp [z])) (fun z => hb (by simp [z])) q)) hf (Nat.le_refl _) new
    refine ⟨.ref s.heap.objs.size, _, I1, rfl, ⟨_, x, rfl, I.hok.fresh (Nat.le_refl _), rfl, fun ys hy => by rw [I.tuple_inj hy hq]; exact hx⟩, ⟨⟨v, ?_⟩, hst.1.at fun o q => (sb.2 it (Ne.symm hne)).trans q, hne⟩, fun b hb => ?_⟩
    · rw [show ((i + 1 : Nat) : Int) = (i : Int) + 1 by omega]
      exact he'
    · have hb' : b < s.heap.objs.size := by
        have z : b = e ∨ b = it := by simpa using hb
        rcases z with rfl | rfl <;> assumption
      rw [upd_ne (Nat.ne_of_lt hb')]
      exact (hf b hb).1
  done := by
    intro X hP hw hK hc i pins s σ H E I hf st hg
    subst hP hw hK
    obtain ⟨⟨old, he⟩, hit, hne⟩ := st
    obtain ⟨xs, hq, hx⟩ := hg
    obtain ⟨its, rv, p, hz⟩ := I.tuple hq
    obtain ⟨f0, f1, f2, f3, f4, f5⟩ := hf it (by simp)
    have hl := rv.length
    have hat : a ≠ it := by
      intro z
      subst z
      obtain ⟨o, q1, c1, _⟩ := hit
      obtain ⟨o', q2, c2, _⟩ := p
      rw [q1] at q2; cases q2
      exact absurd (Value.type.inj (c1.symm.trans c2)) (by decide)
    have D := Draws.tuple (prog := X.prog) (w := X.w) (A := X.A.in1) (I.ok.hd hc) it a hat its.toArray
    have hn : i = its.toArray.size := by simp; omega
    subst hn
    exact wpAny_pyNext_enum_endD D he ⟨hit, p⟩ fun h' eb => ⟨rfl, I.turned (t' := s.toks) (fun b o hb q => eb b o hb q) f0 f1 f3 f4 f5⟩
  self := fun A i s Q E st h => let ⟨⟨_, he⟩, _⟩ := st; wpAny_pyIter_enum he h
def iEnumT (K : PySem.W.Frag) (ta : TA) : TI := fun σ H R => ta σ H fun vs H1 => ∃ a xs, vs = [.ref a] ∧ SqT K H1 a xs ∧ R (IteT K a) H1
theorem pi_enumT {X : Cx} {e : Expr} {ta : TA} {p pos tpos : Pos} {elts : List Expr} {kk : Nat} (hg : Gl X "enumerate") (hm : X.mg "enumerate" = none) (ha : PA X [e] ta) (hs : starEach [e] X.env = [(false, eval e X.env)] := by rfl) :
    PI X (.Tuple elts kk tpos) (.Call (.Name "enumerate" p) [e] [] pos) (iEnumT X.K ta) := by
  refine ⟨fun pins s σ H R I h => ?_⟩
  refine Call_ (ld_blt I hg hm boot_enumerate (PyProof.Rows.callWith_type1 (thn (ha.run pos pins s σ H _ I h) fun us s1 ⟨vs, H1, I1, r1, q1⟩ => ?_) hs rfl))
  obtain ⟨a, xs, rfl, hq, q⟩ := q1
  cases r1 with
  | cons r rr =>
    cases rr
    cases r
    obtain ⟨its, rv, p', hz⟩ := I1.tuple hq
    refine call_enumT (show s1.heap.IsTuple a its.toArray from p') fun h' he hit hk => wpAny_pyIter_enum he ?_
    refine ⟨s1.heap.objs.size + 1, [s1.heap.objs.size + 1, s1.heap.objs.size], _, _, H1, rfl, I1.kept (t' := s1.toks) hk, turn_enumT a (s1.heap.objs.size + 1) s1.heap.objs.size, ⟨⟨.none, he⟩, hit, Nat.succ_ne_self _⟩, fun b hb => ?_, q⟩
    have hle : s1.heap.objs.size ≤ b := by
      have z : b = s1.heap.objs.size + 1 ∨ b = s1.heap.objs.size := by simpa using hb
      rcases z with rfl | rfl <;> omega
    exact I1.fpOk hle (I1.hok.fresh hle)
theorem walk_enumT {K : PySem.W.Frag} {a : Addr} {xs : List V} : Walk (IteT K a) xs.length (fun H => SqT K H a xs) (YPair (fun i => some (.int (i : Nat))) (fun i => xs[i]?)) := by
  refine ⟨fun i _ hi q => ⟨xs, xs[i], q, by simp [hi]⟩, fun _ q => ⟨xs, q, rfl⟩, fun i H v H' _ q y => ?_⟩
  obtain ⟨T, x, h1, h2, h3, h4⟩ := y
  exact ⟨T, .int (i : Nat), x, h1, h2, h3, rfl, h4 xs q⟩

/-! ### comprehensions whose items are data -/
theorem tYes_of {σ : L2.St} {H : Hp} {P R : Hp → Prop} (h : P H) : tYes σ H fun b H3 => if b = true then P H3 else R H3 := by
  show (if true = true then P H else R H)
  rw [if_pos rfl]
  exact h
/-- each turn gives data and leaves what stood; no test -/
theorem lc_dt {K : PySem.W.Frag} {J : It} {n : Nat} {G : Hp → Prop} {Y : Nat → Hp → V → Hp → Prop} (w : Walk J n G Y) {g : TG} {te : TE} {vs : List Nat} {σ : L2.St} {H : Hp} {D : Addr} {Qd : Hp → Prop} (hD : H D = none) (ds : List PyData) (hn : ds.length = n) (hz : n < sizeLine)
    (hG : ∀ H', Same H H' → G H')
    (hs : ∀ i x H1 H2 d (Nx : V → Hp → Prop), i < n → ds[i]? = some d → Same H H1 → (∃ acc, H1 D = some (.lst acc)) → Y i H1 x H2 → (∀ y H5, Same H1 H5 → Dt K H5 y d → Nx y H5) →
      g x (wipe σ vs) H2 fun σ2 H3 => wipe σ2 vs = wipe σ vs ∧ te σ2 H3 Nx)
    (hd : ∀ H' acc, Same H H' → H' D = some (.lst acc) → DtAll K H' acc ds → Qd H')
    (mono : ∀ x σ H Q Q', (∀ σ' H', Q σ' H' → Q' σ' H') → g x σ H Q → g x σ H Q') :
    ∃ W : Nat → Nat → Hp → Prop, (∃ m, W 0 m (upd H D (.lst []))) ∧ ∀ i m H, W i m H →
      (J.stop i H ∧ Qd H) ∨ (J.go i H ∧ ∃ Nx : Hp → Prop, (∀ H', Nx H' → ∃ m', m' < m ∧ W (i + 1) m' H') ∧ ∀ x H', J.yld i H x H' → g x (wipe σ vs) H' fun σ2 H2 => wipe σ2 vs = wipe σ vs ∧ tYes σ2 H2 fun b H3 =>
        if b = true then te σ2 H3 fun y H4 => ∃ acc, H4 D = some (.lst acc) ∧ acc.length < sizeLine ∧ Nx (upd H4 D (.lst (acc ++ [y]))) else Nx H3) := by
  refine lc_it w (fun i H' => ∃ acc, H' D = some (.lst acc) ∧ DtAll K H' acc (ds.take i) ∧ Same H H') ⟨[], upd_same, .nil, Same.new hD⟩ (fun i H' _ h => let ⟨_, _, _, s⟩ := h; hG H' s) (fun i x H1 H2 hi h y => ?_) fun H' h => ?_
  · obtain ⟨acc, a1, a2, a3⟩ := h
    have hi' : i < ds.length := by omega
    have hg := hs i x H1 H2 ds[i] (fun y H4 => ∃ acc, H4 D = some (.lst acc) ∧ acc.length < sizeLine ∧ ∃ acc', upd H4 D (.lst (acc ++ [y])) D = some (.lst acc') ∧ DtAll K (upd H4 D (.lst (acc ++ [y]))) acc' (ds.take (i + 1)) ∧ Same H (upd H4 D (.lst (acc ++ [y]))))
      hi (List.getElem?_eq_getElem hi') a3 ⟨acc, a1⟩ y fun y H5 s hy => ?_
    · exact mono _ _ _ _ _ (fun σ2 H3 q => ⟨q.1, tYes_of q.2⟩) hg
    · have b1 := s _ _ a1
      have kt : KeepT K H5 (upd H5 D (.lst (acc ++ [y]))) := KeepT.upd b1
      refine ⟨acc, b1, ?_, _, upd_same, ?_, fun b o e => ?_⟩
      · rw [a2.length, List.length_take]; omega
      · rw [List.take_succ, List.getElem?_eq_getElem hi']
        exact DtAll.app (DtAll.keepT (KeepT.trans (Same.keepT s) kt) a2) (.cons (Dt.keepT kt hy) .nil)
      · rw [upd_ne (ne_of_none e hD)]
        exact s _ _ (a3 _ _ e)
  · obtain ⟨acc, a1, a2, a3⟩ := h
    rw [← hn, List.take_length] at a2
    exact hd H' acc a3 a1 a2
theorem mono_name {i : Nat} : ∀ x (σ : L2.St) (H : Hp) (Q Q' : L2.St → Hp → Prop), (∀ σ' H', Q σ' H' → Q' σ' H') → gName i x σ H Q → gName i x σ H Q' := fun _ _ _ _ _ h q => h _ _ q
theorem mono_tup2 {K : PySem.W.Frag} {i j n : Nat} : ∀ x (σ : L2.St) (H : Hp) (Q Q' : L2.St → Hp → Prop), (∀ σ' H', Q σ' H' → Q' σ' H') → gTup K n (gCons (gName i) (gCons (gName j) gNil)) x σ H Q → gTup K n (gCons (gName i) (gCons (gName j) gNil)) x σ H Q' := by
  rintro x σ H Q Q' h ⟨a, xs, e1, e2, e3, v, r, e4, v', r', e5, e6, q⟩
  exact ⟨a, xs, e1, e2, e3, v, r, e4, v', r', e5, e6, h _ _ q⟩
end LK

set_option Elab.async false
set_option linter.all false
set_option maxRecDepth 100000
set_option maxHeartbeats 4000000
set_option exponentiation.threshold 3000
/-! More rules: text * int, two rules at one place, what == says of data. -/
namespace LK
open PySem PySem.Spec PyProof.Rows L2
theorem at_of' {α : Type} {xs : List α} {z : Int} {j : Nat} {v : α} (e : z = (j : Int)) (h : xs[j]? = some v) : atI xs z = some v := by
  rw [e]
  exact atI_nat h
/-- z repeated k times, by its codes -/
def repC (z : List Nat) (k : Int) : List Nat := (List.replicate k.toNat z).flatten
def repS (z : Str) (k : Int) : Str := ⟨(repC z.cps.toList k).toArray⟩
theorem repC_length (z : List Nat) (k : Int) : (repC z k).length = k.toNat * z.length := by simp [repC]
theorem foldl_arr (z : Array Nat) : ∀ (n : Nat) (acc : Array Nat), (List.replicate n z).foldl (· ++ ·) acc = acc ++ (List.replicate n z.toList).flatten.toArray
  | 0, acc => by simp
  | n + 1, acc => by
    rw [List.replicate_succ, List.foldl_cons, foldl_arr z n, List.replicate_succ, List.flatten_cons]
    apply Array.ext'
    simp
def rRepS : R2 := fun x y H Q => ∃ (z : Str) (k : Int), x = .str z ∧ y = .int k ∧ -1000000000000 ≤ k ∧ k < 1000000000000 ∧ z.length * k.toNat ≤ 1000000 ∧ Q (.str (repS z k)) H
theorem repS_arr (z : Str) (k : Int) : (⟨(List.replicate k.toNat z.cps).foldl (· ++ ·) #[]⟩ : Str) = repS z k := by
  rw [foldl_arr]
  simp [repS, repC]
theorem op_rep_str {X : Cx} : OpR X (binaryOp .Mult) rRepS := by
  intro pins s σ H x y v u Q I rx ry h
  obtain ⟨z, k, rfl, rfl, h1, h2, h3, q⟩ := h
  obtain ⟨t, rfl⟩ := rx
  obtain ⟨t', rfl⟩ := ry
  have szl : (1000000 : Nat) ≤ sizeLine := by decide
  have e1 : ¬ k < 1 → k = (k.toNat : Int) := fun h => by omega
  refine PySem.P.mul_str ?_ (fun hk hz => ?_) (fun hk hz => ?_) ?_
  · rw [decide_eq_false (by omega), decide_eq_false (by omega)]; rfl
  · have e0 : z.length ≠ 0 := fun e => by rw [e] at hz; simp at hz
    have hd : (9223372036854775807 : Int) / k ≥ 1000000 := by
      apply Int.le_ediv_of_mul_le (by omega)
      have hlen : k.toNat ≤ 1000000 := Nat.le_trans (Nat.le_mul_of_pos_left _ (by omega)) h3
      omega
    have hl : z.length ≤ 1000000 := Nat.le_trans (Nat.le_mul_of_pos_right _ (by omega)) h3
    show ¬ ((z.length : Int) > 9223372036854775807 / k)
    omega
  · unfold Builtin.Str.tooLong
    simp
    omega
  · split
    · rename_i hk
      have e : repS z k = Str.empty := by
        have : k.toNat = 0 := by omega
        simp [repS, repC, this]; rfl
      refine ⟨by decide, .str _, H, I.tok _, ⟨_, rfl⟩, ?_⟩
      rw [← e]; exact q
    · rename_i hk
      split
      · rename_i hz
        have e : repS z k = z := by
          rcases Bool.or_eq_true_iff.mp hz with h | h
          · have : k = 1 := by simpa using h
            subst this
            simp [repS, repC]
          · have : z.cps.toList = [] := by
              have : z.cps.size = 0 := by simpa [Str.length] using h
              exact List.eq_nil_of_length_eq_zero (by simpa using this)
            have e2 : (List.replicate k.toNat ([] : List Nat)).flatten = [] := by simp
            unfold repS repC
            rw [this, e2]
            cases z with
            | mk c =>
              have : c = #[] := Array.toList_inj.mp (by simpa using this)
              subst this; rfl
        refine ⟨.str _, H, I, ⟨t, rfl⟩, ?_⟩
        rw [← e]; exact q
      · rw [repS_arr]
        refine ⟨?_, .str _, H, I.tok _, ⟨_, rfl⟩, q⟩
        show (repC z.cps.toList k).toArray.size ≤ sizeLine
        rw [List.size_toArray, repC_length]
        have : z.cps.toList.length = z.length := by simp [Str.length]
        rw [this, Nat.mul_comm]; omega
/-! ### the objects at the beginning -/
def clsNames : List Str := ["Exception", "ArithmeticError", "ZeroDivisionError", "OverflowError", "LookupError", "IndexError", "KeyError", "NameError", "AttributeError", "TypeError", "ValueError", "StopIteration", "RuntimeError", "RecursionError", "MemoryError", "HostError"]
def clsBases : List Int := [-1, 1, 2, 2, 1, 5, 5, 1, 1, 1, 1, 1, 1, 13, 1, 1]
def builtNames : List Str := ["print", "len", "range", "repr", "str", "int", "list", "tuple", "dict", "iter", "next", "isinstance", "abs"]
def clsVar (i : Nat) (n : Str) : PyData := .tuple [.str n, .tuple [.str "ref", .int ((i : Int) + 1)]]
def nameVar (k n : Str) : PyData := .tuple [.str n, .tuple [.str k, .str n]]
def clsObj (n : Str) (b : Int) : PyData := .tuple [.str "class", .str n, .int b, .tuple []]
def clsVars : List PyData := clsNames.mapIdx clsVar
def startVars (hs : List Str) : List PyData := clsVars ++ builtNames.map (nameVar "built") ++ hs.map (nameVar "host")
def startD (hs : List Str) : List PyData := .tuple [.str "scope", .tuple (startVars hs), .tuple [], .tuple [], .int (-1), .bool false] :: List.zipWith clsObj clsNames clsBases
/-- a list at p, of the data ds -/
def ListAt (K : PySem.W.Frag) (H : Hp) (p : Addr) (ds : List PyData) : Prop := ∃ xs, H p = some (.lst xs) ∧ DtAll K H xs ds
def spStart (K : PySem.W.Frag) : Sp := fun vs H Q _ => ∃ (t : Addr) (hs : List Str), vs = [.ref t] ∧ SqT K H t (hs.map V.str) ∧ hs.length ≤ 1000 ∧
  ∀ (p : Addr) (H' : Hp), H p = none → Same H H' → ListAt K H' p (startD hs) → Q (.ref p) H'
theorem at0 {α : Type} {x : α} {ws : List α} : atI (x :: ws) 0 = some x := at_of' (j := 0) rfl rfl
theorem at1 {α : Type} {x y : α} {ws : List α} : atI (x :: y :: ws) 1 = some y := at_of' (j := 1) rfl rfl
theorem at2 {α : Type} {x y z : α} {ws : List α} : atI (x :: y :: z :: ws) 2 = some z := at_of' (j := 2) rfl rfl
/-- a written pair, triple as it is read -/
theorem Dt.head {K : PySem.W.Frag} {H : Hp} {v : V} {z : Str} {rest : List PyData} (h : Dt K H v (.tuple (.str z :: rest))) : ∃ a ws, v = .ref a ∧ SqT K H a (.str z :: ws) ∧ DtAll K H ws rest := by
  obtain ⟨q, xs, rfl, hs, ha⟩ := h.tuple_inv
  obtain ⟨x, ws, rfl, h1, hw⟩ := ha.cons_inv
  cases h1.str_inv
  exact ⟨q, ws, rfl, hs, hw⟩
theorem Dt.pair {K : PySem.W.Frag} {H : Hp} {v : V} {z : Str} {d : PyData} (h : Dt K H v (.tuple [.str z, d])) : ∃ a x, v = .ref a ∧ SqT K H a [.str z, x] ∧ Dt K H x d := by
  obtain ⟨a, ws, rfl, hs, hw⟩ := h.head
  obtain ⟨x, ws', rfl, h1, hn⟩ := hw.cons_inv
  cases hn.nil_inv
  exact ⟨a, x, rfl, hs, h1⟩
theorem Dt.triple {K : PySem.W.Frag} {H : Hp} {v : V} {z : Str} {d e : PyData} (h : Dt K H v (.tuple [.str z, d, e])) : ∃ a x y, v = .ref a ∧ SqT K H a [.str z, x, y] ∧ Dt K H x d ∧ Dt K H y e := by
  obtain ⟨a, ws, rfl, hs, hw⟩ := h.head
  obtain ⟨x, ws', rfl, h1, hn⟩ := hw.cons_inv
  obtain ⟨y, ws'', rfl, h2, hn2⟩ := hn.cons_inv
  cases hn2.nil_inv
  exact ⟨a, x, y, rfl, hs, h1, h2⟩
theorem listAt_mono {K : PySem.W.Frag} {H H' : Hp} {p : Addr} {ds : List PyData} (h : ListAt K H p ds) (e : Same H H') : ListAt K H' p ds := by
  obtain ⟨xs, hx, ax⟩ := h
  exact ⟨xs, e _ _ hx, DtAll.mono e ax⟩
theorem eqv_nil (ds : List PyData) : PyData.eqv (.tuple ds) (.tuple []) = ds.isEmpty := by
  cases ds <;> simp [PyData.eqv, PyData.eqvAll]
theorem listAt_upd {K : PySem.W.Frag} {H : Hp} {l l' : Addr} {ds : List PyData} {xs : List V} {o : HO} (h : ListAt K H l ds) (ne : l ≠ l') (hl : H l' = some (.lst xs)) : ListAt K (upd H l' o) l ds := by
  obtain ⟨ys, hy, ay⟩ := h
  exact ⟨ys, by rw [upd_ne ne]; exact hy, DtAll.keepT (KeepT.upd hl) ay⟩
theorem listAt_app {K : PySem.W.Frag} {H : Hp} {l : Addr} {ds : List PyData} {xs : List V} {v : V} {d : PyData} (h : ListAt K H l ds) (hl : H l = some (.lst xs)) (hd : Dt K H v d) : ListAt K (upd H l (.lst (xs ++ [v]))) l (ds ++ [d]) := by
  obtain ⟨ys, hy, ay⟩ := h
  rw [hl] at hy
  obtain rfl := HO.lst.inj (Option.some.inj hy)
  exact ⟨_, upd_same, DtAll.app (DtAll.keepT (KeepT.upd hl) ay) (.cons (Dt.keepT (KeepT.upd hl) hd) .nil)⟩
theorem listAt_keep {K : PySem.W.Frag} {H H' : Hp} {l p : Addr} {ds : List PyData} (h : ListAt K H l ds) (e : Keep p H H') (ne : l ≠ p) (hp : ∃ xs, H p = some (.lst xs)) : ListAt K H' l ds := by
  obtain ⟨ys, hy, ay⟩ := h
  exact ⟨ys, e _ _ hy ne, DtAll.keepT (Keep.keepT e hp) ay⟩
theorem listAt_made {K : PySem.W.Frag} {H : Hp} {l : Addr} {xs : List V} {ds : List PyData} (hl : H l = none) (h : DtAll K H xs ds) : ListAt K (upd H l (.lst xs)) l ds := ⟨xs, upd_same, DtAll.mono (Same.new hl) h⟩
/-! how long the objects at the beginning are, shown -/
def shortS (n : Str) : Bool := decide (n.length ≤ 40) && n.cps.toList.all (fun c => decide (c < 16 ^ 8))
theorem Sm.short {n : Str} (h : shortS n = true) : Sm (.str n) 0 500 := by
  obtain ⟨h1, h2⟩ := Bool.and_eq_true_iff.mp h
  exact (Sm.str (of_decide_eq_true h1) (strOk n h2)).mono (by decide) (by decide)
theorem cls_short : ∀ n ∈ clsNames, shortS n = true := by decide +kernel
theorem built_short : ∀ n ∈ builtNames, shortS n = true := by decide +kernel
theorem Sm.nm {k n : Str} (hk : shortS k = true) (hn : shortS n = true) : Sm (nameVar k n) 3 4000 :=
  (Sm.tup (.cons (Sm.short hn) (.cons (Sm.tup (.cons (Sm.short hk) (.cons (Sm.short hn) .nil))) .nil))).mono (by decide) (by decide)
theorem Sm.cv {i : Nat} {n : Str} (hi : i < 1000) (hn : shortS n = true) : Sm (clsVar i n) 3 4000 :=
  (Sm.tup (.cons (Sm.short hn) (.cons (Sm.tup (.cons (Sm.short (n := "ref") (by decide +kernel)) (.cons (Sm.int (Nat.lt_of_lt_of_le (show ((i : Int) + 1).natAbs < 2 ^ 20 by omega) (Nat.pow_le_pow_right (by decide) (by decide)))) .nil))) .nil))).mono (by decide) (by decide)
theorem Sm.co {b : Int} {n : Str} (hb : b.natAbs < 1000) (hn : shortS n = true) : Sm (clsObj n b) 3 4000 :=
  (Sm.tup (.cons (Sm.short (n := "class") (by decide +kernel)) (.cons (Sm.short hn) (.cons (Sm.int (Nat.lt_of_lt_of_le (show b.natAbs < 2 ^ 20 by omega) (Nat.pow_le_pow_right (by decide) (by decide)))) (.cons (Sm.tup .nil) .nil))))).mono (by decide) (by decide)
theorem SmAll.mem {ds : List PyData} {dp n N m M : Nat} (h : SmAll ds dp n N) (h1 : n ≤ m) (h2 : N ≤ M) : SmAll ds dp m M := ⟨h.ok, h.dp, Nat.le_trans h.len h1, Nat.le_trans h.sz h2⟩
theorem sm_vars {hs : List Str} {L : Nat} (h : ∀ n ∈ hs, shortS n = true) (hl : hs.length ≤ L) : SmAll (startVars hs) 3 (29 + L) (4000 * (29 + L)) := by
  have h1 : ∀ d ∈ startVars hs, Sm d 3 4000 := fun d hd => by
    rcases List.mem_append.mp hd with hd | hd
    · rcases List.mem_append.mp hd with hd | hd
      · obtain ⟨i, hi, rfl⟩ := List.mem_mapIdx.mp hd
        exact Sm.cv (Nat.lt_trans hi (by decide)) (cls_short _ (List.getElem_mem hi))
      · obtain ⟨n, hn, rfl⟩ := List.mem_map.mp hd
        exact Sm.nm (by decide +kernel) (built_short n hn)
    · obtain ⟨n, hn, rfl⟩ := List.mem_map.mp hd
      exact Sm.nm (by decide +kernel) (h n hn)
  have hlen : (startVars hs).length = 29 + hs.length := by
    simp only [startVars, List.length_append, List.length_map]
    have : clsVars.length = 16 := by decide
    have : builtNames.length = 13 := by decide
    omega
  exact (SmAll.many h1).mem (by omega) (by omega)
theorem sm_start {hs : List Str} {L : Nat} (h : ∀ n ∈ hs, shortS n = true) (hl : hs.length ≤ L) : ∀ d ∈ startD hs, Sm d 5 (5000 * (30 + L)) := fun d hd => by
  rcases List.mem_cons.mp hd with rfl | hd
  · exact (Sm.tup (.cons (Sm.short (n := "scope") (by decide +kernel)) (.cons (Sm.tup (sm_vars h hl)) (.cons (Sm.tup .nil) (.cons (Sm.tup .nil) (.cons (Sm.int (by decide)) (.cons (Sm.bool false) .nil))))))).mono (by decide) (by omega)
  · have : ∃ n b, d = clsObj n b ∧ n ∈ clsNames ∧ b.natAbs < 1000 := by
      have key : ∀ q ∈ List.zip clsNames clsBases, q.1 ∈ clsNames ∧ q.2.natAbs < 1000 := by decide +kernel
      rw [← List.map_uncurry_zip_eq_zipWith] at hd
      obtain ⟨q, hq, rfl⟩ := List.mem_map.mp hd
      exact ⟨q.1, q.2, rfl, key q hq⟩
    obtain ⟨n, b, rfl, hn, hb⟩ := this
    exact (Sm.co hb (cls_short n hn)).mono (by decide) (by omega)
theorem start_cls {hs : List Str} {k : Nat} (h1 : 1 ≤ k) (h2 : k ≤ 16) : ∃ rest, (startD hs)[k]? = some (.tuple (.str "class" :: rest)) := by
  obtain ⟨j, rfl⟩ : ∃ j, k = j + 1 := ⟨k - 1, by omega⟩
  have l1 : clsNames.length = 16 := by decide
  have l2 : clsBases.length = 16 := by decide
  refine ⟨[.str clsNames[j]!, .int clsBases[j]!, .tuple []], ?_⟩
  have e1 : clsNames[j]? = some clsNames[j]! := by rw [List.getElem!_eq_getElem?_getD]; rw [List.getElem?_eq_getElem (by omega)]; rfl
  have e2 : clsBases[j]? = some clsBases[j]! := by rw [List.getElem!_eq_getElem?_getD]; rw [List.getElem?_eq_getElem (by omega)]; rfl
  show (List.zipWith clsObj clsNames clsBases)[j]? = _
  rw [List.getElem?_zipWith, e1, e2]
  rfl
end LK

set_option Elab.async false
set_option linter.all false
set_option maxRecDepth 100000
set_option maxHeartbeats 4000000
set_option exponentiation.threshold 3000
/-! tuple * 1; rows: texts or tuples at one place; the type of what is read as a tuple; data equal to itself. -/
namespace LK
open PySem PySem.Spec PyProof.Rows L2
theorem tuple_mul1 (l : Addr) (items : Array Value) (n : Nat) (dd : Option Addr) (sl : Array (Option Value)) (u : Tok) :
    Meets (Builtin.«tuple.__mul__» ⟨[.ref l, .int 1 u], []⟩) (fun _ R s => s.heap.get? l = some { cls := .type "tuple", dict := dd, data := .seq items n, slots := sl } ∧ R (.ok (.ret (Value.ref l))) s) :=
  .of_wp fun prog w A R s h => by
    obtain ⟨hp, g, d, tk, os⟩ := s
    obtain ⟨hl, h⟩ := h
    have f1 := AutoSeq1.idx_int
    have c0 : (decide ((1 : Int) < -(2 ^ 63)) || decide ((1 : Int) ≥ 2 ^ 63)) = false := by decide
    have c1 : (items.isEmpty || (1 : Int) == 1) = true := by simp
    wp_walk using wpAny_loadPart' hl
    exact ⟨_, rfl, h⟩
/-- a tuple times an int from 1 to 1000 -/
def rRepTA (K : PySem.W.Frag) : R2 := fun x y H Q => ∃ l k xs, x = .ref l ∧ y = .int k ∧ SqT K H l xs ∧ xs ≠ [] ∧ 1 ≤ k ∧ k ≤ 1000 ∧ xs.length ≤ 1000 ∧ (k = 1 → Q (.ref l) H) ∧ (k ≠ 1 → ∀ p, H p = none → Q (.ref p) (upd H p (.tup (List.replicate k.toNat xs).flatten)))
section
variable {X : Cx}
theorem op_repTA : OpR X (binaryOp .Mult) (rRepTA X.K) := by
  intro pins s σ H x y v u Q I rx ry h
  obtain ⟨l, k, xs, rfl, rfl, hT, hne, h1, h2, hz, q1, q2⟩ := h
  by_cases hk : k = 1
  · subst hk
    cases rx
    obtain ⟨t, rfl⟩ := ry
    obtain ⟨its, r, ⟨⟨cls, dd, data, sl⟩, ho, hc, n, hd⟩, hs⟩ := I.tuple hT
    simp only at hc hd
    subst hc hd
    refine wpAny_binaryOp_repeat_ref (T := "tuple") (U := "int") (by decide) ⟨_, ho, rfl⟩ (fun s' => typeIs_int s' 1 t) noFill_tuple_mul F.fills_int_mul F.slot_int_rmul repeat_tuple F.slot_int_index.lookup
      (call_meets F.slot_int_rmul (typeIs_int s 1 t) F.entry_int_rmul (F.args_int_rmul_2 _ _) (int_rmul_tuple 1 t l its.toArray n dd sl)
        ⟨ho, rfl, ⟨_, ho, rfl⟩, call_meets F.slot_tuple_mul ⟨_, ho, rfl⟩ F.entry_tuple_mul (F.args_tuple_mul_2 _ _) (tuple_mul1 l its.toArray n dd sl t) ⟨ho, ?_⟩⟩)
    exact ⟨.ref l, H, I, rfl, q1 rfl⟩
  · exact op_repT pins s σ H _ _ v u Q I rx ry ⟨l, k, xs, rfl, rfl, hT, hne, by omega, h2, hz, q2 hk⟩
end
theorem SqT.tyX {K : PySem.W.Frag} {H : Hp} {a : Addr} {xs : List V} (h : SqT K H a xs) : TyX K H (.ref a) (.type "tuple") := by
  rcases h with (h | ⟨o, h⟩) | ⟨o, its, n, e, c, _⟩
  · exact .base (.tup h)
  · exact .fTuple h
  · exact .kTuple e c
/-! ### data equal to itself -/
mutual
theorem eqv_self : ∀ {d : PyData}, d.canLay0 = true → PyData.eqv d d = true
  | .none, _ => by simp [PyData.eqv]
  | .bool _, _ => by simp [PyData.eqv]
  | .int _, _ => by simp [PyData.eqv]
  | .str _, _ => by simp [PyData.eqv]
  | .list xs, h => by rw [PyData.eqv]; exact eqvAll_self (by simpa [PyData.canLay0] using h)
  | .tuple xs, h => by rw [PyData.eqv]; exact eqvAll_self (by simpa [PyData.canLay0] using h)
  | .dict _, h => absurd h (by simp [PyData.canLay0])
theorem eqvAll_self : ∀ {xs : List PyData}, PyData.canLayAll0 xs = true → PyData.eqvAll xs xs = true
  | [], _ => by simp [PyData.eqvAll]
  | x :: xs, h => by
    rw [PyData.canLayAll0, Bool.and_eq_true] at h
    rw [PyData.eqvAll, eqv_self h.1, eqvAll_self h.2]; rfl
end
theorem canLayAll0_of {ds : List PyData} (h : ∀ d ∈ ds, d.canLay0 = true) : PyData.canLayAll0 ds = true := by
  induction ds with
  | nil => rfl
  | cons d ds ih => rw [PyData.canLayAll0, h d (by simp), ih fun e he => h e (List.mem_cons_of_mem _ he)]; rfl
theorem depthAll_of {ds : List PyData} {n : Nat} (h : ∀ d ∈ ds, d.depth ≤ n) : PyData.depthAll ds ≤ n := by
  induction ds with
  | nil => exact Nat.zero_le _
  | cons d ds ih => rw [PyData.depthAll]; exact Nat.max_le.mpr ⟨h d (by simp), ih fun e he => h e (List.mem_cons_of_mem _ he)⟩
/-! ### rows: a text, or a tuple of small ints -/
def Item (d : PyData) : Prop := ∃ i : Int, d = .tuple [.str "int", .int i] ∧ 0 ≤ i ∧ i < 11
def Low (z : Str) : Prop := ∀ c ∈ z.cps.toList, c < 128
inductive Row : Bool → PyData → Nat → Prop
  | txt {z : Str} {n : Nat} : z.length = n → Low z → Row true (.str z) n
  | tup {ds : List PyData} {n : Nat} : ds.length = n → (∀ d ∈ ds, Item d) → Row false (.tuple ds) n
def catD : PyData → PyData → PyData
  | .str a, .str b => .str (a ++ b)
  | .tuple a, .tuple b => .tuple (a ++ b)
  | a, _ => a
def repD (d : PyData) (k : Int) : PyData := match d with
  | .str a => .str (repS a k)
  | .tuple a => .tuple (List.replicate k.toNat a).flatten
  | a => a
def noneD : PyData → PyData
  | .str a => .str (cutS a none (some 0))
  | .tuple _ => .tuple []
  | a => a
theorem len_app (a b : Str) : (a ++ b).length = a.length + b.length := strLen_append a b
theorem len_rep (z : Str) (k : Int) : (repS z k).length = z.length * k.toNat := by
  show (repC z.cps.toList k).toArray.size = _
  rw [List.size_toArray, repC_length, Nat.mul_comm]
  simp [Str.length]
theorem Low.app {a b : Str} (h : Low a) (g : Low b) : Low (a ++ b) := by
  intro c hc
  have e : (a ++ b).cps.toList = a.cps.toList ++ b.cps.toList := by
    show (a.cps ++ b.cps).toList = _
    simp
  rw [e] at hc
  rcases List.mem_append.mp hc with hc | hc
  · exact h c hc
  · exact g c hc
theorem Low.rep {a : Str} (h : Low a) (k : Int) : Low (repS a k) := by
  intro c hc
  have hc : c ∈ (List.replicate k.toNat a.cps.toList).flatten := by simpa [repS, repC] using hc
  obtain ⟨l, hl, hcl⟩ := List.mem_flatten.mp hc
  exact h c (List.eq_of_mem_replicate hl ▸ hcl)
theorem Low.cut {a : Str} (h : Low a) (lo hi : Option Int) : Low (cutS a lo hi) := by
  intro c hc
  have hc : c ∈ (a.cps.toList.drop (HT.sIx a.length 0 lo)).take (HT.sIx a.length a.length hi - HT.sIx a.length 0 lo) := hc
  exact h c (List.mem_of_mem_drop (List.mem_of_mem_take hc))
theorem cut_to (a : Str) (m : Nat) : (cutS a none (some (m : Int))).length ≤ m := by
  show ((a.cps.toList.drop (HT.sIx a.length 0 none)).take (HT.sIx a.length a.length (some (m : Int)) - HT.sIx a.length 0 none)).toArray.size ≤ m
  rw [List.size_toArray, List.length_take, HT.sIx_nat]
  omega
theorem Row.cat {t : Bool} {a b : PyData} {n m : Nat} (h : Row t a n) (g : Row t b m) : Row t (catD a b) (n + m) := by
  cases h with
  | txt e l =>
    cases g with
    | txt e2 l2 => exact .txt (by rw [len_app, e, e2]) (l.app l2)
  | tup e l =>
    cases g with
    | tup e2 l2 => exact .tup (by rw [List.length_append, e, e2]) fun d hd => (List.mem_append.mp hd).elim (l d) (l2 d)
theorem Row.rep {t : Bool} {a : PyData} {n : Nat} (h : Row t a n) (k : Int) : Row t (repD a k) (n * k.toNat) := by
  cases h with
  | txt e l => exact .txt (by rw [len_rep, e]) (l.rep k)
  | tup e l =>
    refine .tup (by rw [PyProof.Rows.lm_len_rep_flat, e, Nat.mul_comm]) fun d hd => ?_
    obtain ⟨x, hx, hdx⟩ := List.mem_flatten.mp hd
    exact l d (List.eq_of_mem_replicate hx ▸ hdx)
theorem Row.none {t : Bool} {a : PyData} {n : Nat} (h : Row t a n) : Row t (noneD a) 0 := by
  cases h with
  | @txt z _ e l => exact .txt (Nat.le_zero.mp (cut_to z 0)) (l.cut _ _)
  | tup e l => exact .tup rfl fun d hd => by cases hd
theorem Item.sm {d : PyData} (h : Item d) : Sm d 1 3000 := by
  obtain ⟨i, rfl, h0, h1⟩ := h
  exact (Sm.tup (.cons (Sm.short (n := "int") (by decide +kernel)) (.cons (Sm.int (Nat.lt_of_lt_of_le (show i.natAbs < 2 ^ 20 by omega) (Nat.pow_le_pow_right (by decide) (by decide)))) .nil))).mono (by decide) (by decide)
theorem Row.sm {t : Bool} {d : PyData} {n : Nat} (h : Row t d n) (hn : n ≤ 1000) : Sm d 2 3100000 := by
  cases h with
  | txt e l => exact (Sm.str (n := 1000) (by omega) fun c hc => Nat.lt_of_lt_of_le (l c hc) (by decide)).mono (by decide) (by decide)
  | tup e l => exact (Sm.tup ((SmAll.many fun d hd => (l d hd).sm).mem (m := 1000) (M := 3000000) (by omega) (by omega))).mono (by decide) (by decide)
theorem Row.lay {t : Bool} {d : PyData} {n : Nat} (h : Row t d n) : d.canLay0 = true := by
  cases h with
  | @txt z _ e l =>
    rw [PyData.canLay0]
    exact Array.all_eq_true_iff_forall_mem.mpr fun c hc => by
      have := l c (Array.mem_toList_iff.mpr hc)
      exact decide_eq_true (by omega)
  | tup e l =>
    rw [PyData.canLay0]
    exact canLayAll0_of fun d hd => by obtain ⟨i, rfl, _⟩ := l d hd; simp only [PyData.canLay0, PyData.canLayAll0, Bool.and_true]; decide +kernel
section
variable {X : Cx}
/-- a + b, two rows -/
def rCatD (K : PySem.W.Frag) : R2 := fun x y H Q => ∃ (t : Bool) (a b : PyData) (n m : Nat), Row t a n ∧ Row t b m ∧ Dt K H x a ∧ Dt K H y b ∧ n + m ≤ 2000 ∧ ∀ v H', Same H H' → Dt K H' v (catD a b) → Q v H'
theorem op_catD : OpR X (binaryOp .Add) (rCatD X.K) := by
  intro pins s σ H x y v u Q I rx ry h
  obtain ⟨t, a, b, n, m, ha, hb, da, db, hz, q⟩ := h
  cases ha with
  | txt e l =>
    cases hb with
    | txt e2 l2 =>
      cases da.str_inv; cases db.str_inv
      exact op_add_str pins s σ H _ _ v u Q I rx ry ⟨_, _, rfl, rfl, by rw [e, e2]; exact Nat.le_trans hz (by decide), q _ _ (Same.refl _) (.str _)⟩
  | @tup ds _ e l =>
    cases hb with
    | @tup es _ e2 l2 =>
      obtain ⟨p, xs, rfl, hs, ax⟩ := da.tuple_inv
      obtain ⟨p2, ys, rfl, hs2, ay⟩ := db.tuple_inv
      have lx := ax.length
      have ly := ay.length
      refine op_catA pins s σ H _ _ v u Q I rx ry ⟨p, p2, xs, ys, rfl, rfl, hs, hs2, by rw [lx, ly, e, e2]; exact Nat.le_trans hz (by decide), fun h0 => ?_, fun _ h0 => ?_, fun _ _ z hz => ?_⟩
      · subst h0
        have : ds = [] := List.eq_nil_of_length_eq_zero (by rw [← lx]; rfl)
        subst this
        exact q _ _ (Same.refl _) db
      · subst h0
        have : es = [] := List.eq_nil_of_length_eq_zero (by rw [← ly]; rfl)
        subst this
        refine q _ _ (Same.refl _) ?_
        show Dt X.K H (.ref p) (.tuple (ds ++ []))
        rw [List.append_nil]; exact da
      · exact q _ _ (Same.new hz) (Dt.made hz (DtAll.app ax ay))
/-- a * k, a row and an int -/
def rRepD (K : PySem.W.Frag) : R2 := fun x y H Q => ∃ (t : Bool) (a : PyData) (n : Nat) (k : Int), Row t a n ∧ Dt K H x a ∧ y = .int k ∧ 1 ≤ n ∧ 1 ≤ k ∧ n * k ≤ 1000 ∧ ∀ v H', Same H H' → Dt K H' v (repD a k) → Q v H'
theorem dtRep {K : PySem.W.Frag} {H : Hp} {xs : List V} {ds : List PyData} (h : DtAll K H xs ds) : ∀ m : Nat, DtAll K H (List.replicate m xs).flatten (List.replicate m ds).flatten
  | 0 => .nil
  | m + 1 => by
    rw [List.replicate_succ, List.flatten_cons, List.replicate_succ, List.flatten_cons]
    exact DtAll.app h (dtRep h m)
theorem op_repD : OpR X (binaryOp .Mult) (rRepD X.K) := by
  intro pins s σ H x y v u Q I rx ry h
  obtain ⟨t, a, n, k, ha, da, rfl, hn, hk, hz, q⟩ := h
  have k1 : k ≤ 1000 := by
    have : 1 * k ≤ n * k := Int.mul_le_mul_of_nonneg_right (by omega) (by omega)
    omega
  have n1 : n ≤ 1000 := by
    have : (n : Int) * 1 ≤ n * k := Int.mul_le_mul_of_nonneg_left hk (by omega)
    omega
  cases ha with
  | txt e l =>
    cases da.str_inv
    refine op_rep_str pins s σ H _ _ v u Q I rx ry ⟨_, k, rfl, rfl, by omega, by omega, ?_, q _ _ (Same.refl _) (.str _)⟩
    rw [e]
    exact Nat.le_trans (Nat.mul_le_mul n1 (show k.toNat ≤ 1000 by omega)) (by decide)
  | @tup ds _ e l =>
    obtain ⟨p, xs, rfl, hs, ax⟩ := da.tuple_inv
    have lx := ax.length
    refine op_repTA pins s σ H _ _ v u Q I rx ry ⟨p, k, xs, rfl, rfl, hs, fun z => ?_, hk, k1, by omega, fun h1 => ?_, fun h1 z hz => ?_⟩
    · subst z
      rw [List.length_nil] at lx
      omega
    · subst h1
      refine q _ _ (Same.refl _) ?_
      show Dt X.K H (.ref p) (.tuple (List.replicate 1 ds).flatten)
      rw [show (List.replicate 1 ds).flatten = ds by simp]
      exact da
    · exact q _ _ (Same.new hz) (Dt.made hz (dtRep ax _))
/-- a[:0], a row -/
def rNoneD (K : PySem.W.Frag) : V → Option Int → Option Int → Hp → VK → Prop := fun x lo hi H Q => ∃ (t : Bool) (a : PyData) (n : Nat), Row t a n ∧ Dt K H x a ∧ n ≤ 2000 ∧ lo = none ∧ hi = some 0 ∧ ∀ v H', Same H H' → Dt K H' v (noneD a) → Q v H'
theorem sl_noneD : SlR X (rNoneD X.K) := by
  intro pins s σ H x v vl vu lo hi sl Q I rx hs pl pu h
  obtain ⟨t, a, n, ha, da, hn, rfl, rfl, q⟩ := h
  cases ha with
  | txt e l =>
    cases da.str_inv
    exact sl_str pins s σ H _ v vl vu _ _ sl Q I rx hs pl pu ⟨_, rfl, by rw [e]; exact Nat.le_trans hn (by decide), q _ _ (Same.refl _) (.str _)⟩
  | @tup ds _ e l =>
    obtain ⟨p, xs, rfl, hq, ax⟩ := da.tuple_inv
    have lx := ax.length
    refine sl_tupA pins s σ H _ v vl vu _ _ sl Q I rx hs pl pu ⟨p, xs, rfl, hq, fun hw => ?_, fun _ z hz => ?_⟩
    · have h0 : ds.length = 0 := by
        have := hw.2
        rw [show (some (0 : Int)) = some ((0 : Nat) : Int) from rfl, HT.sIx_nat] at this
        omega
      have := List.eq_nil_of_length_eq_zero h0
      subst this
      exact q _ _ (Same.refl _) da
    · refine q _ _ (Same.new hz) (Dt.made hz ?_)
      have : cutV xs none (some 0) = [] := by
        apply List.eq_nil_of_length_eq_zero
        unfold cutV
        rw [List.length_take, show (some (0 : Int)) = some ((0 : Nat) : Int) from rfl, HT.sIx_nat]
        omega
      rw [this]
      exact .nil
/-- len(a), a row -/
def rLenD (K : PySem.W.Frag) : List V → Hp → VK → Prop := fun vs H Q => ∃ (v : V) (t : Bool) (a : PyData) (n : Nat), vs = [v] ∧ Row t a n ∧ Dt K H v a ∧ n ≤ 2000 ∧ Q (.int (n : Int)) H
theorem call_lenD' : CallR X (.builtin "len") (rLenD X.K) := by
  intro pins s σ H xs us Q I r h
  obtain ⟨v, t, a, n, rfl, ha, da, hn, q⟩ := h
  cases ha with
  | txt e l =>
    cases da.str_inv
    exact call_len pins s σ H _ us Q I r ⟨_, n, rfl, ⟨by rw [e]; exact Nat.le_trans hn (by decide), e.symm⟩, q⟩
  | @tup ds _ e l =>
    obtain ⟨p, ys, rfl, hq, ax⟩ := da.tuple_inv
    exact call_len pins s σ H _ us Q I r ⟨_, n, rfl, .inr ⟨_, hq, by rw [ax.length, e]⟩, q⟩
end
end LK

set_option Elab.async false
set_option linter.all false
set_option maxRecDepth 100000
set_option maxHeartbeats 4000000
set_option exponentiation.threshold 3000
/-! Letters, digits, underscores; texts of the top. -/
namespace LK
open PySem PySem.Spec PyProof.Rows L2 SX
def isD (c : Nat) : Bool := decide (48 ≤ c) && decide (c ≤ 57)
def isL (c : Nat) : Bool := (decide (65 ≤ c) && decide (c ≤ 90)) || (decide (97 ≤ c) && decide (c ≤ 122)) || c == 95
def isW (c : Nat) : Bool := isD c || isL c
theorem isW_lt {c : Nat} (h : isW c = true) : c < 128 := by
  simp [isW, isD, isL] at h; omega
theorem uni_alpha : ∀ c < 128, Unicode.isAlpha c = (isL c && c != 95) := by decide +kernel
theorem uni_digit : ∀ c < 128, Unicode.isDigit c = isD c := by decide +kernel
theorem uni_alnum : ∀ c < 128, Unicode.isAlnum c = (isW c && c != 95) := by decide +kernel
theorem alpha1 {c : Nat} (h : c < 128) : Txt.isalpha (S [c]) = (isL c && c != 95) := by
  show (decide ((S [c]).length > 0) && (S [c]).cps.all Unicode.isAlpha) = _
  rw [S_len]; simp [S, uni_alpha c h]
theorem digit1 {c : Nat} (h : c < 128) : Txt.isdigit (S [c]) = isD c := by
  show (decide ((S [c]).length > 0) && (S [c]).cps.all Unicode.isDigit) = _
  rw [S_len]; simp [S, uni_digit c h]
theorem alnum1 {c : Nat} (h : c < 128) : Txt.isalnum (S [c]) = (isW c && c != 95) := by
  show (decide ((S [c]).length > 0) && (S [c]).cps.all Unicode.isAlnum) = _
  rw [S_len]; simp [S, uni_alnum c h]
theorem digitS {a : List Nat} (h : ∀ c ∈ a, c < 128) (hne : a ≠ []) : Txt.isdigit (S a) = a.all isD := by
  show (decide ((S a).length > 0) && (S a).cps.all Unicode.isDigit) = _
  have : 0 < a.length := List.length_pos_iff.mpr hne
  rw [S_len, decide_eq_true this, Bool.true_and]
  show a.toArray.all Unicode.isDigit = _
  rw [List.all_toArray]
  apply Bool.eq_iff_iff.mpr
  rw [List.all_eq_true, List.all_eq_true]
  exact ⟨fun g c hc => uni_digit c (h c hc) ▸ g c hc, fun g c hc => (uni_digit c (h c hc)).symm ▸ g c hc⟩
/-! texts of the top -/
def GStr (mg : Str → Option Value) (x : Str) (z : Str) : Prop := ∃ t, mg x = some (.str z t)
def HasStr (K : PySem.W.Frag) (x : Str) (p : Str → Prop) : Prop := ∃ (z : Str) (t : Tok), PySem.W.nsIn K mainGlobals x = some (some (.str z t)) ∧ p z
theorem HasStr.mk' {K : PySem.W.Frag} {x : Str} {p : Str → Prop} {z : Str} {t : Tok} (a : PySem.W.nsIn K mainGlobals x = some (some (.str z t))) (b : p z) : HasStr K x p := ⟨z, t, a, b⟩
theorem HasStr.g {K : PySem.W.Frag} {mg : Str → Option Value} {h : Heap} {x : Str} {p : Str → Prop} (i : HasStr K x p) (X : K.In h) (G : h.Ns mainGlobals mg) : ∃ z, GStr mg x z ∧ p z := by
  obtain ⟨z, t, e, hp⟩ := i
  exact ⟨z, ⟨t, PySem.W.mg_of X G e⟩, hp⟩
theorem pe_globS {X : Cx} {x z : Str} {pos : Pos} (h : GStr X.mg x z) (hg : Gl X x) (hd : (x == ("__debug__" : Str)) = false := by decide) : PE X (.Name x pos) (tC (.str z)) := by
  obtain ⟨t, e⟩ := h
  exact pe_glob hg e ⟨t, rfl⟩ hd
theorem split1 {a : List Nat} {c : Nat} (h : c ∉ a) (hc : c < 256) : Txt.split (S a) (S [c]) = [S a] := by
  rw [split_S (by simp) (by simpa using hc)]
  have := SX.spl_join (c := c) (sep := []) (parts := [a]) (by simp) (by simpa using h)
  have e : TL.joinL [c] [a] = a := by simp [TL.joinL]
  rw [e] at this
  rw [this]; rfl
theorem lstrip1 {a : List Nat} {b : List Nat} (h : ∀ c, a.head? = some c → c ∉ b) : Txt.lstripChars (S a) (S b) = S a := by
  have e1 : (S a).cps.toList.takeWhile (S b).cps.contains = [] := tw0 a fun c hc => by
    have := h c hc
    show b.toArray.contains c = false
    rw [List.contains_toArray]
    simpa using this
  have e0 : stripLo (S b).cps.contains true (S a) = 0 := by
    unfold stripLo
    rw [if_pos rfl, e1] <;> rfl
  have e3 : stripHi (S b).cps.contains false (S a) 0 = (S a).length := by
    unfold stripHi
    rw [if_neg Bool.false_ne_true]
  unfold Txt.lstripChars Txt.stripBy stripSame
  rw [e0, e3]
  exact if_pos (by simp)
/-! while, its test's reading made monotone -/
def tUp (c : TT) : TT := fun σ H Q => ∃ P : Bool → Hp → Prop, c σ H P ∧ ∀ b H1, P b H1 → Q b H1
theorem pt_up {X : Cx} {e : Expr} {c : TT} (h : PT X e c) : PT X e (tUp c) :=
  ⟨fun pins s σ H Q I ⟨P, hP, k⟩ => thn (h.run pins s σ H P I hP) fun b s1 ⟨H1, I1, q⟩ => ⟨H1, I1, k _ _ q⟩⟩
theorem while_up {c : TT} {tb : TS} {D : Ends} {σ : L2.St} {H : Hp} (Pv : L2.St → Hp → Prop) (μ : L2.St → Hp → Nat) (h0 : Pv σ H)
    (hs : ∀ σ H, Pv σ H → c σ H fun b H1 => if b = true then tb { D with nx := fun σ' H' => Pv σ' H' ∧ μ σ' H' < μ σ H, ct := fun σ' H' => Pv σ' H' ∧ μ σ' H' < μ σ H, bk := D.nx } σ H1 else D.nx σ H1) : tWhile (tUp c) tb D σ H :=
  while_by Pv μ h0 (fun σ H p => ⟨_, hs σ H p, fun _ _ h => h⟩) (fun σ H Q Q' hq ⟨P, hP, k⟩ => ⟨P, hP, fun b H1 h => hq b H1 (k b H1 h)⟩)
theorem nl_S : ("\n" : Str) = S [10] := by decide +kernel
theorem us_S : ("_" : Str) = S [95] := by decide +kernel
theorem sp_S : (" " : Str) = S [32] := by decide +kernel
theorem hash_S : ("#" : Str) = S [35] := by decide +kernel
theorem sign_eq {c d : Nat} : decide (V.str ⟨#[c]⟩ = V.str (S [d])) = decide (c = d) := by
  by_cases h : c = d
  · subst h; rw [decide_eq_true rfl, decide_eq_true rfl]
  · rw [decide_eq_false h, decide_eq_false]
    intro e
    have := S_inj (a := [c]) (b := [d]) (V.str.inj e)
    exact h (by simpa using this)
theorem str_eq {a b : List Nat} : decide (V.str (S a) = V.str (S b)) = decide (a = b) := by
  by_cases h : a = b
  · subst h; rw [decide_eq_true rfl, decide_eq_true rfl]
  · rw [decide_eq_false h, decide_eq_false]
    intro e
    exact h (S_inj (V.str.inj e))
theorem starts1 {c d : Nat} {r : List Nat} : Txt.startswith (S (c :: r)) (S [d]) = decide (c = d) := by
  show (decide (0 + (S [d]).length ≤ (S (c :: r)).length) && ((c :: r).toArray.extract 0 (0 + (S [d]).length) == [d].toArray)) = _
  rw [S_len, S_len]
  have e : (c :: r).toArray.extract 0 (0 + [d].length) = #[c] := by simp
  rw [e]
  by_cases h : c = d
  · subst h; simp
  · simp [h]
theorem at_S {a : List Nat} {j c : Nat} (h : a[j]? = some c) : atI (S a).cps.toList (j : Int) = some c := atI_nat h
theorem cut_all {a : List Nat} : cutS (S a) (some 0) (some ((a.length : Nat) : Int)) = S a := by
  unfold cutS
  rw [S_len, show (some (0 : Int)) = some ((0 : Nat) : Int) from rfl, HT.sIx_nat, HT.sIx_nat]
  show (⟨((a.drop (min 0 a.length)).take (min a.length a.length - min 0 a.length)).toArray⟩ : Str) = ⟨a.toArray⟩
  rw [Nat.zero_min, List.drop_zero, Nat.min_self, Nat.sub_zero, List.take_length]
/-! a promise at a higher level -/
theorem FnG.mono {P : Program} {w : World} {K : PySem.W.Frag} {mg : Str → Option Value} {base : Heap} {CX : CXT} {j k : Nat} {f : Addr} {fd : FuncData} {ps : List Str} {sp : Sp} (F : FnG P w K mg base CX j f fd ps sp) (h : j ≤ k) : FnG P w K mg base CX k f fd ps sp :=
  ⟨F.len, fun A outer s H args us vs Q E hr => F.run A outer s H args us vs Q E (hr.mono h)⟩
theorem Use.mono {P : Program} {w : World} {K : PySem.W.Frag} {mg : Str → Option Value} {base : Heap} {CX : CXT} {x : Str} {j k : Nat} {ps : List Str} {sp : Sp} (U : Use P w K mg base CX x j ps sp) (h : j ≤ k) : Use P w K mg base CX x k ps sp := by
  obtain ⟨f, fd, ok, r⟩ := U.ex
  exact ⟨f, fd, ok.mono h, r⟩
/-! the signs that a program may hold -/
def okC (c : Nat) : Bool := c == 10 || (decide (32 ≤ c) && decide (c ≤ 126) && c != 37)
theorem okC_lt {c : Nat} (h : okC c = true) : c < 128 := by
  simp [okC] at h; omega
theorem lstrip_sp (a : List Nat) : Txt.lstripChars (S a) (S [32]) = S (a.dropWhile (· == 32)) := by
  have e1 : (S a).cps.toList.takeWhile (S [32]).cps.contains = a.takeWhile (· == 32) := by
    show a.takeWhile _ = _
    congr 1
    funext c
    show #[32].contains c = _
    simp [Array.contains, BEq.comm]
  have el : (a.takeWhile (· == 32)).length ≤ a.length := (List.takeWhile_prefix _).length_le
  have ed : a.drop (a.takeWhile (· == 32)).length = a.dropWhile (· == 32) := by
    have h := List.takeWhile_append_dropWhile (p := (· == 32)) (l := a)
    have : (a.takeWhile (· == 32) ++ a.dropWhile (· == 32)).drop (a.takeWhile (· == 32)).length = a.dropWhile (· == 32) := List.drop_left
    rwa [h] at this
  have e0 : stripLo (S [32]).cps.contains true (S a) = (a.takeWhile (· == 32)).length := by
    unfold stripLo
    rw [if_pos rfl, e1] <;> rfl
  have e3 : stripHi (S [32]).cps.contains false (S a) (a.takeWhile (· == 32)).length = (S a).length := by
    unfold stripHi
    rw [if_neg Bool.false_ne_true]
  unfold Txt.lstripChars Txt.stripBy stripSame stripped
  rw [e0, e3]
  split
  · rename_i h
    simp at h
    have : (a.takeWhile (· == 32)).length = 0 := by simpa using h
    rw [this, List.drop_zero] at ed
    rw [← ed]
  · show (⟨a.toArray.extract (a.takeWhile (· == 32)).length (S a).length⟩ : Str) = _
    rw [S_len, ← ed]
    congr 1
    apply Array.toList_inj.mp
    simp only [Array.toList_extract, List.extract_eq_drop_take]
    exact List.take_of_length_le (by rw [List.length_drop]; omega)
/-- z[i:j] by codes -/
theorem cut_S {a : List Nat} {i j : Nat} (hi : i ≤ a.length) (hj : j ≤ a.length) : cutS (S a) (some ((i : Nat) : Int)) (some ((j : Nat) : Int)) = S ((a.drop i).take (j - i)) := by
  unfold cutS
  rw [S_len, HT.sIx_nat, HT.sIx_nat, Nat.min_eq_left hi, Nat.min_eq_left hj]
/-- a line: so many spaces, and perhaps a word -/
def lnT (s : Nat) (w : List Nat) : List Nat := List.replicate s 32 ++ w
theorem lnT_len (s : Nat) (w : List Nat) : (lnT s w).length = s + w.length := by simp [lnT]
theorem lnT_sp {s : Nat} {w : List Nat} {i : Nat} (h : i < s) : (lnT s w)[i]? = some 32 := by
  unfold lnT
  rw [List.getElem?_append_left (by simpa using h), List.getElem?_replicate, if_pos h]
theorem lnT_w {s : Nat} {w : List Nat} {i : Nat} : (lnT s w)[s + i]? = w[i]? := by
  unfold lnT
  rw [List.getElem?_append_right (by simp), List.length_replicate, Nat.add_sub_cancel_left]
theorem lnT_drop (s : Nat) (w : List Nat) : (lnT s w).drop s = w := by
  unfold lnT
  rw [List.drop_append_of_le_length (by simp)]
  simp
end LK

set_option Elab.async false
set_option linter.all false
set_option maxRecDepth 100000
set_option maxHeartbeats 4000000
set_option exponentiation.threshold 3000
/-! What several laws share: boxes and lists beside changes of other objects. -/
namespace LK
open PySem PySem.Spec PyProof.Rows L2
section
variable {K : PySem.W.Frag}
theorem BoxAt.ne_new {H : Hp} {p dl b : Addr} (B : BoxAt H p dl) (h : H b = none) : b ≠ p ∧ b ≠ dl := by
  obtain ⟨xs, g⟩ := B.at_
  obtain ⟨ys, g2⟩ := B.dg
  exact ⟨fun e => (by subst e; rw [h] at g; cases g), fun e => (by subst e; rw [h] at g2; cases g2)⟩
theorem BoxAt.kp {H H' : Hp} {p dl : Addr} (B : BoxAt H p dl) (h : ∀ b o, b = p ∨ b = dl → H b = some o → H' b = some o) : BoxAt H' p dl := by
  obtain ⟨ds, k, a, b, c, d⟩ := B
  exact ⟨ds, k, h _ _ (.inl rfl) a, b, h _ _ (.inr rfl) c, d⟩
theorem BoxAt.keep' {H H' : Hp} {p dl l : Addr} (B : BoxAt H p dl) (k : Keep l H H') (h1 : l ≠ p) (h2 : l ≠ dl) : BoxAt H' p dl :=
  B.kp fun b o hb e => k b o e (by
    rcases hb with rfl | rfl
    · exact Ne.symm h1
    · exact Ne.symm h2)
theorem BoxAt.keep2 {H H' : Hp} {p dl l m : Addr} (B : BoxAt H p dl) (k : ∀ b o, H b = some o → b ≠ l → b ≠ m → H' b = some o) (h1 : l ≠ p) (h2 : l ≠ dl) (h3 : m ≠ p) (h4 : m ≠ dl) : BoxAt H' p dl :=
  B.kp fun b o hb e => by
    rcases hb with rfl | rfl
    · exact k _ _ e (Ne.symm h1) (Ne.symm h3)
    · exact k _ _ e (Ne.symm h2) (Ne.symm h4)
theorem KeepT.ins {p C dx : Addr} {H : Hp} {o : HO} {fs : List (Str × V)} (hp : H p = some (.ins C dx fs)) : KeepT K H (L2.upd H p o) := fun a xs h => by
  rcases h with (h | ⟨o', h⟩) | h
  · exact .inl (.inl (by rw [upd_ne (ne_of h hp (by intro z; cases z))]; exact h))
  · exact .inl (.inr ⟨o', by rw [upd_ne (ne_of h hp (by intro z; cases z))]; exact h⟩)
  · exact .inr h
theorem listAt_ins {p C dx l : Addr} {H : Hp} {o : HO} {fs : List (Str × V)} {ds : List PyData} (h : ListAt K H l ds) (hp : H p = some (.ins C dx fs)) : ListAt K (upd H p o) l ds := by
  obtain ⟨xs, e, a⟩ := h
  exact ⟨xs, by rw [upd_ne (ne_of e hp (by intro z; cases z))]; exact e, DtAll.keepT (KeepT.ins hp) a⟩
theorem Low.zero : Low "" := fun c hc => by
  have e : ("" : Str).cps.toList = [] := by decide +kernel
  rw [e] at hc; cases hc
theorem DtAll.take {H : Hp} : ∀ (n : Nat) {vs : List V} {ds : List PyData}, DtAll K H vs ds → DtAll K H (vs.take n) (ds.take n)
  | 0, _, _, _ => .nil
  | _ + 1, _, _, .nil => .nil
  | n + 1, _, _, .cons h a => .cons h (DtAll.take n a)
theorem len_start0 : (startD []).length = 17 := by decide
theorem sm_start0 : ∀ d ∈ startD [], Sm d 5 150000 := fun d hd => sm_start (hs := []) (L := 0) (by simp) (by simp) d hd
theorem sm_heap {ds : List PyData} (h : ds.length ≤ 30) (sm : ∀ d ∈ ds, Sm d 5 150000) : ShowOk (.list ds) := (Sm.lst ((SmAll.many sm).mem (m := 30) (M := 4500000) h (by omega))).show (by decide) (by decide)
theorem ListAt.dp {H : Hp} {l : Addr} {ds : List PyData} (h : ListAt K H l ds) : Dp K H (.ref l) (.list ds) := let ⟨_, e, a⟩ := h; .lst (SqL.of e) a.dp
end
theorem FnG.or {P : Program} {w : World} {K : PySem.W.Frag} {mg : Str → Option Value} {base : Heap} {CX : CXT} {k : Nat} {f : Addr} {fd : FuncData} {ps : List Str} {sp sp' : Sp} (A : FnG P w K mg base CX k f fd ps sp) (B : FnG P w K mg base CX k f fd ps sp') :
    FnG P w K mg base CX k f fd ps (fun vs H Q E => sp vs H Q E ∨ sp' vs H Q E) where
  len := fun vs H Q E h => h.elim (A.len vs H Q E) (B.len vs H Q E)
  run := fun A' outer s H args us vs Q E hr hg he hb hv h => h.elim (A.run A' outer s H args us vs Q E hr hg he hb hv) (B.run A' outer s H args us vs Q E hr hg he hb hv)
/-- start_heap of a list of names -/
def spStartL (K : PySem.W.Frag) : Sp := fun vs H Q _ => ∃ (t : Addr) (hs : List Str), vs = [.ref t] ∧ SqL K H t (hs.map V.str) ∧ hs.length ≤ 1000 ∧
  ∀ (p : Addr) (H' : Hp), H p = none → Same H H' → ListAt K H' p (startD hs) → Q (.ref p) H'
def spStart2 (K : PySem.W.Frag) : Sp := fun vs H Q E => spStart K vs H Q E ∨ spStartL K vs H Q E
theorem ip_fdiv {X : Cx} : PIp X .FloorDiv (rI CDiv fun i j => .int (i / j)) := fun pins s σ H x y v u Q I r1 r2 h => iop_fdiv pins s σ H x y v u Q I r1 r2 h
theorem none_back0 {p np : Addr} {H H' : Hp} (K1 : Keep p H H') (B : ∃ xs, H' p = some (.lst xs)) (h : H' np = none) : H np = none := by
  cases e : H np with
  | none => rfl
  | some o =>
    by_cases ep : np = p
    · subst ep
      obtain ⟨xs, g⟩ := B
      rw [g] at h; cases h
    · rw [K1 _ _ e ep] at h; cases h
end LK

set_option Elab.async false
set_option linter.all false
set_option maxRecDepth 100000
set_option maxHeartbeats 4000000
/-! dicts of the top: what a literal dict of the program gives, read where it stands. -/
namespace LK
open PySem PySem.Spec PyProof.Rows L2
/-- at a lies a dict of the top with these entries -/
def KDct (P : Program) (w : World) (K : PySem.W.Frag) (a : Addr) (kvs : List (Key × V)) : Prop := (a == sysModules) = false ∧ ∃ vs, KV kvs vs ∧ ∀ h : Heap, K.In h → h.DictOf (mixKind P w) a vs
def tDGetK (P : Program) (w : World) (K : PySem.W.Frag) (td ty : TE) : TE := fun σ H Q => td σ H fun x H1 => ty σ H1 fun y H2 => ∃ a kvs k v, x = .ref a ∧ KDct P w K a kvs ∧ y = kV k ∧ valV kvs k = some v ∧ Q v H2
def tDInK (P : Program) (w : World) (K : PySem.W.Frag) (ty td : TE) : TE := fun σ H Q => ty σ H fun y H1 => td σ H1 fun x H2 => ∃ a kvs k, x = .ref a ∧ KDct P w K a kvs ∧ y = kV k ∧ Q (.bl (valV kvs k).isSome) H2
section
variable {X : Cx} {o i : Expr} {pos : Pos} {td ty : TE}
theorem pe_dgetK (ho : PE X o td) (hi : PE X i ty) (hs : NoSl i) : PE X (.Subscript o i pos) (tDGetK X.prog X.w X.K td ty) := by
  refine ⟨fun pins s σ H Q I h => ?_⟩
  refine subD_of PySem.F.slot_dict_getitem.lookup hs (thn (ho.run pins s σ H _ I h) fun u s1 ⟨x, H1, I1, rx, q1⟩ => thn (hi.run pins s1 σ H1 _ I1 q1) fun iv s2 ⟨y, H2, I2, ry, a, kvs, k, v, ex, ⟨hsys, vs, rel, dd⟩, ey, l, q2⟩ => ?_)
  subst ex ey
  obtain rfl : u = Value.ref a := rx
  have dd := dd _ I2.kIn
  refine ⟨dd.typeIs, ?_⟩
  obtain ⟨w', hw, rw'⟩ := RelO.some_of (v := v) (o := valueAt vs k) (by rw [← l]; exact rel.val k)
  exact wpAny_getItem_of (kV_is ry) dd.mapOf hw ⟨v, H2, I2.tok _, rw', q2⟩
theorem pc_dinK (hi : PE X i ty) (ho : PE X o td) : PC X .In i o (tDInK X.prog X.w X.K ty td) := by
  refine ⟨fun pins s σ H Q I h => ?_⟩
  refine thn (hi.run pins s σ H _ I h) fun iv s1 ⟨y, H1, I1, ry, q1⟩ => thn (ho.run pins s1 σ H1 _ I1 q1) fun u s2 ⟨x, H2, I2, rx, a, kvs, k, ex, ⟨hsys, vs, rel, dd⟩, ey, q2⟩ => ?_
  subst ex ey
  obtain rfl : u = Value.ref a := rx
  have dd := dd _ I2.kIn
  refine wpAny_in_of (kV_is ry) hsys dd.mapOf ?_
  rw [← (rel.val k).isSome_eq]
  exact ⟨.bl _, H2, I2.tok _, rfl, q2⟩
end
/-! its fact from the top -/
def HasDct (P : Program) (w : World) (K : PySem.W.Frag) (x : Str) (kvs : List (Key × V)) : Prop := ∃ a, PySem.W.nsIn K mainGlobals x = some (some (.ref a)) ∧ KDct P w K a kvs
structure UseD (P : Program) (w : World) (K : PySem.W.Frag) (mg : Str → Option Value) (x : Str) (kvs : List (Key × V)) : Prop where
  ex : ∃ a, mg x = some (.ref a) ∧ KDct P w K a kvs
/-- entries whose keys and values are texts -/
inductive DEnt (w : World) : List DictEntry → List (Str × Str) → Prop
  | nil : DEnt w [] []
  | cons {e : DictEntry} {es : List DictEntry} {k v : Str} {ps : List (Str × Str)} {t t' : Tok} : e.key = .str k t → e.hash = hashStr w k → e.val = .str v t' → DEnt w es ps → DEnt w (e :: es) ((k, v) :: ps)
def txtKV (ps : List (Str × Str)) : List (Key × V) := ps.map fun p => (.inr p.1, .str p.2)
theorem DEnt.pairs {P : Program} {w : World} : ∀ {es : List DictEntry} {ps : List (Str × Str)}, DEnt w es ps → ∃ vs : List (Key × Value), KV (txtKV ps) vs ∧ PySem.Pairs (mixKind P w) es vs ∧ vs.map (·.1) = ps.map (fun p => (Sum.inr p.1 : Key)) ∧ ∀ e ∈ es, ∃ k, (mixKind P w).is k e.key = true ∧ e.hash = (mixKind P w).hash k
  | _, _, .nil => ⟨[], .nil, .nil, rfl, fun _ h => by cases h⟩
  | _, _, .cons (k := k) (v := v) (t := t) (t' := t') hk hh hv r => by
    obtain ⟨vs, a, b, c, d⟩ := DEnt.pairs (P := P) r
    refine ⟨(.inr k, .str v t') :: vs, .cons ⟨rfl, ⟨_, rfl⟩⟩ a, .cons (by rw [hk]; exact mixKind_str P w k t) hv b, by rw [List.map_cons, c]; rfl, fun e he => ?_⟩
    rcases List.mem_cons.mp he with rfl | he
    · exact ⟨.inr k, by rw [hk]; exact mixKind_str P w k t, hh⟩
    · exact d e he
theorem nodup_inr : ∀ {xs : List Str}, xs.Nodup → (xs.map (Sum.inr : Str → Key)).Nodup
  | [], _ => .nil
  | x :: r, h => by
    obtain ⟨h1, h2⟩ := List.nodup_cons.mp h
    refine List.nodup_cons.mpr ⟨fun hm => ?_, nodup_inr h2⟩
    obtain ⟨y, hy, e⟩ := List.mem_map.mp hm
    exact h1 (Sum.inr.inj e ▸ hy)
theorem HasDct.mk' {P : Program} {w : World} {K : PySem.W.Frag} {x : Str} {ps : List (Str × Str)} {a : Addr} {es : Array DictEntry} {ep : Nat} (h : PySem.W.nsIn K mainGlobals x = some (some (.ref a)))
    (b : K.lookup a = some { cls := .type "dict", data := .dict es ep }) (hs : (a == sysModules) = false) (c : DEnt w es.toList ps) (nd : (ps.map (·.1)).Nodup) : HasDct P w K x (txtKV ps) := by
  obtain ⟨vs, v1, v2, v3, v4⟩ := DEnt.pairs (P := P) c
  refine ⟨a, h, hs, vs, v1, fun hh hK => ⟨_, es, ep, hK a _ b, ⟨rfl, rfl, rfl⟩, rfl, fun e he => v4 e (Array.mem_toList_iff.mpr he), v2, ?_⟩⟩
  rw [v3]
  have : ps.map (fun p => (Sum.inr p.1 : Key)) = (ps.map (·.1)).map Sum.inr := by rw [List.map_map]; rfl
  rw [this]
  exact nodup_inr nd
theorem HasDct.g {P : Program} {w : World} {K : PySem.W.Frag} {mg : Str → Option Value} {h : Heap} {x : Str} {kvs : List (Key × V)} (D : HasDct P w K x kvs) (X : K.In h) (G : h.Ns mainGlobals mg) : UseD P w K mg x kvs := by
  obtain ⟨a, e, k⟩ := D
  exact ⟨a, PySem.W.mg_of X G e, k⟩
end LK

set_option Elab.async false
set_option linter.all false
set_option maxRecDepth 100000
set_option maxHeartbeats 4000000
set_option exponentiation.threshold 3000
/-! Numbers, texts over the 95 characters, dicts of the top with any plain values. -/
namespace LK
open PySem PySem.Spec PyProof.Rows L2 SX
def CPowW (i j : Int) : Prop := 0 ≤ j ∧ (Builtin.Int.intBits i : Int) * j ≤ 2 ^ 27
theorem op_powW {X : Cx} : OpR X (binaryOp .Pow) (rI CPowW fun i j => .int (i ^ j.toNat)) := opI fun _ _ _ _ _ _ _ hc q => pow_int hc.1 hc.2 q
/-- the 95 characters by their codes -/
def chStr : Str := "\n !\"#$&'()*+,-./0123456789:;<=>?@ABCDEFGHIJKLMNOPQRSTUVWXYZ[\\]^_`abcdefghijklmnopqrstuvwxyz{|}~"
def chC : List Nat := chStr.cps.toList
theorem chC_len : chC.length = 95 := by decide +kernel
theorem chStr_S : chStr = S chC := by unfold chC S; rfl
def ch (j : Nat) : Nat := chC.getD j 0
/-- the text of a row of indices -/
def tx (js : List Nat) : Str := S (js.map ch)
theorem ch_at {j : Nat} (h : j < 95) : chC[j]? = some (ch j) := by
  have h' : j < chC.length := by rw [chC_len]; exact h
  rw [List.getElem?_eq_getElem h', ch, List.getD_eq_getElem?_getD, List.getElem?_eq_getElem h']; rfl
theorem ch_low (j : Nat) : ch j < 128 := by
  by_cases h : j < 95
  · exact (show ∀ c ∈ chC, c < 128 by decide +kernel) _ (List.mem_of_getElem? (ch_at h))
  · rw [ch, List.getD_eq_getElem?_getD, List.getElem?_eq_none (by rw [chC_len]; omega)]; decide
theorem ch_inj {i j : Nat} (hi : i < 95) (hj : j < 95) (h : ch i = ch j) : i = j := by
  have key : ∀ i < 95, ∀ j < 95, ch i = ch j → i = j := by decide +kernel
  exact key i hi j hj h
theorem tx_len (js : List Nat) : (tx js).length = js.length := by rw [tx, S_len, List.length_map]
theorem tx_app (a b : List Nat) : tx (a ++ b) = tx a ++ tx b := by rw [tx, List.map_append, ← S_cat]; rfl
theorem occ_ch : ∀ j < 95, (Builtin.Str.occurrences chStr ⟨#[ch j]⟩ 0 95 1).head? = some j := by decide +kernel
theorem occ_at {j : Nat} (h : j < 95) : ∃ rest, Builtin.Str.occurrences chStr ⟨#[ch j]⟩ 0 chStr.length 1 = j :: rest := by
  have e := occ_ch j h
  rw [show chStr.length = 95 by decide +kernel]
  cases q : Builtin.Str.occurrences chStr ⟨#[ch j]⟩ 0 95 1 with
  | nil => rw [q] at e; cases e
  | cons a r => rw [q] at e; exact ⟨r, by rw [Option.some.inj e]⟩
theorem joinL_one : ∀ cs : List Nat, TL.joinL [] (cs.map fun c => [c]) = cs
  | [] => rfl
  | [c] => rfl
  | c :: d :: r => by
    have := joinL_one (d :: r)
    show [c] ++ ([] ++ TL.joinL [] ((d :: r).map fun c => [c])) = _
    rw [this]; rfl
theorem join_chars (cs : List Nat) : Txt.join "" (cs.map fun c => (⟨#[c]⟩ : Str)) = S cs := by
  rw [TL.join_eq]
  have e := TL.tl_join "" (cs.map fun c => (⟨#[c]⟩ : Str))
  rw [show TL.tl ("" : Str) = [] by decide +kernel, List.map_map, show (TL.tl ∘ fun c => (⟨#[c]⟩ : Str)) = fun c => [c] from rfl, joinL_one] at e
  cases h : Str.join "" (cs.map fun c => (⟨#[c]⟩ : Str)) with
  | mk a =>
    rw [h] at e
    have e : a.toList = cs := e
    subst e
    rfl
section
variable {X : Cx} {K : PySem.W.Frag} {T id : String} {name : Str} {r : V → List V → Hp → VK → Prop} {o e : Expr} {es : List Expr} {to : TE} {t : TA} {apos cpos : Pos}
/-- a built-in method, where the written part is told (in a comprehension) -/
theorem pe_bmK (hK : X.K = K) (pa : PlainAttrs T) (slot : Slot T name id) (hty : typeOf (.builtin id) = pure (.type "method_descriptor")) (hm : MtR X id r) (ho : PE X o to) (ha : PA X (e :: es) t)
    (hbase : attributeBase o name X.env (eval o X.env) = eval o X.env := by rfl)
    (hfew : ((backTo cpos (starEach (e :: es) X.env)).all (fun x => !x.1) && (backToKw cpos (keywordEach [] X.env)).all (fun x => x.1.isSome)
      && decide ((e :: es).length + ([] : List Keyword).length + (if ([] : List Keyword).isEmpty then 0 else 1) < 30)) = true := by rfl)
    (hline : (apos.endLine == cpos.line) = true := by rfl) (hs : starEach (e :: es) X.env = (false, eval e X.env) :: starEach es X.env := by rfl) (hplain : (backTo cpos (starEach es X.env)).any (·.1) = false := by rfl) :
    PE X (.Call (.Attribute o name apos) (e :: es) [] cpos) (tBM K T r to t) := by
  subst hK; exact pe_bm pa slot hty hm ho ha hbase hfew hline hs hplain
end
/-! dicts of the top whose keys are texts and whose values are plain -/
inductive DEntV (w : World) : List DictEntry → List (Str × V) → Prop
  | nil : DEntV w [] []
  | cons {e : DictEntry} {es : List DictEntry} {k : Str} {v : V} {ps : List (Str × V)} {t : Tok} : e.key = .str k t → e.hash = hashStr w k → RelV v e.val → DEntV w es ps → DEntV w (e :: es) ((k, v) :: ps)
def valKV (ps : List (Str × V)) : List (Key × V) := ps.map fun p => (.inr p.1, p.2)
theorem DEntV.pairs {P : Program} {w : World} : ∀ {es : List DictEntry} {ps : List (Str × V)}, DEntV w es ps → ∃ vs : List (Key × Value), KV (valKV ps) vs ∧ PySem.Pairs (mixKind P w) es vs ∧ vs.map (·.1) = ps.map (fun p => (Sum.inr p.1 : Key)) ∧ ∀ e ∈ es, ∃ k : Key, (mixKind P w).is k e.key = true ∧ e.hash = (mixKind P w).hash k
  | _, _, .nil => ⟨[], .nil, .nil, rfl, fun _ h => by cases h⟩
  | _, _, .cons (e := e0) (k := k) (v := v) (t := t) hk hh hv r => by
    obtain ⟨vs, a, b, c, d⟩ := DEntV.pairs (P := P) r
    refine ⟨(.inr k, e0.val) :: vs, .cons ⟨rfl, hv⟩ a, .cons (by rw [hk]; exact mixKind_str P w k t) rfl b, by rw [List.map_cons, c]; rfl, fun e he => ?_⟩
    rcases List.mem_cons.mp he with rfl | he
    · exact ⟨.inr k, by rw [hk]; exact mixKind_str P w k t, hh⟩
    · exact d e he
theorem HasDct.mkV {P : Program} {w : World} {K : PySem.W.Frag} {x : Str} {ps : List (Str × V)} {a : Addr} {es : Array DictEntry} {ep : Nat} (h : PySem.W.nsIn K mainGlobals x = some (some (.ref a)))
    (b : K.lookup a = some { cls := .type "dict", data := .dict es ep }) (hs : (a == sysModules) = false) (c : DEntV w es.toList ps) (nd : (ps.map (·.1)).Nodup) : HasDct P w K x (valKV ps) := by
  obtain ⟨vs, v1, v2, v3, v4⟩ := DEntV.pairs (P := P) c
  refine ⟨a, h, hs, vs, v1, fun hh hK => ⟨_, es, ep, hK a _ b, ⟨rfl, rfl, rfl⟩, rfl, fun e he => v4 e (Array.mem_toList_iff.mpr he), v2, ?_⟩⟩
  rw [v3]
  have : ps.map (fun p => (Sum.inr p.1 : Key)) = (ps.map (·.1)).map Sum.inr := by rw [List.map_map]; rfl
  rw [this]
  exact nodup_inr nd
theorem dtAll_int {K : PySem.W.Frag} {H : Hp} : ∀ {is : List Int} {ws : List V}, DtAll K H ws (is.map PyData.int) → ws = is.map V.int
  | [], _, h => by cases h.nil_inv; rfl
  | i :: r, _, h => by
    obtain ⟨y, ws, rfl, h1, h2⟩ := h.cons_inv
    cases h1.int_inv
    rw [dtAll_int h2]; rfl
theorem cut_one (x : V) (xs : List V) : cutV (x :: xs) (some 1) none = xs := by
  unfold cutV
  rw [show (some (1 : Int)) = some ((1 : Nat) : Int) from rfl, HT.sIx_nat, HT.sIx_none, Nat.min_eq_left (by simp)]
  simp
theorem tx_take (js : List Nat) (n : Nat) : cutS (tx js) none (some (n : Int)) = tx (js.take n) := by
  unfold cutS
  rw [tx_len, HT.sIx_nat, HT.sIx_none]
  show (⟨(((js.map ch).drop 0).take (min n js.length - 0)).toArray⟩ : Str) = ⟨((js.take n).map ch).toArray⟩
  rw [List.drop_zero, Nat.sub_zero, List.map_take]
  congr 2
  by_cases h : n ≤ js.length
  · rw [Nat.min_eq_left h]
  · rw [Nat.min_eq_right (by omega), List.take_of_length_le (by simp), List.take_of_length_le (by simp; omega)]
theorem tx_drop (js : List Nat) (n : Nat) : cutS (tx js) (some (n : Int)) none = tx (js.drop n) := by
  unfold cutS
  rw [tx_len, HT.sIx_nat, HT.sIx_none]
  show (⟨(((js.map ch).drop (min n js.length)).take (js.length - min n js.length)).toArray⟩ : Str) = ⟨((js.drop n).map ch).toArray⟩
  rw [List.map_drop]
  congr 2
  by_cases h : n ≤ js.length
  · rw [Nat.min_eq_left h, List.take_of_length_le (by simp)]
  · rw [Nat.min_eq_right (by omega), List.drop_of_length_le (by simp), List.drop_of_length_le (by simp; omega)]; simp
def rLenK (K : PySem.W.Frag) : List V → Hp → VK → Prop := fun xs H Q => ∃ x n, xs = [x] ∧ LenV K x H n ∧ Q (.int (n : Nat)) H
theorem call_lenK {X : Cx} {K : PySem.W.Frag} (hK : X.K = K) : CallR X (.builtin "len") (rLenK K) := by subst hK; exact call_len
end LK

set_option Elab.async false
set_option linter.all false
set_option maxRecDepth 100000
set_option maxHeartbeats 4000000
/-! Classes of one's own in the layer: fields, instances made, methods called. -/
namespace LK
open PySem PySem.Spec PyProof.Rows L2
/-- none of the names stands in the class -/
inductive NoAll (K : PySem.W.Frag) (C : Addr) : List Str → Prop
  | nil : NoAll K C []
  | cons {f : Str} {r : List Str} (h : PySem.W.findIn K (.ref C) f = some none) (t : NoAll K C r) : NoAll K C (f :: r)
theorem NoAll.at {K : PySem.W.Frag} {C : Addr} {f : Str} : ∀ {fs : List Str}, NoAll K C fs → fs.contains f = true → NoAttr K C f
  | _, .nil, h => by cases h
  | g :: r, .cons a t, h => by
    by_cases e : f = g
    · subst e; exact a
    · refine NoAll.at t ?_
      rw [List.contains_cons] at h
      rcases Bool.or_eq_true_iff.mp h with q | q
      · exact absurd (eq_of_beq q) e
      · exact q
/-- the class x as the top leaves it, at C, with the fields fs -/
structure ClsK (K : PySem.W.Frag) (x : Str) (fs : List Str) (C : Addr) : Prop where
  ns : PySem.W.nsIn K mainGlobals x = some (some (.ref C))
  cl : Cls K C
  mks : PySem.W.makesIn K C = true
  kp : PySem.W.keepIn K (.ref C) = true
  no : NoAll K C fs
theorem ClsK.mk' {K : PySem.W.Frag} {x : Str} {fs : List Str} {C : Addr} (a : PySem.W.nsIn K mainGlobals x = some (some (.ref C))) (pg : PySem.W.plainGet K C Str.empty = true) (hd : PySem.W.hasDictIn K C = true) (po : PySem.W.plainOver K C = true)
    (sa : PySem.W.findIn K (.ref C) "__setattr__" = some (some (.builtin "object.__setattr__"))) (mk : PySem.W.makesIn K C = true) (kp : PySem.W.keepIn K (.ref C) = true) (no : NoAll K C fs) : ClsK K x fs C := ⟨a, ⟨pg, hd, po, sa⟩, mk, kp, no⟩
structure UseC (K : PySem.W.Frag) (mg : Str → Option Value) (x : Str) (fs : List Str) (C : Addr) : Prop where
  cl : Cls K C
  no : NoAll K C fs
  mg : mg x = some (.ref C)
theorem ClsK.g {K : PySem.W.Frag} {mg : Str → Option Value} {h : Heap} {x : Str} {fs : List Str} {C : Addr} (k : ClsK K x fs C) (X : K.In h) (G : h.Ns mainGlobals mg) : UseC K mg x fs C := ⟨k.cl, k.no, PySem.W.mg_of X G k.ns⟩
/-- a method as the top leaves it -/
def HasMeth (K : PySem.W.Frag) (C : Addr) (m q : Str) (st : Stmt) : Prop := ∃ (f : Addr) (oc : Value) (od an : Option Addr) (kV doc pm cdv ct : Value) (osl : Array (Option Value)),
  PySem.W.findIn K (.ref C) m = some (some (.ref f)) ∧ PySem.W.isFn K (.ref f) = true ∧ PySem.W.keepIn K (.ref f) = true ∧
  K.lookup f = some ⟨oc, od, .func (PySem.W.fnOf m q (defArgs st) (defBody st) (defScope st) .none kV doc pm an cdv ct), osl⟩ ∧ PySem.W.codeIn K cdv q = true
theorem HasMeth.mk' {K : PySem.W.Frag} {C : Addr} {m q : Str} {st : Stmt} {f : Addr} {oc : Value} {od an : Option Addr} {kV doc pm cdv ct : Value} {osl : Array (Option Value)} (a : PySem.W.findIn K (.ref C) m = some (some (.ref f))) (i : PySem.W.isFn K (.ref f) = true)
    (k : PySem.W.keepIn K (.ref f) = true) (b : K.lookup f = some ⟨oc, od, .func (PySem.W.fnOf m q (defArgs st) (defBody st) (defScope st) .none kV doc pm an cdv ct), osl⟩) (c : PySem.W.codeIn K cdv q = true) : HasMeth K C m q st :=
  ⟨f, oc, od, an, kV, doc, pm, cdv, ct, osl, a, i, k, b, c⟩
/-- a method may be called -/
structure UseM (P : Program) (w : World) (K : PySem.W.Frag) (mg : Str → Option Value) (base : Heap) (CX : CXT) (C : Addr) (m : Str) (k : Nat) (ps : List Str) (sp : Sp) : Prop where
  ex : ∃ (f : Addr) (fd : FuncData), FnG P w K mg base CX k f fd ps sp ∧ Meth K C m f ∧ Binds K fd ps []
/-- an instance may be made -/
structure UseK (P : Program) (w : World) (K : PySem.W.Frag) (mg : Str → Option Value) (base : Heap) (x : Str) (C : Addr) (k : Nat) (ps : List Str) (sp : Sp) : Prop where
  ex : ∃ (f : Addr) (fd : FuncData), FnOk P w K mg base CX0 k f fd ps sp ∧ Mk K C f ∧ Binds K fd ps [] ∧ mg x = some (.ref C)
section
variable {P : Program} {w : World} {K : PySem.W.Frag} {mg : Str → Option Value} {base h : Heap} {CX : CXT} {C : Addr} {m q x : Str} {st : Stmt} {k : Nat} {ps fs : List Str} {sp : Sp}
theorem mk_useM (F : HasMeth K C m q st) (hb : ∀ (kV doc pm : Value) (an : Option Addr) (cdv ct : Value) (us : List Value), us.length = ps.length → bindArgs (PySem.W.fnOf m q (defArgs st) (defBody st) (defScope st) .none kV doc pm an cdv ct) ⟨us, []⟩ = pure (ps.zip us))
    (ok : ∀ (f : Addr) (fd : FuncData), Fun K m q st f fd → FnG P w K mg base CX k f fd ps sp) : UseM P w K mg base CX C m k ps sp := by
  obtain ⟨f, oc, od, an, kV, doc, pm, cdv, ct, osl, a, i, kp, b, c⟩ := F
  have Fn := fun_mk (st := st) b c kp
  exact ⟨f, _, ok f _ Fn, ⟨a, i, kp⟩, Fn.binds hb⟩
theorem mk_useK (k0 : ClsK K x fs C) (F : HasMeth K C "__init__" q st) (X : K.In h) (G : h.Ns mainGlobals mg) (hb : ∀ (kV doc pm : Value) (an : Option Addr) (cdv ct : Value) (us : List Value), us.length = ps.length → bindArgs (PySem.W.fnOf "__init__" q (defArgs st) (defBody st) (defScope st) .none kV doc pm an cdv ct) ⟨us, []⟩ = pure (ps.zip us))
    (ok : ∀ (f : Addr) (fd : FuncData), Fun K "__init__" q st f fd → FnOk P w K mg base CX0 k f fd ps sp) : UseK P w K mg base x C k ps sp := by
  obtain ⟨f, oc, od, an, kV, doc, pm, cdv, ct, osl, a, i, kp, b, c⟩ := F
  have Fn := fun_mk (st := st) b c kp
  exact ⟨f, _, ok f _ Fn, ⟨k0.mks, a, i, k0.kp⟩, Fn.binds hb, PySem.W.mg_of X G k0.ns⟩
theorem UseM.imp {sp' : Sp} (U : UseM P w K mg base CX C m k ps sp) (i : ∀ vs H Q E, sp' vs H Q E → sp vs H Q E) : UseM P w K mg base CX C m k ps sp' := by
  obtain ⟨f, fd, ok, r⟩ := U.ex
  exact ⟨f, fd, ok.imp i, r⟩
end
/-! ### readings -/
def tFd (C : Addr) (ta : TE) (f : Str) : TE := fun σ H Q => ta σ H fun x H1 => ∃ a dx gs v, x = .ref a ∧ H1 a = some (.ins C dx gs) ∧ gs.lookup f = some v ∧ Q v H1
def sFd (C : Addr) (ta tv : TE) (f : Str) : TS := fun D σ H => tv σ H fun y H1 => ta σ H1 fun x H2 => ∃ a dx gs, x = .ref a ∧ H2 a = some (.ins C dx gs) ∧ gs.length < 1000 ∧ D.nx σ (upd H2 a (.ins C dx (putF f y gs)))
def sFdAug (C : Addr) (ta tv : TE) (rd : V → V → Hp → VK → Prop) (f : Str) : TS := fun D σ H => ta σ H fun x H1 => ∃ a dx gs v, x = .ref a ∧ H1 a = some (.ins C dx gs) ∧ gs.lookup f = some v ∧
  tv σ H1 fun y H2 => rd v y H2 fun z H3 => ∃ dx' gs', H3 a = some (.ins C dx' gs') ∧ gs'.length < 1000 ∧ D.nx σ (upd H3 a (.ins C dx' (putF f z gs')))
def tMc (C : Addr) (m : Str) (sp : Sp) (E : XK) (ta : TE) (t : TA) : TE := fun σ H Q => ta σ H fun x H1 => ∃ a dx gs, x = .ref a ∧ H1 a = some (.ins C dx gs) ∧ gs.lookup m = none ∧ t σ H1 fun vs H2 => sp (.ref a :: vs) H2 Q E
def tMk (C : Addr) (sp : Sp) (t : TA) : TE := fun σ H Q => t σ H fun vs H1 => ∀ x dx, H1 x = none → H1 dx = none → dx ≠ x → sp (.ref x :: vs) (upd (upd H1 dx (.own x)) x (.ins C dx [])) (fun v H2 => v = .non ∧ Q (.ref x) H2) E0
section
variable {X : Cx} {CX : CXT} {C : Addr} {x m f : Str} {fs ps : List Str} {k : Nat} {sp : Sp} {o e value : Expr} {es : List Expr} {p pos pos' tpos apos : Pos} {ta tv : TE} {t : TA}
theorem pe_fd (U : UseC X.K X.mg x fs C) (hf : fs.contains f = true) (he : PE X e ta) (hb : attributeBase e f X.env (eval e X.env) = eval e X.env := by rfl) : PE X (.Attribute e f pos) (tFd C ta f) := by
  refine ⟨fun pins s σ H Q I h => ?_⟩
  refine attr_of hb (thn (he.run pins s σ H _ I h) fun u s1 ⟨x, H1, I1, rx, a, dx, fs, v, ex, ea, l, q⟩ => ?_)
  subst ex
  obtain rfl : u = Value.ref a := rx
  exact getattr_ok I1 ea U.cl (U.no.at hf) l fun u' s2 I2 ru => ⟨v, H1, I2, ru, q⟩
theorem ps_fd (U : UseC X.K X.mg x fs C) (hf : fs.contains f = true) (ha : PE X o ta) (hv : PE X value tv) (hs : swapsWith value (some (.Attribute o f pos')) pos.line X.env = pure false := by rfl) : PS X (.Assign [.Attribute o f pos'] value pos) (sFd C ta tv f) := by
  refine ⟨fun pins s σ H D I h => ?_⟩
  refine plainObj_wpAny_Assign_Attribute (thn (hv.run pins s σ H _ I h) fun u s1 ⟨y, H1, I1, ry, q⟩ => thn (ha.run pins s1 σ H1 _ I1 q) fun ov s2 ⟨x, H2, I2, rx, a, dx, fs, ex, ea, l, q2⟩ => ?_) hs
  subst ex
  obtain rfl : ov = Value.ref a := rx
  exact setattr_ok I2 ea U.cl (U.no.at hf) l ry fun s3 I3 => ⟨σ, _, I3, q2⟩
theorem ps_fdaug (U : UseC X.K X.mg x fs C) (hf : fs.contains f = true) {op : Operator} {rd : V → V → Hp → VK → Prop} (ha : PE X o ta) (hv : PE X value tv) (hop : InOp X op rd) : PS X (.AugAssign (.Attribute o f tpos) op value pos) (sFdAug C ta tv rd f) := by
  refine ⟨fun pins s σ H D I h => ?_⟩
  refine wpAny_AugAssign_AttributeAny (thn (ha.run pins s σ H _ I h) fun ov s1 ⟨x, H1, I1, rx, a, dx, fs, v, ex, ea, l, q⟩ => ?_)
  subst ex
  obtain rfl : ov = Value.ref a := rx
  refine getattr_ok I1 ea U.cl (U.no.at hf) l fun u s2 I2 ru => thn (hv.run pins s2 σ H1 _ I2 q) fun w3 s3 ⟨y, H2, I3, ry, q3⟩ => thn (hop pins s3 σ H2 v y u w3 _ I3 ru ry q3) fun w4 s4 ⟨z, H3, I4, rz, dx', fs', ea', l', q4⟩ => ?_
  exact setattr_ok I4 ea' U.cl (U.no.at hf) l' rz fun s5 I5 => ⟨σ, _, I5, q4⟩
/-- o.m(e, ..) -/
theorem pe_mc {E : XK} {pl : Sem Bool} (U : UseC X.K X.mg x fs C) (M : UseM X.prog X.w X.K X.mg X.base CX C m k ps sp) (hx : Passes CX X E) (hr : Room k X.A) (gd : X.A.guards = some []) (he : PE X o ta) (ha : PA X (e :: es) t)
    (hst : starEach (e :: es) X.env = (false, eval e X.env) :: starEach es X.env := by rfl) (hpl : (backTo pos (starEach es X.env)).any (·.1) = false := by rfl)
    (ht : eval (.Call (.Attribute o m apos) (e :: es) [] pos) X.env = (do
      let ov ← eval o X.env
      standAt apos.atName
      let (f, first) ← holding [ov] (getMethod ov m pl)
      callWith pos f first (backTo pos (starEach (e :: es) X.env)) (backToKw pos (keywordEach [] X.env))) := by rfl) :
    PE X (.Call (.Attribute o m apos) (e :: es) [] pos) (tMc C m sp E ta t) := by
  obtain ⟨f, fd, F, hm, hb⟩ := M.ex
  refine ⟨fun pins s σ H Q I h => ?_⟩
  refine PySem.W.methodCall_KW (pl := pl) (thn (he.run pins s σ H _ I h) fun u s1 ⟨x, H1, I1, rx, a, dx, fs, ex, ea, l, q⟩ => ?_) ht
  subst ex
  obtain rfl : u = Value.ref a := rx
  refine getmeth_ok I1 ea U.cl hm l ?_
  refine PySem.W.callWith_K (first := [.ref a]) (h₀ := X.base) I.ok.mod.kin hm.kp (thn (ha.run pos pins s1 σ H1 _ I1 q) fun us s2 ⟨vs, H2, I2, r, q2⟩ => ⟨I2.kIn, ?_⟩) hst hpl
  exact run_fnG (us := .ref a :: us) (vs := .ref a :: vs) F hr gd hb hx I2 (.cons rfl r) q2
/-- o.m() -/
theorem pe_mc0 {E : XK} {pl : Sem Bool} (U : UseC X.K X.mg x fs C) (M : UseM X.prog X.w X.K X.mg X.base CX C m k ps sp) (hx : Passes CX X E) (hr : Room k X.A) (gd : X.A.guards = some []) (he : PE X o ta)
    (ht : eval (.Call (.Attribute o m apos) [] [] pos) X.env = (do
      let ov ← eval o X.env
      standAt apos.atName
      let (f, first) ← holding [ov] (getMethod ov m pl)
      callWith pos f first (backTo pos (starEach [] X.env)) (backToKw pos (keywordEach [] X.env))) := by rfl) :
    PE X (.Call (.Attribute o m apos) [] [] pos) (tMc C m sp E ta tNil) := by
  obtain ⟨f, fd, F, hm, hb⟩ := M.ex
  refine ⟨fun pins s σ H Q I h => ?_⟩
  refine PySem.W.methodCall_KW (pl := pl) (thn (he.run pins s σ H _ I h) fun u s1 ⟨x, H1, I1, rx, a, dx, fs, ex, ea, l, q⟩ => ?_) ht
  subst ex
  obtain rfl : u = Value.ref a := rx
  refine getmeth_ok I1 ea U.cl hm l ?_
  exact PySem.W.callWith_K0 (first := [.ref a]) I1.kIn hm.kp (run_fnG (us := [.ref a]) (vs := [.ref a]) F hr gd hb hx I1 (.cons rfl .nil) q)
/-- C(e, ..) -/
theorem pe_mk (M : UseK X.prog X.w X.K X.mg X.base x C k ps sp) (hr : Room (k + 1) X.A) (hg : Gl X x) (ha : PA X (e :: es) t) (hdb : (x == ("__debug__" : Str)) = false := by decide) (he : starEach (e :: es) X.env = (false, eval e X.env) :: starEach es X.env := by rfl)
    (hpl : (backTo pos (starEach es X.env)).any (·.1) = false := by rfl) : PE X (.Call (.Name x p) (e :: es) [] pos) (tMk C sp t) := by
  obtain ⟨f, fd, F, mk, hb, hm⟩ := M.ex
  have R := pe_make (p := p) (pos := pos) mk F hr hg hm hb .nil pass0 ha hdb he hpl
  refine ⟨fun pins s σ H Q I h => R.run pins s σ H Q I ?_⟩
  have e0 : (tMake C sp [] E0 t : TE) = tMk C sp t := by
    funext σ H Q
    unfold tMake tMk
    simp only [List.append_nil]
  rw [e0]; exact h
end
end LK

set_option Elab.async false
set_option linter.all false
set_option maxRecDepth 100000
set_option maxHeartbeats 4000000
/-! Calls with keyword-only arguments. -/
namespace LK
open PySem PySem.Spec PyProof.Rows L2
structure UseN (P : Program) (w : World) (K : PySem.W.Frag) (mg : Str → Option Value) (base : Heap) (CX : CXT) (x : Str) (k : Nat) (ps : List Str) (n : Nat) (ks : List Str) (sp : Sp) : Prop where
  ex : ∃ (f : Addr) (fd : FuncData), FnG P w K mg base CX k f fd ps sp ∧ mg x = some (.ref f) ∧ PySem.W.keepIn K (.ref f) = true ∧ KBn K fd ps n ks (fun a b => a ++ b) (fun a b => a ++ b)
section
variable {P : Program} {w : World} {K : PySem.W.Frag} {mg : Str → Option Value} {base h : Heap} {CX : CXT}
theorem mk_useN {x : Str} {st : Stmt} {k n : Nat} {ps ks : List Str} {sp : Sp} (F : HasFn K x st) (X : K.In h) (G : h.Ns mainGlobals mg)
    (hb : ∀ (kV doc pm : Value) (an : Option Addr) (cdv ct : Value) (us ws : List Value), us.length = n → ws.length = ks.length → bindArgs (PySem.W.fnOf x x (defArgs st) (defBody st) (defScope st) .none kV doc pm an cdv ct) ⟨us, ks.zip ws⟩ = pure (ps.zip (us ++ ws)))
    (ok : ∀ (f : Addr) (fd : FuncData), Fun K x x st f fd → FnG P w K mg base CX k f fd ps sp) : UseN P w K mg base CX x k ps n ks sp := by
  obtain ⟨f, oc, od, an, kV, doc, pm, cdv, ct, osl, e, l, c, kp⟩ := F
  have Fn := fun_mk (st := st) l c kp
  exact ⟨f, _, ok f _ Fn, PySem.W.mg_of X G e, kp, ⟨fun s us ws _ l1 l2 => .of_eq (hb _ _ _ _ _ _ _ _ l1 l2), fun a b => a.append b⟩⟩
end
section
variable {X : Cx} {CX : CXT} {E : XK} {k n : Nat} {x : Str} {ps ks : List Str} {sp : Sp} {p pos : Pos} {e : Expr} {es : List Expr} {kws : List Keyword} {t tk : TA}
theorem pe_useN (U : UseN X.prog X.w X.K X.mg X.base CX0 x k ps n ks sp) (hr : Room k X.A) (gd : X.A.guards = some []) (hg : Gl X x) (ha : PA X (e :: es) t) (hkw : PK X kws tk)
    (hall : (backToKw pos (keywordEach kws X.env)).all (·.1.isSome) = true := by rfl) (hks : (backToKw pos (keywordEach kws X.env)).filterMap (·.1) = ks := by rfl)
    (hdb : (x == ("__debug__" : Str)) = false := by decide) (he : starEach (e :: es) X.env = (false, eval e X.env) :: starEach es X.env := by rfl)
    (hpl : ((backTo pos (starEach (e :: es) X.env)).any (·.1) || (backToKw pos (keywordEach kws X.env)).any (·.1.isNone)) = false := by rfl) :
    PE X (.Call (.Name x p) (e :: es) kws pos) (tCallN n ks.length sp (fun a b => a ++ b) E0 t tk) := by
  obtain ⟨f, fd, F, hm, hk, hb⟩ := U.ex
  refine ⟨fun pins s σ H Q I h => ?_⟩
  refine wpAny_Call_Name_kw (ld_glob I hg hm ?_ hdb)
  refine PySem.W.callWith_KW (h₀ := X.base) I.ok.mod.kin hk hall (thn (ha.run pos pins s σ H _ I h) fun us s1 ⟨vs, H1, I1, r, q⟩ => ?_) hpl he
  refine thn (hkw.run pos pins s1 σ H1 _ I1 q) fun ws s2 ⟨zs, H2, I2, rz, l1, l2, q2⟩ => ⟨I2.kIn, ?_⟩
  rw [hks]
  have r2 := hb.rel r rz
  refine wpAny_call (codeAny_mono (F.run X.A X.stack s2 H2 ⟨us, ks.zip ws⟩ (us ++ ws) (vs ++ zs) Q _ hr gd I2.env0 (hb.to s2 us ws I2.kIn (r.length.symm.trans l1) (rz.length.symm.trans l2)) r2 q2) fun res s' hq => ?_)
  match res, hq with
  | .error e, hq => exact pass0 pins σ H2 s2 e s' I2 hq
  | .ok (.ret u), hq => exact I2.after hq
  | .ok .next, hq => exact hq.elim
  | .ok .brk, hq => exact hq.elim
  | .ok .cont, hq => exact hq.elim
end
end LK

set_option Elab.async false
set_option linter.all false
set_option maxRecDepth 100000
set_option maxHeartbeats 4000000
set_option exponentiation.threshold 3000
namespace K72
open PySem PySem.Spec PyProof.Rows LK SX
open L2
def top (i : Nat) : Stmt := PySem.Challenge.pw_pyhold_k72_values.main.body.getD i (.Pass ⟨0, 0, 0, 0⟩)
structure Txt (K : PySem.W.Frag) (mg : Str → Option Value) : Prop where
  c_BASE_coding : GInt mg "BASE_coding" 128
  c_BASE_reader : GInt mg "BASE_reader" 128
  c_NUMBER_END : GInt mg "NUMBER_END" 256
  c_MOST_DIGITS : GInt mg "MOST_DIGITS" 40
  c_MOST_ENTRIES : GInt mg "MOST_ENTRIES" 1000
  c_MOST_IN_NAME : GInt mg "MOST_IN_NAME" 200
  c_INTEGER_END : GInt mg "INTEGER_END" (2 ^ 256)
  c_VALUES : GTup K mg "VALUES" ([("none" : Str), "bool", "bool", "int", "text", "span", "built", "host", "ref"].map V.str)
  c_CHARACTERS : GStr mg "CHARACTERS" chStr
  b_len : mg "len" = none
  b_int : mg "int" = none
  b_range : mg "range" = none
  b_list : mg "list" = none
  b_tuple : mg "tuple" = none
  b_isinstance : mg "isinstance" = none
  b_bool : mg "bool" = none
  b_str : mg "str" = none
  b_abs : mg "abs" = none
abbrev s_law_cell : Stmt := top 27
abbrev N_law_cell : List Str := ["script", "k"]
abbrev P_law_cell : List Str := ["script", "k"]
theorem sc_law_cell : FnScope N_law_cell P_law_cell (defScope s_law_cell) := ⟨rfl, rfl, rfl, by decide +kernel, rfl, by decide +kernel, by decide +kernel⟩
abbrev s_law_digits : Stmt := top 31
abbrev N_law_digits : List Str := ["script", "first", "last", "digits", "k", "cell", "turn", "seed"]
abbrev P_law_digits : List Str := ["script", "first", "last"]
theorem sc_law_digits : FnScope N_law_digits P_law_digits (defScope s_law_digits) := ⟨rfl, rfl, rfl, by decide +kernel, rfl, by decide +kernel, by decide +kernel⟩
abbrev s_law_draw : Stmt := top 32
abbrev N_law_draw : List Str := ["box", "many", "at"]
abbrev P_law_draw : List Str := ["box", "many"]
theorem sc_law_draw : FnScope N_law_draw P_law_draw (defScope s_law_draw) := ⟨rfl, rfl, rfl, by decide +kernel, rfl, by decide +kernel, by decide +kernel⟩
section
variable {P : Program} {w : World} {K : PySem.W.Frag} {mg : Str → Option Value} {base : Heap}
theorem ok_draw {f : Addr} {fd : FuncData} (F : Fun K "_law_draw" "_law_draw" s_law_draw f fd) (T : Txt K mg) : FnG P w K mg base CX0 1 f fd P_law_draw (spDraw K) := by
  refine okG0 F sc_law_draw (fun vs H Q E h => ?_) fun cdv A outer s H vs Q E hr hg h => ?_
  · obtain ⟨p, dl, m, rfl, _⟩ := h
    rfl
  · obtain ⟨p, dl, m, rfl, B, hm, k⟩ := h
    obtain ⟨ds, n, hp, hn, hd, hl, hds⟩ := id B
    refine ⟨_, (pss_cons (ps_set (i := 2) sc_law_draw.nd rfl (Or.inl rfl) (pe_ix ix_list (pv 0) pe_int (fun _ _ => rfl)))
  (pss_cons (ps_asg (pe_op op_add (pv 2) pe_int) (pg_sub (pv 0) pe_int set_list))
  (pss_cons (ps_if (pt_cmpR op_lt (pv 2) (pe_callB call_len (by rfl) T.b_len PySem.boot_len (pa_cons (pe_ix ix_list (pv 0) pe_int (fun _ _ => rfl)) pa_nil)) (nomark _))
   (pss_one (ps_ret (pe_op op_mod (pe_callTy call_int1 (by rfl) T.b_int (by decide +kernel) (pa_cons (pe_ix ix_list (pe_ix ix_list (pv 0) pe_int (fun _ _ => rfl)) (pv 2) (fun _ _ => rfl)) pa_nil)) (pv 1))))
   pss_nil)
  (pss_one (ps_ret (pe_op op_mod (pe_callTy call_int1 (by rfl) T.b_int (by decide +kernel) (pa_cons (pe_op op_add (pe_op op_mul (pv 2) pe_int) pe_int) pa_nil)) (pv 1))))))), ?_⟩
    -- at = box[1]; box[1] = at + 1
    refine ⟨_, rfl, p, _, _, _, rfl, rfl, SqL.of hp, rfl, ?_⟩
    refine ⟨_, rfl, _, _, rfl, rfl, _, rfl, p, _, _, _, rfl, rfl, hp, rfl, ?_⟩
    have npd : dl ≠ p := by
      intro e
      subst e
      rw [hp] at hd
      have e := HO.lst.inj (Option.some.inj hd)
      cases ds with
      | nil => cases e
      | cons d ds => cases (List.cons.inj e).1
    have B' : BoxAt (upd H p (.lst [.ref dl, .int (n + 1)])) p dl := ⟨ds, n + 1, upd_same, by omega, by rw [upd_ne npd]; exact hd, hl, hds⟩
    have kp : Keep p H (upd H p (.lst [.ref dl, .int (n + 1)])) := fun b o e hb => by rw [upd_ne hb]; exact e
    have hd' : upd H p (.lst [.ref dl, .int (n + 1)]) dl = some (.lst (ds.map V.int)) := by rw [upd_ne npd]; exact hd
    -- if at < len(box[0])
    refine ⟨_, rfl, _, rfl, p, _, _, _, rfl, rfl, SqL.of upd_same, rfl, _, _, rfl, .inl ⟨_, SqL.of hd', rfl⟩, ?_⟩
    refine ⟨_, _, rfl, rfl, _, rfl, ?_⟩
    refine ite2 (fun c => ?_) fun c => ?_
    · have c1 : n < (ds.length : Int) := by simpa using c
      have c2 : n.toNat < ds.length := by omega
      have mem := hds _ (List.getElem_mem c2)
      refine ⟨_, rfl, p, _, _, _, rfl, rfl, SqL.of upd_same, rfl, _, rfl, dl, _, _, .int ds[n.toNat], rfl, rfl, SqL.of hd', ?_, .inl ⟨_, rfl, ?_⟩⟩
      · have e : n = ((n.toNat : Nat) : Int) := by omega
        exact at_of e (by simp [c2])
      · refine ⟨_, rfl, _, _, rfl, rfl, hm, ?_⟩
        exact k _ _ (Int.emod_nonneg _ (by omega)) (Int.emod_lt_of_pos _ hm) B' kp
    · refine ⟨_, rfl, _, _, rfl, rfl, .inr ⟨by decide, by decide⟩, _, _, rfl, rfl, .inl ⟨_, rfl, _, rfl, _, _, rfl, rfl, hm, ?_⟩⟩
      exact k _ _ (Int.emod_nonneg _ (by omega)) (Int.emod_lt_of_pos _ hm) B' kp
theorem ok_cell {f : Addr} {fd : FuncData} (F : Fun K "_law_cell" "_law_cell" s_law_cell f fd) (T : Txt K mg) : FnG P w K mg base CX0 1 f fd P_law_cell (spCell K) := by
  refine okG0 F sc_law_cell (fun vs H Q E h => ?_) fun cdv A outer s H vs Q E hr hg h => ?_
  · obtain ⟨a, ns, i, rfl, _⟩ := h
    rfl
  · obtain ⟨a, ns, i, rfl, hs, hi, k⟩ := h
    refine ⟨_, (pss_cons (ps_if (pt_cmpR op_lt (pv 1) (pe_callB call_len (by rfl) T.b_len PySem.boot_len (pa_cons (pv 0) pa_nil)) (nomark _))
   (pss_one (ps_ret (pe_ix ix_list (pv 0) (pv 1) (fun _ _ => rfl))))
   pss_nil)
  (pss_one (ps_ret pe_int))), ?_⟩
    refine ⟨_, rfl, _, rfl, _, _, rfl, .inl ⟨_, hs, rfl⟩, _, _, rfl, rfl, _, rfl, ?_⟩
    refine ite3 (fun c => ?_) fun _ => k 0
    have c1 : i < (ns.length : Int) := by simpa using c
    have c2 : i.toNat < ns.length := by omega
    exact ⟨_, rfl, _, rfl, a, _, _, .int ns[i.toNat], rfl, rfl, hs, at_of (show i = ((i.toNat : Nat) : Int) by omega) (by simp [c2]), k _⟩
theorem ok_digits {f : Addr} {fd : FuncData} (F : Fun K "_law_digits" "_law_digits" s_law_digits f fd) (T : Txt K mg) (U_law_cell : Use P w K mg base CX0 "_law_cell" 1 P_law_cell (spCell K)) : FnG P w K mg base CX0 2 f fd P_law_digits (spDigits K) := by
  refine okG0 F sc_law_digits (fun vs H Q E h => ?_) fun cdv A outer s H vs Q E hr hg h => ?_
  · obtain ⟨a, ns, lo, hi, rfl, _⟩ := h
    rfl
  · obtain ⟨a, ns, lo, hi, rfl, hs, hlo, hhi, k⟩ := h
    refine ⟨_, (pss_cons (ps_set (i := 3) sc_law_digits.nd rfl (Or.inl rfl) (pe_lst pa_nil))
  (pss_cons (ps_for PassesOwn.never rfl (pi_range2 (by rfl) T.b_range (pa_cons (pv 1) (pa_cons (pv 2) pa_nil))) (pg_name (i := 4) sc_law_digits.nd rfl (Or.inl rfl))
   (pss_cons (ps_set (i := 5) sc_law_digits.nd rfl (Or.inl rfl) (pe_use U_law_cell (hr.mono (by decide)) hg rfl (pa_cons (pv 0) (pa_cons (pv 4) pa_nil))))
  (C8.pss_cut (ps_if (pt_cmpR op_lt (pv 5) pe_int (nomark _))
   (pss_one (ps_set (i := 5) sc_law_digits.nd rfl (Or.inl rfl) (pe_op op_sub pe_int (pe_op op_mul pe_int (pv 5)))))
   pss_nil)
  (pss_one (ps_if (pt_cmpR op_ge (pv 5) (pe_op op_pow pe_int pe_int) (nomark _))
   (pss_one (ps_for PassesOwn.never rfl (pi_range1 (by rfl) T.b_range (pa_cons pe_int pa_nil)) (pg_name (i := 6) sc_law_digits.nd rfl (Or.inl rfl))
   (pss_one (ps_if (pt_cmpR op_gt (pv 5) pe_int (nomark _))
   (pss_cons (ps_expr (pe_bm PySem.F.plainAttrs_list PySem.F.slot_list_append PySem.F.type_list_append mt_append (pv 3) (pa_cons (pe_op op_mod (pe_callTy call_int1 (by rfl) T.b_int (by decide +kernel) (pa_cons (pv 5) pa_nil)) pe_int) pa_nil)))
  (pss_one (ps_set (i := 5) sc_law_digits.nd rfl (Or.inl rfl) (pe_op op_fdiv (pv 5) pe_int))))
   pss_nil))))
   (pss_cons (ps_set (i := 7) sc_law_digits.nd rfl (Or.inl rfl) (pe_op op_mod (pe_callTy call_int1 (by rfl) T.b_int (by decide +kernel) (pa_cons (pe_op op_add (pe_op op_add (pe_op op_mul (pv 5) pe_int) (pe_op op_mul (pv 4) pe_int)) pe_int) pa_nil)) pe_int))
  (pss_one (ps_for PassesOwn.never rfl (pi_range1 (by rfl) T.b_range (pa_cons pe_int pa_nil)) (pg_name (i := 6) sc_law_digits.nd rfl (Or.inl rfl))
   (pss_cons (ps_set (i := 7) sc_law_digits.nd rfl (Or.inl rfl) (pe_op op_mod (pe_callTy call_int1 (by rfl) T.b_int (by decide +kernel) (pa_cons (pe_op op_add (pe_op op_add (pe_op op_mul (pv 7) pe_int) (pe_op op_mul pe_int (pv 6))) pe_int) pa_nil)) pe_int))
  (pss_one (ps_expr (pe_bm PySem.F.plainAttrs_list PySem.F.slot_list_append PySem.F.type_list_append mt_append (pv 3) (pa_cons (pe_op op_mod (pe_callTy call_int1 (by rfl) T.b_int (by decide +kernel) (pa_cons (pe_op op_fdiv (pv 7) pe_int) pa_nil)) pe_int) pa_nil)))))))))))))
  (pss_one (ps_ret (pv 3))))), ?_⟩
    refine ⟨by decide, fun dl nd => ?_⟩
    have sz : (4000 : Nat) < sizeLine := by decide
    -- for k in range(first, last)
    refine ⟨_, rfl, _, rfl, _, _, rfl, ⟨by omega, by omega, by omega, by omega⟩, ?_⟩
    refine for_range (lo := (lo : Int)) (n := ((hi : Int) - (lo : Int)).toNat) (fun i σ H1 => ∃ x5 x6 x7 x4, σ = [some (.ref a), some (.int lo), some (.int hi), some (.ref dl), x4, x5, x6, x7] ∧ DigAt H H1 dl (60 * i)) ?_ ?_ ?_
    · exact ⟨none, none, none, none, rfl, [], upd_same, by simp, by simp, Same.new nd⟩
    · rintro i σ H1 hi' ⟨x5, x6, x7, x4, rfl, D⟩
      have S1 : Same H H1 := let ⟨_, _, _, _, z⟩ := D; z
      -- cell = _law_cell(script, k)
      refine ⟨_, rfl, _, rfl, a, ns, _, rfl, S1.seq hs, by omega, fun cell => ?_⟩
      -- if cell < 0: cell = 1 - 2 * cell
      refine ⟨fun σ H2 => ∃ c : Int, σ = [some (.ref a), some (.int lo), some (.int hi), some (.ref dl), some (.int ((lo : Int) + i)), some (.int c), x6, x7] ∧ H2 = H1, ?_, ?_⟩
      · refine ⟨_, rfl, _, _, rfl, rfl, _, rfl, ?_⟩
        refine ite3 (fun _ => ?_) fun _ => ⟨cell, rfl, rfl⟩
        exact ⟨_, rfl, _, _, rfl, rfl, .inl ⟨by decide, by decide⟩, _, _, rfl, rfl, _, rfl, rfl⟩
      · rintro _ _ ⟨c, rfl, rfl⟩
        -- if cell >= 10 ** 18
        refine ⟨_, rfl, _, _, rfl, rfl, ⟨by decide, by decide, by decide⟩, _, _, rfl, rfl, _, rfl, ?_⟩
        refine ite3 (fun hc => ?_) fun hc => ?_
        · refine ⟨_, rfl, by decide, by decide, ?_⟩
          refine for_range (lo := 0) (n := 60) (fun j σ H1 => ∃ (c : Int) (y6 : Option V), σ = [some (.ref a), some (.int lo), some (.int hi), some (.ref dl), some (.int ((lo : Int) + i)), some (.int c), y6, x7] ∧ DigAt H H1 dl (60 * i + j)) ⟨c, x6, rfl, D⟩ ?_ ?_
          · rintro j σ H2 hj ⟨c, y6, rfl, D2⟩
            obtain ⟨ds, hd, hl, _⟩ := id D2
            refine ⟨_, rfl, _, _, rfl, rfl, _, rfl, ?_⟩
            refine ite3 (fun hp => ?_) fun _ => ⟨c, _, rfl, D2.mono (by omega)⟩
            have hp : 0 < c := by simpa using hp
            refine ⟨_, rfl, .inl ⟨rfl, _, SqL.of hd⟩, _, rfl, .inl ⟨_, rfl, _, _, rfl, rfl, (by show (0 : Int) < 1000; decide), dl, _, _, rfl, rfl, hd, (by simp; omega), ?_⟩⟩
            refine ⟨_, rfl, _, _, rfl, rfl, ⟨by decide, by decide⟩, ?_⟩
            exact ⟨_, _, rfl, D2.add hd nd (Int.emod_nonneg _ (by decide)) (Int.emod_lt_of_pos _ (by decide))⟩
          · rintro σ H2 ⟨c, y6, rfl, D2⟩
            exact ⟨_, _, _, _, rfl, D2.mono (by omega)⟩
        · refine ⟨_, rfl, _, _, rfl, rfl, .inr ⟨by decide, by decide⟩, _, rfl, _, _, rfl, rfl, .inr ⟨by decide, by decide⟩, _, _, rfl, rfl, _, _, rfl, rfl, .inl ⟨_, rfl, _, _, rfl, rfl, (by show (0 : Int) < 2147483647; decide), ?_⟩⟩
          refine ⟨_, rfl, by decide, by decide, ?_⟩
          refine for_range (lo := 0) (n := 12) (fun j σ H1 => ∃ (sd : Int) (y6 : Option V), σ = [some (.ref a), some (.int lo), some (.int hi), some (.ref dl), some (.int ((lo : Int) + i)), some (.int c), y6, some (.int sd)] ∧ DigAt H H1 dl (60 * i + j)) ⟨_, x6, rfl, D⟩ ?_ ?_
          · rintro j σ H2 hj ⟨sd, y6, rfl, D2⟩
            obtain ⟨ds, hd, hl, _⟩ := id D2
            refine ⟨_, rfl, _, _, rfl, rfl, .inr ⟨by decide, by decide⟩, _, rfl, _, _, rfl, rfl, .inl ⟨by decide, by decide⟩, _, _, rfl, rfl, _, _, rfl, rfl, .inl ⟨_, rfl, _, _, rfl, rfl, (by show (0 : Int) < 2147483647; decide), ?_⟩⟩
            refine ⟨_, rfl, .inl ⟨rfl, _, SqL.of hd⟩, _, rfl, _, _, rfl, rfl, ⟨by decide, by decide⟩, .inl ⟨_, rfl, _, _, rfl, rfl, (by show (0 : Int) < 1000; decide), dl, _, _, rfl, rfl, hd, (by simp; omega), ?_⟩⟩
            exact ⟨_, _, rfl, D2.add hd nd (Int.emod_nonneg _ (by decide)) (Int.emod_lt_of_pos _ (by decide))⟩
          · rintro σ H2 ⟨sd, y6, rfl, D2⟩
            exact ⟨_, _, _, _, rfl, D2.mono (by omega)⟩
    · rintro σ H1 ⟨x5, x6, x7, x4, rfl, D⟩
      exact ⟨_, rfl, k dl H1 nd (D.mono (by omega))⟩
end

abbrev s_write_count : Stmt := top 7
abbrev N_write_count : List Str := ["n", "numbers"]
abbrev P_write_count : List Str := ["n"]
theorem sc_write_count : FnScope N_write_count P_write_count (defScope s_write_count) := ⟨rfl, rfl, rfl, by decide +kernel, rfl, by decide +kernel, by decide +kernel⟩
section
variable {P : Program} {w : World} {K : PySem.W.Frag} {mg : Str → Option Value} {base : Heap}
/-- the digits of a count -/
def cnt (n : Nat) : List Nat := if h : n < 128 then [n] else (128 + n % 128) :: cnt (n / 128)
termination_by n
decreasing_by omega
theorem cnt_lt {n : Nat} (h : n < 128) : cnt n = [n] := by rw [cnt, dif_pos h]
theorem cnt_ge {n : Nat} (h : ¬ n < 128) : cnt n = (128 + n % 128) :: cnt (n / 128) := by rw [cnt, dif_neg h]
theorem cnt_ne (n : Nat) : cnt n ≠ [] := by
  by_cases h : n < 128
  · rw [cnt_lt h]; exact List.cons_ne_nil _ _
  · rw [cnt_ge h]; exact List.cons_ne_nil _ _
theorem cnt_len : ∀ (k n : Nat), n < 128 ^ (k + 1) → (cnt n).length ≤ k + 1
  | 0, n, h => by rw [cnt_lt (by simpa using h)]; simp
  | k + 1, n, h => by
    by_cases h1 : n < 128
    · rw [cnt_lt h1]; simp
    · rw [cnt_ge h1, List.length_cons]
      have : n / 128 < 128 ^ (k + 1) := Nat.div_lt_of_lt_mul (by rw [Nat.mul_comm, ← Nat.pow_succ]; exact h)
      have := cnt_len k _ this
      omega
theorem cnt_byte : ∀ (k n : Nat), n < 128 ^ (k + 1) → ∀ d ∈ cnt n, d < 256
  | 0, n, h, d, hd => by
    have : n < 128 := by simpa using h
    rw [cnt_lt this, List.mem_singleton] at hd; omega
  | k + 1, n, h, d, hd => by
    by_cases h1 : n < 128
    · rw [cnt_lt h1, List.mem_singleton] at hd; omega
    · rw [cnt_ge h1] at hd
      rcases List.mem_cons.mp hd with rfl | hd
      · have := Nat.mod_lt n (show 0 < 128 by decide); omega
      · exact cnt_byte k _ (Nat.div_lt_of_lt_mul (by rw [Nat.mul_comm, ← Nat.pow_succ]; exact h)) d hd
/-- a list of numbers as values -/
def nV (ns : List Nat) : List V := ns.map fun (d : Nat) => V.int (d : Int)
theorem nV_app (a b : List Nat) : nV (a ++ b) = nV a ++ nV b := List.map_append ..
theorem nV_len (a : List Nat) : (nV a).length = a.length := List.length_map ..
theorem nV_get {a : List Nat} {i : Nat} {d : Nat} (h : a[i]? = some d) : (nV a)[i]? = some (.int (d : Int)) := by unfold nV; rw [List.getElem?_map, h]; rfl
def spCount (K : PySem.W.Frag) : Sp := fun vs H Q _ => ∃ n : Nat, vs = [.int (n : Int)] ∧ n < 128 ^ 60 ∧ ∀ l H', H l = none → Same H H' → H' l = some (.lst (nV (cnt n))) → Q (.ref l) H'
theorem ok_wcount {f : Addr} {fd : FuncData} (F : Fun K "write_count" "write_count" s_write_count f fd) (T : Txt K mg) : FnG P w K mg base CX0 1 f fd P_write_count (spCount K) := by
  refine okG0 F sc_write_count (fun vs H Q E h => ?_) fun cdv A outer s H vs Q E hr hg h => ?_
  · obtain ⟨n, rfl, _⟩ := h
    rfl
  · obtain ⟨n, rfl, hn, k⟩ := h
    refine ⟨_, (pss_cons (ps_set (i := 1) sc_write_count.nd rfl (Or.inl rfl) (pe_lst pa_nil))
  (pss_cons (ps_while PassesOwn.never (pt_up (pt_cmpR op_ge (pv 0) (pe_globI T.c_BASE_coding (by rfl)) (nomark _)))
   (pss_cons (ps_expr (pe_bm PySem.F.plainAttrs_list PySem.F.slot_list_append PySem.F.type_list_append mt_append (pv 1) (pa_cons (pe_op op_add (pe_op op_mod (pv 0) (pe_globI T.c_BASE_coding (by rfl))) (pe_globI T.c_BASE_coding (by rfl))) pa_nil)))
  (pss_one (ps_aug (i := 0) sc_write_count.nd rfl (Or.inl rfl) (pe_globI T.c_BASE_coding (by rfl)) ip_fdiv))))
  (pss_cons (ps_expr (pe_bm PySem.F.plainAttrs_list PySem.F.slot_list_append PySem.F.type_list_append mt_append (pv 1) (pa_cons (pv 0) pa_nil)))
  (pss_one (ps_ret (pv 1)))))), ?_⟩
    refine ⟨sz_0, fun l hl => ?_⟩
    have hlen := cnt_len 59 n hn
    refine while_up (fun σ H1 => ∃ (m : Nat) (acc : List Nat), σ = [some (.int (m : Int)), some (.ref l)] ∧ H1 l = some (.lst (nV acc)) ∧ acc ++ cnt m = cnt n ∧ Same H H1)
      (fun (σ : L2.St) (_ : Hp) => match σ[0]? with | some (some (V.int j)) => j.toNat | _ => 0) ⟨n, [], rfl, upd_same, rfl, Same.new hl⟩ ?_
    rintro σ H1 ⟨m, acc, rfl, e1, ha, S1⟩
    have hal : acc.length + 1 ≤ 60 := by
      have h1 : (acc ++ cnt m).length ≤ 60 := by rw [ha]; exact hlen
      have h2 : 0 < (cnt m).length := List.length_pos_iff.mpr (cnt_ne m)
      rw [List.length_append] at h1; omega
    refine ⟨_, rfl, _, _, rfl, rfl, _, rfl, ?_⟩
    refine ite3 (fun c => ?_) fun c => ?_
    · have c := of_decide_eq_true c
      have c1 : ¬ m < 128 := by omega
      refine ⟨_, rfl, .inl ⟨rfl, _, SqL.of e1⟩, _, rfl, _, _, rfl, rfl, (by show (0 : Int) < 128; decide), _, _, rfl, rfl, l, _, _, rfl, rfl, e1, by rw [nV_len]; exact Nat.lt_of_le_of_lt (show acc.length ≤ 60 by omega) (by decide), ?_⟩
      refine ⟨_, rfl, _, _, rfl, rfl, ⟨by decide, by decide⟩, ⟨m / 128, acc ++ [128 + m % 128], ?_, ?_, ?_, ?_⟩, ?_⟩
      · show [some (V.int ((m : Int) / 128)), some (V.ref l)] = _
        rw [show (m : Int) / 128 = ((m / 128 : Nat) : Int) by omega]
      · rw [upd_same, nV_app]
        show some (HO.lst (nV acc ++ [V.int ((m : Int) % 128 + 128)])) = some (HO.lst (nV acc ++ [V.int ((128 + m % 128 : Nat) : Int)]))
        rw [show (m : Int) % 128 + 128 = ((128 + m % 128 : Nat) : Int) by omega]
      · rw [List.append_assoc, ← ha, cnt_ge c1]; rfl
      · exact fun b o e => by rw [upd_ne (ne_of_none e hl)]; exact S1 _ _ e
      · show ((m : Int) / 128).toNat < ((m : Int)).toNat
        omega
    · have c := of_decide_eq_false c
      have c1 : m < 128 := by omega
      refine ⟨_, rfl, .inl ⟨rfl, _, SqL.of e1⟩, _, rfl, l, _, _, rfl, rfl, e1, by rw [nV_len]; exact Nat.lt_of_le_of_lt (show acc.length ≤ 60 by omega) (by decide), ?_⟩
      refine ⟨_, rfl, k l _ hl (fun b o e => by rw [upd_ne (ne_of_none e hl)]; exact S1 _ _ e) ?_⟩
      rw [upd_same, ← ha, cnt_lt c1, nV_app]; rfl
end

abbrev s_write_integer : Stmt := top 8
abbrev N_write_integer : List Str := ["i"]
abbrev P_write_integer : List Str := ["i"]
theorem sc_write_integer : FnScope N_write_integer P_write_integer (defScope s_write_integer) := ⟨rfl, rfl, rfl, by decide +kernel, rfl, by decide +kernel, by decide +kernel⟩
abbrev s_write_string : Stmt := top 9
abbrev N_write_string : List Str := ["text", "character"]
abbrev P_write_string : List Str := ["text"]
theorem sc_write_string : FnScope N_write_string P_write_string (defScope s_write_string) := ⟨rfl, rfl, rfl, by decide +kernel, rfl, by decide +kernel, by decide +kernel⟩
abbrev s_write_value : Stmt := top 10
abbrev N_write_value : List Str := ["value", "kind", "numbers", "i"]
abbrev P_write_value : List Str := ["value"]
theorem sc_write_value : FnScope N_write_value P_write_value (defScope s_write_value) := ⟨rfl, rfl, rfl, by decide +kernel, rfl, by decide +kernel, by decide +kernel⟩
section
variable {P : Program} {w : World} {K : PySem.W.Frag} {mg : Str → Option Value} {base : Heap}
def zig (i : Int) : Nat := if 0 ≤ i then (2 * i).toNat else (-2 * i - 1).toNat
theorem zig_pos {i : Int} (h : 0 ≤ i) : 2 * i = ((zig i : Nat) : Int) := by unfold zig; rw [if_pos h]; omega
theorem zig_neg {i : Int} (h : ¬ 0 ≤ i) : -2 * i - 1 = ((zig i : Nat) : Int) := by unfold zig; rw [if_neg h]; omega
theorem zig_inj {i j : Int} (h : zig i = zig j) : i = j := by unfold zig at h; split at h <;> split at h <;> omega
theorem zig_lt {i : Int} {k : Nat} (h : i.natAbs ≤ 2 ^ k) : zig i ≤ 2 ^ (k + 1) := by
  unfold zig; rw [Nat.pow_succ]; split <;> omega
theorem big (i : Int) (h : i.natAbs ≤ 2 ^ 258) : zig i < 128 ^ 60 := Nat.lt_of_le_of_lt (zig_lt h) (by decide +kernel)
def spWInt (K : PySem.W.Frag) : Sp := fun vs H Q _ => ∃ i : Int, vs = [.int i] ∧ i.natAbs ≤ 2 ^ 258 ∧ ∀ l H', H l = none → Same H H' → H' l = some (.lst (nV (cnt (zig i)))) → Q (.ref l) H'
theorem ok_wint {f : Addr} {fd : FuncData} (F : Fun K "write_integer" "write_integer" s_write_integer f fd) (T : Txt K mg) (U_write_count : Use P w K mg base CX0 "write_count" 1 P_write_count (spCount K)) : FnG P w K mg base CX0 2 f fd P_write_integer (spWInt K) := by
  refine okG0 F sc_write_integer (fun vs H Q E h => ?_) fun cdv A outer s H vs Q E hr hg h => ?_
  · obtain ⟨i, rfl, _⟩ := h
    rfl
  · obtain ⟨i, rfl, hi, k⟩ := h
    refine ⟨_, (pss_cons (ps_if (pt_cmpR op_ge (pv 0) pe_int (nomark _))
   (pss_one (ps_ret (pe_use U_write_count (hr.mono (by decide)) hg rfl (pa_cons (pe_op op_mul pe_int (pv 0)) pa_nil))))
   pss_nil)
  (pss_one (ps_ret (pe_use U_write_count (hr.mono (by decide)) hg rfl (pa_cons (pe_op op_sub (pe_op op_mul (pe_un un_neg pe_int) (pv 0)) pe_int) pa_nil))))), ?_⟩
    refine ⟨_, rfl, _, _, rfl, rfl, _, rfl, ?_⟩
    refine ite3 (fun c => ?_) fun c => ?_
    · have c := of_decide_eq_true c
      exact ⟨_, rfl, _, _, rfl, rfl, .inl ⟨by decide, by decide⟩, zig i, congrArg (fun z => [V.int z]) (zig_pos c), big i hi, k⟩
    · have c := of_decide_eq_false c
      exact ⟨_, rfl, _, rfl, _, _, rfl, rfl, .inl ⟨by decide, by decide⟩, _, _, rfl, rfl, zig i, congrArg (fun z => [V.int z]) (zig_neg c), big i hi, k⟩
def strN (js : List Nat) : List Nat := cnt js.length ++ js
def spWStr (K : PySem.W.Frag) : Sp := fun vs H Q _ => ∃ js : List Nat, vs = [.str (tx js)] ∧ js.length ≤ 100000 ∧ (∀ j ∈ js, j < 95) ∧ ∀ l H', H l = none → Same H H' → H' l = some (.lst (nV (strN js))) → Q (.ref l) H'
theorem ok_wstr {f : Addr} {fd : FuncData} (F : Fun K "write_string" "write_string" s_write_string f fd) (T : Txt K mg) (U_write_count : Use P w K mg base CX0 "write_count" 1 P_write_count (spCount K)) : FnG P w K mg base CX0 2 f fd P_write_string (spWStr K) := by
  refine okG0 F sc_write_string (fun vs H Q E h => ?_) fun cdv A outer s H vs Q E hr hg h => ?_
  · obtain ⟨js, rfl, _⟩ := h
    rfl
  · obtain ⟨js, rfl, hl, hj, k⟩ := h
    refine ⟨_, (pss_one (ps_ret (pe_op op_cat (pe_use U_write_count (hr.mono (by decide)) hg rfl (pa_cons (pe_callB call_len (by rfl) T.b_len PySem.boot_len (pa_cons (pv 0) pa_nil)) pa_nil)) (pe_lc (own := [("character", 1)]) (g := (gName 1)) rfl sc_write_string.nd (pi_str (pv 0)) (blkOk_by (N := N_write_string) (sc := defScope s_write_string) (by decide +kernel)) (fun _ _ _ _ _ => (pg_name (i := 1) sc_write_string.nd rfl (Or.inl rfl))) (fun _ _ _ _ _ => pts_nil) (fun _ _ _ _ _ => (pe_bmK (K := K) rfl PySem.F.plainAttrs_str PySem.F.slot_str_index PySem.F.type_str_index mt_sindex (pe_globS T.c_CHARACTERS (by rfl)) (pa_cons (pv 1) pa_nil))))))), ?_⟩
    have hln : (tx js).length ≤ sizeLine := by rw [tx_len]; exact Nat.le_trans hl (by decide)
    refine ⟨_, rfl, _, (tx js).length, rfl, ⟨hln, rfl⟩, js.length, by rw [tx_len], Nat.lt_of_le_of_lt hl (by decide +kernel), fun l1 H1 nl1 S1 e1 => ?_⟩
    refine ⟨_, rfl, tx js, rfl, fun D hD => ?_⟩
    have nD : l1 ≠ D := fun e => (by subst e; rw [hD] at e1; cases e1)
    have hsz : (tx js).cps.size = js.length := by rw [← tx_len js]; rfl
    refine lc_it walk_str (fun i H' => H' D = some (.lst (nV (js.take i))) ∧ Same H1 H') ⟨upd_same, Same.new hD⟩ (fun _ _ _ _ => trivial) ?_ ?_
    · rintro i x H5 H6 hi ⟨e5, S5⟩ ⟨rfl, c, hc, rfl⟩
      have hi2 : i < js.length := by rw [← hsz]; exact hi
      have hjs : js[i]? = some js[i] := List.getElem?_eq_getElem hi2
      have hj95 := hj _ (List.getElem_mem hi2)
      generalize js[i] = j at hjs hj95
      have hcc : c = ch j := by
        have : (js.map ch).toArray[i]? = some c := hc
        rw [List.getElem?_toArray, List.getElem?_map, hjs] at this
        exact (Option.some.inj this).symm
      subst hcc
      obtain ⟨rest, ho⟩ := occ_at hj95
      refine ⟨rfl, tYes_of ?_⟩
      refine ⟨rfl, _, rfl, chStr, _, j, rest, rfl, rfl, ho, _, e5, ?_, ?_, fun b o e => by rw [upd_ne (ne_of_none e hD)]; exact S5 _ _ e⟩
      · rw [nV_len, List.length_take]; exact Nat.lt_of_le_of_lt (Nat.le_trans (Nat.min_le_right _ _) hl) (by decide)
      · rw [upd_same, List.take_succ, hjs, nV_app]; rfl
    · rintro H5 ⟨e5, S5⟩
      rw [hsz, List.take_length] at e5
      refine ⟨l1, D, _, _, rfl, rfl, S5 _ _ e1, e5, ?_, fun l hl2 => ?_⟩
      · rw [nV_len, nV_len]
        have := cnt_len 59 js.length (Nat.lt_of_le_of_lt hl (by decide +kernel))
        exact Nat.le_trans (show _ ≤ 100060 by omega) (by decide)
      · exact k l _ (Same.free (S1.trans S5) hl2) ((S1.trans S5).trans (Same.new hl2)) (by rw [upd_same, strN, nV_app])
/-- values as they are written -/
inductive Val where
  | none | bool (b : Bool) | int (i : Int) | text (js : List Nat) | span (a b : Int) | built (js : List Nat) | host (js : List Nat) | ref (n : Nat)
def valD : Val → PyData
  | .none => .tuple [.str "none"]
  | .bool b => .tuple [.str "bool", .bool b]
  | .int i => .tuple [.str "int", .int i]
  | .text js => .tuple [.str "text", .str (tx js)]
  | .span a b => .tuple [.str "span", .int a, .int b]
  | .built js => .tuple [.str "built", .str (tx js)]
  | .host js => .tuple [.str "host", .str (tx js)]
  | .ref n => .tuple [.str "ref", .int (n : Int)]
def enc : Val → List Nat
  | .none => [0]
  | .bool b => [if b then 2 else 1]
  | .int i => 3 :: cnt (zig i)
  | .text js => 4 :: strN js
  | .span a b => 5 :: (cnt (zig a) ++ cnt (zig b))
  | .built js => 6 :: strN js
  | .host js => 7 :: strN js
  | .ref n => 8 :: cnt n
def vnum : List (Str × V) := [("none", V.int 0), ("int", V.int 3), ("text", V.int 4), ("span", V.int 5), ("built", V.int 6), ("host", V.int 7), ("ref", V.int 8)]
structure TxOk (js : List Nat) : Prop where
  len : js.length ≤ 100000
  lt : ∀ j ∈ js, j < 95
def ValOk : Val → Prop
  | .int i => i.natAbs ≤ 2 ^ 258
  | .text js => TxOk js
  | .span a b => a.natAbs ≤ 2 ^ 258 ∧ b.natAbs ≤ 2 ^ 258
  | .built js => TxOk js
  | .host js => TxOk js
  | .ref n => n ≤ 2 ^ 100
  | _ => True
def spWVal (K : PySem.W.Frag) : Sp := fun vs H Q _ => ∃ (v : V) (x : Val), vs = [v] ∧ Dt K H v (valD x) ∧ ValOk x ∧ ∀ l H', H l = none → Same H H' → H' l = some (.lst (nV (enc x))) → Q (.ref l) H'
theorem ok_wvalue {f : Addr} {fd : FuncData} (F : Fun K "write_value" "write_value" s_write_value f fd) (T : Txt K mg) (U_VALUE_NUMBERS : UseD P w K mg "VALUE_NUMBERS" (valKV vnum)) (U_write_string : Use P w K mg base CX0 "write_string" 2 P_write_string (spWStr K)) (U_write_count : Use P w K mg base CX0 "write_count" 1 P_write_count (spCount K)) (U_write_integer : Use P w K mg base CX0 "write_integer" 2 P_write_integer (spWInt K)) :
    FnG P w K mg base CX0 3 f fd P_write_value (spWVal K) := by
  obtain ⟨aD_VALUE_NUMBERS, gD_VALUE_NUMBERS, kD⟩ := U_VALUE_NUMBERS.ex
  refine okG0 F sc_write_value (fun vs H Q E h => ?_) fun cdv A outer s H vs Q E hr hg h => ?_
  · obtain ⟨v, x, rfl, _⟩ := h
    rfl
  · obtain ⟨v, x, rfl, dv, ok, k⟩ := h
    refine ⟨_, (pss_cons (ps_set (i := 1) sc_write_value.nd rfl (Or.inl rfl) (pe_ix ix_tup (pv 0) pe_int (fun _ _ => rfl)))
  (pss_cons (ps_if (PW.pt (pw_and (pt_cmpR op_eq (pv 1) pe_str (nomark _)) (pw_and1 (pt_truth (pe_ix ix_tup (pv 0) pe_int (fun _ _ => rfl)) (by intro _; rfl)))))
   (pss_one (ps_ret (pe_lst (pa_cons pe_int pa_nil))))
   pss_nil)
  (pss_cons (ps_if (pt_cmpR op_eq (pv 1) pe_str (nomark _))
   (pss_one (ps_ret (pe_lst (pa_cons pe_int pa_nil))))
   pss_nil)
  (pss_cons (ps_set (i := 2) sc_write_value.nd rfl (Or.inl rfl) (pe_lst (pa_cons (pe_dgetK (pe_glob (v := .ref aD_VALUE_NUMBERS) (by rfl) gD_VALUE_NUMBERS rfl) (pv 1) (fun _ _ => rfl)) pa_nil)))
  (pss_cons (ps_if (pt_cmpR op_in_seq (pv 1) (pe_tup (pa_cons pe_str (pa_cons pe_str (pa_cons pe_str pa_nil)))) (by rfl))
   (pss_one (ps_expr (pe_bm PySem.F.plainAttrs_list PySem.F.slot_list_extend PySem.F.type_list_extend mt_extend (pv 2) (pa_cons (pe_use U_write_string (hr.mono (by decide)) hg rfl (pa_cons (pe_ix ix_tup (pv 0) pe_int (fun _ _ => rfl)) pa_nil)) pa_nil))))
   (pss_one (ps_if (pt_cmpR op_eq (pv 1) pe_str (nomark _))
   (pss_one (ps_expr (pe_bm PySem.F.plainAttrs_list PySem.F.slot_list_extend PySem.F.type_list_extend mt_extend (pv 2) (pa_cons (pe_use U_write_count (hr.mono (by decide)) hg rfl (pa_cons (pe_ix ix_tup (pv 0) pe_int (fun _ _ => rfl)) pa_nil)) pa_nil))))
   (pss_one (ps_for PassesOwn.never rfl (pi_tup (pe_slice sl_tupA (pv 0) (po_some pe_int) po_none)) (pg_name (i := 3) sc_write_value.nd rfl (Or.inl rfl))
   (pss_one (ps_expr (pe_bm PySem.F.plainAttrs_list PySem.F.slot_list_extend PySem.F.type_list_extend mt_extend (pv 2) (pa_cons (pe_use U_write_integer (hr.mono (by decide)) hg rfl (pa_cons (pv 3) pa_nil)) pa_nil)))))))))
  (pss_one (ps_ret (pv 2)))))))), ?_⟩
    -- the list that is filled with one more list
    have ext : ∀ {H1 : Hp} {nl l : Addr} {a b : List Nat} {R : Hp → Prop}, H1 nl = some (.lst (nV a)) → H1 l = some (.lst (nV b)) → a.length + b.length ≤ 200200 → (∀ H2, H2 nl = some (.lst (nV (a ++ b))) → (∀ q o, H1 q = some o → q ≠ nl → H2 q = some o) → R H2) →
        rExtend (.ref nl) [.ref l] H1 (fun _ H2 => R H2) := fun e1 e2 hl kk => ⟨_, _, _, _, rfl, rfl, e1, e2, by rw [nV_len, nV_len]; exact Nat.le_trans hl (by decide), kk _ (by rw [upd_same, nV_app]) fun q o e hq => by rw [upd_ne hq]; exact e⟩
    have c60 : ∀ n, n < 128 ^ 60 → (cnt n).length ≤ 60 := fun n h => cnt_len 59 n h
    have s60 : ∀ js, TxOk js → (strN js).length ≤ 100060 := fun js h => by
      have := c60 js.length (Nat.lt_of_le_of_lt h.len (by decide +kernel))
      have := h.len
      rw [strN, List.length_append]; omega
    have dct : ∀ (z : Str) (n : Nat), valV (valKV vnum) (Sum.inr z) = some (V.int (n : Int)) → z ≠ "bool" → (decide (V.str z = V.str "bool")) = false := fun z n _ h => decide_eq_false fun e => h (V.str.inj e)
    have grp : (∃ b, x = .bool b) ∨ (∃ (z : Str) (num : Nat) (js : List Nat), valD x = .tuple [.str z, .str (tx js)] ∧ enc x = num :: strN js ∧ TxOk js ∧ z ≠ "bool" ∧ valV (valKV vnum) (Sum.inr z) = some (V.int (num : Int)) ∧ inV (.str z) [.str "text", .str "built", .str "host"] = true) ∨
        (∃ (z : Str) (num : Nat) (is : List Int), valD x = .tuple (.str z :: is.map PyData.int) ∧ enc x = num :: is.flatMap (fun i => cnt (zig i)) ∧ (∀ i ∈ is, i.natAbs ≤ 2 ^ 258) ∧ is.length ≤ 2 ∧ z ≠ "bool" ∧ z ≠ "ref" ∧ valV (valKV vnum) (Sum.inr z) = some (V.int (num : Int)) ∧ inV (.str z) [.str "text", .str "built", .str "host"] = false) ∨ (∃ n, x = .ref n) := by
      cases x with
      | none => exact .inr (.inr (.inl ⟨"none", 0, [], rfl, rfl, by simp, by simp, by decide +kernel, by decide +kernel, by decide +kernel, by decide +kernel⟩))
      | bool b => exact .inl ⟨b, rfl⟩
      | int i => exact .inr (.inr (.inl ⟨"int", 3, [i], rfl, by simp [enc], (by intro j hj; rw [List.mem_singleton.mp hj]; exact ok), by simp, by decide +kernel, by decide +kernel, by decide +kernel, by decide +kernel⟩))
      | text js => exact .inr (.inl ⟨"text", 4, js, rfl, rfl, ok, by decide +kernel, by decide +kernel, by decide +kernel⟩)
      | span a b => exact .inr (.inr (.inl ⟨"span", 5, [a, b], rfl, by simp [enc], (by
        intro j hj
        rcases List.mem_cons.mp hj with rfl | hj
        · exact ok.1
        · rw [List.mem_singleton.mp hj]; exact ok.2), by simp, by decide +kernel, by decide +kernel, by decide +kernel, by decide +kernel⟩))
      | built js => exact .inr (.inl ⟨"built", 6, js, rfl, rfl, ok, by decide +kernel, by decide +kernel, by decide +kernel⟩)
      | host js => exact .inr (.inl ⟨"host", 7, js, rfl, rfl, ok, by decide +kernel, by decide +kernel, by decide +kernel⟩)
      | ref n => exact .inr (.inr (.inr ⟨n, rfl⟩))
    rcases grp with ⟨b, rfl⟩ | ⟨z, num, js, hv, he, hj, hb, hd, hi⟩ | ⟨z, num, is, hv, he, hj, hl, hb, hrf, hd, hi⟩ | ⟨n, rfl⟩
    · obtain ⟨q, y, rfl, hq, dy⟩ := Dt.pair (z := "bool") dv
      cases dy.bool_inv
      refine ⟨_, rfl, q, _, _, _, rfl, rfl, hq, at0, ?_⟩
      refine ⟨_, rfl, rfl, _, rfl, iteTb (by decide +kernel) ?_⟩
      cases b with
      | true =>
        refine ⟨_, rfl, q, _, _, _, rfl, rfl, hq, at1, true, rfl, iteTb rfl ?_⟩
        exact ⟨sz_1, fun l hl => k l _ hl (Same.new hl) upd_same⟩
      | false =>
        refine ⟨_, rfl, q, _, _, _, rfl, rfl, hq, at1, false, rfl, iteFb rfl ?_⟩
        refine ⟨_, rfl, rfl, _, rfl, iteTb (by decide +kernel) ?_⟩
        exact ⟨sz_1, fun l hl => k l _ hl (Same.new hl) upd_same⟩
    · rw [hv] at dv
      rw [he] at k
      obtain ⟨q, y, rfl, hq, dy⟩ := Dt.pair dv
      cases dy.str_inv
      refine ⟨_, rfl, q, _, _, _, rfl, rfl, hq, at0, ?_⟩
      refine ⟨_, rfl, rfl, _, rfl, iteFb (dct z num hd hb) (iteFb rfl ?_)⟩
      refine ⟨_, rfl, rfl, _, rfl, iteFb (dct z num hd hb) ?_⟩
      refine ⟨_, rfl, aD_VALUE_NUMBERS, _, Sum.inr z, _, rfl, kD, rfl, hd, sz_1, fun nl hnl => ?_⟩
      have S1 := Same.new (o := .lst (nV [num])) hnl
      have e1 := upd_same (H := H) (a := nl) (o := HO.lst (nV [num]))
      have hq1 := SqT.mono hq S1
      refine ⟨_, rfl, sz_3, fun t ht => ⟨t, _, rfl, .inr (SqT.of upd_same), rfl, rfl, _, rfl, iteTb hi ?_⟩⟩
      have S2 := Same.new (o := .tup [.str "text", .str "built", .str "host"]) ht
      refine ⟨_, rfl, .inl ⟨rfl, _, SqL.of (S2 _ _ e1)⟩, _, rfl, q, _, _, _, rfl, rfl, SqT.mono hq1 S2, at1, js, rfl, hj.len, hj.lt, fun l H3 nlH S3 e3 => ?_⟩
      refine ext (S3 _ _ (S2 _ _ e1)) e3 (by have := s60 js hj; simp; omega) fun H4 e4 kp => ?_
      refine ⟨_, rfl, k nl H4 hnl (fun b o e => kp _ _ (S3 _ _ (S2 _ _ (S1 _ _ e))) (ne_of_none e hnl)) e4⟩
    · rw [hv] at dv
      rw [he] at k
      obtain ⟨q, ws, rfl, hq, aw⟩ := dv.head
      have ew : ws = is.map V.int := dtAll_int aw
      subst ew
      refine ⟨_, rfl, q, _, _, _, rfl, rfl, hq, at0, ?_⟩
      refine ⟨_, rfl, rfl, _, rfl, iteFb (dct z num hd hb) (iteFb rfl ?_)⟩
      refine ⟨_, rfl, rfl, _, rfl, iteFb (dct z num hd hb) ?_⟩
      refine ⟨_, rfl, aD_VALUE_NUMBERS, _, Sum.inr z, _, rfl, kD, rfl, hd, sz_1, fun nl hnl => ?_⟩
      have S1 := Same.new (o := .lst (nV [num])) hnl
      have e1 := upd_same (H := H) (a := nl) (o := HO.lst (nV [num]))
      have hq1 := SqT.mono hq S1
      refine ⟨_, rfl, sz_3, fun t ht => ⟨t, _, rfl, .inr (SqT.of upd_same), rfl, rfl, _, rfl, iteFb hi ?_⟩⟩
      have S2 := Same.new (o := .tup [.str "text", .str "built", .str "host"]) ht
      refine ⟨_, rfl, rfl, _, rfl, iteFb (decide_eq_false fun e => hrf (V.str.inj e)) ?_⟩
      refine ⟨_, rfl, _, rfl, q, _, rfl, SqT.mono hq1 S2, fun hw => ?_, fun _ p hp => ?_⟩
      · exfalso
        have h1 := hw.1
        rw [show (some (1 : Int)) = some ((1 : Nat) : Int) from rfl, HT.sIx_nat] at h1
        simp at h1
      · rw [cut_one] at *
        have S3 := Same.new (o := .tup (is.map V.int)) hp
        refine ⟨p, rfl, ⟨_, SqT.of upd_same⟩, ?_⟩
        refine for_tup (xs := is.map V.int) (fun i σ H5 => ∃ x3, σ = [some (.ref q), some (.str z), some (.ref nl), x3] ∧ H5 p = some (.tup (is.map V.int)) ∧ H5 nl = some (.lst (nV (num :: (is.take i).flatMap (fun i => cnt (zig i))))) ∧ Same H H5)
          ⟨none, rfl, upd_same, S3 _ _ (S2 _ _ e1), (S1.trans S2).trans S3⟩ ?_ ?_ ?_
        · rintro i σ H5 _ ⟨x3, rfl, e5, _, _⟩
          exact SqT.of e5
        · rintro i y σ H5 hy ⟨x3, rfl, e5, e6, S5⟩
          rw [List.getElem?_map] at hy
          obtain ⟨m, hm, rfl⟩ := Option.map_eq_some_iff.mp hy
          have hmb := hj m (List.mem_of_getElem? hm)
          have hi2 : i < 2 := by have := (List.getElem?_eq_some_iff.mp hm).1; omega
          have hpn : p ≠ nl := (ne_of e6 e5 (by intro z; cases z)).symm
          have hlen : (num :: (is.take i).flatMap (fun i => cnt (zig i))).length ≤ 61 := by
            match i, hi2 with
            | 0, _ => simp
            | 1, _ =>
              cases is with
              | nil => simp
              | cons a r =>
                have := c60 (zig a) (big a (hj a (by simp)))
                simp; omega
          refine ⟨_, rfl, .inl ⟨rfl, _, SqL.of e6⟩, _, rfl, m, rfl, hmb, fun l H6 _ S6 e7 => ?_⟩
          refine ext (S6 _ _ e6) e7 (by have := c60 (zig m) (big m hmb); omega) fun H7 e8 kp => ⟨some (.int m), rfl, kp _ _ (S6 _ _ e5) hpn, ?_, fun b o e => kp _ _ (S6 _ _ (S5 _ _ e)) (ne_of_none e hnl)⟩
          rw [e8, List.take_succ, hm, List.flatMap_append]; simp
        · rintro σ H5 ⟨x3, rfl, e5, e6, S5⟩
          rw [show (is.map V.int).length = is.length by simp, List.take_length] at e6
          exact ⟨_, rfl, k nl H5 hnl S5 e6⟩
    · obtain ⟨q, y, rfl, hq, dy⟩ := Dt.pair (z := "ref") dv
      cases dy.int_inv
      have ok : n ≤ 2 ^ 100 := ok
      refine ⟨_, rfl, q, _, _, _, rfl, rfl, hq, at0, ?_⟩
      refine ⟨_, rfl, rfl, _, rfl, iteFb (by decide +kernel) (iteFb rfl ?_)⟩
      refine ⟨_, rfl, rfl, _, rfl, iteFb (by decide +kernel) ?_⟩
      refine ⟨_, rfl, aD_VALUE_NUMBERS, _, Sum.inr "ref", V.int 8, rfl, kD, rfl, by decide +kernel, sz_1, fun nl hnl => ?_⟩
      have S1 := Same.new (o := .lst (nV [8])) hnl
      have e1 := upd_same (H := H) (a := nl) (o := HO.lst (nV [8]))
      have hq1 := SqT.mono hq S1
      refine ⟨_, rfl, sz_3, fun t ht => ⟨t, _, rfl, .inr (SqT.of upd_same), rfl, rfl, _, rfl, iteFb (by decide +kernel) ?_⟩⟩
      have S2 := Same.new (o := .tup [.str "text", .str "built", .str "host"]) ht
      refine ⟨_, rfl, rfl, _, rfl, iteTb (by decide +kernel) ?_⟩
      have hn60 : n < 128 ^ 60 := Nat.lt_of_le_of_lt ok (by decide +kernel)
      refine ⟨_, rfl, .inl ⟨rfl, _, SqL.of (S2 _ _ e1)⟩, _, rfl, q, _, _, _, rfl, rfl, SqT.mono hq1 S2, at1, n, rfl, hn60, fun l H3 nlH S3 e3 => ?_⟩
      refine ext (S3 _ _ (S2 _ _ e1)) e3 (by have := c60 n hn60; simp; omega) fun H4 e4 kp => ?_
      refine ⟨_, rfl, k nl H4 hnl (fun b o e => kp _ _ (S3 _ _ (S2 _ _ (S1 _ _ e))) (ne_of_none e hnl)) e4⟩
end

abbrev s_law_signs : Stmt := top 33
abbrev N_law_signs : List Str := ["signs"]
abbrev P_law_signs : List Str := []
theorem sc_law_signs : FnScope N_law_signs P_law_signs (defScope s_law_signs) := ⟨rfl, rfl, rfl, by decide +kernel, rfl, by decide +kernel, by decide +kernel⟩
abbrev s_law_text : Stmt := top 34
abbrev N_law_text : List Str := ["box", "up", "signs", "size", "k"]
abbrev P_law_text : List Str := ["box", "up"]
theorem sc_law_text : FnScope N_law_text P_law_text (defScope s_law_text) := ⟨rfl, rfl, rfl, by decide +kernel, rfl, by decide +kernel, by decide +kernel⟩
abbrev s_law_name : Stmt := top 35
abbrev N_law_name : List Str := ["box", "letters", "size", "k"]
abbrev P_law_name : List Str := ["box"]
theorem sc_law_name : FnScope N_law_name P_law_name (defScope s_law_name) := ⟨rfl, rfl, rfl, by decide +kernel, rfl, by decide +kernel, by decide +kernel⟩
abbrev s_law_number : Stmt := top 36
abbrev N_law_number : List Str := ["box", "bound", "kind", "number", "k"]
abbrev P_law_number : List Str := ["box"]
theorem sc_law_number : FnScope N_law_number P_law_number (defScope s_law_number) := ⟨rfl, rfl, rfl, by decide +kernel, rfl, by decide +kernel, by decide +kernel⟩
abbrev s_law_value : Stmt := top 37
abbrev N_law_value : List Str := ["box", "many", "kind", "low"]
abbrev P_law_value : List Str := ["box", "many"]
theorem sc_law_value : FnScope N_law_value P_law_value (defScope s_law_value) := ⟨rfl, rfl, rfl, by decide +kernel, rfl, by decide +kernel, by decide +kernel⟩
section
variable {P : Program} {w : World} {K : PySem.W.Frag} {mg : Str → Option Value} {base : Heap}
def spSigns (K : PySem.W.Frag) : Sp := fun vs H Q _ => vs = [] ∧ Q (.str chStr) H
theorem ok_signs {f : Addr} {fd : FuncData} (F : Fun K "_law_signs" "_law_signs" s_law_signs f fd) (T : Txt K mg) : FnG P w K mg base CX0 1 f fd P_law_signs (spSigns K) := by
  refine okG0 F sc_law_signs (fun vs H Q E h => ?_) fun cdv A outer s H vs Q E hr hg h => ?_
  · obtain ⟨rfl, _⟩ := h
    rfl
  · obtain ⟨rfl, k⟩ := h
    refine ⟨_, (pss_cons (ps_set (i := 0) sc_law_signs.nd rfl (Or.inl rfl) pe_str)
  (pss_one (ps_ret (pe_op op_add_str (pv 0) pe_str)))), ?_⟩
    refine ⟨_, rfl, _, _, rfl, rfl, by decide +kernel, ?_⟩
    exact k
theorem chars_of : ∀ {cs : List Nat}, (∀ c ∈ cs, ∃ j < 95, ch j = c) → ∃ js : List Nat, cs = js.map ch ∧ js.length = cs.length ∧ ∀ j ∈ js, j < 95
  | [], _ => ⟨[], rfl, rfl, by simp⟩
  | c :: r, h => by
    obtain ⟨j, hj, e⟩ := h c (by simp)
    obtain ⟨js, e1, e2, e3⟩ := chars_of (cs := r) fun d hd => h d (List.mem_cons_of_mem _ hd)
    exact ⟨j :: js, by rw [List.map_cons, e, e1], by simp [e2], fun x hx => by
      rcases List.mem_cons.mp hx with rfl | hx
      · exact hj
      · exact e3 x hx⟩
def chV (cs : List Nat) : List V := (cs.map fun c => (⟨#[c]⟩ : Str)).map V.str
theorem chV_app (a b : List Nat) : chV (a ++ b) = chV a ++ chV b := by unfold chV; rw [List.map_append, List.map_append]
theorem chV_len (a : List Nat) : (chV a).length = a.length := by unfold chV; simp
theorem one_len : ∀ cs : List Nat, ((cs.map fun c => (⟨#[c]⟩ : Str)).map (·.length)).sum = cs.length
  | [] => rfl
  | c :: r => by rw [List.map_cons, List.map_cons, List.sum_cons, one_len r]; simp [Str.length]; omega
def spText (K : PySem.W.Frag) : Sp := fun vs H Q _ => ∃ (p dl : Addr) (up : Nat), vs = [.ref p, .int (up : Int)] ∧ BoxAt H p dl ∧ up ≤ 1000 ∧ ∀ (js : List Nat) H', js.length ≤ up → (∀ j ∈ js, j < 95) → BoxAt H' p dl → Keep p H H' → Q (.str (tx js)) H'
theorem ok_text {f : Addr} {fd : FuncData} (F : Fun K "_law_text" "_law_text" s_law_text f fd) (T : Txt K mg) (U_law_signs : Use P w K mg base CX0 "_law_signs" 1 P_law_signs (spSigns K)) (U_law_draw : Use P w K mg base CX0 "_law_draw" 1 P_law_draw (spDraw K)) : FnG P w K mg base CX0 2 f fd P_law_text (spText K) := by
  refine okG0 F sc_law_text (fun vs H Q E h => ?_) fun cdv A outer s H vs Q E hr hg h => ?_
  · obtain ⟨p, dl, up, rfl, _⟩ := h
    rfl
  · obtain ⟨p, dl, up, rfl, B, hup, k⟩ := h
    refine ⟨_, (pss_cons (ps_set (i := 2) sc_law_text.nd rfl (Or.inr rfl) (pe_use0 U_law_signs (hr.mono (by decide)) hg rfl))
  (pss_cons (ps_set (i := 3) sc_law_text.nd rfl (Or.inl rfl) (pe_use U_law_draw (hr.mono (by decide)) hg rfl (pa_cons (pv 0) (pa_cons (pe_op op_add (pv 1) pe_int) pa_nil))))
  (pss_one (ps_ret (pe_bm PySem.F.plainAttrs_str PySem.F.slot_str_join PySem.F.type_str_join mt_join pe_str (pa_cons (pe_lc (own := [("k", 4)]) (g := (gName 4)) rfl sc_law_text.nd (pi_range1 (by rfl) T.b_range (pa_cons (pv 3) pa_nil)) (blkOk_by (N := N_law_text) (sc := defScope s_law_text) (by decide +kernel)) (fun _ _ _ _ _ => (pg_name (i := 4) sc_law_text.nd rfl (Or.inl rfl))) (fun _ _ _ _ _ => pts_nil) (fun _ _ _ _ _ => (pe_ix ix_str (pv 2) (pe_use U_law_draw (hr.mono (by decide)) hg rfl (pa_cons (pv 0) (pa_cons pe_int pa_nil))) (fun _ _ => rfl)))) pa_nil)))))), ?_⟩
    refine ⟨rfl, ?_⟩
    refine ⟨_, rfl, _, rfl, _, _, rfl, rfl, p, dl, (up : Int) + 1, rfl, B, by omega, fun r H1 r0 r1 B1 K1 => ?_⟩
    obtain ⟨n, rfl⟩ := Int.eq_ofNat_of_zero_le r0
    refine ⟨rfl, _, rfl, n, rfl, by omega, by omega, fun D hD => ?_⟩
    rw [Int.toNat_natCast]
    obtain ⟨hDp, hDd⟩ := B1.ne_new hD
    refine lc_it (walk_range (lo := 0) (n := n)) (fun i H' => ∃ cs : List Nat, H' D = some (.lst (chV cs)) ∧ cs.length = i ∧ (∀ c ∈ cs, ∃ j < 95, ch j = c) ∧ BoxAt H' p dl ∧ Keep p H1 H') ⟨[], upd_same, rfl, by simp, B1.same (Same.new hD), Same.keep (Same.new hD)⟩ (fun _ _ _ _ => trivial) ?_ ?_
    · rintro i x H5 H6 hi ⟨cs, e5, hl5, hc5, B5, K5⟩ ⟨rfl, rfl⟩
      refine ⟨rfl, tYes_of ?_⟩
      refine ⟨_, rfl, _, rfl, p, dl, 95, rfl, B5, by decide, fun r H7 q0 q1 B7 K7 => ?_⟩
      obtain ⟨j, rfl⟩ := Int.eq_ofNat_of_zero_le q0
      have e7 := K7 _ _ e5 hDp
      refine ⟨chStr, (j : Int), ch j, rfl, rfl, by decide +kernel, atI_nat (ch_at (by omega)), chV cs, e7, ?_, cs ++ [ch j], ?_, by simp [hl5], fun c hc => ?_, B7.upd hDp hDd, fun b o e hb => ?_⟩
      · rw [chV_len]; exact Nat.lt_of_le_of_lt (show cs.length ≤ 1000 by omega) (by decide)
      · rw [upd_same, chV_app]; rfl
      · rcases List.mem_append.mp hc with hc | hc
        · exact hc5 c hc
        · exact ⟨j, by omega, (List.mem_singleton.mp hc).symm⟩
      · rw [upd_ne (ne_of_none e hD)]; exact K7 _ _ (K5 _ _ e hb) hb
    · rintro H5 ⟨cs, e5, hl5, hc5, B5, K5⟩
      obtain ⟨js, rfl, h1, h2⟩ := chars_of hc5
      rw [List.length_map] at hl5
      refine ⟨_, D, _, rfl, rfl, .inl (SqL.of e5), ?_, ?_⟩
      · rw [one_len, List.length_map, List.length_map, show ("" : Str).length = 0 by decide +kernel]; omega
      · rw [join_chars]
        exact k js H5 (by omega) h2 B5 (K1.trans K5)
def nmC : List Nat := ("abcdefghijklmnopqrstuvwxyz_" : Str).cps.toList
def spName (K : PySem.W.Frag) : Sp := fun vs H Q _ => ∃ (p dl : Addr), vs = [.ref p] ∧ BoxAt H p dl ∧ ∀ (js : List Nat) H', js.length ≤ 5 → (∀ j ∈ js, j < 95) → BoxAt H' p dl → Keep p H H' → Q (.str (tx js)) H'
theorem ok_name {f : Addr} {fd : FuncData} (F : Fun K "_law_name" "_law_name" s_law_name f fd) (T : Txt K mg) (U_law_draw : Use P w K mg base CX0 "_law_draw" 1 P_law_draw (spDraw K)) : FnG P w K mg base CX0 2 f fd P_law_name (spName K) := by
  refine okG0 F sc_law_name (fun vs H Q E h => ?_) fun cdv A outer s H vs Q E hr hg h => ?_
  · obtain ⟨p, dl, rfl, _⟩ := h
    rfl
  · obtain ⟨p, dl, rfl, B, k⟩ := h
    refine ⟨_, (pss_cons (ps_set (i := 1) sc_law_name.nd rfl (Or.inr rfl) pe_str)
  (pss_cons (ps_set (i := 2) sc_law_name.nd rfl (Or.inl rfl) (pe_op op_add pe_int (pe_use U_law_draw (hr.mono (by decide)) hg rfl (pa_cons (pv 0) (pa_cons pe_int pa_nil)))))
  (pss_one (ps_ret (pe_bm PySem.F.plainAttrs_str PySem.F.slot_str_join PySem.F.type_str_join mt_join pe_str (pa_cons (pe_lc (own := [("k", 3)]) (g := (gName 3)) rfl sc_law_name.nd (pi_range1 (by rfl) T.b_range (pa_cons (pv 2) pa_nil)) (blkOk_by (N := N_law_name) (sc := defScope s_law_name) (by decide +kernel)) (fun _ _ _ _ _ => (pg_name (i := 3) sc_law_name.nd rfl (Or.inl rfl))) (fun _ _ _ _ _ => pts_nil) (fun _ _ _ _ _ => (pe_ix ix_str (pv 1) (pe_use U_law_draw (hr.mono (by decide)) hg rfl (pa_cons (pv 0) (pa_cons pe_int pa_nil))) (fun _ _ => rfl)))) pa_nil)))))), ?_⟩
    have hS : ("abcdefghijklmnopqrstuvwxyz_" : Str) = S nmC := by decide +kernel
    have hL : nmC.length = 27 := by decide +kernel
    have hl0 : ("abcdefghijklmnopqrstuvwxyz_" : Str).length ≤ sizeLine := by decide +kernel
    have hin : ∀ c ∈ nmC, ∃ j < 95, ch j = c := by decide +kernel
    refine ⟨_, rfl, p, dl, 5, rfl, B, by decide, fun r H1 r0 r1 B1 K1 => ⟨_, _, rfl, rfl, ?_⟩⟩
    obtain ⟨n, hn⟩ : ∃ n : Nat, 1 + r = (n : Int) := ⟨(1 + r).toNat, by omega⟩
    refine ⟨rfl, _, rfl, n, congrArg (fun z => [V.int z]) hn, by omega, by omega, fun D hD => ?_⟩
    rw [Int.toNat_natCast]
    obtain ⟨hDp, hDd⟩ := B1.ne_new hD
    refine lc_it (walk_range (lo := 0) (n := n)) (fun i H' => ∃ cs : List Nat, H' D = some (.lst (chV cs)) ∧ cs.length = i ∧ (∀ c ∈ cs, ∃ j < 95, ch j = c) ∧ BoxAt H' p dl ∧ Keep p H1 H') ⟨[], upd_same, rfl, by simp, B1.same (Same.new hD), Same.keep (Same.new hD)⟩ (fun _ _ _ _ => trivial) ?_ ?_
    · rintro i x H5 H6 hi ⟨cs, e5, hl5, hc5, B5, K5⟩ ⟨rfl, rfl⟩
      refine ⟨rfl, tYes_of ?_⟩
      refine ⟨_, rfl, _, rfl, p, dl, 27, rfl, B5, by decide, fun r H7 q0 q1 B7 K7 => ?_⟩
      obtain ⟨j, rfl⟩ := Int.eq_ofNat_of_zero_le q0
      have e7 := K7 _ _ e5 hDp
      have hc : nmC[j]? = some nmC[j] := List.getElem?_eq_getElem (by omega)
      have hcm := hin _ (List.getElem_mem (show j < nmC.length by omega))
      generalize nmC[j]'(by omega) = c at hc hcm
      refine ⟨S nmC, (j : Int), c, by rw [hS], rfl, by rw [← hS]; exact hl0, at_S hc, chV cs, e7, ?_, cs ++ [c], ?_, by simp [hl5], fun d hd => ?_, B7.upd hDp hDd, fun b o e hb => ?_⟩
      · rw [chV_len]; exact Nat.lt_of_le_of_lt (show cs.length ≤ 1000 by omega) (by decide)
      · rw [upd_same, chV_app]; rfl
      · rcases List.mem_append.mp hd with hd | hd
        · exact hc5 d hd
        · rw [List.mem_singleton.mp hd]; exact hcm
      · rw [upd_ne (ne_of_none e hD)]; exact K7 _ _ (K5 _ _ e hb) hb
    · rintro H5 ⟨cs, e5, hl5, hc5, B5, K5⟩
      obtain ⟨js, rfl, h1, h2⟩ := chars_of hc5
      rw [List.length_map] at hl5
      refine ⟨_, D, _, rfl, rfl, .inl (SqL.of e5), ?_, ?_⟩
      · rw [one_len, List.length_map, List.length_map, show ("" : Str).length = 0 by decide +kernel]; omega
      · rw [join_chars]
        exact k js H5 (by omega) h2 B5 (K1.trans K5)
def bd : Int := (2 ^ (64 : Int).toNat) ^ (4 : Int).toNat
theorem bd_eq : bd = 2 ^ 256 := by decide +kernel
def spNumb (K : PySem.W.Frag) : Sp := fun vs H Q _ => ∃ (p dl : Addr), vs = [.ref p] ∧ BoxAt H p dl ∧ ∀ (n : Int) H', n.natAbs < 2 ^ 256 → BoxAt H' p dl → Keep p H H' → Q (.int n) H'
theorem ok_number {f : Addr} {fd : FuncData} (F : Fun K "_law_number" "_law_number" s_law_number f fd) (T : Txt K mg) (U_law_draw : Use P w K mg base CX0 "_law_draw" 1 P_law_draw (spDraw K)) : FnG P w K mg base CX0 2 f fd P_law_number (spNumb K) := by
  refine okG0 F sc_law_number (fun vs H Q E h => ?_) fun cdv A outer s H vs Q E hr hg h => ?_
  · obtain ⟨p, dl, rfl, _⟩ := h
    rfl
  · obtain ⟨p, dl, rfl, B, k⟩ := h
    refine ⟨_, (pss_cons (ps_set (i := 1) sc_law_number.nd rfl (Or.inl rfl) (pe_op op_powW (pe_op op_pow pe_int pe_int) pe_int))
  (pss_cons (ps_set (i := 2) sc_law_number.nd rfl (Or.inl rfl) (pe_use U_law_draw (hr.mono (by decide)) hg rfl (pa_cons (pv 0) (pa_cons pe_int pa_nil))))
  (pss_cons (ps_set (i := 3) sc_law_number.nd rfl (Or.inl rfl) (pe_use U_law_draw (hr.mono (by decide)) hg rfl (pa_cons (pv 0) (pa_cons pe_int pa_nil))))
  (C8.pss_cut (ps_if (pt_cmpR op_eq (pv 2) pe_int (nomark _))
   (pss_one (ps_set (i := 3) sc_law_number.nd rfl (Or.inl rfl) (pe_op op_sub (pe_op op_sub (pv 1) pe_int) (pv 3))))
   (pss_one (ps_if (pt_cmpR op_eq (pv 2) pe_int (nomark _))
   (pss_one (ps_for PassesOwn.never rfl (pi_range1 (by rfl) T.b_range (pa_cons (pe_use U_law_draw (hr.mono (by decide)) hg rfl (pa_cons (pv 0) (pa_cons pe_int pa_nil))) pa_nil)) (pg_name (i := 4) sc_law_number.nd rfl (Or.inl rfl))
   (pss_one (ps_set (i := 3) sc_law_number.nd rfl (Or.inl rfl) (pe_op op_mod (pe_callTy call_int1 (by rfl) T.b_int (by decide +kernel) (pa_cons (pe_op op_add (pe_op op_mulW (pv 3) pe_int) (pe_use U_law_draw (hr.mono (by decide)) hg rfl (pa_cons (pv 0) (pa_cons pe_int pa_nil)))) pa_nil)) (pv 1))))))
   (pss_one (ps_if (pt_cmpR op_eq (pv 2) pe_int (nomark _))
   (pss_one (ps_set (i := 3) sc_law_number.nd rfl (Or.inl rfl) (pe_ix ix_list (pe_lst (pa_cons pe_int (pa_cons pe_int (pa_cons pe_int (pa_cons pe_int (pa_cons pe_int (pa_cons pe_int (pa_cons pe_int (pa_cons pe_int pa_nil))))))))) (pe_use U_law_draw (hr.mono (by decide)) hg rfl (pa_cons (pv 0) (pa_cons pe_int pa_nil))) (fun _ _ => rfl))))
   pss_nil)))))
  (pss_cons (ps_if (pt_cmpR op_eq (pe_use U_law_draw (hr.mono (by decide)) hg rfl (pa_cons (pv 0) (pa_cons pe_int pa_nil))) pe_int (nomark _))
   (pss_one (ps_ret (pe_un un_neg (pv 3))))
   pss_nil)
  (pss_one (ps_ret (pv 3)))))))), ?_⟩
    refine ⟨_, _, rfl, rfl, ⟨by decide, by decide⟩, _, _, rfl, rfl, ⟨by decide, by decide +kernel⟩, ?_⟩
    refine ⟨_, rfl, p, dl, 8, rfl, B, by decide, fun kind H1 k0 k1 B1 K1 => ?_⟩
    refine ⟨_, rfl, p, dl, 300, rfl, B1, by decide, fun n0 H2 n00 n01 B2 K2 => ?_⟩
    have K12 := K1.trans K2
    refine ⟨fun σ H' => ∃ (n : Int) (x4 : Option V), σ = [some (.ref p), some (.int bd), some (.int kind), some (.int n), x4] ∧ n.natAbs < 2 ^ 256 ∧ BoxAt H' p dl ∧ Keep p H H', ?_, ?_⟩
    · refine ⟨_, rfl, rfl, _, rfl, ?_⟩
      refine ite3 (fun _ => ?_) fun _ => ?_
      · refine ⟨_, rfl, _, _, rfl, rfl, _, rfl, _, _, rfl, rfl, bd - 1 - n0, none, rfl, ?_, B2, K12⟩
        rw [bd_eq]; omega
      refine ⟨_, rfl, rfl, _, rfl, ?_⟩
      refine ite3 (fun _ => ?_) fun _ => ?_
      · refine ⟨_, rfl, p, dl, 24, rfl, B2, by decide, fun m H3 m0 m1 B3 K3 => ?_⟩
        obtain ⟨m, rfl⟩ := Int.eq_ofNat_of_zero_le m0
        refine ⟨_, rfl, by omega, by omega, ?_⟩
        rw [Int.toNat_natCast]
        refine for_range (lo := 0) (n := m) (fun i σ H4 => ∃ (n : Int) (x4 : Option V), σ = [some (.ref p), some (.int bd), some (.int kind), some (.int n), x4] ∧ n.natAbs < 2 ^ 256 ∧ BoxAt H4 p dl ∧ Keep p H H4) ⟨n0, none, rfl, Nat.lt_of_lt_of_le (show n0.natAbs < 2 ^ 9 by omega) (Nat.pow_le_pow_right (by decide) (by decide)), B3, K12.trans K3⟩ ?_ ?_
        · rintro i σ H4 hi ⟨n, x4, rfl, hn, B4, K4⟩
          refine ⟨_, rfl, _, _, rfl, rfl, wide_mul (a := 256) (b := 10) hn (by decide) (by decide) (by decide) (by decide), _, rfl, p, dl, 1000, rfl, B4, by decide, fun r H5 r0 r1 B5 K5 => ⟨_, _, rfl, rfl, .inl ⟨_, rfl, _, rfl, _, _, rfl, rfl, ?_, (n * 1000 + r) % bd, some (.int (0 + (i : Int))), rfl, ?_, B5, K4.trans K5⟩⟩⟩
          · show 0 < bd; rw [bd_eq]; decide
          · have h0 := Int.emod_nonneg (n * 1000 + r) (show bd ≠ 0 by rw [bd_eq]; decide)
            have h1 := Int.emod_lt_of_pos (n * 1000 + r) (show 0 < bd by rw [bd_eq]; decide)
            generalize (n * 1000 + r) % bd = z at h0 h1
            rw [bd_eq] at h1; omega
        · rintro σ H4 h
          exact h
      refine ⟨_, rfl, rfl, _, rfl, ?_⟩
      refine ite3 (fun _ => ?_) fun _ => ?_
      · refine ⟨by decide, fun l hl => ?_⟩
        have S3 := Same.new (o := .lst ([(0 : Int), 1, 63, 64, 127, 128, 8191, 8192].map V.int)) hl
        have lp := (B2.ne_new hl).1
        have e3 := upd_same (H := H2) (a := l) (o := HO.lst ([(0 : Int), 1, 63, 64, 127, 128, 8191, 8192].map V.int))
        refine ⟨_, rfl, p, dl, 8, rfl, B2.same S3, by decide, fun r H4 r0 r1 B4 K4 => ?_⟩
        obtain ⟨j, rfl⟩ := Int.eq_ofNat_of_zero_le r0
        have hj : j < [(0 : Int), 1, 63, 64, 127, 128, 8191, 8192].length := by simp; omega
        have hz : [(0 : Int), 1, 63, 64, 127, 128, 8191, 8192][j]? = some [(0 : Int), 1, 63, 64, 127, 128, 8191, 8192][j] := List.getElem?_eq_getElem hj
        have hzb := (show ∀ z ∈ [(0 : Int), 1, 63, 64, 127, 128, 8191, 8192], z.natAbs < 2 ^ 14 by decide) _ (List.getElem_mem hj)
        generalize [(0 : Int), 1, 63, 64, 127, 128, 8191, 8192][j] = z at hz hzb
        refine ⟨l, _, _, .int z, rfl, rfl, SqL.of (K4 _ _ e3 lp), atI_nat (by rw [List.getElem?_map, hz]; rfl), z, none, rfl, Nat.lt_of_lt_of_le hzb (Nat.pow_le_pow_right (by decide) (by decide)), B4, (K12.trans (Same.keep S3)).trans K4⟩
      · exact ⟨n0, none, rfl, Nat.lt_of_lt_of_le (show n0.natAbs < 2 ^ 9 by omega) (Nat.pow_le_pow_right (by decide) (by decide)), B2, K12⟩
    · rintro _ H3 ⟨n, x4, rfl, hn, B3, K3⟩
      refine ⟨_, rfl, p, dl, 2, rfl, B3, by decide, fun r H4 r0 r1 B4 K4 => ⟨rfl, _, rfl, ?_⟩⟩
      refine ite3 (fun _ => ?_) fun _ => ?_
      · exact ⟨_, rfl, _, rfl, k _ _ (by rw [Int.natAbs_neg]; exact hn) B4 (K3.trans K4)⟩
      · exact ⟨_, rfl, k _ _ hn B4 (K3.trans K4)⟩
/-- a drawn value: within the bounds of the document -/
structure TxSm (js : List Nat) : Prop where
  len : js.length ≤ 12
  lt : ∀ j ∈ js, j < 95
def ValSm : Val → Prop
  | .int i => i.natAbs < 2 ^ 256
  | .text js => TxSm js
  | .span a b => a.natAbs < 2 ^ 256 ∧ b.natAbs < 2 ^ 256
  | .built js => TxSm js
  | .host js => TxSm js
  | .ref n => n < 10 ^ 20
  | _ => True
theorem ValSm.ok : ∀ {x : Val}, ValSm x → ValOk x
  | .none, _ => trivial
  | .bool _, _ => trivial
  | .int _, h => Nat.le_trans (Nat.le_of_lt h) (Nat.pow_le_pow_right (by decide) (by decide))
  | .text _, h => ⟨Nat.le_trans h.len (by decide), h.lt⟩
  | .span _ _, h => ⟨Nat.le_trans (Nat.le_of_lt h.1) (Nat.pow_le_pow_right (by decide) (by decide)), Nat.le_trans (Nat.le_of_lt h.2) (Nat.pow_le_pow_right (by decide) (by decide))⟩
  | .built _, h => ⟨Nat.le_trans h.len (by decide), h.lt⟩
  | .host _, h => ⟨Nat.le_trans h.len (by decide), h.lt⟩
  | .ref _, h => Nat.le_trans (Nat.le_of_lt h) (by decide)
def spLVal (K : PySem.W.Frag) : Sp := fun vs H Q _ => ∃ (p dl : Addr) (m : Nat), vs = [.ref p, .int (m : Int)] ∧ BoxAt H p dl ∧ 0 < m ∧ m ≤ 10 ^ 20 ∧ ∀ (v : V) (x : Val) H', Dt K H' v (valD x) → ValSm x → BoxAt H' p dl → Keep p H H' → Q v H'
theorem ok_value {f : Addr} {fd : FuncData} (F : Fun K "_law_value" "_law_value" s_law_value f fd) (T : Txt K mg) (U_law_draw : Use P w K mg base CX0 "_law_draw" 1 P_law_draw (spDraw K)) (U_law_number : Use P w K mg base CX0 "_law_number" 2 P_law_number (spNumb K)) (U_law_text : Use P w K mg base CX0 "_law_text" 2 P_law_text (spText K)) (U_law_name : Use P w K mg base CX0 "_law_name" 2 P_law_name (spName K)) :
    FnG P w K mg base CX0 3 f fd P_law_value (spLVal K) := by
  refine okG0 F sc_law_value (fun vs H Q E h => ?_) fun cdv A outer s H vs Q E hr hg h => ?_
  · obtain ⟨p, dl, m, rfl, _⟩ := h
    rfl
  · obtain ⟨p, dl, m, rfl, B, hm, hm2, k⟩ := h
    refine ⟨_, (pss_cons (ps_set (i := 2) sc_law_value.nd rfl (Or.inl rfl) (pe_use U_law_draw (hr.mono (by decide)) hg rfl (pa_cons (pv 0) (pa_cons pe_int pa_nil))))
  (pss_cons (ps_if (pt_cmpR op_eq (pv 2) pe_int (nomark _))
   (pss_one (ps_ret (pe_tup (pa_cons pe_str pa_nil))))
   pss_nil)
  (pss_cons (ps_if (pt_cmpR op_eq (pv 2) pe_int (nomark _))
   (pss_one (ps_ret (pe_tup (pa_cons pe_str (pa_cons (pe_cmpR op_eq (pe_use U_law_draw (hr.mono (by decide)) hg rfl (pa_cons (pv 0) (pa_cons pe_int pa_nil))) pe_int (nomark _)) pa_nil)))))
   pss_nil)
  (pss_cons (ps_if (pt_cmpR op_eq (pv 2) pe_int (nomark _))
   (pss_one (ps_ret (pe_tup (pa_cons pe_str (pa_cons (pe_use U_law_number (hr.mono (by decide)) hg rfl (pa_cons (pv 0) pa_nil)) pa_nil)))))
   pss_nil)
  (pss_cons (ps_if (pt_cmpR op_eq (pv 2) pe_int (nomark _))
   (pss_one (ps_ret (pe_tup (pa_cons pe_str (pa_cons (pe_use U_law_text (hr.mono (by decide)) hg rfl (pa_cons (pv 0) (pa_cons pe_int pa_nil))) pa_nil)))))
   pss_nil)
  (pss_cons (ps_if (pt_cmpR op_eq (pv 2) pe_int (nomark _))
   (pss_cons (ps_set (i := 3) sc_law_value.nd rfl (Or.inl rfl) (pe_use U_law_number (hr.mono (by decide)) hg rfl (pa_cons (pv 0) pa_nil)))
  (pss_one (ps_ret (pe_tup (pa_cons pe_str (pa_cons (pv 3) (pa_cons (pe_op op_add (pv 3) (pe_op op_mul (pe_use U_law_draw (hr.mono (by decide)) hg rfl (pa_cons (pv 0) (pa_cons pe_int pa_nil))) (pe_callTy call_int1 (by rfl) T.b_int (by decide +kernel) (pa_cons (pe_cmpR op_lt (pv 3) (pe_op op_pow pe_int pe_int) (nomark _)) pa_nil)))) pa_nil)))))))
   pss_nil)
  (pss_cons (ps_if (pt_cmpR op_eq (pv 2) pe_int (nomark _))
   (pss_one (ps_ret (pe_tup (pa_cons pe_str (pa_cons (pe_use U_law_name (hr.mono (by decide)) hg rfl (pa_cons (pv 0) pa_nil)) pa_nil)))))
   pss_nil)
  (pss_cons (ps_if (pt_cmpR op_eq (pv 2) pe_int (nomark _))
   (pss_one (ps_ret (pe_tup (pa_cons pe_str (pa_cons (pe_use U_law_name (hr.mono (by decide)) hg rfl (pa_cons (pv 0) pa_nil)) pa_nil)))))
   pss_nil)
  (pss_one (ps_ret (pe_tup (pa_cons pe_str (pa_cons (pe_op op_mod (pe_callTy call_int1 (by rfl) T.b_int (by decide +kernel) (pa_cons (pe_op op_add (pe_op op_mul (pe_use U_law_draw (hr.mono (by decide)) hg rfl (pa_cons (pv 0) (pa_cons pe_int pa_nil))) pe_int) (pe_use U_law_draw (hr.mono (by decide)) hg rfl (pa_cons (pv 0) (pa_cons pe_int pa_nil)))) pa_nil)) (pv 1)) pa_nil))))))))))))), ?_⟩
    refine ⟨_, rfl, p, dl, 10, rfl, B, by decide, fun kind H1 k0 k1 B1 K1 => ?_⟩
    -- a pair as it is made
    have mk1 : ∀ {H2 : Hp} {z : Str} {y : V} {d : PyData} {x : Val}, BoxAt H2 p dl → Keep p H H2 → Dt K H2 y d → valD x = .tuple [.str z, d] → ValSm x → ∀ t, H2 t = none → Q (.ref t) (upd H2 t (.tup [.str z, y])) := fun B2 K2 dy e sm t ht =>
      k _ _ _ (by rw [e]; exact Dt.made ht (.cons (.str _) (.cons dy .nil))) sm (B2.same (Same.new ht)) (K2.trans (Same.keep (Same.new ht)))
    refine ⟨_, rfl, rfl, _, rfl, ?_⟩
    refine ite3 (fun _ => ?_) fun _ => ?_
    · exact ⟨sz_1, fun t ht => k _ .none _ (Dt.made ht (.cons (.str _) .nil)) trivial (B1.same (Same.new ht)) (K1.trans (Same.keep (Same.new ht)))⟩
    refine ⟨_, rfl, rfl, _, rfl, ?_⟩
    refine ite3 (fun _ => ?_) fun _ => ?_
    · exact ⟨_, rfl, p, dl, 2, rfl, B1, by decide, fun r H2 _ _ B2 K2 => ⟨rfl, sz_2, mk1 (x := .bool _) B2 (K1.trans K2) (.bl _) rfl trivial⟩⟩
    refine ⟨_, rfl, rfl, _, rfl, ?_⟩
    refine ite3 (fun _ => ?_) fun _ => ?_
    · exact ⟨_, rfl, p, dl, rfl, B1, fun n H2 hn B2 K2 => ⟨sz_2, mk1 (x := .int n) B2 (K1.trans K2) (.int _) rfl hn⟩⟩
    refine ⟨_, rfl, rfl, _, rfl, ?_⟩
    refine ite3 (fun _ => ?_) fun _ => ?_
    · exact ⟨_, rfl, p, dl, 12, rfl, B1, by decide, fun js H2 hl hj B2 K2 => ⟨sz_2, mk1 (x := .text js) B2 (K1.trans K2) (.str _) rfl ⟨hl, hj⟩⟩⟩
    refine ⟨_, rfl, rfl, _, rfl, ?_⟩
    refine ite3 (fun _ => ?_) fun _ => ?_
    · refine ⟨_, rfl, p, dl, rfl, B1, fun lo H2 hlo B2 K2 => ?_⟩
      refine ⟨_, rfl, _, rfl, _, rfl, p, dl, 3, rfl, B2, by decide, fun r H3 r0 r1 B3 K3 => ?_⟩
      refine ⟨_, rfl, _, _, rfl, rfl, ⟨by decide, by decide, by decide⟩, _, _, rfl, rfl, .inr ⟨_, rfl, _, _, rfl, rfl, .inl ⟨by omega, by omega⟩, _, _, rfl, rfl, sz_3, fun t ht => ?_⟩⟩
      refine k _ (.span lo _) _ (Dt.made ht (.cons (.str _) (.cons (.int _) (.cons (.int _) .nil)))) ⟨hlo, ?_⟩ (B3.same (Same.new ht)) (((K1.trans K2).trans K3).trans (Same.keep (Same.new ht)))
      have e10 : (10 : Int) ^ (20 : Int).toNat = 100000000000000000000 := by decide +kernel
      have e256 : (100000000000000000003 : Nat) < 2 ^ 256 := by decide +kernel
      show (lo + r * (if decide (lo < 10 ^ (20 : Int).toNat) = true then 1 else 0)).natAbs < 2 ^ 256
      rw [e10]
      by_cases c : lo < 100000000000000000000
      · rw [if_pos (decide_eq_true c), Int.mul_one]; omega
      · rw [if_neg (by rw [decide_eq_false c]; decide), Int.mul_zero, Int.add_zero]; exact hlo
    refine ⟨_, rfl, rfl, _, rfl, ?_⟩
    refine ite3 (fun _ => ?_) fun _ => ?_
    · exact ⟨_, rfl, p, dl, rfl, B1, fun js H2 hl hj B2 K2 => ⟨sz_2, mk1 (x := .built js) B2 (K1.trans K2) (.str _) rfl ⟨by omega, hj⟩⟩⟩
    refine ⟨_, rfl, rfl, _, rfl, ?_⟩
    refine ite3 (fun _ => ?_) fun _ => ?_
    · exact ⟨_, rfl, p, dl, rfl, B1, fun js H2 hl hj B2 K2 => ⟨sz_2, mk1 (x := .host js) B2 (K1.trans K2) (.str _) rfl ⟨by omega, hj⟩⟩⟩
    refine ⟨_, rfl, p, dl, 1000, rfl, B1, by decide, fun r H2 r0 r1 B2 K2 => ?_⟩
    refine ⟨_, _, rfl, rfl, .inl ⟨by omega, by omega⟩, _, rfl, p, dl, 1000, rfl, B2, by decide, fun r' H3 _ _ B3 K3 => ?_⟩
    have hm' : (0 : Int) < (m : Int) := by omega
    have h0 := Int.emod_nonneg (r * 1000 + r') (show (m : Int) ≠ 0 by omega)
    have h1 := Int.emod_lt_of_pos (r * 1000 + r') hm'
    obtain ⟨n, hn⟩ := Int.eq_ofNat_of_zero_le h0
    refine ⟨_, _, rfl, rfl, .inl ⟨_, rfl, _, rfl, _, _, rfl, rfl, hm', sz_2, mk1 (x := .ref n) B3 ((K1.trans K2).trans K3) (.int _) (by rw [hn]; rfl) (show n < 10 ^ 20 by omega)⟩⟩
end

abbrev s_law_is_integer : Stmt := top 26
abbrev N_law_is_integer : List Str := ["actual"]
abbrev P_law_is_integer : List Str := ["actual"]
theorem sc_law_is_integer : FnScope N_law_is_integer P_law_is_integer (defScope s_law_is_integer) := ⟨rfl, rfl, rfl, by decide +kernel, rfl, by decide +kernel, by decide +kernel⟩
abbrev s_law_same : Stmt := top 29
abbrev N_law_same : List Str := ["actual", "due", "k"]
abbrev P_law_same : List Str := ["actual", "due"]
theorem sc_law_same : FnScope N_law_same P_law_same (defScope s_law_same) := ⟨rfl, rfl, rfl, by decide +kernel, rfl, by decide +kernel, by decide +kernel⟩
section
variable {P : Program} {w : World} {K : PySem.W.Frag} {mg : Str → Option Value} {base : Heap}
def spIsInt (K : PySem.W.Frag) : Sp := fun vs H Q _ => ∃ i : Int, vs = [.int i] ∧ Q (.bl true) H
theorem ok_isint {f : Addr} {fd : FuncData} (F : Fun K "_law_is_integer" "_law_is_integer" s_law_is_integer f fd) (T : Txt K mg) : FnG P w K mg base CX0 1 f fd P_law_is_integer (spIsInt K) := by
  refine okG0 F sc_law_is_integer (fun vs H Q E h => ?_) fun cdv A outer s H vs Q E hr hg h => ?_
  · obtain ⟨i, rfl, _⟩ := h
    rfl
  · obtain ⟨i, rfl, k⟩ := h
    refine ⟨_, (pss_one (ps_ret (pe_and (pe_callB call_isi (by rfl) T.b_isinstance (by decide +kernel) (pa_cons (pv 0) (pa_cons (pe_bltn (v := .ty "int") (by rfl) T.b_int (by decide +kernel) rfl) pa_nil))) (pe_one (pe_not (pe_callB call_isi (by rfl) T.b_isinstance (by decide +kernel) (pa_cons (pv 0) (pa_cons (pe_bltn (v := .ty "bool") (by rfl) T.b_bool (by decide +kernel) rfl) pa_nil)))))))), ?_⟩
    refine ⟨_, rfl, _, _, _, _, true, rfl, .ty _, .base (.int i), if_pos (beq_self_eq_true _), true, rfl, iteTb rfl ?_⟩
    exact ⟨_, rfl, _, _, _, _, false, rfl, .ty _, .base (.int i), kit_ty (by decide +kernel), false, rfl, k⟩
/-- two plain values of one type -/
inductive Twin : V → V → Prop
  | str (a b : Str) : Twin (.str a) (.str b)
  | int (a b : Int) : Twin (.int a) (.int b)
  | bl (a b : Bool) : Twin (.bl a) (.bl b)
def spLeaf (K : PySem.W.Frag) : Sp := fun vs H Q _ => ∃ x y : V, vs = [x, y] ∧ Twin x y ∧ Q (.bl (decide (x = y))) H
theorem ok_leaf {f : Addr} {fd : FuncData} (F : Fun K "_law_same" "_law_same" s_law_same f fd) (T : Txt K mg) (U_law_is_integer : Use P w K mg base CX0 "_law_is_integer" 1 P_law_is_integer (spIsInt K)) : FnG P w K mg base CX0 2 f fd P_law_same (spLeaf K) := by
  refine okG0 F sc_law_same (fun vs H Q E h => ?_) fun cdv A outer s H vs Q E hr hg h => ?_
  · obtain ⟨x, y, rfl, _⟩ := h
    rfl
  · obtain ⟨x, y, rfl, tw, k⟩ := h
    refine ⟨_, (pss_cons (ps_if (pt_val (pe_callB call_isi (by rfl) T.b_isinstance (by decide +kernel) (pa_cons (pv 1) (pa_cons (pe_bltn (v := .ty "tuple") (by rfl) T.b_tuple (by decide +kernel) rfl) pa_nil))))
   pss_never
   pss_nil)
  (pss_cons (ps_if (pt_val (pe_callB call_isi (by rfl) T.b_isinstance (by decide +kernel) (pa_cons (pv 1) (pa_cons (pe_bltn (v := .ty "bool") (by rfl) T.b_bool (by decide +kernel) rfl) pa_nil))))
   (pss_one (ps_ret (pe_and (pe_callB call_isi (by rfl) T.b_isinstance (by decide +kernel) (pa_cons (pv 0) (pa_cons (pe_bltn (v := .ty "bool") (by rfl) T.b_bool (by decide +kernel) rfl) pa_nil))) (pe_one (pe_cmpR op_eq (pv 0) (pv 1) (nomark _))))))
   pss_nil)
  (pss_cons (ps_if (pt_val (pe_callB call_isi (by rfl) T.b_isinstance (by decide +kernel) (pa_cons (pv 1) (pa_cons (pe_bltn (v := .ty "int") (by rfl) T.b_int (by decide +kernel) rfl) pa_nil))))
   (pss_one (ps_ret (pe_and (pe_use U_law_is_integer (hr.mono (by decide)) hg rfl (pa_cons (pv 0) pa_nil)) (pe_one (pe_cmpR op_eq (pv 0) (pv 1) (nomark _))))))
   pss_nil)
  (pss_one (ps_ret (pe_and (pe_callB call_isi (by rfl) T.b_isinstance (by decide +kernel) (pa_cons (pv 0) (pa_cons (pe_bltn (v := .ty "str") (by rfl) T.b_str (by decide +kernel) rfl) pa_nil))) (pe_one (pe_cmpR op_eq (pv 0) (pv 1) (nomark _))))))))), ?_⟩
    cases tw with
    | str a b =>
      refine ⟨_, rfl, _, _, _, _, false, rfl, .ty _, .base (.str b), kit_ty (by decide +kernel), _, rfl, iteFb rfl ?_⟩
      refine ⟨_, rfl, _, _, _, _, false, rfl, .ty _, .base (.str b), kit_ty (by decide +kernel), _, rfl, iteFb rfl ?_⟩
      refine ⟨_, rfl, _, _, _, _, false, rfl, .ty _, .base (.str b), kit_ty (by decide +kernel), _, rfl, iteFb rfl ?_⟩
      refine ⟨_, rfl, _, _, _, _, true, rfl, .ty _, .base (.str a), if_pos (beq_self_eq_true _), true, rfl, iteTb rfl ?_⟩
      exact ⟨_, rfl, _, rfl, rfl, k⟩
    | int a b =>
      refine ⟨_, rfl, _, _, _, _, false, rfl, .ty _, .base (.int b), kit_ty (by decide +kernel), _, rfl, iteFb rfl ?_⟩
      refine ⟨_, rfl, _, _, _, _, false, rfl, .ty _, .base (.int b), kit_ty (by decide +kernel), _, rfl, iteFb rfl ?_⟩
      refine ⟨_, rfl, _, _, _, _, true, rfl, .ty _, .base (.int b), if_pos (beq_self_eq_true _), _, rfl, iteTb rfl ?_⟩
      exact ⟨_, rfl, a, rfl, true, rfl, iteTb rfl ⟨_, rfl, _, rfl, rfl, k⟩⟩
    | bl a b =>
      refine ⟨_, rfl, _, _, _, _, false, rfl, .ty _, .base (.bl b), kit_ty (by decide +kernel), _, rfl, iteFb rfl ?_⟩
      refine ⟨_, rfl, _, _, _, _, true, rfl, .ty _, .base (.bl b), if_pos (beq_self_eq_true _), _, rfl, iteTb rfl ?_⟩
      refine ⟨_, rfl, _, _, _, _, true, rfl, .ty _, .base (.bl a), if_pos (beq_self_eq_true _), true, rfl, iteTb rfl ?_⟩
      exact ⟨_, rfl, _, rfl, rfl, k⟩
theorem ok_leaf3 {f : Addr} {fd : FuncData} (F : Fun K "_law_same" "_law_same" s_law_same f fd) (T : Txt K mg) (U_law_is_integer : Use P w K mg base CX0 "_law_is_integer" 1 P_law_is_integer (spIsInt K)) : FnG P w K mg base CX0 3 f fd P_law_same (spLeaf K) := by
  refine okG0 F sc_law_same (fun vs H Q E h => ?_) fun cdv A outer s H vs Q E hr hg h => ?_
  · obtain ⟨x, y, rfl, _⟩ := h
    rfl
  · obtain ⟨x, y, rfl, tw, k⟩ := h
    refine ⟨_, (pss_cons (ps_if (pt_val (pe_callB call_isi (by rfl) T.b_isinstance (by decide +kernel) (pa_cons (pv 1) (pa_cons (pe_bltn (v := .ty "tuple") (by rfl) T.b_tuple (by decide +kernel) rfl) pa_nil))))
   pss_never
   pss_nil)
  (pss_cons (ps_if (pt_val (pe_callB call_isi (by rfl) T.b_isinstance (by decide +kernel) (pa_cons (pv 1) (pa_cons (pe_bltn (v := .ty "bool") (by rfl) T.b_bool (by decide +kernel) rfl) pa_nil))))
   (pss_one (ps_ret (pe_and (pe_callB call_isi (by rfl) T.b_isinstance (by decide +kernel) (pa_cons (pv 0) (pa_cons (pe_bltn (v := .ty "bool") (by rfl) T.b_bool (by decide +kernel) rfl) pa_nil))) (pe_one (pe_cmpR op_eq (pv 0) (pv 1) (nomark _))))))
   pss_nil)
  (pss_cons (ps_if (pt_val (pe_callB call_isi (by rfl) T.b_isinstance (by decide +kernel) (pa_cons (pv 1) (pa_cons (pe_bltn (v := .ty "int") (by rfl) T.b_int (by decide +kernel) rfl) pa_nil))))
   (pss_one (ps_ret (pe_and (pe_use U_law_is_integer (hr.mono (by decide)) hg rfl (pa_cons (pv 0) pa_nil)) (pe_one (pe_cmpR op_eq (pv 0) (pv 1) (nomark _))))))
   pss_nil)
  (pss_one (ps_ret (pe_and (pe_callB call_isi (by rfl) T.b_isinstance (by decide +kernel) (pa_cons (pv 0) (pa_cons (pe_bltn (v := .ty "str") (by rfl) T.b_str (by decide +kernel) rfl) pa_nil))) (pe_one (pe_cmpR op_eq (pv 0) (pv 1) (nomark _))))))))), ?_⟩
    cases tw with
    | str a b =>
      refine ⟨_, rfl, _, _, _, _, false, rfl, .ty _, .base (.str b), kit_ty (by decide +kernel), _, rfl, iteFb rfl ?_⟩
      refine ⟨_, rfl, _, _, _, _, false, rfl, .ty _, .base (.str b), kit_ty (by decide +kernel), _, rfl, iteFb rfl ?_⟩
      refine ⟨_, rfl, _, _, _, _, false, rfl, .ty _, .base (.str b), kit_ty (by decide +kernel), _, rfl, iteFb rfl ?_⟩
      refine ⟨_, rfl, _, _, _, _, true, rfl, .ty _, .base (.str a), if_pos (beq_self_eq_true _), true, rfl, iteTb rfl ?_⟩
      exact ⟨_, rfl, _, rfl, rfl, k⟩
    | int a b =>
      refine ⟨_, rfl, _, _, _, _, false, rfl, .ty _, .base (.int b), kit_ty (by decide +kernel), _, rfl, iteFb rfl ?_⟩
      refine ⟨_, rfl, _, _, _, _, false, rfl, .ty _, .base (.int b), kit_ty (by decide +kernel), _, rfl, iteFb rfl ?_⟩
      refine ⟨_, rfl, _, _, _, _, true, rfl, .ty _, .base (.int b), if_pos (beq_self_eq_true _), _, rfl, iteTb rfl ?_⟩
      exact ⟨_, rfl, a, rfl, true, rfl, iteTb rfl ⟨_, rfl, _, rfl, rfl, k⟩⟩
    | bl a b =>
      refine ⟨_, rfl, _, _, _, _, false, rfl, .ty _, .base (.bl b), kit_ty (by decide +kernel), _, rfl, iteFb rfl ?_⟩
      refine ⟨_, rfl, _, _, _, _, true, rfl, .ty _, .base (.bl b), if_pos (beq_self_eq_true _), _, rfl, iteTb rfl ?_⟩
      refine ⟨_, rfl, _, _, _, _, true, rfl, .ty _, .base (.bl a), if_pos (beq_self_eq_true _), true, rfl, iteTb rfl ?_⟩
      exact ⟨_, rfl, _, rfl, rfl, k⟩
/-- two rows of plain values, of one type up to where they first differ -/
def Twins (xs ys : List V) : Prop := ∀ (k : Nat) (x y : V), xs[k]? = some x → ys[k]? = some y → (∀ j : Nat, j < k → xs[j]? = ys[j]?) → Twin x y
def spSameT (K : PySem.W.Frag) : Sp := fun vs H Q _ => ∃ (p q : Addr) (xs ys : List V), vs = [.ref p, .ref q] ∧ SqT K H p xs ∧ SqT K H q ys ∧ Twins xs ys ∧ xs.length ≤ 1000 ∧ ys.length ≤ 1000 ∧ Q (.bl (decide (xs = ys))) H
theorem ok_samet {f : Addr} {fd : FuncData} (F : Fun K "_law_same" "_law_same" s_law_same f fd) (T : Txt K mg) (U_law_same : Use P w K mg base CX0 "_law_same" 2 P_law_same (spLeaf K)) : FnG P w K mg base CX0 3 f fd P_law_same (spSameT K) := by
  refine okG0 F sc_law_same (fun vs H Q E h => ?_) fun cdv A outer s H vs Q E hr hg h => ?_
  · obtain ⟨p, q, xs, ys, rfl, _⟩ := h
    rfl
  · obtain ⟨p, q, xs, ys, rfl, hp, hq, tw, hx, hy, k⟩ := h
    refine ⟨_, (pss_cons (ps_if (pt_val (pe_callB call_isi (by rfl) T.b_isinstance (by decide +kernel) (pa_cons (pv 1) (pa_cons (pe_bltn (v := .ty "tuple") (by rfl) T.b_tuple (by decide +kernel) rfl) pa_nil))))
   (pss_cons (ps_if (PW.pt (pw_or (pt_not (pt_val (pe_callB call_isi (by rfl) T.b_isinstance (by decide +kernel) (pa_cons (pv 0) (pa_cons (pe_bltn (v := .ty "tuple") (by rfl) T.b_tuple (by decide +kernel) rfl) pa_nil))))) (pw_or1 (pt_cmpR op_ne (pe_callB call_len (by rfl) T.b_len PySem.boot_len (pa_cons (pv 0) pa_nil)) (pe_callB call_len (by rfl) T.b_len PySem.boot_len (pa_cons (pv 1) pa_nil)) (nomark _)))))
   (pss_one (ps_ret pe_bl))
   pss_nil)
  (pss_cons (ps_for PassesOwn.never rfl (pi_range1 (by rfl) T.b_range (pa_cons (pe_callB call_len (by rfl) T.b_len PySem.boot_len (pa_cons (pv 1) pa_nil)) pa_nil)) (pg_name (i := 2) sc_law_same.nd rfl (Or.inl rfl))
   (pss_one (ps_if (pt_not (pt_val (pe_use U_law_same (hr.mono (by decide)) hg rfl (pa_cons (pe_ix ix_tup (pv 0) (pv 2) (fun _ _ => rfl)) (pa_cons (pe_ix ix_tup (pv 1) (pv 2) (fun _ _ => rfl)) pa_nil)))))
   (pss_one (ps_ret pe_bl))
   pss_nil)))
  (pss_one (ps_ret pe_bl))))
   pss_nil)
  pss_never), ?_⟩
    refine ⟨_, rfl, _, _, _, _, true, rfl, .ty _, SqT.tyX hq, if_pos (beq_self_eq_true _), _, rfl, iteTb rfl ?_⟩
    refine ⟨_, rfl, _, _, _, _, true, rfl, .ty _, SqT.tyX hp, if_pos (beq_self_eq_true _), _, rfl, iteFb rfl ?_⟩
    refine ⟨_, rfl, _, _, rfl, .inr ⟨_, hp, rfl⟩, _, rfl, _, _, rfl, .inr ⟨_, hq, rfl⟩, rfl, _, rfl, ?_⟩
    by_cases hl : xs.length = ys.length
    · refine iteFb (by rw [hl]; rw [decide_eq_true rfl]; rfl) ?_
      refine ⟨_, rfl, _, _, rfl, .inr ⟨_, hq, rfl⟩, _, rfl, by omega, by omega, ?_⟩
      rw [Int.toNat_natCast]
      refine for_range (lo := 0) (n := ys.length) (fun i σ H1 => ∃ x2, σ = [some (.ref p), some (.ref q), x2] ∧ H1 = H ∧ ∀ j, j < i → xs[j]? = ys[j]?) ⟨none, rfl, rfl, by simp⟩ ?_ ?_
      · rintro i σ H1 hi ⟨x2, rfl, rfl, hall⟩
        have ex : xs[i]? = some (xs[i]'(by omega)) := List.getElem?_eq_getElem (by omega)
        have ey : ys[i]? = some ys[i] := List.getElem?_eq_getElem hi
        have t := tw i _ _ ex ey hall
        generalize xs[i]'(by omega) = x at ex t
        generalize ys[i] = y at ey t
        refine ⟨_, rfl, _, rfl, p, _, _, x, rfl, rfl, hp, at_of' (j := i) (by omega) ex, _, rfl, _, rfl, q, _, _, y, rfl, rfl, hq, at_of' (j := i) (by omega) ey, x, y, rfl, t, _, rfl, ?_⟩
        by_cases e : x = y
        · subst e
          refine iteFb (by rw [decide_eq_true rfl]; rfl) ⟨_, rfl, rfl, fun j hj => ?_⟩
          by_cases h : j = i
          · subst h; rw [ex, ey]
          · exact hall j (by omega)
        · refine iteTb (by rw [decide_eq_false e]; rfl) ?_
          rw [decide_eq_false (fun h => e (by rw [h, ey] at ex; exact (Option.some.inj ex).symm))] at k
          exact k
      · rintro σ H1 ⟨x2, rfl, rfl, hall⟩
        have e : xs = ys := List.ext_getElem? fun j => by
          by_cases h : j < ys.length
          · exact hall j h
          · rw [List.getElem?_eq_none (by omega), List.getElem?_eq_none (by omega)]
        rw [decide_eq_true e] at k
        exact k
    · refine iteTb (by rw [decide_eq_false (fun h => hl (by have := V.int.inj h; omega))]; rfl) ?_
      rw [decide_eq_false (fun h => hl (by rw [h]))] at k
      exact k
end

abbrev s_law_list_is : Stmt := top 28
abbrev N_law_list_is : List Str := ["actual", "due", "k"]
abbrev P_law_list_is : List Str := ["actual", "due"]
theorem sc_law_list_is : FnScope N_law_list_is P_law_list_is (defScope s_law_list_is) := ⟨rfl, rfl, rfl, by decide +kernel, rfl, by decide +kernel, by decide +kernel⟩
section
variable {P : Program} {w : World} {K : PySem.W.Frag} {mg : Str → Option Value} {base : Heap}
def spListIs (K : PySem.W.Frag) : Sp := fun vs H Q _ => ∃ (a b : Addr) (ns : List Int), vs = [.ref a, .ref b] ∧ H a = some (.lst (ns.map V.int)) ∧ H b = some (.lst (ns.map V.int)) ∧ ns.length ≤ 1000000 ∧ Q (.bl true) H
theorem ok_listis {f : Addr} {fd : FuncData} (F : Fun K "_law_list_is" "_law_list_is" s_law_list_is f fd) (T : Txt K mg) (U_law_is_integer : Use P w K mg base CX0 "_law_is_integer" 1 P_law_is_integer (spIsInt K)) : FnG P w K mg base CX0 2 f fd P_law_list_is (spListIs K) := by
  refine okG0 F sc_law_list_is (fun vs H Q E h => ?_) fun cdv A outer s H vs Q E hr hg h => ?_
  · obtain ⟨a, b, ns, rfl, _⟩ := h
    rfl
  · obtain ⟨a, b, ns, rfl, ea, eb, hl, k⟩ := h
    refine ⟨_, (pss_cons (ps_if (PW.pt (pw_or (pt_not (pt_val (pe_callB call_isi (by rfl) T.b_isinstance (by decide +kernel) (pa_cons (pv 0) (pa_cons (pe_bltn (v := .ty "list") (by rfl) T.b_list (by decide +kernel) rfl) pa_nil))))) (pw_or1 (pt_cmpR op_ne (pe_callB call_len (by rfl) T.b_len PySem.boot_len (pa_cons (pv 0) pa_nil)) (pe_callB call_len (by rfl) T.b_len PySem.boot_len (pa_cons (pv 1) pa_nil)) (nomark _)))))
   (pss_one (ps_ret pe_bl))
   pss_nil)
  (pss_cons (ps_for PassesOwn.never rfl (pi_range1 (by rfl) T.b_range (pa_cons (pe_callB call_len (by rfl) T.b_len PySem.boot_len (pa_cons (pv 1) pa_nil)) pa_nil)) (pg_name (i := 2) sc_law_list_is.nd rfl (Or.inl rfl))
   (pss_one (ps_if (PW.pt (pw_or (pt_not (pt_val (pe_use U_law_is_integer (hr.mono (by decide)) hg rfl (pa_cons (pe_ix ix_list (pv 0) (pv 2) (fun _ _ => rfl)) pa_nil)))) (pw_or1 (pt_cmpR op_ne (pe_ix ix_list (pv 0) (pv 2) (fun _ _ => rfl)) (pe_ix ix_list (pv 1) (pv 2) (fun _ _ => rfl)) (nomark _)))))
   (pss_one (ps_ret pe_bl))
   pss_nil)))
  (pss_one (ps_ret pe_bl)))), ?_⟩
    refine ⟨_, rfl, _, _, _, _, true, rfl, .ty _, .base (.lst ea), if_pos (beq_self_eq_true _), _, rfl, iteFb rfl ?_⟩
    refine ⟨_, rfl, _, _, rfl, .inl ⟨_, SqL.of ea, rfl⟩, _, rfl, _, _, rfl, .inl ⟨_, SqL.of eb, rfl⟩, rfl, _, rfl, ?_⟩
    rw [decide_eq_true rfl]
    refine iteFb rfl ?_
    refine ⟨_, rfl, _, _, rfl, .inl ⟨_, SqL.of eb, rfl⟩, _, rfl, by omega, by rw [List.length_map]; omega, ?_⟩
    rw [Int.toNat_natCast]
    refine for_range (lo := 0) (n := (ns.map V.int).length) (fun i σ H1 => ∃ x2, σ = [some (.ref a), some (.ref b), x2] ∧ H1 = H) ⟨none, rfl, rfl⟩ ?_ ?_
    · rintro i σ H1 hi ⟨x2, rfl, rfl⟩
      have hx : (ns.map V.int)[i]? = some (ns.map V.int)[i] := List.getElem?_eq_getElem hi
      have hv : (ns.map V.int)[i] = V.int (ns[i]'(by simpa using hi)) := List.getElem_map ..
      rw [hv] at hx
      generalize ns[i]'(by simpa using hi) = z at hx
      refine ⟨_, rfl, _, rfl, a, _, _, _, rfl, rfl, SqL.of ea, at_of' (j := i) (by omega) hx, z, rfl, true, rfl, iteFb rfl ?_⟩
      refine ⟨_, rfl, _, rfl, a, _, _, _, rfl, rfl, SqL.of ea, at_of' (j := i) (by omega) hx, _, rfl, _, rfl, b, _, _, _, rfl, rfl, SqL.of eb, at_of' (j := i) (by omega) hx, rfl, _, rfl, ?_⟩
      rw [decide_eq_true rfl]
      exact iteFb rfl ⟨_, rfl, rfl⟩
    · rintro σ H1 ⟨x2, rfl, rfl⟩
      exact k
end

section
theorem cnt_pf : ∀ (k a b : Nat) (s t : List Nat), a ≤ k → cnt a ++ s = cnt b ++ t → a = b ∧ s = t
  | 0, a, b, s, t, h, e => by
    have ha : a < 128 := by omega
    rw [cnt_lt ha] at e
    by_cases hb : b < 128
    · rw [cnt_lt hb] at e
      exact ⟨(List.cons.inj e).1, (List.cons.inj e).2⟩
    · rw [cnt_ge hb] at e
      have := (List.cons.inj e).1
      omega
  | k + 1, a, b, s, t, h, e => by
    by_cases ha : a < 128
    · rw [cnt_lt ha] at e
      by_cases hb : b < 128
      · rw [cnt_lt hb] at e
        exact ⟨(List.cons.inj e).1, (List.cons.inj e).2⟩
      · rw [cnt_ge hb] at e
        have := (List.cons.inj e).1
        omega
    · rw [cnt_ge ha] at e
      by_cases hb : b < 128
      · rw [cnt_lt hb] at e
        have := (List.cons.inj e).1
        omega
      · rw [cnt_ge hb] at e
        obtain ⟨e1, e2⟩ := List.cons.inj e
        obtain ⟨e3, e4⟩ := cnt_pf k (a / 128) (b / 128) s t (by omega) e2
        exact ⟨by omega, e4⟩
theorem cnt_pf' {a b : Nat} {s t : List Nat} (e : cnt a ++ s = cnt b ++ t) : a = b ∧ s = t := cnt_pf a a b s t (Nat.le_refl _) e
theorem strN_pf {a b s t : List Nat} (e : strN a ++ s = strN b ++ t) : a = b ∧ s = t := by
  unfold strN at e
  rw [List.append_assoc, List.append_assoc] at e
  obtain ⟨e1, e2⟩ := cnt_pf' e
  exact List.append_inj e2 e1
theorem zig_pf {a b : Int} {s t : List Nat} (e : cnt (zig a) ++ s = cnt (zig b) ++ t) : a = b ∧ s = t := let ⟨e1, e2⟩ := cnt_pf' e; ⟨zig_inj e1, e2⟩
theorem enc_pf {x y : Val} {s t : List Nat} (e : enc x ++ s = enc y ++ t) : x = y ∧ s = t := by
  cases x with
  | none =>
    cases y with
    | none => exact ⟨rfl, (List.cons.inj e).2⟩
    | bool b => cases b <;> cases (List.cons.inj e).1
    | int _ => cases (List.cons.inj e).1
    | text _ => cases (List.cons.inj e).1
    | span _ _ => cases (List.cons.inj e).1
    | built _ => cases (List.cons.inj e).1
    | host _ => cases (List.cons.inj e).1
    | ref _ => cases (List.cons.inj e).1
  | bool a =>
    cases y with
    | none => cases a <;> cases (List.cons.inj e).1
    | bool b =>
      cases a <;> cases b
      · exact ⟨rfl, (List.cons.inj e).2⟩
      · cases (List.cons.inj e).1
      · cases (List.cons.inj e).1
      · exact ⟨rfl, (List.cons.inj e).2⟩
    | int _ => cases a <;> cases (List.cons.inj e).1
    | text _ => cases a <;> cases (List.cons.inj e).1
    | span _ _ => cases a <;> cases (List.cons.inj e).1
    | built _ => cases a <;> cases (List.cons.inj e).1
    | host _ => cases a <;> cases (List.cons.inj e).1
    | ref _ => cases a <;> cases (List.cons.inj e).1
  | int i =>
    cases y with
    | bool b => cases b <;> cases (List.cons.inj e).1
    | int j => obtain ⟨e1, e2⟩ := zig_pf (List.cons.inj e).2; exact ⟨by rw [e1], e2⟩
    | none => cases (List.cons.inj e).1
    | text _ => cases (List.cons.inj e).1
    | span _ _ => cases (List.cons.inj e).1
    | built _ => cases (List.cons.inj e).1
    | host _ => cases (List.cons.inj e).1
    | ref _ => cases (List.cons.inj e).1
  | text i =>
    cases y with
    | bool b => cases b <;> cases (List.cons.inj e).1
    | text j => obtain ⟨e1, e2⟩ := strN_pf (List.cons.inj e).2; exact ⟨by rw [e1], e2⟩
    | none => cases (List.cons.inj e).1
    | int _ => cases (List.cons.inj e).1
    | span _ _ => cases (List.cons.inj e).1
    | built _ => cases (List.cons.inj e).1
    | host _ => cases (List.cons.inj e).1
    | ref _ => cases (List.cons.inj e).1
  | span a b =>
    cases y with
    | bool b => cases b <;> cases (List.cons.inj e).1
    | span c d =>
      have e1 : (cnt (zig a) ++ cnt (zig b)) ++ s = (cnt (zig c) ++ cnt (zig d)) ++ t := (List.cons.inj e).2
      rw [List.append_assoc, List.append_assoc] at e1
      obtain ⟨e2, e3⟩ := zig_pf e1
      obtain ⟨e4, e5⟩ := zig_pf e3
      exact ⟨by rw [e2, e4], e5⟩
    | none => cases (List.cons.inj e).1
    | int _ => cases (List.cons.inj e).1
    | text _ => cases (List.cons.inj e).1
    | built _ => cases (List.cons.inj e).1
    | host _ => cases (List.cons.inj e).1
    | ref _ => cases (List.cons.inj e).1
  | built i =>
    cases y with
    | bool b => cases b <;> cases (List.cons.inj e).1
    | built j => obtain ⟨e1, e2⟩ := strN_pf (List.cons.inj e).2; exact ⟨by rw [e1], e2⟩
    | none => cases (List.cons.inj e).1
    | int _ => cases (List.cons.inj e).1
    | text _ => cases (List.cons.inj e).1
    | span _ _ => cases (List.cons.inj e).1
    | host _ => cases (List.cons.inj e).1
    | ref _ => cases (List.cons.inj e).1
  | host i =>
    cases y with
    | bool b => cases b <;> cases (List.cons.inj e).1
    | host j => obtain ⟨e1, e2⟩ := strN_pf (List.cons.inj e).2; exact ⟨by rw [e1], e2⟩
    | none => cases (List.cons.inj e).1
    | int _ => cases (List.cons.inj e).1
    | text _ => cases (List.cons.inj e).1
    | span _ _ => cases (List.cons.inj e).1
    | built _ => cases (List.cons.inj e).1
    | ref _ => cases (List.cons.inj e).1
  | ref i =>
    cases y with
    | bool b => cases b <;> cases (List.cons.inj e).1
    | ref j => obtain ⟨e1, e2⟩ := cnt_pf' (List.cons.inj e).2; exact ⟨by rw [e1], e2⟩
    | none => cases (List.cons.inj e).1
    | int _ => cases (List.cons.inj e).1
    | text _ => cases (List.cons.inj e).1
    | span _ _ => cases (List.cons.inj e).1
    | built _ => cases (List.cons.inj e).1
    | host _ => cases (List.cons.inj e).1
/-- the start of one is the start of the other only if they are equal -/
theorem enc_take {x y : Val} (h : (enc x).take (min (enc x).length (enc y).length) = (enc y).take (min (enc x).length (enc y).length)) : x = y := by
  rcases Nat.le_total (enc x).length (enc y).length with q | q
  · rw [Nat.min_eq_left q, List.take_length] at h
    have e : enc x ++ (enc y).drop (enc x).length = enc y ++ [] := by
      rw [List.append_nil]
      conv => lhs; lhs; rw [h]
      exact List.take_append_drop _ _
    exact (enc_pf e).1
  · rw [Nat.min_eq_right q, List.take_length] at h
    have e : enc x ++ [] = enc y ++ (enc x).drop (enc y).length := by
      rw [List.append_nil]
      conv => rhs; lhs; rw [← h]
      exact (List.take_append_drop _ _).symm
    exact (enc_pf e).1
theorem enc_ne (x : Val) : enc x ≠ [] := by cases x <;> simp [enc]
theorem enc_byte {x : Val} (h : ValOk x) : ∀ d ∈ enc x, d < 256 := by
  have c : ∀ n, n < 128 ^ 60 → ∀ d ∈ cnt n, d < 256 := fun n h => cnt_byte 59 n h
  have st : ∀ js, TxOk js → ∀ d ∈ strN js, d < 256 := fun js h d hd => by
    rcases List.mem_append.mp hd with hd | hd
    · exact c _ (Nat.lt_of_le_of_lt h.len (by decide +kernel)) d hd
    · have := h.lt d hd; omega
  intro d hd
  cases x with
  | none => rw [List.mem_singleton.mp hd]; decide
  | bool b => cases b <;> (rw [List.mem_singleton.mp hd]; decide)
  | int i =>
    rcases List.mem_cons.mp hd with rfl | hd
    · decide
    · exact c _ (big i h) d hd
  | text js =>
    rcases List.mem_cons.mp hd with rfl | hd
    · decide
    · exact st js h d hd
  | built js =>
    rcases List.mem_cons.mp hd with rfl | hd
    · decide
    · exact st js h d hd
  | host js =>
    rcases List.mem_cons.mp hd with rfl | hd
    · decide
    · exact st js h d hd
  | ref n =>
    have h : n ≤ 2 ^ 100 := h
    rcases List.mem_cons.mp hd with rfl | hd
    · decide
    · exact c _ (Nat.lt_of_le_of_lt h (by decide +kernel)) d hd
  | span a b =>
    rcases List.mem_cons.mp hd with rfl | hd
    · decide
    · rcases List.mem_append.mp hd with hd | hd
      · exact c _ (big a h.1) d hd
      · exact c _ (big b h.2) d hd
theorem tx_inj {a b : List Nat} (ha : ∀ j ∈ a, j < 95) (hb : ∀ j ∈ b, j < 95) (e : tx a = tx b) : a = b := by
  have e : a.map ch = b.map ch := by
    have : (a.map ch).toArray = (b.map ch).toArray := Str.mk.inj e
    simpa using congrArg Array.toList this
  induction a generalizing b with
  | nil =>
    cases b with
    | nil => rfl
    | cons _ _ => cases e
  | cons i r ih =>
    cases b with
    | nil => cases e
    | cons j q =>
      obtain ⟨e1, e2⟩ := List.cons.inj e
      rw [ch_inj (ha i (by simp)) (hb j (by simp)) e1, ih (fun z h => ha z (List.mem_cons_of_mem _ h)) (fun z h => hb z (List.mem_cons_of_mem _ h)) (by unfold tx; rw [e2]) e2]
end

section
variable {P : Program} {w : World} {K : PySem.W.Frag} {mg : Str → Option Value} {base : Heap}
/-- a value's row, as it is read -/
def vL : Val → List V
  | .none => [.str "none"]
  | .bool b => [.str "bool", .bl b]
  | .int i => [.str "int", .int i]
  | .text js => [.str "text", .str (tx js)]
  | .span a b => [.str "span", .int a, .int b]
  | .built js => [.str "built", .str (tx js)]
  | .host js => [.str "host", .str (tx js)]
  | .ref n => [.str "ref", .int (n : Int)]
theorem vL_inv {H : Hp} {v : V} {x : Val} (d : Dt K H v (valD x)) : ∃ q, v = .ref q ∧ SqT K H q (vL x) := by
  cases x with
  | none => obtain ⟨q, ws, rfl, hq, aw⟩ := d.head; cases aw.nil_inv; exact ⟨q, rfl, hq⟩
  | bool b => obtain ⟨q, y, rfl, hq, dy⟩ := Dt.pair (z := "bool") d; cases dy.bool_inv; exact ⟨q, rfl, hq⟩
  | int b => obtain ⟨q, y, rfl, hq, dy⟩ := Dt.pair (z := "int") d; cases dy.int_inv; exact ⟨q, rfl, hq⟩
  | text b => obtain ⟨q, y, rfl, hq, dy⟩ := Dt.pair (z := "text") d; cases dy.str_inv; exact ⟨q, rfl, hq⟩
  | built b => obtain ⟨q, y, rfl, hq, dy⟩ := Dt.pair (z := "built") d; cases dy.str_inv; exact ⟨q, rfl, hq⟩
  | host b => obtain ⟨q, y, rfl, hq, dy⟩ := Dt.pair (z := "host") d; cases dy.str_inv; exact ⟨q, rfl, hq⟩
  | ref b => obtain ⟨q, y, rfl, hq, dy⟩ := Dt.pair (z := "ref") d; cases dy.int_inv; exact ⟨q, rfl, hq⟩
  | span a b => obtain ⟨q, y, z, rfl, hq, d1, d2⟩ := Dt.triple (z := "span") d; cases d1.int_inv; cases d2.int_inv; exact ⟨q, rfl, hq⟩
def kd : Val → Str
  | .none => "none" | .bool _ => "bool" | .int _ => "int" | .text _ => "text" | .span _ _ => "span" | .built _ => "built" | .host _ => "host" | .ref _ => "ref"
def rest : Val → List V
  | .none => [] | .bool b => [.bl b] | .int i => [.int i] | .text js => [.str (tx js)] | .span a b => [.int a, .int b] | .built js => [.str (tx js)] | .host js => [.str (tx js)] | .ref n => [.int (n : Int)]
theorem vL_kd (x : Val) : vL x = .str (kd x) :: rest x := by cases x <;> rfl
inductive SameK : Val → Val → Prop
  | none : SameK .none .none
  | bool (a b) : SameK (.bool a) (.bool b)
  | int (a b) : SameK (.int a) (.int b)
  | text (a b) : SameK (.text a) (.text b)
  | span (a b c d) : SameK (.span a b) (.span c d)
  | built (a b) : SameK (.built a) (.built b)
  | host (a b) : SameK (.host a) (.host b)
  | ref (a b) : SameK (.ref a) (.ref b)
theorem kd_same : ∀ {x y : Val}, kd x = kd y → SameK x y := by
  intro x y h
  cases x <;> cases y <;> first
    | exact .none
    | exact .bool _ _
    | exact .int _ _
    | exact .text _ _
    | exact .span _ _ _ _
    | exact .built _ _
    | exact .host _ _
    | exact .ref _ _
    | exact absurd h (by simp only [kd]; decide +kernel)
theorem vL_inj {x y : Val} (hx : ValOk x) (hy : ValOk y) (h : vL x = vL y) : x = y := by
  rw [vL_kd, vL_kd] at h
  obtain ⟨h1, h2⟩ := List.cons.inj h
  have s := kd_same (V.str.inj h1)
  cases s with
  | none => rfl
  | bool a b => cases (List.cons.inj h2).1; rfl
  | int a b => cases (List.cons.inj h2).1; rfl
  | text a b => rw [tx_inj hx.lt hy.lt (V.str.inj (List.cons.inj h2).1)]
  | span a b c d => obtain ⟨h3, h4⟩ := List.cons.inj h2; cases h3; cases (List.cons.inj h4).1; rfl
  | built a b => rw [tx_inj hx.lt hy.lt (V.str.inj (List.cons.inj h2).1)]
  | host a b => rw [tx_inj hx.lt hy.lt (V.str.inj (List.cons.inj h2).1)]
  | ref a b => have := V.int.inj (List.cons.inj h2).1; rw [Int.ofNat_inj.mp this]
theorem vL_twins (x y : Val) : Twins (vL x) (vL y) := by
  intro k a b ha hb hall
  rw [vL_kd] at ha hb
  cases k with
  | zero => cases ha; cases hb; exact .str _ _
  | succ k =>
    have h0 := hall 0 (Nat.succ_pos k)
    rw [vL_kd, vL_kd] at h0
    have s := kd_same (V.str.inj (Option.some.inj h0))
    have ha : (rest x)[k]? = some a := ha
    have hb : (rest y)[k]? = some b := hb
    cases s with
    | none => cases ha
    | bool c d => cases k with
      | zero => cases ha; cases hb; exact .bl _ _
      | succ k => cases ha
    | int c d => cases k with
      | zero => cases ha; cases hb; exact .int _ _
      | succ k => cases ha
    | text c d => cases k with
      | zero => cases ha; cases hb; exact .str _ _
      | succ k => cases ha
    | built c d => cases k with
      | zero => cases ha; cases hb; exact .str _ _
      | succ k => cases ha
    | host c d => cases k with
      | zero => cases ha; cases hb; exact .str _ _
      | succ k => cases ha
    | ref c d => cases k with
      | zero => cases ha; cases hb; exact .int _ _
      | succ k => cases ha
    | span c d e f => cases k with
      | zero => cases ha; cases hb; exact .int _ _
      | succ k => cases k with
        | zero => cases ha; cases hb; exact .int _ _
        | succ k => cases ha
theorem vL_len (x : Val) : (vL x).length ≤ 1000 := by cases x <;> simp [vL]
def natL (ns : List Nat) : List PyData := ns.map fun (d : Nat) => PyData.int (d : Int)
theorem eqvAll_nat : ∀ a b : List Nat, PyData.eqvAll (natL a) (natL b) = decide (a = b)
  | [], [] => by simp [natL, PyData.eqvAll]
  | [], _ :: _ => by simp [natL, PyData.eqvAll]
  | _ :: _, [] => by simp [natL, PyData.eqvAll]
  | x :: a, y :: b => by
    have ih := eqvAll_nat a b
    unfold natL at ih ⊢
    simp only [List.map_cons, PyData.eqvAll, PyData.eqv, ih]
    by_cases h : x = y
    · subst h; simp
    · simp [h]; intro h2; omega
theorem dp_nV {H : Hp} (ns : List Nat) : DpAll K H (nV ns) (natL ns) := by
  induction ns with
  | nil => exact .nil
  | cons d r ih => exact .cons (.int _) ih
theorem sh_natL (ns : List Nat) : SeqAt.shaped (.list (natL ns)) = true := by
  have h1 : PyData.canLayAll0 (natL ns) = true := canLayAll0_of fun d hd => by obtain ⟨z, _, rfl⟩ := List.mem_map.mp hd; rfl
  have h2 : PyData.depthAll (natL ns) ≤ 0 := depthAll_of fun d hd => by obtain ⟨z, _, rfl⟩ := List.mem_map.mp hd; exact Nat.zero_le _
  unfold SeqAt.shaped
  simp only [PyData.canLay0, PyData.depth, h1, Nat.le_zero.mp h2]
  rfl
theorem cut_nV (ns : List Nat) (n : Nat) : cutV (nV ns) none (some (n : Int)) = nV (ns.take n) := by
  unfold cutV
  rw [HT.sIx_nat, HT.sIx_none, List.drop_zero, Nat.sub_zero, nV_len]
  unfold nV
  rw [List.map_take]
  by_cases h : n ≤ ns.length
  · rw [Nat.min_eq_left h]
  · rw [Nat.min_eq_right (by omega), List.take_of_length_le (by simp), List.take_of_length_le (by simp; omega)]
theorem nV_int (ns : List Nat) : nV ns = (ns.map fun (d : Nat) => (d : Int)).map V.int := by unfold nV; rw [List.map_map]; rfl
end

abbrev s_NumberReader___init__ : Stmt := inClass (top 20) 0
abbrev N_NumberReader___init__ : List Str := ["self", "numbers", "at"]
abbrev P_NumberReader___init__ : List Str := ["self", "numbers", "at"]
theorem sc_NumberReader___init__ : FnScope N_NumberReader___init__ P_NumberReader___init__ (defScope s_NumberReader___init__) := ⟨rfl, rfl, rfl, by decide +kernel, rfl, by decide +kernel, by decide +kernel⟩
abbrev s_NumberReader_read_number : Stmt := inClass (top 20) 1
abbrev N_NumberReader_read_number : List Str := ["self", "end", "number"]
abbrev P_NumberReader_read_number : List Str := ["self", "end"]
theorem sc_NumberReader_read_number : FnScope N_NumberReader_read_number P_NumberReader_read_number (defScope s_NumberReader_read_number) := ⟨rfl, rfl, rfl, by decide +kernel, rfl, by decide +kernel, by decide +kernel⟩
abbrev s_NumberReader_read_count : Stmt := inClass (top 20) 3
abbrev N_NumberReader_read_count : List Str := ["self", "count", "place", "digit"]
abbrev P_NumberReader_read_count : List Str := ["self"]
theorem sc_NumberReader_read_count : FnScope N_NumberReader_read_count P_NumberReader_read_count (defScope s_NumberReader_read_count) := ⟨rfl, rfl, rfl, by decide +kernel, rfl, by decide +kernel, by decide +kernel⟩
section
variable {P : Program} {w : World} {K : PySem.W.Frag} {mg : Str → Option Value} {base : Heap}
abbrev fR : List Str := ["numbers", "at", "references"]
def rf (n a r : V) : List (Str × V) := [("numbers", n), ("at", a), ("references", r)]
theorem rf_numbers {n a r : V} : (rf n a r).lookup ("numbers" : Str) = some n := by rfl
theorem rf_at {n a r : V} : (rf n a r).lookup ("at" : Str) = some a := by rfl
theorem rf_refs {n a r : V} : (rf n a r).lookup ("references" : Str) = some r := by rfl
theorem rf_set {n a r x : V} : putF "at" x (rf n a r) = rf n x r := by rfl
def spRInit (C : Addr) : Sp := fun vs H Q _ => ∃ (p dx nl : Addr) (a : Int), vs = [.ref p, .ref nl, .int a] ∧ H p = some (.ins C dx []) ∧ ∀ rl H', H rl = none → H' rl = some (.lst []) → H' p = some (.ins C dx (rf (.ref nl) (.int a) (.ref rl))) → (∀ b u, H b = some u → b ≠ p → H' b = some u) → Q .non H'
theorem ok_rinit {C : Addr} {f : Addr} {fd : FuncData} (F : Fun K "__init__" "NumberReader.__init__" s_NumberReader___init__ f fd) (T : Txt K mg) (UC_NumberReader : UseC K mg "NumberReader" fR C) : FnOk P w K mg base CX0 1 f fd P_NumberReader___init__ (spRInit C) := by
  refine F.ok sc_NumberReader___init__ (fun vs H Q E h => ?_) fun cdv A outer s H vs Q E hr h => ?_
  · obtain ⟨p, dx, nl, a, rfl, _⟩ := h
    rfl
  · obtain ⟨p, dx, nl, a, rfl, hp, k⟩ := h
    refine ⟨_, (pss_cons (ps_fd UC_NumberReader (by decide +kernel) (pv 0) (pv 1))
  (pss_cons (ps_fd UC_NumberReader (by decide +kernel) (pv 0) (pv 2))
  (pss_one (ps_fd UC_NumberReader (by decide +kernel) (pv 0) (pe_lst pa_nil))))), ?_⟩
    refine ⟨_, rfl, _, rfl, p, dx, _, rfl, hp, Nat.le_of_ble_eq_true rfl, ?_⟩
    refine ⟨_, rfl, _, rfl, p, dx, _, rfl, upd_same, Nat.le_of_ble_eq_true rfl, ?_⟩
    refine ⟨sz_0, fun rl hrl => ?_⟩
    have np : rl ≠ p := fun e => (by subst e; rw [upd_same] at hrl; cases hrl)
    refine ⟨_, rfl, p, dx, _, rfl, by rw [upd_ne np.symm]; exact upd_same, Nat.le_of_ble_eq_true rfl, ?_⟩
    rw [upd_ne np, upd_ne np] at hrl
    refine k rl _ hrl (by rw [upd_ne np]; exact upd_same) (by rw [upd_same]; rfl) fun b u e1 hb => ?_
    rw [upd_ne hb, upd_ne (ne_of_none e1 hrl), upd_ne hb, upd_ne hb]
    exact e1
def spRNum (C : Addr) : Sp := fun vs H Q _ => ∃ (p dx nl rl : Addr) (ns : List Nat) (i d m : Nat), vs = [.ref p, .int (m : Int)] ∧ H p = some (.ins C dx (rf (.ref nl) (.int (i : Int)) (.ref rl))) ∧ H nl = some (.lst (nV ns)) ∧ ns[i]? = some d ∧ d < m ∧
  Q (.int (d : Int)) (upd H p (.ins C dx (rf (.ref nl) (.int ((i + 1 : Nat) : Int)) (.ref rl))))
theorem ok_rnum {C : Addr} {f : Addr} {fd : FuncData} (F : Fun K "read_number" "NumberReader.read_number" s_NumberReader_read_number f fd) (T : Txt K mg) (UC_NumberReader : UseC K mg "NumberReader" fR C) : FnG P w K mg base CX0 1 f fd P_NumberReader_read_number (spRNum C) := by
  refine okG0 F sc_NumberReader_read_number (fun vs H Q E h => ?_) fun cdv A outer s H vs Q E hr hg h => ?_
  · obtain ⟨p, dx, nl, rl, ns, i, d, m, rfl, _⟩ := h
    rfl
  · obtain ⟨p, dx, nl, rl, ns, i, d, m, rfl, hp, hn, hd, hm, k⟩ := h
    refine ⟨_, (pss_cons (ps_if (pt_cmpR op_ge (pe_fd UC_NumberReader (by decide +kernel) (pv 0)) (pe_callB call_len (by rfl) T.b_len PySem.boot_len (pa_cons (pe_fd UC_NumberReader (by decide +kernel) (pv 0)) pa_nil)) (nomark _))
   pss_never
   pss_nil)
  (pss_cons (ps_set (i := 2) sc_NumberReader_read_number.nd rfl (Or.inl rfl) (pe_ix ix_list (pe_fd UC_NumberReader (by decide +kernel) (pv 0)) (pe_fd UC_NumberReader (by decide +kernel) (pv 0)) (fun _ _ => rfl)))
  (pss_cons (ps_if (PW.pt (pw_or (pt_cmpR op_lt (pv 2) pe_int (nomark _)) (pw_or1 (pt_cmpR op_ge (pv 2) (pv 1) (nomark _)))))
   pss_never
   pss_nil)
  (pss_cons (ps_fdaug UC_NumberReader (by decide +kernel) (pv 0) pe_int iop_add)
  (pss_one (ps_ret (pv 2))))))), ?_⟩
    have hi : i < ns.length := (List.getElem?_eq_some_iff.mp hd).1
    refine ⟨_, rfl, p, dx, _, _, rfl, hp, rf_at, _, rfl, p, dx, _, _, rfl, hp, rf_numbers, _, _, rfl, .inl ⟨_, SqL.of hn, rfl⟩, _, _, rfl, rfl, _, rfl, iteFb (decide_eq_false (by rw [nV_len]; omega)) ?_⟩
    refine ⟨_, rfl, p, dx, _, _, rfl, hp, rf_numbers, _, rfl, p, dx, _, _, rfl, hp, rf_at, nl, _, _, _, rfl, rfl, SqL.of hn, at_of' (j := i) rfl (nV_get hd), ?_⟩
    refine ⟨_, rfl, _, _, rfl, rfl, _, rfl, iteFb (decide_eq_false (by omega)) ?_⟩
    refine ⟨_, rfl, _, rfl, _, _, rfl, rfl, _, rfl, iteFb (decide_eq_false (by omega)) ?_⟩
    refine ⟨_, rfl, p, dx, _, _, rfl, hp, rf_at, _, _, rfl, rfl, dx, _, hp, Nat.le_of_ble_eq_true rfl, ?_⟩
    exact ⟨_, rfl, k⟩
theorem shl_val (c d j : Nat) : (c : Int) + ((d : Int) % 128) * 2 ^ ((7 * (0 + (j : Int))).toNat) = ((c + d % 128 * 128 ^ j : Nat) : Int) := by
  have e : (7 * (0 + (j : Int))).toNat = 7 * j := by omega
  have p : (128 : Nat) ^ j = 2 ^ (7 * j) := by rw [Nat.pow_mul]
  rw [e, p]
  simp only [Int.natCast_add, Int.natCast_mul, Int.natCast_emod, Int.natCast_pow]
  rfl
def spRCnt (C : Addr) : Sp := fun vs H Q _ => ∃ (p dx nl rl : Addr) (ns tl : List Nat) (i n : Nat), vs = [.ref p] ∧ H p = some (.ins C dx (rf (.ref nl) (.int (i : Int)) (.ref rl))) ∧ H nl = some (.lst (nV ns)) ∧ ns.drop i = cnt n ++ tl ∧ n < 128 ^ 40 ∧
  ∀ H', H' p = some (.ins C dx (rf (.ref nl) (.int ((i + (cnt n).length : Nat) : Int)) (.ref rl))) → (∀ b o, H b = some o → b ≠ p → H' b = some o) → Q (.int (n : Int)) H'
theorem ok_rcnt {C : Addr} {f : Addr} {fd : FuncData} (F : Fun K "read_count" "NumberReader.read_count" s_NumberReader_read_count f fd) (T : Txt K mg) (UC_NumberReader : UseC K mg "NumberReader" fR C) (U_NumberReader_read_number : UseM P w K mg base CX0 C "read_number" 1 P_NumberReader_read_number (spRNum C)) :
    FnG P w K mg base CX0 2 f fd P_NumberReader_read_count (spRCnt C) := by
  refine okG0 F sc_NumberReader_read_count (fun vs H Q E h => ?_) fun cdv A outer s H vs Q E hr hg h => ?_
  · obtain ⟨p, dx, nl, rl, ns, tl, i, n, rfl, _⟩ := h
    rfl
  · obtain ⟨p, dx, nl, rl, ns, tl, i, n, rfl, hp, hn, hdr, hlt, k⟩ := h
    refine ⟨_, (pss_cons (ps_set (i := 1) sc_NumberReader_read_count.nd rfl (Or.inl rfl) pe_int)
  (pss_cons (ps_for PassesOwn.never rfl (pi_range1 (by rfl) T.b_range (pa_cons (pe_globI T.c_MOST_DIGITS (by rfl)) pa_nil)) (pg_name (i := 2) sc_NumberReader_read_count.nd rfl (Or.inl rfl))
   (pss_cons (ps_set (i := 3) sc_NumberReader_read_count.nd rfl (Or.inl rfl) (pe_mc UC_NumberReader U_NumberReader_read_number pass0 (hr.mono (by decide)) hg (pv 0) (pa_cons (pe_globI T.c_NUMBER_END (by rfl)) pa_nil)))
  (pss_cons (ps_if (PW.pt (pw_and (pt_cmpR op_eq (pv 3) pe_int (nomark _)) (pw_and1 (pt_cmpR op_gt (pv 2) pe_int (nomark _)))))
   pss_never
   pss_nil)
  (pss_cons (ps_aug (i := 1) sc_NumberReader_read_count.nd rfl (Or.inl rfl) (pe_op op_shl (pe_op op_mod (pv 3) (pe_globI T.c_BASE_reader (by rfl))) (pe_op op_mul pe_int (pv 2))) ip_add)
  (pss_one (ps_if (pt_cmpR op_lt (pv 3) (pe_globI T.c_BASE_reader (by rfl)) (nomark _))
   (pss_one (ps_ret (pv 1)))
   pss_nil))))))
  (pss_one (ps_ret (pe_mc UC_NumberReader U_NumberReader_read_number pass0 (hr.mono (by decide)) hg (pv 0) (pa_cons pe_int pa_nil)))))), ?_⟩
    have npn : nl ≠ p := ne_of hn hp (by intro z; cases z)
    have hlen := cnt_len 39 n hlt
    refine ⟨40, rfl, by decide, by decide, ?_⟩
    refine for_range (lo := 0) (n := 40) (fun j σ H1 => ∃ (c m : Nat) (x2 x3 : Option V), σ = [some (.ref p), some (.int (c : Int)), x2, x3] ∧ c + m * 128 ^ j = n ∧ (0 < j → 0 < m) ∧ ns.drop (i + j) = cnt m ++ tl ∧ j + (cnt m).length = (cnt n).length ∧
        H1 p = some (.ins C dx (rf (.ref nl) (.int ((i + j : Nat) : Int)) (.ref rl))) ∧ ∀ b o, H b = some o → b ≠ p → H1 b = some o)
      ⟨0, n, none, none, rfl, by simp, by simp, hdr, by simp, hp, fun _ _ h _ => h⟩ ?_ ?_
    · rintro j σ H1 hj ⟨c, m, x2, x3, rfl, hc, hm, hd, hl, hp1, kp⟩
      have hn1 := kp _ _ hn npn
      obtain ⟨d, rest, hcm, hd0, hd1⟩ : ∃ d rest, cnt m = d :: rest ∧ d < 256 ∧ (d = 0 → m = 0) := by
        by_cases h1 : m < 128
        · exact ⟨m, [], cnt_lt h1, by omega, fun h => h⟩
        · exact ⟨128 + m % 128, _, cnt_ge h1, by have := Nat.mod_lt m (show 0 < 128 by decide); omega, fun h => by omega⟩
      have hget : ns[i + j]? = some d := by
        have : (ns.drop (i + j))[0]? = some d := by rw [hd, hcm]; rfl
        rw [List.getElem?_drop] at this
        exact this
      refine ⟨_, rfl, p, dx, _, rfl, hp1, by rfl, p, dx, nl, rl, ns, i + j, d, 256, rfl, hp1, hn1, hget, hd0, ?_⟩
      have hp2 : upd H1 p (.ins C dx (rf (.ref nl) (.int ((i + j + 1 : Nat) : Int)) (.ref rl))) p = _ := upd_same
      have kp2 : ∀ b o, H b = some o → b ≠ p → upd H1 p (.ins C dx (rf (.ref nl) (.int ((i + j + 1 : Nat) : Int)) (.ref rl))) b = some o := fun b o e hb => by rw [upd_ne hb]; exact kp _ _ e hb
      generalize upd H1 p (.ins C dx (rf (.ref nl) (.int ((i + j + 1 : Nat) : Int)) (.ref rl))) = H2 at hp2 kp2 ⊢
      refine ⟨_, rfl, rfl, _, rfl, ?_⟩
      refine ite3 (fun c0 => ⟨_, rfl, _, _, rfl, rfl, _, rfl, iteFb (decide_eq_false ?A) ?B⟩) fun c0 => ?C
      case A =>
        have c0 : d = 0 := by have := V.int.inj (of_decide_eq_true c0); omega
        have := hd1 c0
        omega
      case' C => refine iteFb rfl ?_
      all_goals
        refine ⟨_, rfl, _, rfl, _, _, rfl, rfl, (by show (0 : Int) < 128; decide), _, rfl, _, _, rfl, rfl, .inl ⟨by decide, by decide⟩, _, _, rfl, rfl, ⟨by omega, by omega, by omega⟩, _, _, rfl, rfl, ?_⟩
        refine ⟨_, rfl, _, _, rfl, rfl, _, rfl, ?_⟩
        refine ite3 (fun c1 => ?_) fun c1 => ?_
        · have c1 := of_decide_eq_true c1
          have h1 : m < 128 := by
            by_cases h1 : m < 128
            · exact h1
            · rw [cnt_ge h1] at hcm
              have := (List.cons.inj hcm).1
              omega
          have ed : m = d := by rw [cnt_lt h1] at hcm; exact (List.cons.inj hcm).1
          have e : c + d % 128 * 128 ^ j = n := by rw [← ed, Nat.mod_eq_of_lt h1]; exact hc
          have e := (shl_val c d j).trans (congrArg (fun z : Nat => (z : Int)) e)
          refine ⟨_, rfl, (congrArg (fun z : Int => Q (V.int z) H2) e).mpr ?_⟩
          refine k H2 ?_ kp2
          rw [hp2]
          have : i + j + 1 = i + (cnt n).length := by rw [← hl, hcm]; rw [cnt_lt h1] at hcm; rw [← (List.cons.inj hcm).2]; simp; omega
          rw [this]
        · have c1 := of_decide_eq_false c1
          have h1 : ¬ m < 128 := fun h1 => by
            rw [cnt_lt h1] at hcm
            have := (List.cons.inj hcm).1
            omega
          have ed := hcm
          rw [cnt_ge h1] at ed
          obtain ⟨ed, er⟩ := List.cons.inj ed
          refine ⟨c + d % 128 * 128 ^ j, m / 128, some (.int (0 + (j : Int))), some (.int (d : Int)), ?_, ?_, ?_, ?_, ?_, hp2, kp2⟩
          · rw [← shl_val]; rfl
          · rw [← hc, show d % 128 = m % 128 by omega, Nat.pow_succ, Nat.add_assoc]
            congr 1
            have := Nat.div_add_mod m 128
            calc m % 128 * 128 ^ j + m / 128 * (128 ^ j * 128) = (128 * (m / 128) + m % 128) * 128 ^ j := by rw [Nat.add_mul, Nat.mul_comm (128 ^ j) 128, ← Nat.mul_assoc, Nat.mul_comm (m / 128) 128, Nat.add_comm]
              _ = m * 128 ^ j := by rw [this]
          · intro _; omega
          · have e2 : ns.drop (i + (j + 1)) = (ns.drop (i + j)).drop 1 := by rw [List.drop_drop]; congr 1
            rw [e2, hd, hcm, ← er]; rfl
          · rw [← hl, hcm, ← er, List.length_cons]; omega
    · rintro σ H1 ⟨c, m, x2, x3, rfl, hc, hm, hd, hl, hp1, kp⟩
      have := List.length_pos_iff.mpr (cnt_ne m)
      omega
end

abbrev s_NumberReader_read_integer : Stmt := inClass (top 20) 4
abbrev N_NumberReader_read_integer : List Str := ["self", "first", "count", "number"]
abbrev P_NumberReader_read_integer : List Str := ["self"]
theorem sc_NumberReader_read_integer : FnScope N_NumberReader_read_integer P_NumberReader_read_integer (defScope s_NumberReader_read_integer) := ⟨rfl, rfl, rfl, by decide +kernel, rfl, by decide +kernel, by decide +kernel⟩
abbrev s_NumberReader_read_count_below : Stmt := inClass (top 20) 6
abbrev N_NumberReader_read_count_below : List Str := ["self", "end", "first", "count"]
abbrev P_NumberReader_read_count_below : List Str := ["self", "end"]
theorem sc_NumberReader_read_count_below : FnScope N_NumberReader_read_count_below P_NumberReader_read_count_below (defScope s_NumberReader_read_count_below) := ⟨rfl, rfl, rfl, by decide +kernel, rfl, by decide +kernel, by decide +kernel⟩
abbrev s_NumberReader_read_string : Stmt := inClass (top 20) 5
abbrev N_NumberReader_read_string : List Str := ["self", "most", "size", "_"]
abbrev P_NumberReader_read_string : List Str := ["self", "most"]
theorem sc_NumberReader_read_string : FnScope N_NumberReader_read_string P_NumberReader_read_string (defScope s_NumberReader_read_string) := ⟨rfl, rfl, rfl, by decide +kernel, rfl, by decide +kernel, by decide +kernel⟩
abbrev s_NumberReader_read_reference : Stmt := inClass (top 20) 7
abbrev N_NumberReader_read_reference : List Str := ["self", "shift", "first", "k"]
abbrev P_NumberReader_read_reference : List Str := ["self", "shift"]
theorem sc_NumberReader_read_reference : FnScope N_NumberReader_read_reference P_NumberReader_read_reference (defScope s_NumberReader_read_reference) := ⟨rfl, rfl, rfl, by decide +kernel, rfl, by decide +kernel, by decide +kernel⟩
abbrev s_NumberReader_read_value : Stmt := inClass (top 20) 8
abbrev N_NumberReader_read_value : List Str := ["self", "number", "kind", "low"]
abbrev P_NumberReader_read_value : List Str := ["self"]
theorem sc_NumberReader_read_value : FnScope N_NumberReader_read_value P_NumberReader_read_value (defScope s_NumberReader_read_value) := ⟨rfl, rfl, rfl, by decide +kernel, rfl, by decide +kernel, by decide +kernel⟩
section
variable {P : Program} {w : World} {K : PySem.W.Frag} {mg : Str → Option Value} {base : Heap}
/-- the reader stands at p, before the i-th number -/
def RAt (C p dx nl rl : Addr) (H : Hp) (i : Nat) : Prop := H p = some (.ins C dx (rf (.ref nl) (.int (i : Int)) (.ref rl)))
def KeepR (p : Addr) (H H' : Hp) : Prop := ∀ b o, H b = some o → b ≠ p → H' b = some o
def spRInt (C : Addr) : Sp := fun vs H Q _ => ∃ (p dx nl rl : Addr) (ns tl : List Nat) (i : Nat) (z : Int), vs = [.ref p] ∧ RAt C p dx nl rl H i ∧ H nl = some (.lst (nV ns)) ∧ ns.drop i = cnt (zig z) ++ tl ∧ z.natAbs < 2 ^ 256 ∧
  ∀ H', RAt C p dx nl rl H' (i + (cnt (zig z)).length) → KeepR p H H' → Q (.int z) H'
theorem zig_half (z : Int) : (((zig z : Nat) : Int) / 2, ((zig z : Nat) : Int) % 2) = if 0 ≤ z then (z, 0) else (-z - 1, 1) := by
  by_cases h : 0 ≤ z
  · rw [if_pos h, ← zig_pos h]
    congr 1 <;> omega
  · rw [if_neg h, ← zig_neg h]
    congr 1 <;> omega
theorem ok_rint {C : Addr} {f : Addr} {fd : FuncData} (F : Fun K "read_integer" "NumberReader.read_integer" s_NumberReader_read_integer f fd) (T : Txt K mg) (UC_NumberReader : UseC K mg "NumberReader" fR C) (U_NumberReader_read_count : UseM P w K mg base CX0 C "read_count" 2 P_NumberReader_read_count (spRCnt C)) :
    FnG P w K mg base CX0 3 f fd P_NumberReader_read_integer (spRInt C) := by
  refine okG0 F sc_NumberReader_read_integer (fun vs H Q E h => ?_) fun cdv A outer s H vs Q E hr hg h => ?_
  · obtain ⟨p, dx, nl, rl, ns, tl, i, z, rfl, _⟩ := h
    rfl
  · obtain ⟨p, dx, nl, rl, ns, tl, i, z, rfl, hp, hn, hd, hz, k⟩ := h
    refine ⟨_, (pss_cons (ps_set (i := 1) sc_NumberReader_read_integer.nd rfl (Or.inl rfl) (pe_fd UC_NumberReader (by decide +kernel) (pv 0)))
  (pss_cons (ps_set (i := 2) sc_NumberReader_read_integer.nd rfl (Or.inl rfl) (pe_mc0 UC_NumberReader U_NumberReader_read_count pass0 (hr.mono (by decide)) hg (pv 0)))
  (pss_cons (ps_set (i := 3) sc_NumberReader_read_integer.nd rfl (Or.inl rfl) (pe_op op_fdiv (pv 2) pe_int))
  (C8.pss_cut (ps_if (pt_cmpR op_eq (pe_op op_mod (pv 2) pe_int) pe_int (nomark _))
   (pss_one (ps_set (i := 3) sc_NumberReader_read_integer.nd rfl (Or.inl rfl) (pe_op op_sub (pe_un un_neg (pv 3)) pe_int)))
   pss_nil)
  (pss_cons (ps_if (pt_cmpR op_ge (pe_callB call_abs (by rfl) T.b_abs (by decide +kernel) (pa_cons (pv 3) pa_nil)) (pe_globI T.c_INTEGER_END (by rfl)) (nomark _))
   pss_never
   pss_nil)
  (pss_one (ps_ret (pv 3)))))))), ?_⟩
    have h40 : zig z < 128 ^ 40 := Nat.lt_of_le_of_lt (zig_lt (k := 256) (Nat.le_of_lt hz)) (by decide +kernel)
    refine ⟨_, rfl, p, dx, _, _, rfl, hp, rf_at, ?_⟩
    refine ⟨_, rfl, p, dx, _, rfl, hp, by rfl, p, dx, nl, rl, ns, tl, i, zig z, rfl, hp, hn, hd, h40, fun H1 hp1 kp1 => ?_⟩
    have e := zig_half z
    clear hd h40
    generalize zig z = c at e hp1 k ⊢
    refine ⟨_, rfl, _, _, rfl, rfl, ⟨by decide, by decide⟩, ?_⟩
    refine ⟨fun σ H' => σ = [some (.ref p), some (.int (i : Int)), some (.int ((c : Nat) : Int)), some (.int z)] ∧ H' = H1, ?_, ?_⟩
    · refine ⟨_, rfl, _, _, rfl, rfl, (by show (0 : Int) < 2; decide), rfl, _, rfl, ?_⟩
      by_cases h : 0 ≤ z
      · rw [if_pos h] at e
        have e1 := congrArg Prod.fst e
        have e2 := congrArg Prod.snd e
        simp only at e1 e2
        refine iteFb (decide_eq_false fun q => by have := V.int.inj q; omega) ⟨by rw [← e1]; rfl, rfl⟩
      · rw [if_neg h] at e
        have e1 := congrArg Prod.fst e
        have e2 := congrArg Prod.snd e
        simp only at e1 e2
        refine iteTb (decide_eq_true (by show V.int ((c : Int) % 2) = V.int 1; rw [e2])) ⟨_, rfl, _, rfl, _, _, rfl, rfl, ?_, rfl⟩
        have e3 : -((c : Int) / 2) - 1 = z := by omega
        conv => rhs; rw [← e3]
        rfl
    rintro _ _ ⟨rfl, rfl⟩
    refine ⟨_, rfl, z, rfl, _, _, rfl, rfl, _, rfl, iteFb (decide_eq_false ?_) ?_⟩
    · have : ((2 : Int) ^ 256) = ((2 ^ 256 : Nat) : Int) := by decide +kernel
      rw [this]
      split <;> omega
    · exact ⟨_, rfl, k _ hp1 kp1⟩
def spRBelow (C : Addr) : Sp := fun vs H Q _ => ∃ (p dx nl rl : Addr) (ns tl : List Nat) (i n m : Nat), vs = [.ref p, .int (m : Int)] ∧ RAt C p dx nl rl H i ∧ H nl = some (.lst (nV ns)) ∧ ns.drop i = cnt n ++ tl ∧ n < 128 ^ 40 ∧ n < m ∧
  ∀ H', RAt C p dx nl rl H' (i + (cnt n).length) → KeepR p H H' → Q (.int (n : Int)) H'
theorem ok_rbelow {C : Addr} {f : Addr} {fd : FuncData} (F : Fun K "read_count_below" "NumberReader.read_count_below" s_NumberReader_read_count_below f fd) (T : Txt K mg) (UC_NumberReader : UseC K mg "NumberReader" fR C) (U_NumberReader_read_count : UseM P w K mg base CX0 C "read_count" 2 P_NumberReader_read_count (spRCnt C)) :
    FnG P w K mg base CX0 3 f fd P_NumberReader_read_count_below (spRBelow C) := by
  refine okG0 F sc_NumberReader_read_count_below (fun vs H Q E h => ?_) fun cdv A outer s H vs Q E hr hg h => ?_
  · obtain ⟨p, dx, nl, rl, ns, tl, i, n, m, rfl, _⟩ := h
    rfl
  · obtain ⟨p, dx, nl, rl, ns, tl, i, n, m, rfl, hp, hn, hd, h40, hm, k⟩ := h
    refine ⟨_, (pss_cons (ps_set (i := 2) sc_NumberReader_read_count_below.nd rfl (Or.inl rfl) (pe_fd UC_NumberReader (by decide +kernel) (pv 0)))
  (pss_cons (ps_set (i := 3) sc_NumberReader_read_count_below.nd rfl (Or.inl rfl) (pe_mc0 UC_NumberReader U_NumberReader_read_count pass0 (hr.mono (by decide)) hg (pv 0)))
  (pss_cons (ps_if (pt_cmpR op_ge (pv 3) (pv 1) (nomark _))
   pss_never
   pss_nil)
  (pss_one (ps_ret (pv 3)))))), ?_⟩
    refine ⟨_, rfl, p, dx, _, _, rfl, hp, rf_at, ?_⟩
    refine ⟨_, rfl, p, dx, _, rfl, hp, by rfl, p, dx, nl, rl, ns, tl, i, n, rfl, hp, hn, hd, h40, fun H1 hp1 kp1 => ?_⟩
    refine ⟨_, rfl, _, rfl, _, _, rfl, rfl, _, rfl, iteFb (decide_eq_false (by omega)) ?_⟩
    exact ⟨_, rfl, k _ hp1 kp1⟩
def spRStr (C : Addr) : Sp := fun vs H Q _ => ∃ (p dx nl rl : Addr) (ns tl js : List Nat) (i m : Nat), vs = [.ref p, .int (m : Int)] ∧ RAt C p dx nl rl H i ∧ H nl = some (.lst (nV ns)) ∧ ns.drop i = strN js ++ tl ∧ (∀ j ∈ js, j < 95) ∧ js.length ≤ m ∧ m ≤ 100000 ∧
  ∀ H', RAt C p dx nl rl H' (i + (strN js).length) → KeepR p H H' → Q (.str (tx js)) H'
theorem ok_rstr {C : Addr} {f : Addr} {fd : FuncData} (F : Fun K "read_string" "NumberReader.read_string" s_NumberReader_read_string f fd) (T : Txt K mg) (UC_NumberReader : UseC K mg "NumberReader" fR C) (U_NumberReader_read_count_below : UseM P w K mg base CX0 C "read_count_below" 3 P_NumberReader_read_count_below (spRBelow C))
    (U_NumberReader_read_number : UseM P w K mg base CX0 C "read_number" 1 P_NumberReader_read_number (spRNum C)) : FnG P w K mg base CX0 4 f fd P_NumberReader_read_string (spRStr C) := by
  refine okG0 F sc_NumberReader_read_string (fun vs H Q E h => ?_) fun cdv A outer s H vs Q E hr hg h => ?_
  · obtain ⟨p, dx, nl, rl, ns, tl, js, i, m, rfl, _⟩ := h
    rfl
  · obtain ⟨p, dx, nl, rl, ns, tl, js, i, m, rfl, hp, hn, hd, hj, hm, hm2, k⟩ := h
    refine ⟨_, (pss_cons (ps_set (i := 2) sc_NumberReader_read_string.nd rfl (Or.inl rfl) (pe_mc UC_NumberReader U_NumberReader_read_count_below pass0 (hr.mono (by decide)) hg (pv 0) (pa_cons (pe_op op_add (pv 1) pe_int) pa_nil)))
  (pss_one (ps_ret (pe_bm PySem.F.plainAttrs_str PySem.F.slot_str_join PySem.F.type_str_join mt_join pe_str (pa_cons (pe_lc (own := [("_", 3)]) (g := (gName 3)) rfl sc_NumberReader_read_string.nd (pi_range1 (by rfl) T.b_range (pa_cons (pv 2) pa_nil)) (blkOk_by (N := N_NumberReader_read_string) (sc := defScope s_NumberReader_read_string) (by decide +kernel)) (fun _ _ _ _ _ => (pg_name (i := 3) sc_NumberReader_read_string.nd rfl (Or.inl rfl))) (fun _ _ _ _ _ => pts_nil) (fun _ _ _ _ _ => (pe_ix ix_str (pe_globS T.c_CHARACTERS (by rfl)) (pe_mc UC_NumberReader U_NumberReader_read_number pass0 (hr.mono (by decide)) hg (pv 0) (pa_cons (pe_callB (call_lenK (K := K) rfl) (by rfl) T.b_len PySem.boot_len (pa_cons (pe_globS T.c_CHARACTERS (by rfl)) pa_nil)) pa_nil)) (fun _ _ => rfl)))) pa_nil))))), ?_⟩
    unfold strN at hd
    rw [List.append_assoc] at hd
    refine ⟨_, rfl, p, dx, _, rfl, hp, by rfl, _, rfl, _, _, rfl, rfl, p, dx, nl, rl, ns, js ++ tl, i, js.length, m + 1, rfl, hp, hn, hd, Nat.lt_of_le_of_lt (Nat.le_trans hm hm2) (by decide +kernel), by omega, fun H1 hp1 kp1 => ?_⟩
    refine ⟨rfl, _, rfl, js.length, rfl, by omega, by omega, fun D hD => ?_⟩
    rw [Int.toNat_natCast]
    have npn : nl ≠ p := ne_of hn hp (by intro z; cases z)
    have hn1 := kp1 _ _ hn npn
    have nDp : D ≠ p := fun e => (by subst e; rw [RAt] at hp1; rw [hD] at hp1; cases hp1)
    have nDn : D ≠ nl := fun e => (by subst e; rw [hD] at hn1; cases hn1)
    have hd2 : ns.drop (i + (cnt js.length).length) = js ++ tl := by rw [← List.drop_drop, hd, List.drop_left]
    refine lc_it (walk_range (lo := 0) (n := js.length)) (fun j H' => H' D = some (.lst (chV ((js.take j).map ch))) ∧ RAt C p dx nl rl H' (i + (cnt js.length).length + j) ∧ (∀ b o, H1 b = some o → b ≠ p → H' b = some o))
      ⟨upd_same, by show upd H1 D _ p = _; rw [upd_ne nDp.symm]; exact hp1, fun b o e hb => by rw [upd_ne (ne_of_none e hD)]; exact e⟩ (fun _ _ _ _ => trivial) ?_ ?_
    · rintro j x H5 H6 hjl ⟨e5, hp5, kp5⟩ ⟨rfl, rfl⟩
      refine ⟨rfl, tYes_of ?_⟩
      have hjs : js[j]? = some js[j] := List.getElem?_eq_getElem hjl
      have hj95 := hj _ (List.getElem_mem hjl)
      generalize js[j] = c at hjs hj95
      have hget : ns[i + (cnt js.length).length + j]? = some c := by
        have : (ns.drop (i + (cnt js.length).length))[j]? = some c := by rw [hd2, List.getElem?_append_left hjl]; exact hjs
        rw [List.getElem?_drop] at this
        exact this
      have cl : chStr.length = 95 := by decide +kernel
      refine ⟨_, rfl, p, dx, _, rfl, hp5, by rfl, _, chStr.length, rfl, ⟨by decide +kernel, rfl⟩, p, dx, nl, rl, ns, _, c, 95, by rw [cl], hp5, kp5 _ _ hn1 npn, hget, hj95, ?_⟩
      refine ⟨chStr, (c : Int), ch c, rfl, rfl, by decide +kernel, atI_nat (ch_at hj95), chV ((js.take j).map ch), ?_, ?_, ?_, ?_⟩
      · rw [upd_ne nDp]; exact e5
      · rw [chV_len, List.length_map, List.length_take]; exact Nat.lt_of_le_of_lt (Nat.le_trans (Nat.min_le_right _ _) (Nat.le_trans hm hm2)) (by decide)
      · rw [upd_same, List.take_succ, hjs, List.map_append, chV_app]; rfl
      · refine ⟨(upd_ne nDp.symm).trans upd_same, fun b o e hb => by rw [upd_ne (ne_of_none e hD), upd_ne hb]; exact kp5 _ _ e hb⟩
    · rintro H5 ⟨e5, hp5, kp5⟩
      rw [List.take_length] at e5
      refine ⟨_, D, _, rfl, rfl, .inl (SqL.of e5), ?_, ?_⟩
      · rw [one_len, List.length_map, List.length_map, show ("" : Str).length = 0 by decide +kernel]; omega
      · rw [join_chars]
        refine k H5 ?_ fun b o e hb => kp5 _ _ (kp1 _ _ e hb) hb
        rw [show i + (strN js).length = i + (cnt js.length).length + js.length by rw [strN, List.length_append]; omega]
        exact hp5
/-- a reference is added -/
def spRRef (K : PySem.W.Frag) (C : Addr) : Sp := fun vs H Q _ => ∃ (p dx nl rl : Addr) (ns tl : List Nat) (rs : List V) (i n : Nat), vs = [.ref p, .int 0] ∧ RAt C p dx nl rl H i ∧ H nl = some (.lst (nV ns)) ∧ H rl = some (.lst rs) ∧ rs.length ≤ 1000000 ∧ nl ≠ rl ∧ ns.drop i = cnt n ++ tl ∧ n < 128 ^ 40 ∧
  ∀ H' t, RAt C p dx nl rl H' (i + (cnt n).length) → H' rl = some (.lst (rs ++ [.ref t])) → Dt K H' (.ref t) (.tuple [.int (i : Int), .int (n : Int)]) → (∀ b o, H b = some o → b ≠ p → b ≠ rl → H' b = some o) → Q (.int (n : Int)) H'
theorem ok_rref {C : Addr} {f : Addr} {fd : FuncData} (F : Fun K "read_reference" "NumberReader.read_reference" s_NumberReader_read_reference f fd) (T : Txt K mg) (UC_NumberReader : UseC K mg "NumberReader" fR C) (U_NumberReader_read_count : UseM P w K mg base CX0 C "read_count" 2 P_NumberReader_read_count (spRCnt C)) :
    FnG P w K mg base CX0 3 f fd P_NumberReader_read_reference (spRRef K C) := by
  refine okG0 F sc_NumberReader_read_reference (fun vs H Q E h => ?_) fun cdv A outer s H vs Q E hr hg h => ?_
  · obtain ⟨p, dx, nl, rl, ns, tl, rs, i, n, rfl, _⟩ := h
    rfl
  · obtain ⟨p, dx, nl, rl, ns, tl, rs, i, n, rfl, hp, hn, hrl, hrs, hne, hd, h40, k⟩ := h
    refine ⟨_, (pss_cons (ps_set (i := 2) sc_NumberReader_read_reference.nd rfl (Or.inl rfl) (pe_fd UC_NumberReader (by decide +kernel) (pv 0)))
  (pss_cons (ps_set (i := 3) sc_NumberReader_read_reference.nd rfl (Or.inl rfl) (pe_op op_sub (pe_mc0 UC_NumberReader U_NumberReader_read_count pass0 (hr.mono (by decide)) hg (pv 0)) (pv 1)))
  (pss_cons (ps_expr (pe_bm PySem.F.plainAttrs_list PySem.F.slot_list_append PySem.F.type_list_append mt_append (pe_fd UC_NumberReader (by decide +kernel) (pv 0)) (pa_cons (pe_tup (pa_cons (pv 2) (pa_cons (pv 3) pa_nil))) pa_nil)))
  (pss_one (ps_ret (pv 3)))))), ?_⟩
    have nrp : rl ≠ p := ne_of hrl hp (by intro z; cases z)
    refine ⟨_, rfl, p, dx, _, _, rfl, hp, rf_at, ?_⟩
    refine ⟨_, rfl, p, dx, _, rfl, hp, by rfl, p, dx, nl, rl, ns, tl, i, n, rfl, hp, hn, hd, h40, fun H1 hp1 kp1 => ?_⟩
    have hp1 : RAt C p dx nl rl H1 (i + (cnt n).length) := hp1
    refine ⟨_, rfl, _, _, rfl, rfl, ?_⟩
    have hrl1 := kp1 _ _ hrl nrp
    refine ⟨_, rfl, p, dx, _, _, rfl, hp1, rf_refs, .inl ⟨rfl, _, SqL.of hrl1⟩, _, rfl, _, rfl, sz_2, fun t ht => ?_⟩
    have S2 := Same.new (o := .tup [.int (i : Int), .int ((n : Int) - 0)]) ht
    refine ⟨rl, rs, .ref t, rfl, rfl, S2 _ _ hrl1, Nat.lt_of_le_of_lt hrs (by decide), ?_⟩
    have e0 : (n : Int) - 0 = (n : Int) := Int.sub_zero _
    refine ⟨_, rfl, (congrArg (fun z : Int => Q (V.int z) _) e0).mpr ?_⟩
    have hrl2 := S2 _ _ hrl1
    have dt : Dt K (upd H1 t (.tup [.int (i : Int), .int ((n : Int) - 0)])) (.ref t) (.tuple [.int (i : Int), .int (n : Int)]) := by
      have dt : Dt K (upd H1 t (.tup [.int (i : Int), .int ((n : Int) - 0)])) (.ref t) (.tuple [.int (i : Int), .int ((n : Int) - 0)]) := Dt.made ht (.cons (.int _) (.cons (.int _) .nil))
      rw [show PyData.int ((n : Int) - 0) = PyData.int (n : Int) by rw [e0]] at dt
      exact dt
    refine k _ t ?_ upd_same (Dt.keepT (KeepT.upd hrl2) dt) fun b o e h1 h2 => ?_
    · show upd _ rl _ p = _
      rw [upd_ne nrp.symm]; exact S2 _ _ hp1
    · rw [upd_ne h2]; exact S2 _ _ (kp1 _ _ e h1)
def ValRd : Val → Prop
  | .int i => i.natAbs < 2 ^ 256
  | .text js => js.length ≤ 1000 ∧ ∀ j ∈ js, j < 95
  | .span a b => a.natAbs < 2 ^ 256 ∧ b.natAbs < 2 ^ 256
  | .built js => js.length ≤ 200 ∧ ∀ j ∈ js, j < 95
  | .host js => js.length ≤ 200 ∧ ∀ j ∈ js, j < 95
  | .ref n => n < 128 ^ 40
  | _ => True
def spRVal (K : PySem.W.Frag) (C : Addr) : Sp := fun vs H Q _ => ∃ (p dx nl rl : Addr) (ns tl : List Nat) (rs : List V) (i : Nat) (x : Val), vs = [.ref p] ∧ RAt C p dx nl rl H i ∧ H nl = some (.lst (nV ns)) ∧ H rl = some (.lst rs) ∧ rs.length ≤ 1000000 ∧ nl ≠ rl ∧ ns.drop i = enc x ++ tl ∧ ValRd x ∧
  ∀ v H' rs', RAt C p dx nl rl H' (i + (enc x).length) → H' rl = some (.lst rs') → rs'.length ≤ rs.length + 1 → Dt K H' v (valD x) → (∀ b o, H b = some o → b ≠ p → b ≠ rl → H' b = some o) → Q v H'
def kdR : Val → Str
  | .none => "none" | .bool _ => "bool" | .int _ => "int" | .text _ => "text" | .span _ _ => "span" | .built _ => "built" | .host _ => "host" | .ref _ => "ref"
def kinds9 : List Str := ["none", "bool", "bool", "int", "text", "span", "built", "host", "ref"]
theorem ok_rval {C : Addr} {f : Addr} {fd : FuncData} (F : Fun K "read_value" "NumberReader.read_value" s_NumberReader_read_value f fd) (T : Txt K mg) (UC_NumberReader : UseC K mg "NumberReader" fR C) (U_NumberReader_read_number : UseM P w K mg base CX0 C "read_number" 1 P_NumberReader_read_number (spRNum C))
    (U_NumberReader_read_integer : UseM P w K mg base CX0 C "read_integer" 3 P_NumberReader_read_integer (spRInt C)) (U_NumberReader_read_string : UseM P w K mg base CX0 C "read_string" 4 P_NumberReader_read_string (spRStr C)) (U_NumberReader_read_reference : UseM P w K mg base CX0 C "read_reference" 3 P_NumberReader_read_reference (spRRef K C)) :
    FnG P w K mg base CX0 5 f fd P_NumberReader_read_value (spRVal K C) := by
  refine okG0 F sc_NumberReader_read_value (fun vs H Q E h => ?_) fun cdv A outer s H vs Q E hr hg h => ?_
  · obtain ⟨p, dx, nl, rl, ns, tl, rs, i, x, rfl, _⟩ := h
    rfl
  · obtain ⟨p, dx, nl, rl, ns, tl, rs, i, x, rfl, hp, hn, hrl, hrs, hne, hd, hx, k⟩ := h
    refine ⟨_, (pss_cons (ps_set (i := 1) sc_NumberReader_read_value.nd rfl (Or.inl rfl) (pe_mc UC_NumberReader U_NumberReader_read_number pass0 (hr.mono (by decide)) hg (pv 0) (pa_cons (pe_callB call_len (by rfl) T.b_len PySem.boot_len (pa_cons (pe_globT T.c_VALUES (by rfl)) pa_nil)) pa_nil)))
  (pss_cons (ps_set (i := 2) sc_NumberReader_read_value.nd rfl (Or.inl rfl) (pe_ix ix_tup (pe_globT T.c_VALUES (by rfl)) (pv 1) (fun _ _ => rfl)))
  (pss_cons (ps_if (pt_cmpR op_eq (pv 2) pe_str (nomark _))
   (pss_one (ps_ret (pe_tup (pa_cons pe_str pa_nil))))
   pss_nil)
  (pss_cons (ps_if (pt_cmpR op_eq (pv 2) pe_str (nomark _))
   (pss_one (ps_ret (pe_tup (pa_cons pe_str (pa_cons (pe_cmpR op_eq (pv 1) pe_int (nomark _)) pa_nil)))))
   pss_nil)
  (pss_cons (ps_if (pt_cmpR op_eq (pv 2) pe_str (nomark _))
   (pss_one (ps_ret (pe_tup (pa_cons pe_str (pa_cons (pe_mc0 UC_NumberReader U_NumberReader_read_integer pass0 (hr.mono (by decide)) hg (pv 0)) pa_nil)))))
   pss_nil)
  (pss_cons (ps_if (pt_cmpR op_eq (pv 2) pe_str (nomark _))
   (pss_one (ps_ret (pe_tup (pa_cons pe_str (pa_cons (pe_mc UC_NumberReader U_NumberReader_read_string pass0 (hr.mono (by decide)) hg (pv 0) (pa_cons (pe_globI T.c_MOST_ENTRIES (by rfl)) pa_nil)) pa_nil)))))
   pss_nil)
  (pss_cons (ps_if (pt_cmpR op_eq (pv 2) pe_str (nomark _))
   (pss_cons (ps_set (i := 3) sc_NumberReader_read_value.nd rfl (Or.inl rfl) (pe_mc0 UC_NumberReader U_NumberReader_read_integer pass0 (hr.mono (by decide)) hg (pv 0)))
  (pss_one (ps_ret (pe_tup (pa_cons pe_str (pa_cons (pv 3) (pa_cons (pe_mc0 UC_NumberReader U_NumberReader_read_integer pass0 (hr.mono (by decide)) hg (pv 0)) pa_nil)))))))
   pss_nil)
  (pss_cons (ps_if (pt_cmpR op_eq (pv 2) pe_str (nomark _))
   (pss_one (ps_ret (pe_tup (pa_cons pe_str (pa_cons (pe_mc UC_NumberReader U_NumberReader_read_reference pass0 (hr.mono (by decide)) hg (pv 0) (pa_cons pe_int pa_nil)) pa_nil)))))
   pss_nil)
  (pss_one (ps_ret (pe_tup (pa_cons (pv 2) (pa_cons (pe_mc UC_NumberReader U_NumberReader_read_string pass0 (hr.mono (by decide)) hg (pv 0) (pa_cons (pe_globI T.c_MOST_IN_NAME (by rfl)) pa_nil)) pa_nil))))))))))))), ?_⟩
    have nrp : rl ≠ p := ne_of hrl hp (by intro z; cases z)
    have nnp : nl ≠ p := ne_of hn hp (by intro z; cases z)
    obtain ⟨num, rest, he, hnum⟩ : ∃ num rest, enc x = num :: rest ∧ num < 9 := by
      cases x with
      | bool b => cases b <;> exact ⟨_, _, rfl, by decide⟩
      | _ => exact ⟨_, _, rfl, by decide⟩
    have hget : ns[i]? = some num := by
      have : (ns.drop i)[0]? = some num := by rw [hd, he]; rfl
      rw [List.getElem?_drop, Nat.add_zero] at this
      exact this
    have hd1 : ns.drop (i + 1) = rest ++ tl := by rw [← List.drop_drop, hd, he]; rfl
    refine ⟨_, rfl, p, dx, _, rfl, hp, by rfl, fun a9 k9 => ⟨_, _, rfl, .inr ⟨_, k9.sq _, rfl⟩, p, dx, nl, rl, ns, i, num, 9, rfl, hp, hn, hget, hnum, ?_⟩⟩
    have hp1 : RAt C p dx nl rl (upd H p (.ins C dx (rf (.ref nl) (.int ((i + 1 : Nat) : Int)) (.ref rl)))) (i + 1) := upd_same
    have kp1 : ∀ b o, H b = some o → b ≠ p → upd H p (.ins C dx (rf (.ref nl) (.int ((i + 1 : Nat) : Int)) (.ref rl))) b = some o := fun b o e hb => by rw [upd_ne hb]; exact e
    have hn1 := kp1 _ _ hn nnp
    have hrl1 := kp1 _ _ hrl nrp
    generalize upd H p (.ins C dx (rf (.ref nl) (.int ((i + 1 : Nat) : Int)) (.ref rl))) = H1 at hp1 kp1 hn1 hrl1 ⊢
    obtain ⟨zz, hzk, hz⟩ : ∃ zz, zz = kdR x ∧ (kinds9.map V.str)[num]? = some (.str zz) := ⟨_, rfl, by
      cases x with
      | bool b => cases b <;> (obtain ⟨rfl, rfl⟩ := List.cons.inj he; rfl)
      | _ => obtain ⟨rfl, rfl⟩ := List.cons.inj he; rfl⟩
    refine fun a8 k8 => ⟨_, rfl, a8, _, _, _, rfl, rfl, k8.sq _, at_of' (j := num) rfl hz, ?_⟩
    have S2' : ∀ {H2 : Hp} {j : Nat} {t : Addr} {o : HO}, RAt C p dx nl rl H2 j → H2 t = none → RAt C p dx nl rl (upd H2 t o) j := fun h ht => Same.new ht _ _ h
    rw [he, List.length_cons, show i + (rest.length + 1) = i + 1 + rest.length by omega] at k
    cases x with
    | none =>
      obtain ⟨rfl, rfl⟩ := List.cons.inj he
      have hzk : zz = "none" := hzk
      subst hzk
      refine ⟨_, rfl, rfl, _, rfl, iteTb (by decide +kernel) ?_⟩
      exact ⟨sz_1, fun t ht => k _ _ rs (S2' hp1 ht) (Same.new ht _ _ hrl1) (Nat.le_succ _) (Dt.made ht (.cons (.str _) .nil)) fun b o e h1 _ => Same.new ht _ _ (kp1 _ _ e h1)⟩
    | bool b =>
      have hzk : zz = "bool" := hzk
      subst hzk
      obtain ⟨hb1, rfl⟩ := List.cons.inj he
      refine ⟨_, rfl, rfl, _, rfl, iteFb (by decide +kernel) ?_⟩
      refine ⟨_, rfl, rfl, _, rfl, iteTb (by decide +kernel) ?_⟩
      refine ⟨_, rfl, rfl, sz_2, fun t ht => k _ _ rs (S2' hp1 ht) (Same.new ht _ _ hrl1) (Nat.le_succ _) (Dt.made ht (.cons (.str _) (.cons ?_ .nil))) fun b o e h1 _ => Same.new ht _ _ (kp1 _ _ e h1)⟩
      cases b with
      | true => subst hb1; exact .bl true
      | false => subst hb1; exact .bl false
    | int z =>
      obtain ⟨rfl, rfl⟩ := List.cons.inj he
      have hx : z.natAbs < 2 ^ 256 := hx
      have hzk : zz = "int" := hzk
      subst hzk
      refine ⟨_, rfl, rfl, _, rfl, iteFb (by decide +kernel) ?_⟩
      refine ⟨_, rfl, rfl, _, rfl, iteFb (by decide +kernel) ?_⟩
      refine ⟨_, rfl, rfl, _, rfl, iteTb (by decide +kernel) ?_⟩
      refine ⟨_, rfl, p, dx, _, rfl, hp1, by rfl, p, dx, nl, rl, ns, tl, i + 1, z, rfl, hp1, hn1, hd1, hx, fun H2 hp2 kp2 => ?_⟩
      refine ⟨sz_2, fun t ht => k _ _ rs (S2' hp2 ht) (Same.new ht _ _ (kp2 _ _ hrl1 nrp)) (Nat.le_succ _) (Dt.made ht (.cons (.str _) (.cons (.int _) .nil))) fun b o e h1 _ => Same.new ht _ _ (kp2 _ _ (kp1 _ _ e h1) h1)⟩
    | text js =>
      obtain ⟨rfl, rfl⟩ := List.cons.inj he
      obtain ⟨hx1, hx2⟩ : js.length ≤ 1000 ∧ ∀ j ∈ js, j < 95 := hx
      have hzk : zz = "text" := hzk
      subst hzk
      refine ⟨_, rfl, rfl, _, rfl, iteFb (by decide +kernel) ?_⟩
      refine ⟨_, rfl, rfl, _, rfl, iteFb (by decide +kernel) ?_⟩
      refine ⟨_, rfl, rfl, _, rfl, iteFb (by decide +kernel) ?_⟩
      refine ⟨_, rfl, rfl, _, rfl, iteTb (by decide +kernel) ?_⟩
      refine ⟨_, rfl, p, dx, _, rfl, hp1, by rfl, p, dx, nl, rl, ns, tl, js, i + 1, 1000, rfl, hp1, hn1, hd1, hx2, hx1, by decide, fun H2 hp2 kp2 => ?_⟩
      refine ⟨sz_2, fun t ht => k _ _ rs (S2' hp2 ht) (Same.new ht _ _ (kp2 _ _ hrl1 nrp)) (Nat.le_succ _) (Dt.made ht (.cons (.str _) (.cons (.str _) .nil))) fun b o e h1 _ => Same.new ht _ _ (kp2 _ _ (kp1 _ _ e h1) h1)⟩
    | span a b =>
      obtain ⟨rfl, rfl⟩ := List.cons.inj he
      obtain ⟨hx1, hx2⟩ : a.natAbs < 2 ^ 256 ∧ b.natAbs < 2 ^ 256 := hx
      have hzk : zz = "span" := hzk
      subst hzk
      rw [List.append_assoc] at hd1
      refine ⟨_, rfl, rfl, _, rfl, iteFb (by decide +kernel) ?_⟩
      refine ⟨_, rfl, rfl, _, rfl, iteFb (by decide +kernel) ?_⟩
      refine ⟨_, rfl, rfl, _, rfl, iteFb (by decide +kernel) ?_⟩
      refine ⟨_, rfl, rfl, _, rfl, iteFb (by decide +kernel) ?_⟩
      refine ⟨_, rfl, rfl, _, rfl, iteTb (by decide +kernel) ?_⟩
      refine ⟨_, rfl, p, dx, _, rfl, hp1, by rfl, p, dx, nl, rl, ns, _, i + 1, a, rfl, hp1, hn1, hd1, hx1, fun H2 hp2 kp2 => ?_⟩
      have hd2 : ns.drop (i + 1 + (cnt (zig a)).length) = cnt (zig b) ++ tl := by rw [← List.drop_drop, hd1, List.drop_left]
      refine ⟨_, rfl, _, rfl, p, dx, _, rfl, hp2, by rfl, p, dx, nl, rl, ns, tl, _, b, rfl, hp2, kp2 _ _ hn1 nnp, hd2, hx2, fun H3 hp3 kp3 => ?_⟩
      refine ⟨sz_3, fun t ht => k _ _ rs (S2' ?_ ht) (Same.new ht _ _ (kp3 _ _ (kp2 _ _ hrl1 nrp) nrp)) (Nat.le_succ _) (Dt.made ht (.cons (.str _) (.cons (.int _) (.cons (.int _) .nil)))) fun b o e h1 _ => Same.new ht _ _ (kp3 _ _ (kp2 _ _ (kp1 _ _ e h1) h1) h1)⟩
      rw [List.length_append, show i + 1 + ((cnt (zig a)).length + (cnt (zig b)).length) = i + 1 + (cnt (zig a)).length + (cnt (zig b)).length by omega]
      exact hp3
    | built js =>
      obtain ⟨rfl, rfl⟩ := List.cons.inj he
      obtain ⟨hx1, hx2⟩ : js.length ≤ 200 ∧ ∀ j ∈ js, j < 95 := hx
      have hzk : zz = "built" := hzk
      subst hzk
      refine ⟨_, rfl, rfl, _, rfl, iteFb (by decide +kernel) ?_⟩
      refine ⟨_, rfl, rfl, _, rfl, iteFb (by decide +kernel) ?_⟩
      refine ⟨_, rfl, rfl, _, rfl, iteFb (by decide +kernel) ?_⟩
      refine ⟨_, rfl, rfl, _, rfl, iteFb (by decide +kernel) ?_⟩
      refine ⟨_, rfl, rfl, _, rfl, iteFb (by decide +kernel) ?_⟩
      refine ⟨_, rfl, rfl, _, rfl, iteFb (by decide +kernel) ?_⟩
      refine ⟨_, rfl, _, rfl, p, dx, _, rfl, hp1, by rfl, p, dx, nl, rl, ns, tl, js, i + 1, 200, rfl, hp1, hn1, hd1, hx2, hx1, by decide, fun H2 hp2 kp2 => ?_⟩
      refine ⟨sz_2, fun t ht => k _ _ rs (S2' hp2 ht) (Same.new ht _ _ (kp2 _ _ hrl1 nrp)) (Nat.le_succ _) (Dt.made ht (.cons (.str _) (.cons (.str _) .nil))) fun b o e h1 _ => Same.new ht _ _ (kp2 _ _ (kp1 _ _ e h1) h1)⟩
    | host js =>
      obtain ⟨rfl, rfl⟩ := List.cons.inj he
      obtain ⟨hx1, hx2⟩ : js.length ≤ 200 ∧ ∀ j ∈ js, j < 95 := hx
      have hzk : zz = "host" := hzk
      subst hzk
      refine ⟨_, rfl, rfl, _, rfl, iteFb (by decide +kernel) ?_⟩
      refine ⟨_, rfl, rfl, _, rfl, iteFb (by decide +kernel) ?_⟩
      refine ⟨_, rfl, rfl, _, rfl, iteFb (by decide +kernel) ?_⟩
      refine ⟨_, rfl, rfl, _, rfl, iteFb (by decide +kernel) ?_⟩
      refine ⟨_, rfl, rfl, _, rfl, iteFb (by decide +kernel) ?_⟩
      refine ⟨_, rfl, rfl, _, rfl, iteFb (by decide +kernel) ?_⟩
      refine ⟨_, rfl, _, rfl, p, dx, _, rfl, hp1, by rfl, p, dx, nl, rl, ns, tl, js, i + 1, 200, rfl, hp1, hn1, hd1, hx2, hx1, by decide, fun H2 hp2 kp2 => ?_⟩
      refine ⟨sz_2, fun t ht => k _ _ rs (S2' hp2 ht) (Same.new ht _ _ (kp2 _ _ hrl1 nrp)) (Nat.le_succ _) (Dt.made ht (.cons (.str _) (.cons (.str _) .nil))) fun b o e h1 _ => Same.new ht _ _ (kp2 _ _ (kp1 _ _ e h1) h1)⟩
    | ref n =>
      obtain ⟨rfl, rfl⟩ := List.cons.inj he
      have hx : n < 128 ^ 40 := hx
      have hzk : zz = "ref" := hzk
      subst hzk
      refine ⟨_, rfl, rfl, _, rfl, iteFb (by decide +kernel) ?_⟩
      refine ⟨_, rfl, rfl, _, rfl, iteFb (by decide +kernel) ?_⟩
      refine ⟨_, rfl, rfl, _, rfl, iteFb (by decide +kernel) ?_⟩
      refine ⟨_, rfl, rfl, _, rfl, iteFb (by decide +kernel) ?_⟩
      refine ⟨_, rfl, rfl, _, rfl, iteFb (by decide +kernel) ?_⟩
      refine ⟨_, rfl, rfl, _, rfl, iteTb (by decide +kernel) ?_⟩
      refine ⟨_, rfl, p, dx, _, rfl, hp1, by rfl, p, dx, nl, rl, ns, tl, rs, i + 1, n, rfl, hp1, hn1, hrl1, hrs, hne, hd1, hx, fun H2 t2 hp2 hrl2 _ kp2 => ?_⟩
      refine ⟨sz_2, fun t ht => k _ _ _ (S2' hp2 ht) (Same.new ht _ _ hrl2) (by simp) (Dt.made ht (.cons (.str _) (.cons (.int _) .nil))) fun b o e h1 h2 => Same.new ht _ _ (kp2 _ _ (kp1 _ _ e h1) h1 h2)⟩
end

abbrev s_read_integer : Stmt := top 22
abbrev N_read_integer : List Str := ["numbers", "at", "reader", "number"]
abbrev P_read_integer : List Str := ["numbers", "at"]
theorem sc_read_integer : FnScope N_read_integer P_read_integer (defScope s_read_integer) := ⟨rfl, rfl, rfl, by decide +kernel, rfl, by decide +kernel, by decide +kernel⟩
abbrev s_read_string : Stmt := top 23
abbrev N_read_string : List Str := ["numbers", "at", "most", "reader", "text"]
abbrev P_read_string : List Str := ["numbers", "at", "most"]
theorem sc_read_string : FnScope N_read_string P_read_string (defScope s_read_string) := ⟨rfl, rfl, rfl, by decide +kernel, rfl, by decide +kernel, by decide +kernel⟩
abbrev s_read_value : Stmt := top 24
abbrev N_read_value : List Str := ["numbers", "at", "reader", "value"]
abbrev P_read_value : List Str := ["numbers", "at"]
theorem sc_read_value : FnScope N_read_value P_read_value (defScope s_read_value) := ⟨rfl, rfl, rfl, by decide +kernel, rfl, by decide +kernel, by decide +kernel⟩
abbrev s_law_pair_is : Stmt := top 30
abbrev N_law_pair_is : List Str := ["actual", "thing", "index"]
abbrev P_law_pair_is : List Str := ["actual", "thing", "index"]
theorem sc_law_pair_is : FnScope N_law_pair_is P_law_pair_is (defScope s_law_pair_is) := ⟨rfl, rfl, rfl, by decide +kernel, rfl, by decide +kernel, by decide +kernel⟩
abbrev s_law_count : Stmt := top 38
abbrev N_law_count : List Str := ["n", "numbers", "k"]
abbrev P_law_count : List Str := ["n"]
theorem sc_law_count : FnScope N_law_count P_law_count (defScope s_law_count) := ⟨rfl, rfl, rfl, by decide +kernel, rfl, by decide +kernel, by decide +kernel⟩
abbrev s_law_integer : Stmt := top 39
abbrev N_law_integer : List Str := ["i"]
abbrev P_law_integer : List Str := ["i"]
theorem sc_law_integer : FnScope N_law_integer P_law_integer (defScope s_law_integer) := ⟨rfl, rfl, rfl, by decide +kernel, rfl, by decide +kernel, by decide +kernel⟩
abbrev s_law_string : Stmt := top 40
abbrev N_law_string : List Str := ["text", "signs", "sign"]
abbrev P_law_string : List Str := ["text"]
theorem sc_law_string : FnScope N_law_string P_law_string (defScope s_law_string) := ⟨rfl, rfl, rfl, by decide +kernel, rfl, by decide +kernel, by decide +kernel⟩
abbrev s_law_value_numbers : Stmt := top 41
abbrev N_law_value_numbers : List Str := ["value"]
abbrev P_law_value_numbers : List Str := ["value"]
theorem sc_law_value_numbers : FnScope N_law_value_numbers P_law_value_numbers (defScope s_law_value_numbers) := ⟨rfl, rfl, rfl, by decide +kernel, rfl, by decide +kernel, by decide +kernel⟩
abbrev s_law_row : Stmt := top 42
abbrev N_law_row : List Str := ["box", "size", "k"]
abbrev P_law_row : List Str := ["box"]
theorem sc_law_row : FnScope N_law_row P_law_row (defScope s_law_row) := ⟨rfl, rfl, rfl, by decide +kernel, rfl, by decide +kernel, by decide +kernel⟩
abbrev s_law : Stmt := top 43
abbrev N_law : List Str := ["script", "box", "value", "front", "behind", "due", "numbers", "kept", "i", "text", "greatest"]
abbrev P_law : List Str := ["script"]
theorem sc_law : FnScope N_law P_law (defScope s_law) := ⟨rfl, rfl, rfl, by decide +kernel, rfl, by decide +kernel, by decide +kernel⟩
section
variable {P : Program} {w : World} {K : PySem.W.Frag} {mg : Str → Option Value} {base : Heap}
theorem ok_sameor {f : Addr} {fd : FuncData} (F : Fun K "_law_same" "_law_same" s_law_same f fd) (T : Txt K mg) (U_leaf : Use P w K mg base CX0 "_law_same" 2 P_law_same (spLeaf K)) (U_law_is_integer : Use P w K mg base CX0 "_law_is_integer" 1 P_law_is_integer (spIsInt K)) :
    FnG P w K mg base CX0 3 f fd P_law_same (fun vs H Q E => spLeaf K vs H Q E ∨ spSameT K vs H Q E) := (ok_leaf3 F T U_law_is_integer).or (ok_samet F T U_leaf)
def spFInt (K : PySem.W.Frag) : Sp := fun vs H Q _ => ∃ (nl : Addr) (ns tl : List Nat) (i : Nat) (z : Int), vs = [.ref nl, .int (i : Int)] ∧ H nl = some (.lst (nV ns)) ∧ ns.drop i = cnt (zig z) ++ tl ∧ z.natAbs < 2 ^ 256 ∧ ∀ q H', Same H H' → SqT K H' q [.int z, .int ((i + (cnt (zig z)).length : Nat) : Int)] → Q (.ref q) H'
theorem ok_fint {C : Addr} {f : Addr} {fd : FuncData} (F : Fun K "read_integer" "read_integer" s_read_integer f fd) (T : Txt K mg) (UC_NumberReader : UseC K mg "NumberReader" fR C) (U_NumberReader___init__ : UseK P w K mg base "NumberReader" C 1 P_NumberReader___init__ (spRInit C)) (U_NumberReader_read_integer : UseM P w K mg base CX0 C "read_integer" 3 P_NumberReader_read_integer (spRInt C)) :
    FnG P w K mg base CX0 4 f fd P_read_integer (spFInt K) := by
  refine okG0 F sc_read_integer (fun vs H Q E h => ?_) fun cdv A outer s H vs Q E hr hg h => ?_
  · obtain ⟨nl, ns, tl, i, z, rfl, _⟩ := h
    rfl
  · obtain ⟨nl, ns, tl, i, z, rfl, hn, hd, hz, k⟩ := h
    refine ⟨_, (pss_cons (ps_set (i := 2) sc_read_integer.nd rfl (Or.inl rfl) (pe_mk U_NumberReader___init__ (hr.mono (by decide)) rfl (pa_cons (pv 0) (pa_cons (pv 1) pa_nil))))
  (pss_cons (ps_set (i := 3) sc_read_integer.nd rfl (Or.inl rfl) (pe_mc0 UC_NumberReader U_NumberReader_read_integer pass0 (hr.mono (by decide)) hg (pv 2)))
  (pss_one (ps_ret (pe_tup (pa_cons (pv 3) (pa_cons (pe_fd UC_NumberReader (by decide +kernel) (pv 2)) pa_nil))))))), ?_⟩
    refine ⟨_, rfl, _, rfl, fun p dx np ndx ne => ⟨p, dx, nl, _, rfl, upd_same, fun rl H1 _ _ hp kp => ⟨rfl, ?_⟩⟩⟩
    have S1 : Same H H1 := fun b o e => kp _ _ (by rw [upd_ne (ne_of_none e np), upd_ne (ne_of_none e ndx)]; exact e) (ne_of_none e np)
    refine ⟨_, rfl, p, dx, _, rfl, hp, by rfl, p, dx, nl, rl, ns, tl, i, z, rfl, hp, S1 _ _ hn, hd, hz, fun H2 hp2 kp2 => ?_⟩
    have S2 : Same H H2 := fun b o e => kp2 _ _ (S1 _ _ e) (ne_of_none e np)
    refine ⟨_, rfl, _, rfl, p, dx, _, _, rfl, hp2, rf_at, sz_2, fun t ht => ?_⟩
    exact k t _ (S2.trans (Same.new ht)) (SqT.of upd_same)
def spFStr (K : PySem.W.Frag) : Sp := fun vs H Q _ => ∃ (nl : Addr) (ns tl js : List Nat) (i m : Nat), vs = [.ref nl, .int (i : Int), .int (m : Int)] ∧ H nl = some (.lst (nV ns)) ∧ ns.drop i = strN js ++ tl ∧ (∀ j ∈ js, j < 95) ∧ js.length ≤ m ∧ m ≤ 100000 ∧ ∀ q H', Same H H' → SqT K H' q [.str (tx js), .int ((i + (strN js).length : Nat) : Int)] → Q (.ref q) H'
theorem ok_fstr {C : Addr} {f : Addr} {fd : FuncData} (F : Fun K "read_string" "read_string" s_read_string f fd) (T : Txt K mg) (UC_NumberReader : UseC K mg "NumberReader" fR C) (U_NumberReader___init__ : UseK P w K mg base "NumberReader" C 1 P_NumberReader___init__ (spRInit C)) (U_NumberReader_read_string : UseM P w K mg base CX0 C "read_string" 4 P_NumberReader_read_string (spRStr C)) :
    FnG P w K mg base CX0 5 f fd P_read_string (spFStr K) := by
  refine okG0 F sc_read_string (fun vs H Q E h => ?_) fun cdv A outer s H vs Q E hr hg h => ?_
  · obtain ⟨nl, ns, tl, js, i, m, rfl, _⟩ := h
    rfl
  · obtain ⟨nl, ns, tl, js, i, m, rfl, hn, hd, hj, hm, hm2, k⟩ := h
    refine ⟨_, (pss_cons (ps_set (i := 3) sc_read_string.nd rfl (Or.inl rfl) (pe_mk U_NumberReader___init__ (hr.mono (by decide)) rfl (pa_cons (pv 0) (pa_cons (pv 1) pa_nil))))
  (pss_cons (ps_set (i := 4) sc_read_string.nd rfl (Or.inl rfl) (pe_mc UC_NumberReader U_NumberReader_read_string pass0 (hr.mono (by decide)) hg (pv 3) (pa_cons (pv 2) pa_nil)))
  (pss_one (ps_ret (pe_tup (pa_cons (pv 4) (pa_cons (pe_fd UC_NumberReader (by decide +kernel) (pv 3)) pa_nil))))))), ?_⟩
    refine ⟨_, rfl, _, rfl, fun p dx np ndx ne => ⟨p, dx, nl, _, rfl, upd_same, fun rl H1 _ _ hp kp => ⟨rfl, ?_⟩⟩⟩
    have S1 : Same H H1 := fun b o e => kp _ _ (by rw [upd_ne (ne_of_none e np), upd_ne (ne_of_none e ndx)]; exact e) (ne_of_none e np)
    refine ⟨_, rfl, p, dx, _, rfl, hp, by rfl, _, rfl, p, dx, nl, rl, ns, tl, js, i, m, rfl, hp, S1 _ _ hn, hd, hj, hm, hm2, fun H2 hp2 kp2 => ?_⟩
    have S2 : Same H H2 := fun b o e => kp2 _ _ (S1 _ _ e) (ne_of_none e np)
    refine ⟨_, rfl, _, rfl, p, dx, _, _, rfl, hp2, rf_at, sz_2, fun t ht => ?_⟩
    exact k t _ (S2.trans (Same.new ht)) (SqT.of upd_same)
def spFVal (K : PySem.W.Frag) : Sp := fun vs H Q _ => ∃ (nl : Addr) (ns tl : List Nat) (i : Nat) (x : Val), vs = [.ref nl, .int (i : Int)] ∧ H nl = some (.lst (nV ns)) ∧ ns.drop i = enc x ++ tl ∧ ValRd x ∧ ∀ q u H', Same H H' → SqT K H' q [.ref u, .int ((i + (enc x).length : Nat) : Int)] → SqT K H' u (vL x) → Q (.ref q) H'
theorem ok_fval {C : Addr} {f : Addr} {fd : FuncData} (F : Fun K "read_value" "read_value" s_read_value f fd) (T : Txt K mg) (UC_NumberReader : UseC K mg "NumberReader" fR C) (U_NumberReader___init__ : UseK P w K mg base "NumberReader" C 1 P_NumberReader___init__ (spRInit C)) (U_NumberReader_read_value : UseM P w K mg base CX0 C "read_value" 5 P_NumberReader_read_value (spRVal K C)) :
    FnG P w K mg base CX0 6 f fd P_read_value (spFVal K) := by
  refine okG0 F sc_read_value (fun vs H Q E h => ?_) fun cdv A outer s H vs Q E hr hg h => ?_
  · obtain ⟨nl, ns, tl, i, x, rfl, _⟩ := h
    rfl
  · obtain ⟨nl, ns, tl, i, x, rfl, hn, hd, hx, k⟩ := h
    refine ⟨_, (pss_cons (ps_set (i := 2) sc_read_value.nd rfl (Or.inl rfl) (pe_mk U_NumberReader___init__ (hr.mono (by decide)) rfl (pa_cons (pv 0) (pa_cons (pv 1) pa_nil))))
  (pss_cons (ps_set (i := 3) sc_read_value.nd rfl (Or.inl rfl) (pe_mc0 UC_NumberReader U_NumberReader_read_value pass0 (hr.mono (by decide)) hg (pv 2)))
  (pss_one (ps_ret (pe_tup (pa_cons (pv 3) (pa_cons (pe_fd UC_NumberReader (by decide +kernel) (pv 2)) pa_nil))))))), ?_⟩
    refine ⟨_, rfl, _, rfl, fun p dx np ndx ne => ⟨p, dx, nl, _, rfl, upd_same, fun rl H1 nrl erl hp kp => ⟨rfl, ?_⟩⟩⟩
    have S1 : Same H H1 := fun b o e => kp _ _ (by rw [upd_ne (ne_of_none e np), upd_ne (ne_of_none e ndx)]; exact e) (ne_of_none e np)
    have nrl0 : H rl = none := Same.free (fun b o e => (by rw [upd_ne (ne_of_none e np), upd_ne (ne_of_none e ndx)]; exact e : upd (upd H dx (.own p)) p (.ins C dx []) b = some o)) nrl
    have hne : nl ≠ rl := fun e => (by subst e; rw [hn] at nrl0; cases nrl0)
    refine ⟨_, rfl, p, dx, _, rfl, hp, by rfl, p, dx, nl, rl, ns, tl, [], i, x, rfl, hp, S1 _ _ hn, erl, by simp, hne, hd, hx, fun v H2 rs' hp2 _ _ dv kp2 => ?_⟩
    have S2 : Same H H2 := fun b o e => kp2 _ _ (S1 _ _ e) (ne_of_none e np) (ne_of_none e nrl0)
    obtain ⟨u, rfl, hu⟩ := vL_inv dv
    refine ⟨_, rfl, _, rfl, p, dx, _, _, rfl, hp2, rf_at, sz_2, fun t ht => ?_⟩
    exact k t u _ (S2.trans (Same.new ht)) (SqT.of upd_same) (SqT.mono hu (Same.new ht))
/-- a pair: the thing and the index behind it -/
def LikeV (K : PySem.W.Frag) (H : Hp) (a th : V) : Prop := (∃ i : Int, a = .int i ∧ th = .int i) ∨ (∃ z : Str, a = .str z ∧ th = .str z) ∨ ∃ p q x, a = .ref p ∧ th = .ref q ∧ SqT K H p (vL x) ∧ SqT K H q (vL x)
def spPairIs (K : PySem.W.Frag) : Sp := fun vs H Q _ => ∃ (q : Addr) (a th : V) (m : Int), vs = [.ref q, th, .int m] ∧ SqT K H q [a, .int m] ∧ LikeV K H a th ∧ Q (.bl true) H
theorem ok_pairis {f : Addr} {fd : FuncData} (F : Fun K "_law_pair_is" "_law_pair_is" s_law_pair_is f fd) (T : Txt K mg) (U_law_same : Use P w K mg base CX0 "_law_same" 3 P_law_same (fun vs H Q E => spLeaf K vs H Q E ∨ spSameT K vs H Q E)) (U_law_is_integer : Use P w K mg base CX0 "_law_is_integer" 1 P_law_is_integer (spIsInt K)) : FnG P w K mg base CX0 4 f fd P_law_pair_is (spPairIs K) := by
  refine okG0 F sc_law_pair_is (fun vs H Q E h => ?_) fun cdv A outer s H vs Q E hr hg h => ?_
  · obtain ⟨q, a, th, m, rfl, _⟩ := h
    rfl
  · obtain ⟨q, a, th, m, rfl, hq, lk, k⟩ := h
    refine ⟨_, (pss_cons (ps_if (PW.pt (pw_or (pt_not (pt_val (pe_callB call_isi (by rfl) T.b_isinstance (by decide +kernel) (pa_cons (pv 0) (pa_cons (pe_bltn (v := .ty "tuple") (by rfl) T.b_tuple (by decide +kernel) rfl) pa_nil))))) (pw_or1 (pt_cmpR op_ne (pe_callB call_len (by rfl) T.b_len PySem.boot_len (pa_cons (pv 0) pa_nil)) pe_int (nomark _)))))
   (pss_one (ps_ret pe_bl))
   pss_nil)
  (pss_one (ps_ret (pe_and (pe_use U_law_same (hr.mono (by decide)) hg rfl (pa_cons (pe_ix ix_tup (pv 0) pe_int (fun _ _ => rfl)) (pa_cons (pv 1) pa_nil))) (pe_and (pe_use U_law_is_integer (hr.mono (by decide)) hg rfl (pa_cons (pe_ix ix_tup (pv 0) pe_int (fun _ _ => rfl)) pa_nil)) (pe_one (pe_cmpR op_eq (pe_ix ix_tup (pv 0) pe_int (fun _ _ => rfl)) (pv 2) (nomark _)))))))), ?_⟩
    refine ⟨_, rfl, _, _, _, _, true, rfl, .ty _, SqT.tyX hq, if_pos (beq_self_eq_true _), _, rfl, iteFb rfl ?_⟩
    refine ⟨_, rfl, _, _, rfl, .inr ⟨_, hq, rfl⟩, rfl, _, rfl, iteFb rfl ?_⟩
    refine ⟨_, rfl, q, _, _, _, rfl, rfl, hq, at0, _, rfl, ?_⟩
    rcases lk with ⟨i, rfl, rfl⟩ | ⟨z, rfl, rfl⟩ | ⟨p1, p2, x, rfl, rfl, h1, h2⟩
    case' inl => refine .inl ⟨_, _, rfl, .int _ _, _, rfl, iteTb (decide_eq_true rfl) ?_⟩
    case' inr.inl => refine .inl ⟨_, _, rfl, .str _ _, _, rfl, iteTb (decide_eq_true rfl) ?_⟩
    case' inr.inr => refine .inr ⟨p1, p2, vL x, vL x, rfl, h1, h2, vL_twins _ _, vL_len _, vL_len _, _, rfl, iteTb (decide_eq_true rfl) ?_⟩
    all_goals
      refine ⟨_, rfl, q, _, _, _, rfl, rfl, hq, at1, m, rfl, true, rfl, iteTb rfl ?_⟩
      refine ⟨_, rfl, q, _, _, _, rfl, rfl, hq, at1, _, rfl, rfl, ?_⟩
      rw [decide_eq_true rfl]
      exact k
def spLCount (K : PySem.W.Frag) : Sp := fun vs H Q _ => ∃ n : Nat, vs = [.int (n : Int)] ∧ n < 128 ^ 40 ∧ ∀ l H', H l = none → Same H H' → H' l = some (.lst (nV (cnt n))) → Q (.ref l) H'
theorem ok_lcount {f : Addr} {fd : FuncData} (F : Fun K "_law_count" "_law_count" s_law_count f fd) (T : Txt K mg) : FnG P w K mg base CX0 1 f fd P_law_count (spLCount K) := by
  refine okG0 F sc_law_count (fun vs H Q E h => ?_) fun cdv A outer s H vs Q E hr hg h => ?_
  · obtain ⟨n, rfl, _⟩ := h
    rfl
  · obtain ⟨n, rfl, hn, k⟩ := h
    refine ⟨_, (pss_cons (ps_set (i := 1) sc_law_count.nd rfl (Or.inl rfl) (pe_lst pa_nil))
  (pss_cons (ps_for PassesOwn.never rfl (pi_range1 (by rfl) T.b_range (pa_cons pe_int pa_nil)) (pg_name (i := 2) sc_law_count.nd rfl (Or.inl rfl))
   (pss_cons (ps_if (pt_cmpR op_lt (pv 0) pe_int (nomark _))
   (pss_cons (ps_expr (pe_bm PySem.F.plainAttrs_list PySem.F.slot_list_append PySem.F.type_list_append mt_append (pv 1) (pa_cons (pv 0) pa_nil)))
  (pss_one ps_break))
   pss_nil)
  (pss_cons (ps_expr (pe_bm PySem.F.plainAttrs_list PySem.F.slot_list_append PySem.F.type_list_append mt_append (pv 1) (pa_cons (pe_op op_add pe_int (pe_op op_mod (pe_callTy call_int1 (by rfl) T.b_int (by decide +kernel) (pa_cons (pv 0) pa_nil)) pe_int)) pa_nil)))
  (pss_one (ps_set (i := 0) sc_law_count.nd rfl (Or.inl rfl) (pe_op op_fdiv (pv 0) pe_int))))))
  (pss_one (ps_ret (pv 1))))), ?_⟩
    have hlen := cnt_len 39 n hn
    refine ⟨sz_0, fun l hl => ⟨40, rfl, by decide, by decide, ?_⟩⟩
    refine for_range (lo := 0) (n := 40) (fun j σ H1 => ∃ (m : Nat) (acc : List Nat) (x2 : Option V), σ = [some (.int (m : Int)), some (.ref l), x2] ∧ H1 l = some (.lst (nV acc)) ∧ acc ++ cnt m = cnt n ∧ acc.length = j ∧ Same H H1)
      ⟨n, [], none, rfl, upd_same, rfl, rfl, Same.new hl⟩ ?_ ?_
    · rintro j σ H1 hj ⟨m, acc, x2, rfl, e1, ha, hl1, S1⟩
      have lt : (nV acc).length < sizeLine := by rw [nV_len]; exact Nat.lt_of_le_of_lt (show acc.length ≤ 60 by omega) (by decide)
      refine ⟨_, rfl, _, _, rfl, rfl, _, rfl, ?_⟩
      refine ite3 (fun c => ?_) fun c => ?_
      · have c := of_decide_eq_true c
        have c1 : m < 128 := by omega
        refine ⟨_, rfl, .inl ⟨rfl, _, SqL.of e1⟩, _, rfl, l, _, _, rfl, rfl, e1, lt, ?_⟩
        refine ⟨_, rfl, k l _ hl (fun b o e => by rw [upd_ne (ne_of_none e hl)]; exact S1 _ _ e) ?_⟩
        rw [upd_same, ← ha, cnt_lt c1, nV_app]; rfl
      · have c := of_decide_eq_false c
        have c1 : ¬ m < 128 := by omega
        refine ⟨_, rfl, .inl ⟨rfl, _, SqL.of e1⟩, _, rfl, .inl ⟨_, rfl, _, _, rfl, rfl, (by show (0 : Int) < 128; decide), _, _, rfl, rfl, l, _, _, rfl, rfl, e1, lt, ?_⟩⟩
        refine ⟨_, rfl, _, _, rfl, rfl, ⟨by decide, by decide⟩, m / 128, acc ++ [128 + m % 128], some (.int (0 + (j : Int))), ?_, ?_, ?_, by simp [hl1], fun b o e => by rw [upd_ne (ne_of_none e hl)]; exact S1 _ _ e⟩
        · show [some (V.int ((m : Int) / 128)), some (V.ref l), _] = _
          rw [show (m : Int) / 128 = ((m / 128 : Nat) : Int) by omega]
        · rw [upd_same, nV_app]
          show some (HO.lst (nV acc ++ [V.int (128 + (m : Int) % 128)])) = some (HO.lst (nV acc ++ [V.int ((128 + m % 128 : Nat) : Int)]))
          rw [show 128 + (m : Int) % 128 = ((128 + m % 128 : Nat) : Int) by omega]
        · rw [List.append_assoc, ← ha, cnt_ge c1]; rfl
    · rintro σ H1 ⟨m, acc, x2, rfl, e1, ha, hl1, S1⟩
      have h2 := List.length_pos_iff.mpr (cnt_ne m)
      rw [← ha, List.length_append] at hlen
      omega
theorem zig40 {i : Int} (h : i.natAbs < 2 ^ 256) : zig i < 128 ^ 40 := Nat.lt_of_le_of_lt (zig_lt (k := 256) (Nat.le_of_lt h)) (by decide +kernel)
def spLInt (K : PySem.W.Frag) : Sp := fun vs H Q _ => ∃ i : Int, vs = [.int i] ∧ i.natAbs < 2 ^ 256 ∧ ∀ l H', H l = none → Same H H' → H' l = some (.lst (nV (cnt (zig i)))) → Q (.ref l) H'
theorem ok_linteger {f : Addr} {fd : FuncData} (F : Fun K "_law_integer" "_law_integer" s_law_integer f fd) (T : Txt K mg) (U_law_count : Use P w K mg base CX0 "_law_count" 1 P_law_count (spLCount K)) : FnG P w K mg base CX0 2 f fd P_law_integer (spLInt K) := by
  refine okG0 F sc_law_integer (fun vs H Q E h => ?_) fun cdv A outer s H vs Q E hr hg h => ?_
  · obtain ⟨i, rfl, _⟩ := h
    rfl
  · obtain ⟨i, rfl, hi, k⟩ := h
    refine ⟨_, (pss_cons (ps_if (pt_cmpR op_lt (pv 0) pe_int (nomark _))
   (pss_one (ps_ret (pe_use U_law_count (hr.mono (by decide)) hg rfl (pa_cons (pe_op op_sub (pe_op op_mul (pe_un un_neg pe_int) (pv 0)) pe_int) pa_nil))))
   pss_nil)
  (pss_one (ps_ret (pe_use U_law_count (hr.mono (by decide)) hg rfl (pa_cons (pe_op op_mul pe_int (pv 0)) pa_nil))))), ?_⟩
    refine ⟨_, rfl, _, _, rfl, rfl, _, rfl, ?_⟩
    refine ite3 (fun c => ?_) fun c => ?_
    · have c := of_decide_eq_true c
      exact ⟨_, rfl, _, rfl, _, _, rfl, rfl, .inl ⟨by decide, by decide⟩, _, _, rfl, rfl, zig i, congrArg (fun z => [V.int z]) (zig_neg (by omega)), zig40 hi, k⟩
    · have c := of_decide_eq_false c
      exact ⟨_, rfl, _, _, rfl, rfl, .inl ⟨by decide, by decide⟩, zig i, congrArg (fun z => [V.int z]) (zig_pos (by omega)), zig40 hi, k⟩
theorem ok_lstring {f : Addr} {fd : FuncData} (F : Fun K "_law_string" "_law_string" s_law_string f fd) (T : Txt K mg) (U_law_signs : Use P w K mg base CX0 "_law_signs" 1 P_law_signs (spSigns K)) (U_law_count : Use P w K mg base CX0 "_law_count" 1 P_law_count (spLCount K)) : FnG P w K mg base CX0 2 f fd P_law_string (spWStr K) := by
  refine okG0 F sc_law_string (fun vs H Q E h => ?_) fun cdv A outer s H vs Q E hr hg h => ?_
  · obtain ⟨js, rfl, _⟩ := h
    rfl
  · obtain ⟨js, rfl, hl, hj, k⟩ := h
    refine ⟨_, (pss_cons (ps_set (i := 1) sc_law_string.nd rfl (Or.inr rfl) (pe_use0 U_law_signs (hr.mono (by decide)) hg rfl))
  (pss_one (ps_ret (pe_op op_cat (pe_use U_law_count (hr.mono (by decide)) hg rfl (pa_cons (pe_callB call_len (by rfl) T.b_len PySem.boot_len (pa_cons (pv 0) pa_nil)) pa_nil)) (pe_lc (own := [("sign", 2)]) (g := (gName 2)) rfl sc_law_string.nd (pi_str (pv 0)) (blkOk_by (N := N_law_string) (sc := defScope s_law_string) (by decide +kernel)) (fun _ _ _ _ _ => (pg_name (i := 2) sc_law_string.nd rfl (Or.inl rfl))) (fun _ _ _ _ _ => pts_nil) (fun _ _ _ _ _ => (pe_bmK (K := K) rfl PySem.F.plainAttrs_str PySem.F.slot_str_index PySem.F.type_str_index mt_sindex (pv 1) (pa_cons (pv 2) pa_nil)))))))), ?_⟩
    refine ⟨rfl, ?_⟩
    have hln : (tx js).length ≤ sizeLine := by rw [tx_len]; exact Nat.le_trans hl (by decide)
    refine ⟨_, rfl, _, (tx js).length, rfl, ⟨hln, rfl⟩, js.length, by rw [tx_len], Nat.lt_of_le_of_lt hl (by decide +kernel), fun l1 H1 nl1 S1 e1 => ?_⟩
    refine ⟨_, rfl, tx js, rfl, fun D hD => ?_⟩
    have nD : l1 ≠ D := fun e => (by subst e; rw [hD] at e1; cases e1)
    have hsz : (tx js).cps.size = js.length := by rw [← tx_len js]; rfl
    refine lc_it walk_str (fun i H' => H' D = some (.lst (nV (js.take i))) ∧ Same H1 H') ⟨upd_same, Same.new hD⟩ (fun _ _ _ _ => trivial) ?_ ?_
    · rintro i x H5 H6 hi ⟨e5, S5⟩ ⟨rfl, c, hc, rfl⟩
      have hi2 : i < js.length := by rw [← hsz]; exact hi
      have hjs : js[i]? = some js[i] := List.getElem?_eq_getElem hi2
      have hj95 := hj _ (List.getElem_mem hi2)
      generalize js[i] = j at hjs hj95
      have hcc : c = ch j := by
        have : (js.map ch).toArray[i]? = some c := hc
        rw [List.getElem?_toArray, List.getElem?_map, hjs] at this
        exact (Option.some.inj this).symm
      subst hcc
      obtain ⟨rest, ho⟩ := occ_at hj95
      refine ⟨rfl, tYes_of ?_⟩
      refine ⟨_, rfl, rfl, _, rfl, chStr, _, j, rest, rfl, rfl, ho, _, e5, ?_, ?_, fun b o e => by rw [upd_ne (ne_of_none e hD)]; exact S5 _ _ e⟩
      · rw [nV_len, List.length_take]; exact Nat.lt_of_le_of_lt (Nat.le_trans (Nat.min_le_right _ _) hl) (by decide)
      · rw [upd_same, List.take_succ, hjs, nV_app]; rfl
    · rintro H5 ⟨e5, S5⟩
      rw [hsz, List.take_length] at e5
      refine ⟨l1, D, _, _, rfl, rfl, S5 _ _ e1, e5, ?_, fun l hl2 => ?_⟩
      · rw [nV_len, nV_len]
        have := cnt_len 59 js.length (Nat.lt_of_le_of_lt hl (by decide +kernel))
        exact Nat.le_trans (show _ ≤ 100060 by omega) (by decide)
      · exact k l _ (Same.free (S1.trans S5) hl2) ((S1.trans S5).trans (Same.new hl2)) (by rw [upd_same, strN, nV_app])
def spLVNum (K : PySem.W.Frag) : Sp := fun vs H Q _ => ∃ (v : V) (x : Val), vs = [v] ∧ Dt K H v (valD x) ∧ ValRd x ∧ ∀ l H', H l = none → Same H H' → H' l = some (.lst (nV (enc x))) → Q (.ref l) H'
theorem ok_lvnum {f : Addr} {fd : FuncData} (F : Fun K "_law_value_numbers" "_law_value_numbers" s_law_value_numbers f fd) (T : Txt K mg) (U_law_integer : Use P w K mg base CX0 "_law_integer" 2 P_law_integer (spLInt K)) (U_law_string : Use P w K mg base CX0 "_law_string" 2 P_law_string (spWStr K)) (U_law_count : Use P w K mg base CX0 "_law_count" 1 P_law_count (spLCount K)) :
    FnG P w K mg base CX0 3 f fd P_law_value_numbers (spLVNum K) := by
  refine okG0 F sc_law_value_numbers (fun vs H Q E h => ?_) fun cdv A outer s H vs Q E hr hg h => ?_
  · obtain ⟨v, x, rfl, _⟩ := h
    rfl
  · obtain ⟨v, x, rfl, dv, ok, k⟩ := h
    refine ⟨_, (pss_cons (ps_if (pt_cmpR op_eq (pe_ix ix_tup (pv 0) pe_int (fun _ _ => rfl)) pe_str (nomark _))
   (pss_one (ps_ret (pe_lst (pa_cons pe_int pa_nil))))
   pss_nil)
  (pss_cons (ps_if (pt_cmpR op_eq (pe_ix ix_tup (pv 0) pe_int (fun _ _ => rfl)) pe_str (nomark _))
   (pss_one (ps_ret (pe_lst (pa_cons (pe_op op_add pe_int (pe_callTy call_int1 (by rfl) T.b_int (by decide +kernel) (pa_cons (pe_ix ix_tup (pv 0) pe_int (fun _ _ => rfl)) pa_nil))) pa_nil))))
   pss_nil)
  (pss_cons (ps_if (pt_cmpR op_eq (pe_ix ix_tup (pv 0) pe_int (fun _ _ => rfl)) pe_str (nomark _))
   (pss_one (ps_ret (pe_op op_cat (pe_lst (pa_cons pe_int pa_nil)) (pe_use U_law_integer (hr.mono (by decide)) hg rfl (pa_cons (pe_ix ix_tup (pv 0) pe_int (fun _ _ => rfl)) pa_nil)))))
   pss_nil)
  (pss_cons (ps_if (pt_cmpR op_eq (pe_ix ix_tup (pv 0) pe_int (fun _ _ => rfl)) pe_str (nomark _))
   (pss_one (ps_ret (pe_op op_cat (pe_lst (pa_cons pe_int pa_nil)) (pe_use U_law_string (hr.mono (by decide)) hg rfl (pa_cons (pe_ix ix_tup (pv 0) pe_int (fun _ _ => rfl)) pa_nil)))))
   pss_nil)
  (pss_cons (ps_if (pt_cmpR op_eq (pe_ix ix_tup (pv 0) pe_int (fun _ _ => rfl)) pe_str (nomark _))
   (pss_one (ps_ret (pe_op op_cat (pe_op op_cat (pe_lst (pa_cons pe_int pa_nil)) (pe_use U_law_integer (hr.mono (by decide)) hg rfl (pa_cons (pe_ix ix_tup (pv 0) pe_int (fun _ _ => rfl)) pa_nil))) (pe_use U_law_integer (hr.mono (by decide)) hg rfl (pa_cons (pe_ix ix_tup (pv 0) pe_int (fun _ _ => rfl)) pa_nil)))))
   pss_nil)
  (pss_cons (ps_if (pt_cmpR op_eq (pe_ix ix_tup (pv 0) pe_int (fun _ _ => rfl)) pe_str (nomark _))
   (pss_one (ps_ret (pe_op op_cat (pe_lst (pa_cons pe_int pa_nil)) (pe_use U_law_string (hr.mono (by decide)) hg rfl (pa_cons (pe_ix ix_tup (pv 0) pe_int (fun _ _ => rfl)) pa_nil)))))
   pss_nil)
  (pss_cons (ps_if (pt_cmpR op_eq (pe_ix ix_tup (pv 0) pe_int (fun _ _ => rfl)) pe_str (nomark _))
   (pss_one (ps_ret (pe_op op_cat (pe_lst (pa_cons pe_int pa_nil)) (pe_use U_law_string (hr.mono (by decide)) hg rfl (pa_cons (pe_ix ix_tup (pv 0) pe_int (fun _ _ => rfl)) pa_nil)))))
   pss_nil)
  (pss_one (ps_ret (pe_op op_cat (pe_lst (pa_cons pe_int pa_nil)) (pe_use U_law_count (hr.mono (by decide)) hg rfl (pa_cons (pe_ix ix_tup (pv 0) pe_int (fun _ _ => rfl)) pa_nil)))))))))))), ?_⟩
    have cat : ∀ {H1 : Hp} {l1 l2 : Addr} {a b : List Nat}, Same H H1 → H1 l1 = some (.lst (nV a)) → H1 l2 = some (.lst (nV b)) → a.length + b.length ≤ 3000 → ∀ {R : Addr → Hp → Prop}, (∀ l, H1 l = none → ∀ H2, Same H H2 → H l = none → Same H1 H2 → H2 l = some (.lst (nV (a ++ b))) → R l H2) → ∀ {R2 : V → Hp → Prop}, (∀ l H2, R l H2 → R2 (.ref l) H2) → rCat (.ref l1) (.ref l2) H1 R2 :=
      fun S e1 e2 hl R hR R2 h2 => ⟨_, _, _, _, rfl, rfl, e1, e2, by rw [nV_len, nV_len]; exact Nat.le_trans hl (by decide), fun l h => h2 _ _ (hR l h _ (S.trans (Same.new h)) (Same.free S h) (Same.new h) (by rw [upd_same, nV_app]))⟩
    have c40 : ∀ n, n < 128 ^ 40 → (cnt n).length ≤ 40 := fun n h => cnt_len 39 n h
    cases x with
    | none =>
      obtain ⟨q, ws, rfl, hq, aw⟩ := dv.head
      refine ⟨_, rfl, q, _, _, _, rfl, rfl, hq, at0, rfl, _, rfl, iteTb (by decide +kernel) ?_⟩
      exact ⟨sz_1, fun l hl => k l _ hl (Same.new hl) upd_same⟩
    | bool b =>
      obtain ⟨q, y, rfl, hq, dy⟩ := Dt.pair (z := "bool") dv
      cases dy.bool_inv
      refine ⟨_, rfl, q, _, _, _, rfl, rfl, hq, at0, rfl, _, rfl, iteFb (by decide +kernel) ?_⟩
      refine ⟨_, rfl, q, _, _, _, rfl, rfl, hq, at0, rfl, _, rfl, iteTb (by decide +kernel) ?_⟩
      refine ⟨_, rfl, q, _, _, _, rfl, rfl, hq, at1, .inr ⟨_, rfl, _, _, rfl, rfl, sz_1, fun l hl => ?_⟩⟩
      refine k l _ hl (Same.new hl) ?_
      rw [upd_same]
      cases b <;> rfl
    | int i =>
      have ok : i.natAbs < 2 ^ 256 := ok
      obtain ⟨q, y, rfl, hq, dy⟩ := Dt.pair (z := "int") dv
      cases dy.int_inv
      refine ⟨_, rfl, q, _, _, _, rfl, rfl, hq, at0, rfl, _, rfl, iteFb (by decide +kernel) ?_⟩
      refine ⟨_, rfl, q, _, _, _, rfl, rfl, hq, at0, rfl, _, rfl, iteFb (by decide +kernel) ?_⟩
      refine ⟨_, rfl, q, _, _, _, rfl, rfl, hq, at0, rfl, _, rfl, iteTb (by decide +kernel) ?_⟩
      refine ⟨sz_1, fun l1 h1 => ?_⟩
      have S1 := Same.new (o := .lst (nV [3])) h1
      refine ⟨_, rfl, q, _, _, _, rfl, rfl, SqT.mono hq S1, at1, i, rfl, ok, fun l2 H2 n2 S2 e2 => ?_⟩
      have hl := c40 _ (zig40 ok)
      exact cat (a := [3]) (S1.trans S2) (S2 _ _ upd_same) e2 (by rw [List.length_singleton]; omega) (R := fun l H => Q (.ref l) H) (fun l _ H3 S3 n3 _ e3 => k l H3 n3 S3 e3) fun _ _ h => h
    | text js =>
      obtain ⟨hx1, hx2⟩ : js.length ≤ 1000 ∧ ∀ j ∈ js, j < 95 := ok
      obtain ⟨q, y, rfl, hq, dy⟩ := Dt.pair (z := "text") dv
      cases dy.str_inv
      refine ⟨_, rfl, q, _, _, _, rfl, rfl, hq, at0, rfl, _, rfl, iteFb (by decide +kernel) ?_⟩
      refine ⟨_, rfl, q, _, _, _, rfl, rfl, hq, at0, rfl, _, rfl, iteFb (by decide +kernel) ?_⟩
      refine ⟨_, rfl, q, _, _, _, rfl, rfl, hq, at0, rfl, _, rfl, iteFb (by decide +kernel) ?_⟩
      refine ⟨_, rfl, q, _, _, _, rfl, rfl, hq, at0, rfl, _, rfl, iteTb (by decide +kernel) ?_⟩
      refine ⟨sz_1, fun l1 h1 => ?_⟩
      have S1 := Same.new (o := .lst (nV [4])) h1
      refine ⟨_, rfl, q, _, _, _, rfl, rfl, SqT.mono hq S1, at1, js, rfl, by omega, hx2, fun l2 H2 n2 S2 e2 => ?_⟩
      have hl := c40 js.length (Nat.lt_of_le_of_lt hx1 (by decide +kernel))
      exact cat (a := [4]) (S1.trans S2) (S2 _ _ upd_same) e2 (by rw [strN, List.length_append, List.length_singleton]; omega) (R := fun l H => Q (.ref l) H) (fun l _ H3 S3 n3 _ e3 => k l H3 n3 S3 e3) fun _ _ h => h
    | span a b =>
      obtain ⟨ok1, ok2⟩ : a.natAbs < 2 ^ 256 ∧ b.natAbs < 2 ^ 256 := ok
      obtain ⟨q, x1, y1, rfl, hq, d1, d2⟩ := Dt.triple (z := "span") dv
      cases d1.int_inv
      cases d2.int_inv
      refine ⟨_, rfl, q, _, _, _, rfl, rfl, hq, at0, rfl, _, rfl, iteFb (by decide +kernel) ?_⟩
      refine ⟨_, rfl, q, _, _, _, rfl, rfl, hq, at0, rfl, _, rfl, iteFb (by decide +kernel) ?_⟩
      refine ⟨_, rfl, q, _, _, _, rfl, rfl, hq, at0, rfl, _, rfl, iteFb (by decide +kernel) ?_⟩
      refine ⟨_, rfl, q, _, _, _, rfl, rfl, hq, at0, rfl, _, rfl, iteFb (by decide +kernel) ?_⟩
      refine ⟨_, rfl, q, _, _, _, rfl, rfl, hq, at0, rfl, _, rfl, iteTb (by decide +kernel) ?_⟩
      refine ⟨sz_1, fun l1 h1 => ?_⟩
      have S1 := Same.new (o := .lst (nV [5])) h1
      refine ⟨_, rfl, q, _, _, _, rfl, rfl, SqT.mono hq S1, at1, a, rfl, ok1, fun l2 H2 n2 S2 e2 => ?_⟩
      have hl1 := c40 _ (zig40 ok1)
      have hl2 := c40 _ (zig40 ok2)
      refine cat (a := [5]) (S1.trans S2) (S2 _ _ upd_same) e2 (by rw [List.length_singleton]; omega) (R := fun l H3 => Same H H3 ∧ H3 l = some (.lst (nV ([5] ++ cnt (zig a)))) ∧ SqT K H3 q [.str "span", .int a, .int b]) (fun l _ H3 S3 n3 S23 e3 => ⟨S3, e3, SqT.mono hq S3⟩) fun l3 H3 ⟨S3, e3, hq3⟩ => ?_
      refine ⟨_, rfl, q, _, _, _, rfl, rfl, hq3, at2, b, rfl, ok2, fun l4 H4 n4 S4 e4 => ?_⟩
      exact cat (S3.trans S4) (S4 _ _ e3) e4 (by rw [List.length_append, List.length_singleton]; omega) (R := fun l H => Q (.ref l) H) (fun l _ H5 S5 n5 _ e5 => k l H5 n5 S5 (by rw [e5]; simp [enc])) fun _ _ h => h
    | built js =>
      obtain ⟨hx1, hx2⟩ : js.length ≤ 200 ∧ ∀ j ∈ js, j < 95 := ok
      obtain ⟨q, y, rfl, hq, dy⟩ := Dt.pair (z := "built") dv
      cases dy.str_inv
      refine ⟨_, rfl, q, _, _, _, rfl, rfl, hq, at0, rfl, _, rfl, iteFb (by decide +kernel) ?_⟩
      refine ⟨_, rfl, q, _, _, _, rfl, rfl, hq, at0, rfl, _, rfl, iteFb (by decide +kernel) ?_⟩
      refine ⟨_, rfl, q, _, _, _, rfl, rfl, hq, at0, rfl, _, rfl, iteFb (by decide +kernel) ?_⟩
      refine ⟨_, rfl, q, _, _, _, rfl, rfl, hq, at0, rfl, _, rfl, iteFb (by decide +kernel) ?_⟩
      refine ⟨_, rfl, q, _, _, _, rfl, rfl, hq, at0, rfl, _, rfl, iteFb (by decide +kernel) ?_⟩
      refine ⟨_, rfl, q, _, _, _, rfl, rfl, hq, at0, rfl, _, rfl, iteTb (by decide +kernel) ?_⟩
      refine ⟨sz_1, fun l1 h1 => ?_⟩
      have S1 := Same.new (o := .lst (nV [6])) h1
      refine ⟨_, rfl, q, _, _, _, rfl, rfl, SqT.mono hq S1, at1, js, rfl, by omega, hx2, fun l2 H2 n2 S2 e2 => ?_⟩
      have hl := c40 js.length (Nat.lt_of_le_of_lt hx1 (by decide +kernel))
      exact cat (a := [6]) (S1.trans S2) (S2 _ _ upd_same) e2 (by rw [strN, List.length_append, List.length_singleton]; omega) (R := fun l H => Q (.ref l) H) (fun l _ H3 S3 n3 _ e3 => k l H3 n3 S3 e3) fun _ _ h => h
    | host js =>
      obtain ⟨hx1, hx2⟩ : js.length ≤ 200 ∧ ∀ j ∈ js, j < 95 := ok
      obtain ⟨q, y, rfl, hq, dy⟩ := Dt.pair (z := "host") dv
      cases dy.str_inv
      refine ⟨_, rfl, q, _, _, _, rfl, rfl, hq, at0, rfl, _, rfl, iteFb (by decide +kernel) ?_⟩
      refine ⟨_, rfl, q, _, _, _, rfl, rfl, hq, at0, rfl, _, rfl, iteFb (by decide +kernel) ?_⟩
      refine ⟨_, rfl, q, _, _, _, rfl, rfl, hq, at0, rfl, _, rfl, iteFb (by decide +kernel) ?_⟩
      refine ⟨_, rfl, q, _, _, _, rfl, rfl, hq, at0, rfl, _, rfl, iteFb (by decide +kernel) ?_⟩
      refine ⟨_, rfl, q, _, _, _, rfl, rfl, hq, at0, rfl, _, rfl, iteFb (by decide +kernel) ?_⟩
      refine ⟨_, rfl, q, _, _, _, rfl, rfl, hq, at0, rfl, _, rfl, iteFb (by decide +kernel) ?_⟩
      refine ⟨_, rfl, q, _, _, _, rfl, rfl, hq, at0, rfl, _, rfl, iteTb (by decide +kernel) ?_⟩
      refine ⟨sz_1, fun l1 h1 => ?_⟩
      have S1 := Same.new (o := .lst (nV [7])) h1
      refine ⟨_, rfl, q, _, _, _, rfl, rfl, SqT.mono hq S1, at1, js, rfl, by omega, hx2, fun l2 H2 n2 S2 e2 => ?_⟩
      have hl := c40 js.length (Nat.lt_of_le_of_lt hx1 (by decide +kernel))
      exact cat (a := [7]) (S1.trans S2) (S2 _ _ upd_same) e2 (by rw [strN, List.length_append, List.length_singleton]; omega) (R := fun l H => Q (.ref l) H) (fun l _ H3 S3 n3 _ e3 => k l H3 n3 S3 e3) fun _ _ h => h
    | ref n =>
      have ok : n < 128 ^ 40 := ok
      obtain ⟨q, y, rfl, hq, dy⟩ := Dt.pair (z := "ref") dv
      cases dy.int_inv
      refine ⟨_, rfl, q, _, _, _, rfl, rfl, hq, at0, rfl, _, rfl, iteFb (by decide +kernel) ?_⟩
      refine ⟨_, rfl, q, _, _, _, rfl, rfl, hq, at0, rfl, _, rfl, iteFb (by decide +kernel) ?_⟩
      refine ⟨_, rfl, q, _, _, _, rfl, rfl, hq, at0, rfl, _, rfl, iteFb (by decide +kernel) ?_⟩
      refine ⟨_, rfl, q, _, _, _, rfl, rfl, hq, at0, rfl, _, rfl, iteFb (by decide +kernel) ?_⟩
      refine ⟨_, rfl, q, _, _, _, rfl, rfl, hq, at0, rfl, _, rfl, iteFb (by decide +kernel) ?_⟩
      refine ⟨_, rfl, q, _, _, _, rfl, rfl, hq, at0, rfl, _, rfl, iteFb (by decide +kernel) ?_⟩
      refine ⟨_, rfl, q, _, _, _, rfl, rfl, hq, at0, rfl, _, rfl, iteFb (by decide +kernel) ?_⟩
      refine ⟨sz_1, fun l1 h1 => ?_⟩
      have S1 := Same.new (o := .lst (nV [8])) h1
      refine ⟨_, rfl, q, _, _, _, rfl, rfl, SqT.mono hq S1, at1, n, rfl, ok, fun l2 H2 n2 S2 e2 => ?_⟩
      have hl := c40 _ ok
      exact cat (a := [8]) (S1.trans S2) (S2 _ _ upd_same) e2 (by rw [List.length_singleton]; omega) (R := fun l H => Q (.ref l) H) (fun l _ H3 S3 n3 _ e3 => k l H3 n3 S3 e3) fun _ _ h => h
def spLRow (K : PySem.W.Frag) : Sp := fun vs H Q _ => ∃ (p dl : Addr), vs = [.ref p] ∧ BoxAt H p dl ∧ ∀ l H' ns, H l = none → BoxAt H' p dl → Keep p H H' → H' l = some (.lst (nV ns)) → ns.length ≤ 9 → Q (.ref l) H'
theorem ok_row {f : Addr} {fd : FuncData} (F : Fun K "_law_row" "_law_row" s_law_row f fd) (T : Txt K mg) (U_law_draw : Use P w K mg base CX0 "_law_draw" 1 P_law_draw (spDraw K)) : FnG P w K mg base CX0 2 f fd P_law_row (spLRow K) := by
  refine okG0 F sc_law_row (fun vs H Q E h => ?_) fun cdv A outer s H vs Q E hr hg h => ?_
  · obtain ⟨p, dl, rfl, _⟩ := h
    rfl
  · obtain ⟨p, dl, rfl, B, k⟩ := h
    refine ⟨_, (pss_cons (ps_set (i := 1) sc_law_row.nd rfl (Or.inl rfl) (pe_use U_law_draw (hr.mono (by decide)) hg rfl (pa_cons (pv 0) (pa_cons pe_int pa_nil))))
  (pss_one (ps_ret (pe_lc (own := [("k", 2)]) (g := (gName 2)) rfl sc_law_row.nd (pi_range1 (by rfl) T.b_range (pa_cons (pv 1) pa_nil)) (blkOk_by (N := N_law_row) (sc := defScope s_law_row) (by decide +kernel)) (fun _ _ _ _ _ => (pg_name (i := 2) sc_law_row.nd rfl (Or.inl rfl))) (fun _ _ _ _ _ => pts_nil) (fun _ _ _ _ _ => (pe_use U_law_draw (hr.mono (by decide)) hg rfl (pa_cons (pv 0) (pa_cons pe_int pa_nil)))))))), ?_⟩
    refine ⟨_, rfl, p, dl, 10, rfl, B, by decide, fun r H1 r0 r1 B1 K1 => ?_⟩
    obtain ⟨n, rfl⟩ := Int.eq_ofNat_of_zero_le r0
    refine ⟨_, rfl, n, rfl, by omega, by omega, fun D hD => ?_⟩
    rw [Int.toNat_natCast]
    obtain ⟨hDp, hDd⟩ := B1.ne_new hD
    have nD0 : H D = none := none_back0 K1 B1.at_ hD
    refine lc_it (walk_range (lo := 0) (n := n)) (fun i H' => ∃ ns : List Nat, H' D = some (.lst (nV ns)) ∧ ns.length = i ∧ BoxAt H' p dl ∧ Keep p H1 H') ⟨[], upd_same, rfl, B1.same (Same.new hD), Same.keep (Same.new hD)⟩ (fun _ _ _ _ => trivial) ?_ ?_
    · rintro i x H5 H6 hi ⟨ns, e5, hl5, B5, K5⟩ ⟨rfl, rfl⟩
      refine ⟨rfl, tYes_of ?_⟩
      refine ⟨_, rfl, p, dl, 301, rfl, B5, by decide, fun r H7 q0 q1 B7 K7 => ?_⟩
      obtain ⟨j, rfl⟩ := Int.eq_ofNat_of_zero_le q0
      have e7 := K7 _ _ e5 hDp
      refine ⟨nV ns, e7, ?_, ns ++ [j], ?_, by simp [hl5], B7.upd hDp hDd, fun b o e hb => ?_⟩
      · rw [nV_len]; exact Nat.lt_of_le_of_lt (show ns.length ≤ 10 by omega) (by decide)
      · rw [upd_same, nV_app]; rfl
      · rw [upd_ne (ne_of_none e hD)]; exact K7 _ _ (K5 _ _ e hb) hb
    · rintro H5 ⟨ns, e5, hl5, B5, K5⟩
      exact k D H5 ns nD0 B5 (K1.trans K5) e5 (by omega)
theorem rep_tx (js : List Nat) (n : Nat) : repS (tx js) (n : Int) = tx (List.replicate n js).flatten := by
  show (⟨((List.replicate (n : Int).toNat (js.map ch)).flatten).toArray⟩ : Str) = ⟨(((List.replicate n js).flatten).map ch).toArray⟩
  rw [Int.toNat_natCast, List.map_flatten, List.map_replicate]
theorem rd_len {x : Val} (h : ValRd x) : (enc x).length ≤ 2000 := by
  have c : ∀ n, n < 128 ^ 40 → (cnt n).length ≤ 40 := fun n h => cnt_len 39 n h
  have st : ∀ (js : List Nat), js.length ≤ 1000 → (strN js).length ≤ 1040 := fun js h => by
    have h1 := c js.length (Nat.lt_of_le_of_lt h (by decide +kernel))
    rw [strN, List.length_append]; omega
  cases x with
  | none => simp [enc]
  | bool b => simp [enc]
  | int i => have := c _ (zig40 h); simp [enc]; omega
  | text js => have := st js h.1; simp [enc]; omega
  | built js => have h' : js.length ≤ 200 := h.1; have := st js (by omega); simp [enc]; omega
  | host js => have h' : js.length ≤ 200 := h.1; have := st js (by omega); simp [enc]; omega
  | ref n => have := c n h; simp [enc]; omega
  | span a b => have h1 := c _ (zig40 h.1); have h2 := c _ (zig40 h.2); simp [enc]; omega
theorem sm_rd : ∀ {x : Val}, ValSm x → ValRd x
  | .none, _ => trivial
  | .bool _, _ => trivial
  | .int _, h => h
  | .text _, h => ⟨Nat.le_trans h.len (by decide), h.lt⟩
  | .span _ _, h => h
  | .built _, h => ⟨Nat.le_trans h.len (by decide), h.lt⟩
  | .host _, h => ⟨Nat.le_trans h.len (by decide), h.lt⟩
  | .ref _, h => Nat.lt_trans h (by decide +kernel)
def spLaw (K : PySem.W.Frag) : Sp := fun vs H Q _ => ∃ (a : Addr) (ns : List Int), vs = [.ref a] ∧ SqL K H a (ns.map V.int) ∧ ns.length ≤ 63 ∧ ∀ H', Q (.bl true) H'
theorem ok_law {f : Addr} {fd : FuncData} (F : Fun K "law" "law" s_law f fd) (T : Txt K mg) (U_law_digits : Use P w K mg base CX0 "_law_digits" 2 P_law_digits (spDigits K)) (U_law_draw : Use P w K mg base CX0 "_law_draw" 1 P_law_draw (spDraw K)) (U_law_value : Use P w K mg base CX0 "_law_value" 3 P_law_value (spLVal K))
    (U_law_text : Use P w K mg base CX0 "_law_text" 2 P_law_text (spText K)) (U_law_row : Use P w K mg base CX0 "_law_row" 2 P_law_row (spLRow K)) (U_law_value_numbers : Use P w K mg base CX0 "_law_value_numbers" 3 P_law_value_numbers (spLVNum K)) (U_law_list_is : Use P w K mg base CX0 "_law_list_is" 2 P_law_list_is (spListIs K))
    (U_write_value : Use P w K mg base CX0 "write_value" 3 P_write_value (spWVal K)) (U_law_pair_is : Use P w K mg base CX0 "_law_pair_is" 4 P_law_pair_is (spPairIs K)) (U_read_value : Use P w K mg base CX0 "read_value" 6 P_read_value (spFVal K)) (U_law_number : Use P w K mg base CX0 "_law_number" 2 P_law_number (spNumb K))
    (U_law_integer : Use P w K mg base CX0 "_law_integer" 2 P_law_integer (spLInt K)) (U_write_integer : Use P w K mg base CX0 "write_integer" 2 P_write_integer (spWInt K)) (U_read_integer : Use P w K mg base CX0 "read_integer" 4 P_read_integer (spFInt K)) (U_law_string : Use P w K mg base CX0 "_law_string" 2 P_law_string (spWStr K))
    (U_write_string : Use P w K mg base CX0 "write_string" 2 P_write_string (spWStr K)) (U_read_string : UseN P w K mg base CX0 "read_string" 5 P_read_string 2 ["most"] (spFStr K)) : FnG P w K mg base CX0 7 f fd P_law (spLaw K) := by
  refine okG0 F sc_law (fun vs H Q E h => ?_) fun cdv A outer s H vs Q E hr hg h => ?_
  · obtain ⟨a, ns, rfl, _⟩ := h
    rfl
  · obtain ⟨a, ns, rfl, hs, hn, k⟩ := h
    refine ⟨_, (pss_cons (ps_set (i := 1) sc_law.nd rfl (Or.inl rfl) (pe_lst (pa_cons (pe_use U_law_digits (hr.mono (by decide)) hg rfl (pa_cons (pv 0) (pa_cons pe_int (pa_cons pe_int pa_nil)))) (pa_cons pe_int pa_nil))))
  (pss_cons (ps_set (i := 2) sc_law.nd rfl (Or.inl rfl) (pe_use U_law_value (hr.mono (by decide)) hg rfl (pa_cons (pv 1) (pa_cons pe_int pa_nil))))
  (C8.pss_cut (ps_if (pt_cmpR op_eq (pe_use U_law_draw (hr.mono (by decide)) hg rfl (pa_cons (pv 1) (pa_cons pe_int pa_nil))) pe_int (nomark _))
   (pss_one (ps_set (i := 2) sc_law.nd rfl (Or.inl rfl) (pe_tup (pa_cons pe_str (pa_cons (pe_op op_add_str (pe_op op_add_str (pe_use U_law_text (hr.mono (by decide)) hg rfl (pa_cons (pv 1) (pa_cons pe_int pa_nil))) (pe_use U_law_text (hr.mono (by decide)) hg rfl (pa_cons (pv 1) (pa_cons pe_int pa_nil)))) (pe_op op_rep_str pe_str (pe_use U_law_draw (hr.mono (by decide)) hg rfl (pa_cons (pv 1) (pa_cons pe_int pa_nil))))) pa_nil)))))
   pss_nil)
  (pss_cons (ps_set (i := 3) sc_law.nd rfl (Or.inl rfl) (pe_use U_law_row (hr.mono (by decide)) hg rfl (pa_cons (pv 1) pa_nil)))
  (pss_cons (ps_set (i := 4) sc_law.nd rfl (Or.inl rfl) (pe_use U_law_row (hr.mono (by decide)) hg rfl (pa_cons (pv 1) pa_nil)))
  (pss_cons (ps_set (i := 5) sc_law.nd rfl (Or.inl rfl) (pe_use U_law_value_numbers (hr.mono (by decide)) hg rfl (pa_cons (pv 2) pa_nil)))
  (pss_cons (ps_if (pt_not (pt_val (pe_use U_law_list_is (hr.mono (by decide)) hg rfl (pa_cons (pe_use U_write_value (hr.mono (by decide)) hg rfl (pa_cons (pv 2) pa_nil)) (pa_cons (pv 5) pa_nil)))))
   (pss_one (ps_ret pe_bl))
   pss_nil)
  (pss_cons (ps_set (i := 6) sc_law.nd rfl (Or.inl rfl) (pe_op op_cat (pe_op op_cat (pv 3) (pv 5)) (pv 4)))
  (pss_cons (ps_set (i := 7) sc_law.nd rfl (Or.inl rfl) (pe_callTy call_list_of (by rfl) T.b_list (by decide +kernel) (pa_cons (pv 6) pa_nil)))
  (pss_cons (ps_if (PW.pt (pw_or (pt_not (pt_val (pe_use U_law_pair_is (hr.mono (by decide)) hg rfl (pa_cons (pe_use U_read_value (hr.mono (by decide)) hg rfl (pa_cons (pv 6) (pa_cons (pe_callB call_len (by rfl) T.b_len PySem.boot_len (pa_cons (pv 3) pa_nil)) pa_nil))) (pa_cons (pv 2) (pa_cons (pe_op op_add (pe_callB call_len (by rfl) T.b_len PySem.boot_len (pa_cons (pv 3) pa_nil)) (pe_callB call_len (by rfl) T.b_len PySem.boot_len (pa_cons (pv 5) pa_nil))) pa_nil)))))) (pw_or1 (pt_cmpR (op_neD hr.units) (pv 6) (pv 7) (nomark _)))))
   (pss_one (ps_ret pe_bl))
   pss_nil)
  (pss_cons (ps_set (i := 8) sc_law.nd rfl (Or.inl rfl) (pe_use U_law_number (hr.mono (by decide)) hg rfl (pa_cons (pv 1) pa_nil)))
  (pss_cons (ps_set (i := 5) sc_law.nd rfl (Or.inl rfl) (pe_use U_law_integer (hr.mono (by decide)) hg rfl (pa_cons (pv 8) pa_nil)))
  (pss_cons (ps_if (pt_not (pt_val (pe_use U_law_list_is (hr.mono (by decide)) hg rfl (pa_cons (pe_use U_write_integer (hr.mono (by decide)) hg rfl (pa_cons (pv 8) pa_nil)) (pa_cons (pv 5) pa_nil)))))
   (pss_one (ps_ret pe_bl))
   pss_nil)
  (pss_cons (ps_if (pt_not (pt_val (pe_use U_law_pair_is (hr.mono (by decide)) hg rfl (pa_cons (pe_use U_read_integer (hr.mono (by decide)) hg rfl (pa_cons (pe_op op_cat (pe_op op_cat (pv 3) (pv 5)) (pv 4)) (pa_cons (pe_callB call_len (by rfl) T.b_len PySem.boot_len (pa_cons (pv 3) pa_nil)) pa_nil))) (pa_cons (pv 8) (pa_cons (pe_op op_add (pe_callB call_len (by rfl) T.b_len PySem.boot_len (pa_cons (pv 3) pa_nil)) (pe_callB call_len (by rfl) T.b_len PySem.boot_len (pa_cons (pv 5) pa_nil))) pa_nil))))))
   (pss_one (ps_ret pe_bl))
   pss_nil)
  (pss_cons (ps_set (i := 9) sc_law.nd rfl (Or.inl rfl) (pe_use U_law_text (hr.mono (by decide)) hg rfl (pa_cons (pv 1) (pa_cons pe_int pa_nil))))
  (pss_cons (ps_set (i := 5) sc_law.nd rfl (Or.inl rfl) (pe_use U_law_string (hr.mono (by decide)) hg rfl (pa_cons (pv 9) pa_nil)))
  (pss_cons (ps_if (pt_not (pt_val (pe_use U_law_list_is (hr.mono (by decide)) hg rfl (pa_cons (pe_use U_write_string (hr.mono (by decide)) hg rfl (pa_cons (pv 9) pa_nil)) (pa_cons (pv 5) pa_nil)))))
   (pss_one (ps_ret pe_bl))
   pss_nil)
  (pss_cons (ps_set (i := 10) sc_law.nd rfl (Or.inl rfl) (pe_op op_add (pe_callB call_len (by rfl) T.b_len PySem.boot_len (pa_cons (pv 9) pa_nil)) (pe_use U_law_draw (hr.mono (by decide)) hg rfl (pa_cons (pv 1) (pa_cons pe_int pa_nil)))))
  (pss_one (ps_ret (pe_use U_law_pair_is (hr.mono (by decide)) hg rfl (pa_cons (pe_useN U_read_string (hr.mono (by decide)) hg rfl (pa_cons (pe_op op_cat (pe_op op_cat (pv 3) (pv 5)) (pv 4)) (pa_cons (pe_callB call_len (by rfl) T.b_len PySem.boot_len (pa_cons (pv 3) pa_nil)) pa_nil)) (pk_cons (pv 10) pk_nil)) (pa_cons (pv 9) (pa_cons (pe_op op_add (pe_callB call_len (by rfl) T.b_len PySem.boot_len (pa_cons (pv 3) pa_nil)) (pe_callB call_len (by rfl) T.b_len PySem.boot_len (pa_cons (pv 5) pa_nil))) pa_nil)))))))))))))))))))))))), ?_⟩
    refine ⟨_, rfl, a, ns, 0, 40, rfl, hs, by decide, by decide, fun dl H1 nd D => ?_⟩
    obtain ⟨ds, hd, hl, hds, S1⟩ := D
    refine ⟨sz_2, fun p hp0 => ?_⟩
    have B0 : BoxAt (upd H1 p (.lst [.ref dl, .int 0])) p dl := ⟨ds, 0, upd_same, by decide, by rw [upd_ne (ne_of_none hd hp0)]; exact hd, hl, hds⟩
    generalize upd H1 p (.lst [.ref dl, .int 0]) = H2 at B0
    clear hd hds S1 hp0
    refine ⟨_, rfl, p, dl, 1000000, rfl, B0, by decide, by decide, fun v1 x1 H3 d1 sm1 B3 K3 => ?_⟩
    refine ⟨fun σ H' => ∃ v x, σ = [some (.ref a), some (.ref p), some v, none, none, none, none, none, none, none, none] ∧ Dt K H' v (valD x) ∧ ValRd x ∧ ValOk x ∧ BoxAt H' p dl, ?_, ?_⟩
    · refine ⟨_, rfl, p, dl, 6, rfl, B3, by decide, fun r H5 _ _ B5 K5 => ⟨rfl, _, rfl, ?_⟩⟩
      refine ite3 (fun _ => ?_) fun _ => ?_
      · refine ⟨_, rfl, p, dl, 30, rfl, B5, by decide, fun j1 H6 l1 h1 B6 _ => ⟨_, rfl, p, dl, 30, rfl, B6, by decide, fun j2 H7 l2 h2 B7 _ => ?_⟩⟩
        refine ⟨_, _, rfl, rfl, by rw [tx_len, tx_len]; exact Nat.le_trans (show _ ≤ 100 by omega) (by decide), _, rfl, p, dl, 71, rfl, B7, by decide, fun n H8 n0 n1 B8 _ => ?_⟩
        obtain ⟨n, rfl⟩ := Int.eq_ofNat_of_zero_le n0
        have ab : ("ab" : Str) = tx [65, 66] := by decide +kernel
        have abl : ("ab" : Str).length = 2 := by decide +kernel
        have hfl : ((List.replicate n [65, 66]).flatten).length = n * 2 := by simp
        refine ⟨_, _, rfl, rfl, by omega, by omega, by rw [abl]; omega, _, _, rfl, rfl, ?_, sz_2, fun t ht => ?_⟩
        · rw [ab, rep_tx, ← tx_app, tx_len, tx_len, List.length_append, hfl]; exact Nat.le_trans (show _ ≤ 300 by omega) (by decide)
        · have e : tx j1 ++ tx j2 ++ repS "ab" (n : Int) = tx (j1 ++ j2 ++ (List.replicate n [65, 66]).flatten) := by rw [ab, rep_tx, tx_app, tx_app]
          have hlen : (j1 ++ j2 ++ (List.replicate n [65, 66]).flatten).length ≤ 1000 := by rw [List.length_append, List.length_append, hfl]; omega
          have hlt : ∀ j ∈ j1 ++ j2 ++ (List.replicate n [65, 66]).flatten, j < 95 := fun j hj => by
            rcases List.mem_append.mp hj with hj | hj
            · rcases List.mem_append.mp hj with hj | hj
              · exact h1 j hj
              · exact h2 j hj
            · obtain ⟨l, hl, hjl⟩ := List.mem_flatten.mp hj
              rw [List.eq_of_mem_replicate hl] at hjl
              simp at hjl; omega
          refine ⟨_, .text (j1 ++ j2 ++ (List.replicate n [65, 66]).flatten), rfl, ?_, ⟨hlen, hlt⟩, ⟨Nat.le_trans hlen (by decide), hlt⟩, B8.same (Same.new ht)⟩
          rw [valD, ← e]
          exact Dt.made ht (.cons (.str _) (.cons (.str _) .nil))
      · exact ⟨v1, x1, rfl, d1.keepT (Keep.keepT K5 B3.at_), sm_rd sm1, sm1.ok, B5⟩
    rintro _ H3 ⟨v, x, rfl, dv, rd, ok, B3⟩
    -- front, behind
    refine ⟨_, rfl, p, dl, rfl, B3, fun fl H4 fr nf B4 K4 ef lf => ?_⟩
    have fp := (B3.ne_new nf).1
    have dv4 := dv.keepT (Keep.keepT K4 B3.at_)
    refine ⟨_, rfl, p, dl, rfl, B4, fun bl H5 bh nb B5 K5 eb lb => ?_⟩
    have bp := (B4.ne_new nb).1
    have dv5 := dv4.keepT (Keep.keepT K5 B4.at_)
    have ef5 := K5 _ _ ef fp
    clear dv dv4 ef K4 K5 B3 B4 nf nb B0 d1
    refine ⟨_, rfl, v, x, rfl, dv5, rd, fun due H6 _ S6 ed => ?_⟩
    have hel := rd_len rd
    refine ⟨_, rfl, v, x, rfl, dv5.mono S6, ok, fun wl H7 _ S7 ew => ?_⟩
    have ed7 := S7 _ _ ed
    refine ⟨_, rfl, wl, due, (enc x).map (fun (d : Nat) => (d : Int)), rfl, by rw [← nV_int]; exact ew, by rw [← nV_int]; exact ed7, by rw [List.length_map]; omega, true, rfl, iteFb rfl ?_⟩
    have S67 := S6.trans S7
    have ef7 := S67 _ _ ef5
    have eb7 := S67 _ _ eb
    have dv7 := dv5.mono S67
    have B7 := B5.same S67
    clear S6 S7 S67 ef5 eb dv5 B5 ed ew
    refine ⟨_, rfl, _, rfl, fl, due, _, _, rfl, rfl, ef7, ed7, by rw [nV_len, nV_len]; exact Nat.le_trans (show fr.length + (enc x).length ≤ 4000 by omega) (by decide), fun l1 h1 => ?_⟩
    have S1 := Same.new (o := .lst (nV fr ++ nV (enc x))) h1
    refine ⟨_, rfl, l1, bl, _, _, rfl, rfl, upd_same, S1 _ _ eb7, by rw [List.length_append, nV_len, nV_len, nV_len]; exact Nat.le_trans (show fr.length + (enc x).length + bh.length ≤ 4000 by omega) (by decide), fun m1 g1 => ?_⟩
    have T1 := S1.trans (Same.new (o := .lst (nV fr ++ nV (enc x) ++ nV bh)) g1)
    have em1 : upd (upd H7 l1 (.lst (nV fr ++ nV (enc x)))) m1 (.lst (nV fr ++ nV (enc x) ++ nV bh)) m1 = some (.lst (nV (fr ++ enc x ++ bh))) := by rw [upd_same, nV_app, nV_app]
    generalize upd (upd H7 l1 (.lst (nV fr ++ nV (enc x)))) m1 (.lst (nV fr ++ nV (enc x) ++ nV bh)) = H8 at em1 T1 ⊢
    have ef8 := T1 _ _ ef7
    have eb8 := T1 _ _ eb7
    have ed8 := T1 _ _ ed7
    have dv8 := dv7.mono T1
    have B8 := B7.same T1
    clear S1 T1 h1 g1 ef7 eb7 ed7 dv7 B7
    refine ⟨_, rfl, m1, _, rfl, .inl (SqL.of em1), fun kl hkl => ?_⟩
    have S9 := Same.new (o := .lst (nV (fr ++ enc x ++ bh))) hkl
    have ek9 := upd_same (H := H8) (a := kl) (o := HO.lst (nV (fr ++ enc x ++ bh)))
    have em9 := S9 _ _ em1
    have ef9 := S9 _ _ ef8
    have eb9 := S9 _ _ eb8
    have ed9 := S9 _ _ ed8
    have dv9 := dv8.mono S9
    have B9 := B8.same S9
    generalize upd H8 kl _ = H9 at ek9 em9 ef9 eb9 ed9 dv9 B9 ⊢
    clear S9 hkl em1 ef8 eb8 ed8 dv8 B8
    -- the value is read back
    refine ⟨_, rfl, _, rfl, _, _, rfl, .inl ⟨_, SqL.of ef9, rfl⟩, m1, fr ++ enc x ++ bh, bh, fr.length, x, by rw [nV_len], em9, by rw [List.append_assoc, List.drop_left], rd, fun q u H10 S10 hq hu => ?_⟩
    have dv10 := dv9.mono S10
    obtain ⟨qv, rfl, hqv⟩ := vL_inv dv10
    refine ⟨_, rfl, _, rfl, _, _, rfl, .inl ⟨_, SqL.of (S10 _ _ ef9), rfl⟩, _, rfl, _, _, rfl, .inl ⟨_, SqL.of (S10 _ _ ed9), rfl⟩, _, _, rfl, rfl, q, _, _, _, by rw [nV_len, nV_len]; rfl, hq, .inr (.inr ⟨u, qv, x, rfl, rfl, hu, hqv⟩), true, rfl, iteFb rfl ?_⟩
    refine ⟨_, rfl, _, rfl, _, _, .lst (SqL.of (S10 _ _ em9)) (dp_nV _), .lst (SqL.of (S10 _ _ ek9)) (dp_nV _), sh_natL _, sh_natL _, ?_⟩
    rw [eqv_self (SeqAt.canLay_of_shaped (sh_natL _))]
    refine ⟨_, rfl, iteFb rfl ?_⟩
    have ef10 := S10 _ _ ef9
    have eb10 := S10 _ _ eb9
    have B10 := B9.same S10
    clear S10 hq hu dv10 hqv ek9 em9 ef9 eb9 ed9 dv9 B9
    -- an integer
    refine ⟨_, rfl, p, dl, rfl, B10, fun z H11 hz B11 K11 => ?_⟩
    have ef11 := K11 _ _ ef10 fp
    have eb11 := K11 _ _ eb10 bp
    refine ⟨_, rfl, z, rfl, hz, fun due2 H12 _ S12 ed12 => ?_⟩
    have hz40 := cnt_len 39 _ (zig40 hz)
    refine ⟨_, rfl, z, rfl, Nat.le_trans (Nat.le_of_lt hz) (Nat.pow_le_pow_right (by decide) (by decide)), fun wl2 H13 _ S13 ew13 => ?_⟩
    have ed13 := S13 _ _ ed12
    refine ⟨_, rfl, wl2, due2, (cnt (zig z)).map (fun (d : Nat) => (d : Int)), rfl, by rw [← nV_int]; exact ew13, by rw [← nV_int]; exact ed13, by rw [List.length_map]; omega, true, rfl, iteFb rfl ?_⟩
    have S23 := S12.trans S13
    have ef13 := S23 _ _ ef11
    have eb13 := S23 _ _ eb11
    have B13 := B11.same S23
    clear S12 S13 S23 ef11 eb11 ef10 eb10 B10 B11 K11 ed12 ew13
    refine ⟨_, rfl, _, rfl, fl, due2, _, _, rfl, rfl, ef13, ed13, by rw [nV_len, nV_len]; exact Nat.le_trans (show fr.length + (cnt (zig z)).length ≤ 4000 by omega) (by decide), fun l2 h2 => ?_⟩
    have S2 := Same.new (o := .lst (nV fr ++ nV (cnt (zig z)))) h2
    refine ⟨_, rfl, l2, bl, _, _, rfl, rfl, upd_same, S2 _ _ eb13, by rw [List.length_append, nV_len, nV_len, nV_len]; exact Nat.le_trans (show fr.length + (cnt (zig z)).length + bh.length ≤ 4000 by omega) (by decide), fun m2 g2 => ?_⟩
    have T2 := S2.trans (Same.new (o := .lst (nV fr ++ nV (cnt (zig z)) ++ nV bh)) g2)
    have em2 : upd (upd H13 l2 (.lst (nV fr ++ nV (cnt (zig z))))) m2 (.lst (nV fr ++ nV (cnt (zig z)) ++ nV bh)) m2 = some (.lst (nV (fr ++ cnt (zig z) ++ bh))) := by rw [upd_same, nV_app, nV_app]
    generalize upd (upd H13 l2 (.lst (nV fr ++ nV (cnt (zig z))))) m2 (.lst (nV fr ++ nV (cnt (zig z)) ++ nV bh)) = H14 at em2 T2 ⊢
    have ef14 := T2 _ _ ef13
    have eb14 := T2 _ _ eb13
    have ed14 := T2 _ _ ed13
    have B14 := B13.same T2
    clear S2 T2 h2 g2 ef13 eb13 ed13 B13
    refine ⟨_, rfl, _, _, rfl, .inl ⟨_, SqL.of ef14, rfl⟩, m2, fr ++ cnt (zig z) ++ bh, bh, fr.length, z, by rw [nV_len], em2, by rw [List.append_assoc, List.drop_left], hz, fun q2 H15 S15 hq2 => ?_⟩
    refine ⟨_, rfl, _, rfl, _, _, rfl, .inl ⟨_, SqL.of (S15 _ _ ef14), rfl⟩, _, rfl, _, _, rfl, .inl ⟨_, SqL.of (S15 _ _ ed14), rfl⟩, _, _, rfl, rfl, q2, _, _, _, by rw [nV_len, nV_len]; rfl, hq2, .inl ⟨z, rfl, rfl⟩, true, rfl, iteFb rfl ?_⟩
    have ef15 := S15 _ _ ef14
    have eb15 := S15 _ _ eb14
    have B15 := B14.same S15
    clear S15 hq2 ef14 eb14 ed14 B14 em2
    -- a text
    refine ⟨_, rfl, p, dl, 20, rfl, B15, by decide, fun js H16 hjl hj B16 K16 => ?_⟩
    have ef16 := K16 _ _ ef15 fp
    have eb16 := K16 _ _ eb15 bp
    refine ⟨_, rfl, js, rfl, by omega, hj, fun due3 H17 nd3 S17 ed17 => ?_⟩
    have dp3 := (B16.ne_new nd3).1
    have hs40 : (strN js).length ≤ 1060 := by
      have := cnt_len 39 js.length (Nat.lt_of_le_of_lt hjl (by decide +kernel))
      rw [strN, List.length_append]; omega
    refine ⟨_, rfl, js, rfl, by omega, hj, fun wl3 H18 _ S18 ew18 => ?_⟩
    have ed18 := S18 _ _ ed17
    refine ⟨_, rfl, wl3, due3, (strN js).map (fun (d : Nat) => (d : Int)), rfl, by rw [← nV_int]; exact ew18, by rw [← nV_int]; exact ed18, by rw [List.length_map]; omega, true, rfl, iteFb rfl ?_⟩
    have S78 := S17.trans S18
    have ef18 := S78 _ _ ef16
    have eb18 := S78 _ _ eb16
    have B18 := B16.same S78
    clear S17 S18 S78 ef16 eb16 ef15 eb15 B15 B16 K16 ed17 ew18
    have hln : (tx js).length ≤ sizeLine := by rw [tx_len]; exact Nat.le_trans hjl (by decide)
    refine ⟨_, rfl, _, (tx js).length, rfl, ⟨hln, rfl⟩, _, rfl, p, dl, 3, rfl, B18, by decide, fun r H19 r0 r1 B19 K19 => ⟨_, _, rfl, rfl, ?_⟩⟩
    obtain ⟨r, rfl⟩ := Int.eq_ofNat_of_zero_le r0
    have ef19 := K19 _ _ ef18 fp
    have eb19 := K19 _ _ eb18 bp
    have ed19 := K19 _ _ ed18 dp3
    refine ⟨_, rfl, _, rfl, fl, due3, _, _, rfl, rfl, ef19, ed19, by rw [nV_len, nV_len]; exact Nat.le_trans (show fr.length + (strN js).length ≤ 4000 by omega) (by decide), fun l3 h3 => ?_⟩
    have S3 := Same.new (o := .lst (nV fr ++ nV (strN js))) h3
    refine ⟨_, rfl, l3, bl, _, _, rfl, rfl, upd_same, S3 _ _ eb19, by rw [List.length_append, nV_len, nV_len, nV_len]; exact Nat.le_trans (show fr.length + (strN js).length + bh.length ≤ 4000 by omega) (by decide), fun m3 g3 => ?_⟩
    have T3 := S3.trans (Same.new (o := .lst (nV fr ++ nV (strN js) ++ nV bh)) g3)
    have em3 : upd (upd H19 l3 (.lst (nV fr ++ nV (strN js)))) m3 (.lst (nV fr ++ nV (strN js) ++ nV bh)) m3 = some (.lst (nV (fr ++ strN js ++ bh))) := by rw [upd_same, nV_app, nV_app]
    have ef20 := T3 _ _ ef19
    have ed20 := T3 _ _ ed19
    refine ⟨_, rfl, _, _, rfl, .inl ⟨_, SqL.of ef20, rfl⟩, _, rfl, rfl, rfl, m3, fr ++ strN js ++ bh, bh, js, fr.length, js.length + r, by rw [nV_len, tx_len]; rfl, em3, by rw [List.append_assoc, List.drop_left], hj, by omega, by omega, fun q3 H21 S21 hq3 => ?_⟩
    refine ⟨_, rfl, _, rfl, _, _, rfl, .inl ⟨_, SqL.of (S21 _ _ ef20), rfl⟩, _, rfl, _, _, rfl, .inl ⟨_, SqL.of (S21 _ _ ed20), rfl⟩, _, _, rfl, rfl, q3, _, _, _, by rw [nV_len, nV_len]; rfl, hq3, .inr (.inl ⟨_, rfl, rfl⟩), ?_⟩
    exact k _
end
theorem walk_mk {l : PySem.W.OpenLaw} {w : World} {K : PySem.W.Frag} {h : Heap} {mg : Str → Option Value} {fa : Addr} (X : K.In h) (G : h.Ns mainGlobals mg) (hfa : mg "law" = some (.ref fa))
    {C_NumberReader : Addr} (k_NumberReader : ClsK K "NumberReader" ["numbers", "at", "references"] C_NumberReader)
    (f0 : HasFn K "_law_cell" s_law_cell)
    (f1 : HasFn K "_law_digits" s_law_digits)
    (f2 : HasFn K "_law_draw" s_law_draw)
    (f3 : HasFn K "_law_number" s_law_number)
    (f4 : HasFn K "_law_signs" s_law_signs)
    (f5 : HasFn K "_law_text" s_law_text)
    (f6 : HasFn K "_law_name" s_law_name)
    (f7 : HasFn K "_law_value" s_law_value)
    (f8 : HasFn K "_law_row" s_law_row)
    (f9 : HasFn K "_law_count" s_law_count)
    (f10 : HasFn K "_law_integer" s_law_integer)
    (f11 : HasFn K "_law_string" s_law_string)
    (f12 : HasFn K "_law_value_numbers" s_law_value_numbers)
    (f13 : HasFn K "_law_is_integer" s_law_is_integer)
    (f14 : HasFn K "_law_list_is" s_law_list_is)
    (f15 : HasFn K "write_count" s_write_count)
    (f16 : HasFn K "write_string" s_write_string)
    (f17 : HasFn K "write_integer" s_write_integer)
    (f18 : HasFn K "write_value" s_write_value)
    (f19 : HasFn K "_law_same" s_law_same)
    (f20 : HasFn K "_law_same" s_law_same)
    (f21 : HasFn K "_law_pair_is" s_law_pair_is)
    (f22 : HasMeth K C_NumberReader "__init__" "NumberReader.__init__" s_NumberReader___init__)
    (f23 : HasMeth K C_NumberReader "read_number" "NumberReader.read_number" s_NumberReader_read_number)
    (f24 : HasMeth K C_NumberReader "read_count" "NumberReader.read_count" s_NumberReader_read_count)
    (f25 : HasMeth K C_NumberReader "read_integer" "NumberReader.read_integer" s_NumberReader_read_integer)
    (f26 : HasMeth K C_NumberReader "read_count_below" "NumberReader.read_count_below" s_NumberReader_read_count_below)
    (f27 : HasMeth K C_NumberReader "read_string" "NumberReader.read_string" s_NumberReader_read_string)
    (f28 : HasMeth K C_NumberReader "read_reference" "NumberReader.read_reference" s_NumberReader_read_reference)
    (f29 : HasMeth K C_NumberReader "read_value" "NumberReader.read_value" s_NumberReader_read_value)
    (f30 : HasFn K "read_value" s_read_value)
    (f31 : HasFn K "read_integer" s_read_integer)
    (f32 : HasFn K "read_string" s_read_string)
    (f33 : HasFn K "law" s_law)
    (c0 : HasInt K "BASE_coding" 128)
    (c1 : HasInt K "BASE_reader" 128)
    (c2 : HasInt K "NUMBER_END" 256)
    (c3 : HasInt K "MOST_DIGITS" 40)
    (c4 : HasInt K "MOST_ENTRIES" 1000)
    (c5 : HasInt K "MOST_IN_NAME" 200)
    (c6 : HasInt K "INTEGER_END" (2 ^ 256))
    (c7 : HasTup K "VALUES" ([("none" : Str), "bool", "bool", "int", "text", "span", "built", "host", "ref"].map V.str))
    (c8 : HasStr K "CHARACTERS" (fun z => z = LK.chStr))
    (b_len : PySem.W.nsIn K mainGlobals "len" = some none)
    (b_int : PySem.W.nsIn K mainGlobals "int" = some none)
    (b_range : PySem.W.nsIn K mainGlobals "range" = some none)
    (b_list : PySem.W.nsIn K mainGlobals "list" = some none)
    (b_tuple : PySem.W.nsIn K mainGlobals "tuple" = some none)
    (b_isinstance : PySem.W.nsIn K mainGlobals "isinstance" = some none)
    (b_bool : PySem.W.nsIn K mainGlobals "bool" = some none)
    (b_str : PySem.W.nsIn K mainGlobals "str" = some none)
    (b_abs : PySem.W.nsIn K mainGlobals "abs" = some none)
    (d_VALUE_NUMBERS : HasDct l.prog w K "VALUE_NUMBERS" (valKV [("none", V.int 0), ("int", V.int 3), ("text", V.int 4), ("span", V.int 5), ("built", V.int 6), ("host", V.int 7), ("ref", V.int 8)])) :
    ∃ fd : FuncData, (∀ (s : Shared) (v : Value), BindsTo s fd ⟨[v], []⟩ [("script", v)]) ∧ ∀ base : Heap, K.In base → base.Ns mainGlobals mg → FnG l.prog w K mg base CX0 7 fa fd ["script"] (spLaw K) := by
  have T : Txt K mg := ⟨c0.g X G, c1.g X G, c2.g X G, c3.g X G, c4.g X G, c5.g X G, c6.g X G, c7.g X G, (by obtain ⟨z, g, e⟩ := c8.g X G; subst e; exact g), PySem.W.mg_none_of X G b_len, PySem.W.mg_none_of X G b_int, PySem.W.mg_none_of X G b_range, PySem.W.mg_none_of X G b_list, PySem.W.mg_none_of X G b_tuple, PySem.W.mg_none_of X G b_isinstance, PySem.W.mg_none_of X G b_bool, PySem.W.mg_none_of X G b_str, PySem.W.mg_none_of X G b_abs⟩
  refine law_use f33 X G hfa (fun _ _ _ _ _ _ _ => rfl) fun base X' G' fd F => ?_
  have U_VALUE_NUMBERS : UseD l.prog w K mg "VALUE_NUMBERS" _ := d_VALUE_NUMBERS.g X G
  have UC_NumberReader := k_NumberReader.g X G
  have U_law_cell := mk_use (P := l.prog) (w := w) (mg := mg) (base := base) f0 X G (fun _ _ _ _ _ _ us hl => match us, hl with | [_, _], _ => rfl) fun f fd F => ok_cell F T 
  have U_law_digits := mk_use (P := l.prog) (w := w) (mg := mg) (base := base) f1 X G (fun _ _ _ _ _ _ us hl => match us, hl with | [_, _, _], _ => rfl) fun f fd F => ok_digits F T U_law_cell
  have U_law_draw := mk_use (P := l.prog) (w := w) (mg := mg) (base := base) f2 X G (fun _ _ _ _ _ _ us hl => match us, hl with | [_, _], _ => rfl) fun f fd F => ok_draw F T 
  have U_law_number := mk_use (P := l.prog) (w := w) (mg := mg) (base := base) f3 X G (fun _ _ _ _ _ _ us hl => match us, hl with | [_], _ => rfl) fun f fd F => ok_number F T U_law_draw
  have U_law_signs := mk_use (P := l.prog) (w := w) (mg := mg) (base := base) f4 X G (fun _ _ _ _ _ _ us hl => match us, hl with | [], _ => rfl) fun f fd F => ok_signs F T 
  have U_law_text := mk_use (P := l.prog) (w := w) (mg := mg) (base := base) f5 X G (fun _ _ _ _ _ _ us hl => match us, hl with | [_, _], _ => rfl) fun f fd F => ok_text F T U_law_signs U_law_draw
  have U_law_name := mk_use (P := l.prog) (w := w) (mg := mg) (base := base) f6 X G (fun _ _ _ _ _ _ us hl => match us, hl with | [_], _ => rfl) fun f fd F => ok_name F T U_law_draw
  have U_law_value := mk_use (P := l.prog) (w := w) (mg := mg) (base := base) f7 X G (fun _ _ _ _ _ _ us hl => match us, hl with | [_, _], _ => rfl) fun f fd F => ok_value F T U_law_draw U_law_number U_law_text U_law_name
  have U_law_row := mk_use (P := l.prog) (w := w) (mg := mg) (base := base) f8 X G (fun _ _ _ _ _ _ us hl => match us, hl with | [_], _ => rfl) fun f fd F => ok_row F T U_law_draw
  have U_law_count := mk_use (P := l.prog) (w := w) (mg := mg) (base := base) f9 X G (fun _ _ _ _ _ _ us hl => match us, hl with | [_], _ => rfl) fun f fd F => ok_lcount F T 
  have U_law_integer := mk_use (P := l.prog) (w := w) (mg := mg) (base := base) f10 X G (fun _ _ _ _ _ _ us hl => match us, hl with | [_], _ => rfl) fun f fd F => ok_linteger F T U_law_count
  have U_law_string := mk_use (P := l.prog) (w := w) (mg := mg) (base := base) f11 X G (fun _ _ _ _ _ _ us hl => match us, hl with | [_], _ => rfl) fun f fd F => ok_lstring F T U_law_signs U_law_count
  have U_law_value_numbers := mk_use (P := l.prog) (w := w) (mg := mg) (base := base) f12 X G (fun _ _ _ _ _ _ us hl => match us, hl with | [_], _ => rfl) fun f fd F => ok_lvnum F T U_law_integer U_law_string U_law_count
  have U_law_is_integer := mk_use (P := l.prog) (w := w) (mg := mg) (base := base) f13 X G (fun _ _ _ _ _ _ us hl => match us, hl with | [_], _ => rfl) fun f fd F => ok_isint F T 
  have U_law_list_is := mk_use (P := l.prog) (w := w) (mg := mg) (base := base) f14 X G (fun _ _ _ _ _ _ us hl => match us, hl with | [_, _], _ => rfl) fun f fd F => ok_listis F T U_law_is_integer
  have U_write_count := mk_use (P := l.prog) (w := w) (mg := mg) (base := base) f15 X G (fun _ _ _ _ _ _ us hl => match us, hl with | [_], _ => rfl) fun f fd F => ok_wcount F T 
  have U_write_string := mk_use (P := l.prog) (w := w) (mg := mg) (base := base) f16 X G (fun _ _ _ _ _ _ us hl => match us, hl with | [_], _ => rfl) fun f fd F => ok_wstr F T U_write_count
  have U_write_integer := mk_use (P := l.prog) (w := w) (mg := mg) (base := base) f17 X G (fun _ _ _ _ _ _ us hl => match us, hl with | [_], _ => rfl) fun f fd F => ok_wint F T U_write_count
  have U_write_value := mk_use (P := l.prog) (w := w) (mg := mg) (base := base) f18 X G (fun _ _ _ _ _ _ us hl => match us, hl with | [_], _ => rfl) fun f fd F => ok_wvalue F T U_VALUE_NUMBERS U_write_string U_write_count U_write_integer
  have U_law_same_leaf := mk_use (P := l.prog) (w := w) (mg := mg) (base := base) f19 X G (fun _ _ _ _ _ _ us hl => match us, hl with | [_, _], _ => rfl) fun f fd F => ok_leaf F T U_law_is_integer
  have U_law_same := mk_use (P := l.prog) (w := w) (mg := mg) (base := base) f20 X G (fun _ _ _ _ _ _ us hl => match us, hl with | [_, _], _ => rfl) fun f fd F => ok_sameor F T U_law_same_leaf U_law_is_integer
  have U_law_pair_is := mk_use (P := l.prog) (w := w) (mg := mg) (base := base) f21 X G (fun _ _ _ _ _ _ us hl => match us, hl with | [_, _, _], _ => rfl) fun f fd F => ok_pairis F T U_law_same U_law_is_integer
  have U_NumberReader___init__ := mk_useK (P := l.prog) (w := w) (mg := mg) (base := base) k_NumberReader f22 X G (fun _ _ _ _ _ _ us hl => match us, hl with | [_, _, _], _ => rfl) fun f fd F => ok_rinit F T UC_NumberReader
  have U_NumberReader_read_number := mk_useM (P := l.prog) (w := w) (mg := mg) (base := base) f23 (fun _ _ _ _ _ _ us hl => match us, hl with | [_, _], _ => rfl) fun f fd F => ok_rnum F T UC_NumberReader
  have U_NumberReader_read_count := mk_useM (P := l.prog) (w := w) (mg := mg) (base := base) f24 (fun _ _ _ _ _ _ us hl => match us, hl with | [_], _ => rfl) fun f fd F => ok_rcnt F T UC_NumberReader U_NumberReader_read_number
  have U_NumberReader_read_integer := mk_useM (P := l.prog) (w := w) (mg := mg) (base := base) f25 (fun _ _ _ _ _ _ us hl => match us, hl with | [_], _ => rfl) fun f fd F => ok_rint F T UC_NumberReader U_NumberReader_read_count
  have U_NumberReader_read_count_below := mk_useM (P := l.prog) (w := w) (mg := mg) (base := base) f26 (fun _ _ _ _ _ _ us hl => match us, hl with | [_, _], _ => rfl) fun f fd F => ok_rbelow F T UC_NumberReader U_NumberReader_read_count
  have U_NumberReader_read_string := mk_useM (P := l.prog) (w := w) (mg := mg) (base := base) f27 (fun _ _ _ _ _ _ us hl => match us, hl with | [_, _], _ => rfl) fun f fd F => ok_rstr F T UC_NumberReader U_NumberReader_read_count_below U_NumberReader_read_number
  have U_NumberReader_read_reference := mk_useM (P := l.prog) (w := w) (mg := mg) (base := base) f28 (fun _ _ _ _ _ _ us hl => match us, hl with | [_, _], _ => rfl) fun f fd F => ok_rref F T UC_NumberReader U_NumberReader_read_count
  have U_NumberReader_read_value := mk_useM (P := l.prog) (w := w) (mg := mg) (base := base) f29 (fun _ _ _ _ _ _ us hl => match us, hl with | [_], _ => rfl) fun f fd F => ok_rval F T UC_NumberReader U_NumberReader_read_number U_NumberReader_read_integer U_NumberReader_read_string U_NumberReader_read_reference
  have U_read_value := mk_use (P := l.prog) (w := w) (mg := mg) (base := base) f30 X G (fun _ _ _ _ _ _ us hl => match us, hl with | [_, _], _ => rfl) fun f fd F => ok_fval F T UC_NumberReader U_NumberReader___init__ U_NumberReader_read_value
  have U_read_integer := mk_use (P := l.prog) (w := w) (mg := mg) (base := base) f31 X G (fun _ _ _ _ _ _ us hl => match us, hl with | [_, _], _ => rfl) fun f fd F => ok_fint F T UC_NumberReader U_NumberReader___init__ U_NumberReader_read_integer
  have U_read_string := mk_useN (P := l.prog) (w := w) (mg := mg) (base := base) (n := 2) (ks := ["most"]) f32 X G (fun _ _ _ _ _ _ us ws h1 h2 => match us, ws, h1, h2 with | [_, _], [_], _, _ => rfl) fun f fd F => ok_fstr F T UC_NumberReader U_NumberReader___init__ U_NumberReader_read_string
  exact ok_law F T U_law_digits U_law_draw U_law_value U_law_text U_law_row U_law_value_numbers U_law_list_is U_write_value U_law_pair_is U_read_value U_law_number U_law_integer U_write_integer U_read_integer U_law_string U_write_string U_read_string
end K72
open PySem PySem.W PyProof.Rows
set_option maxRecDepth 100000 in
set_option maxHeartbeats 0 in
theorem PySem.Challenge.cw_pyhold_k72_values_holds : PySem.Challenge.rw_pyhold_k72_values.Holds := by
  w_on; o_law; k_head; (case hw => w_witness2)
  k_fill
  refine LK.walkG (l := PySem.Challenge.rw_pyhold_k72_values) (n := 63) (k := 7) (x := "script") (CX := L2.CX0) (sp := K72.spLaw) rfl (by decide) rfl ⟨rfl, by decide, by decide⟩ (fun w h Y => PySem.W.kIn_of Y) ?F (fun K H a ns hl _ hS => ⟨a, ns, rfl, hS, hl, fun _ => rfl⟩) (fun _ _ _ _ z => z)
  case F =>
    intro w mg fa h KX G hmg
    refine' K72.walk_mk KX G hmg ?k_NumberReader ?f0 ?f1 ?f2 ?f3 ?f4 ?f5 ?f6 ?f7 ?f8 ?f9 ?f10 ?f11 ?f12 ?f13 ?f14 ?f15 ?f16 ?f17 ?f18 ?f19 ?f20 ?f21 ?f22 ?f23 ?f24 ?f25 ?f26 ?f27 ?f28 ?f29 ?f30 ?f31 ?f32 ?f33 ?c0 ?c1 ?c2 ?c3 ?c4 ?c5 ?c6 ?c7 ?c8 ?b_len ?b_int ?b_range ?b_list ?b_tuple ?b_isinstance ?b_bool ?b_str ?b_abs ?d_VALUE_NUMBERS
    case k_NumberReader => refine' LK.ClsK.mk' ?a ?b ?c ?d ?e ?f ?g ?h; (case a => k_is); (case b => k_is); (case c => k_is); (case d => k_is); (case e => k_is); (case f => k_is); (case g => k_is); (case h => repeat (first | exact .nil | refine LK.NoAll.cons (by k_is) ?_))
    case f0 => refine' LK.HasFn.mk' ?a ?b ?c ?d; (case a => k_is); (case b => k_is); (case c => k_is); (case d => k_is)
    case f1 => refine' LK.HasFn.mk' ?a ?b ?c ?d; (case a => k_is); (case b => k_is); (case c => k_is); (case d => k_is)
    case f2 => refine' LK.HasFn.mk' ?a ?b ?c ?d; (case a => k_is); (case b => k_is); (case c => k_is); (case d => k_is)
    case f3 => refine' LK.HasFn.mk' ?a ?b ?c ?d; (case a => k_is); (case b => k_is); (case c => k_is); (case d => k_is)
    case f4 => refine' LK.HasFn.mk' ?a ?b ?c ?d; (case a => k_is); (case b => k_is); (case c => k_is); (case d => k_is)
    case f5 => refine' LK.HasFn.mk' ?a ?b ?c ?d; (case a => k_is); (case b => k_is); (case c => k_is); (case d => k_is)
    case f6 => refine' LK.HasFn.mk' ?a ?b ?c ?d; (case a => k_is); (case b => k_is); (case c => k_is); (case d => k_is)
    case f7 => refine' LK.HasFn.mk' ?a ?b ?c ?d; (case a => k_is); (case b => k_is); (case c => k_is); (case d => k_is)
    case f8 => refine' LK.HasFn.mk' ?a ?b ?c ?d; (case a => k_is); (case b => k_is); (case c => k_is); (case d => k_is)
    case f9 => refine' LK.HasFn.mk' ?a ?b ?c ?d; (case a => k_is); (case b => k_is); (case c => k_is); (case d => k_is)
    case f10 => refine' LK.HasFn.mk' ?a ?b ?c ?d; (case a => k_is); (case b => k_is); (case c => k_is); (case d => k_is)
    case f11 => refine' LK.HasFn.mk' ?a ?b ?c ?d; (case a => k_is); (case b => k_is); (case c => k_is); (case d => k_is)
    case f12 => refine' LK.HasFn.mk' ?a ?b ?c ?d; (case a => k_is); (case b => k_is); (case c => k_is); (case d => k_is)
    case f13 => refine' LK.HasFn.mk' ?a ?b ?c ?d; (case a => k_is); (case b => k_is); (case c => k_is); (case d => k_is)
    case f14 => refine' LK.HasFn.mk' ?a ?b ?c ?d; (case a => k_is); (case b => k_is); (case c => k_is); (case d => k_is)
    case f15 => refine' LK.HasFn.mk' ?a ?b ?c ?d; (case a => k_is); (case b => k_is); (case c => k_is); (case d => k_is)
    case f16 => refine' LK.HasFn.mk' ?a ?b ?c ?d; (case a => k_is); (case b => k_is); (case c => k_is); (case d => k_is)
    case f17 => refine' LK.HasFn.mk' ?a ?b ?c ?d; (case a => k_is); (case b => k_is); (case c => k_is); (case d => k_is)
    case f18 => refine' LK.HasFn.mk' ?a ?b ?c ?d; (case a => k_is); (case b => k_is); (case c => k_is); (case d => k_is)
    case f19 => refine' LK.HasFn.mk' ?a ?b ?c ?d; (case a => k_is); (case b => k_is); (case c => k_is); (case d => k_is)
    case f20 => refine' LK.HasFn.mk' ?a ?b ?c ?d; (case a => k_is); (case b => k_is); (case c => k_is); (case d => k_is)
    case f21 => refine' LK.HasFn.mk' ?a ?b ?c ?d; (case a => k_is); (case b => k_is); (case c => k_is); (case d => k_is)
    case f22 => refine' LK.HasMeth.mk' ?a ?b ?c ?d ?e; (case a => k_is); (case b => k_is); (case c => k_is); (case d => k_is); (case e => k_is)
    case f23 => refine' LK.HasMeth.mk' ?a ?b ?c ?d ?e; (case a => k_is); (case b => k_is); (case c => k_is); (case d => k_is); (case e => k_is)
    case f24 => refine' LK.HasMeth.mk' ?a ?b ?c ?d ?e; (case a => k_is); (case b => k_is); (case c => k_is); (case d => k_is); (case e => k_is)
    case f25 => refine' LK.HasMeth.mk' ?a ?b ?c ?d ?e; (case a => k_is); (case b => k_is); (case c => k_is); (case d => k_is); (case e => k_is)
    case f26 => refine' LK.HasMeth.mk' ?a ?b ?c ?d ?e; (case a => k_is); (case b => k_is); (case c => k_is); (case d => k_is); (case e => k_is)
    case f27 => refine' LK.HasMeth.mk' ?a ?b ?c ?d ?e; (case a => k_is); (case b => k_is); (case c => k_is); (case d => k_is); (case e => k_is)
    case f28 => refine' LK.HasMeth.mk' ?a ?b ?c ?d ?e; (case a => k_is); (case b => k_is); (case c => k_is); (case d => k_is); (case e => k_is)
    case f29 => refine' LK.HasMeth.mk' ?a ?b ?c ?d ?e; (case a => k_is); (case b => k_is); (case c => k_is); (case d => k_is); (case e => k_is)
    case f30 => refine' LK.HasFn.mk' ?a ?b ?c ?d; (case a => k_is); (case b => k_is); (case c => k_is); (case d => k_is)
    case f31 => refine' LK.HasFn.mk' ?a ?b ?c ?d; (case a => k_is); (case b => k_is); (case c => k_is); (case d => k_is)
    case f32 => refine' LK.HasFn.mk' ?a ?b ?c ?d; (case a => k_is); (case b => k_is); (case c => k_is); (case d => k_is)
    case f33 => refine' LK.HasFn.mk' ?a ?b ?c ?d; (case a => k_is); (case b => k_is); (case c => k_is); (case d => k_is)
    case c0 => refine' LK.HasInt.mk' ?a ?b; (case a => k_is); (case b => decide +kernel)
    case c1 => refine' LK.HasInt.mk' ?a ?b; (case a => k_is); (case b => decide +kernel)
    case c2 => refine' LK.HasInt.mk' ?a ?b; (case a => k_is); (case b => decide +kernel)
    case c3 => refine' LK.HasInt.mk' ?a ?b; (case a => k_is); (case b => decide +kernel)
    case c4 => refine' LK.HasInt.mk' ?a ?b; (case a => k_is); (case b => decide +kernel)
    case c5 => refine' LK.HasInt.mk' ?a ?b; (case a => k_is); (case b => decide +kernel)
    case c6 => refine' LK.HasInt.mk' ?a ?b; (case a => k_is); (case b => decide +kernel)
    case c7 => refine' LK.HasTup.mk' ?a ?b ?c ?d; (case a => k_is); (case b => k_is); (case c => decide); (case d => repeat (first | exact .nil | refine .cons ⟨_, rfl⟩ ?_))
    case c8 => refine' LK.HasStr.mk' ?a ?b; (case a => k_is); (case b => decide +kernel)
    case b_len => k_is
    case b_int => k_is
    case b_range => k_is
    case b_list => k_is
    case b_tuple => k_is
    case b_isinstance => k_is
    case b_bool => k_is
    case b_str => k_is
    case b_abs => k_is
    case d_VALUE_NUMBERS => refine' LK.HasDct.mkV ?a ?b ?c ?d ?e; (case a => k_is); (case b => k_is); (case c => rfl); (case d => repeat (first | exact .nil | refine .cons rfl rfl ⟨_, rfl⟩ ?_)); (case e => decide +kernel)


