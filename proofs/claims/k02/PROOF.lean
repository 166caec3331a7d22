import PyProof.Rows.All
import Wide.All
import OpenK.AllK
import Wide.FinOn
import PyProof.EqAt
import PyProof.EqKinds
import PyProof.TupleCall
import HandS.ForMost
import HandS.ForExc
import HandS.Wide
import HandS.WideBits
import HandS.EndBits
import HandS.IsInst
import HandS.Deep
import HandS.Conv
import HandS.TupAny
import HandS.Text
import HandS.Zip
import PyProof.ReprLen
import HandS.Codes
import PySem.Challenge.RW_heldtones_k02_ratios_multiplied
set_option Elab.async false
set_option linter.all false
set_option maxRecDepth 100000
namespace Kx
open PySem PySem.Spec PyProof.Rows L2
/-! ### ** of great ints -/
def CPowW (i j : Int) : Prop := 0 ≤ j ∧ (Builtin.Int.intBits i : Int) * j ≤ 2 ^ 27
theorem op_powW {X : Cx} : OpR X (binaryOp .Pow) (rI CPowW fun i j => .int (i ^ j.toNat)) :=
  opI fun i j t u s Q E hc q => PyProof.Rows.pow_int hc.1 hc.2 q
/-! ### repr of data -/
def ReprOk (d : PyData) : Prop := d.showable = true ∧ d.hasDict = false ∧ d.depth ≤ 60 ∧ d.shown.length ≤ sizeLine
def rRepr (K : PySem.W.Frag) : List V → Hp → VK → Prop := fun xs H Q => ∃ v d, xs = [v] ∧ Dp K H v d ∧ ReprOk d ∧ Q (.str d.shown) H
theorem dp_repr {X : Cx} {pins : List (Addr × Obj)} {σ : L2.St} {H : Hp} {s : Shared} {d : PyData} {v : V} {u : Value} {Q : VK}
    (gu : X.A.guards = some []) (hu : X.A.units + 64 < cLine) (I : Inv X pins σ H s) (hd : Dp X.K H v d) (r : RelV v u) (ok : ReprOk d) (q : Q (.str d.shown) H) :
    wpAny (model X.prog X.w) X.A (call (.builtin "repr") [u]) (EP X pins σ Q) X.xe s := by
  obtain ⟨h1, h2, h3, h4⟩ := ok
  have viaRef : ∀ a : Addr, v = .ref a → wpAny (model X.prog X.w) X.A (call (.builtin "repr") [u]) (EP X pins σ Q) X.xe s := by
    intro a ea
    subst ea
    obtain ⟨as, rd⟩ := Dp.reads I d _ u hd r
    obtain rfl : u = Value.ref a := r
    exact repr_of_reads' rd h1 (PyData.noDict_hsm h2) gu (by omega) (fun _ _ e => e) (fun h' u tk hk => ⟨.str d.shown, H, I.kept hk, ⟨u, rfl⟩, q⟩) h4
  cases hd with
  | non => cases r; exact PySem.P.repr_of_none ⟨.str _, H, I.tok _, ⟨_, rfl⟩, q⟩
  | bl b =>
    cases r
    refine PySem.P.repr_of_bool ⟨.str _, H, I.tok _, ⟨_, rfl⟩, ?_⟩
    cases b <;> exact q
  | int i =>
    obtain ⟨t, rfl⟩ := r
    exact PySem.P.repr_of_int (by simpa [PyData.showable] using h1) ⟨.str _, H, I.tok _, ⟨_, rfl⟩, q⟩
  | str x =>
    obtain ⟨t, rfl⟩ := r
    exact PySem.P.repr_of_str ⟨.str _, H, I.tok _, ⟨_, rfl⟩, q⟩ h4
  | lst hs ha => exact viaRef _ rfl
  | tup hs ha => exact viaRef _ rfl
theorem call_repr {X : Cx} (gu : X.A.guards = some []) (hu : X.A.units + 64 < cLine) : CallR X (.builtin "repr") (rRepr X.K) := by
  intro pins s σ H xs us Q I r h
  obtain ⟨v, d, rfl, hd, ok, q⟩ := h
  cases r with
  | cons r1 r2 =>
    cases r2
    exact dp_repr gu hu I hd r1 ok q
end Kx
namespace Kx
open PySem PySem.Spec PyProof.Rows L2
/-! ### defs that are called where no repr is under way -/
structure FnG (P : Program) (w : World) (K : PySem.W.Frag) (mg : Str → Option Value) (base : Heap) (CX : CXT) (k : Nat) (f : Addr) (fd : FuncData) (ps : List Str) (sp : Sp) : Prop where
  many : ∀ vs H Q E, sp vs H Q E → vs.length = ps.length
  go : ∀ (A : Around) (outer : List Env) (s : Shared) (H : Hp) (args : Args) (us : List Value) (vs : List V) (Q : VK) (E : XK),
    A.guards = some [] → Room k A → Env0 P w K mg base A outer s H → BindsTo s fd args (ps.zip us) → Vals vs us → sp vs H Q E →
    codeAny (model P w) A (.call (.ref f) args) (CR CX outer P w H s Q E) s
section
variable {P : Program} {w : World} {K : PySem.W.Frag} {mg : Str → Option Value} {base : Heap} {CX : CXT}
theorem FnG.of {k : Nat} {f : Addr} {fd : FuncData} {ps : List Str} {sp : Sp} (F : FnOk P w K mg base CX k f fd ps sp) : FnG P w K mg base CX k f fd ps sp :=
  ⟨F.len, fun A outer s H args us vs Q E _ => F.run A outer s H args us vs Q E⟩
theorem fnG_body {k : Nat} {f : Addr} {nm q : Str} {pr : Arguments} {b : List Stmt} {sc : Scope} {dV kV doc pm cdv ct oc : Value} {an od : Option Addr}
    {osl : Array (Option Value)} {N ps : List Str} {sp : Sp} (lk : K.lookup f = some ⟨oc, od, .func (PySem.W.fnOf nm q pr b sc dV kV doc pm an cdv ct), osl⟩)
    (hcd : PySem.W.codeIn K cdv q = true) (S : FnScope N ps sc) (hlen : ∀ vs H Q E, sp vs H Q E → vs.length = ps.length)
    (hb : ∀ (A : Around) (outer : List Env) (s : Shared) (H : Hp) (vs : List V) (Q : VK) (E : XK), A.guards = some [] → Room k (A.deeper (envOfC q sc s.heap.objs.size f cdv)) → sp vs H Q E →
      ∃ t, PSs (cxOf CX P w K mg base N q sc f cdv A outer s H E) b t ∧ t { nx := fun _ H' => Q .non H', rt := Q } (start N vs) H) :
    FnG P w K mg base CX (k + 1) f (PySem.W.fnOf nm q pr b sc dV kV doc pm an cdv ct) ps sp := by
  refine ⟨hlen, fun A outer s H args us vs Q E gu hr e0 bd rv hs => ?_⟩
  have sub : ∀ b o, base.get? b = some o → s.heap.get? b = some o := fun b o e => (e0.bs b o e).1
  have inK : K.In s.heap := e0.mod.kin.keeps sub
  have two : ∀ y ∈ ps.zip us, sc.names.lookup y.1 = some .local ∨ (sc.names.lookup y.1 = some .cell ∧ ((cellsFrom (s.heap.objs.size + 1) sc.names []).lookup y.1).isSome = true) := by
    rintro ⟨n, v⟩ hy
    exact (S.par n (List.of_mem_zip hy).1).imp id fun z => ⟨z, PySem.W.cellsFrom_some _ _ _ (.inl z)⟩
  refine codeAny_call_function hr.depth (inK _ _ lk) rfl S.co S.gen rfl (PySem.W.codeRec_of inK hcd) (bd _ _ _ _ ?_)
  refine wpAny_newFunctionEnv_cells S.kind two fun env he s1 x => ?_
  subst he
  refine ⟨(e0.mod.nolimit.keeps sub).keeps x.toInCall.keep, codeAny_func ?_⟩
  obtain ⟨t, ht, hq⟩ := hb A outer s H vs Q E gu (hr.deeper _) hs
  have J : Inv (cxOf CX P w K mg base N q sc f cdv A outer s H E) [] (start N vs) H s1 := inv_start S hr.hd e0 (hlen _ _ _ _ hs) rv x
  refine wpAny_mono (ht.run [] s1 (start N vs) H _ J hq) ?_ fun _ _ z => z
  intro fl s' z
  cases fl with
  | ret u =>
    obtain ⟨v, _, H', J', rv', z'⟩ := z
    exact ⟨v, H', J'.os, J'.bare, J'.base, J'.hok, rv', z'⟩
  | next =>
    obtain ⟨_, H', J', z'⟩ := z
    exact ⟨V.non, H', J'.os, J'.bare, J'.base, J'.hok, rfl, z'⟩
  | brk => obtain ⟨_, _, _, z'⟩ := z; exact z'.elim
  | cont => obtain ⟨_, _, _, z'⟩ := z; exact z'.elim
theorem okG {x qual : Str} {st : Stmt} {f : Addr} {fd : FuncData} {N ps : List Str} {k : Nat} {sp : Sp} (F : Fun K x qual st f fd) (S : FnScope N ps (defScope st)) (hlen : ∀ vs H Q E, sp vs H Q E → vs.length = ps.length)
    (hb : ∀ (cdv : Value) (A : Around) (outer : List Env) (s : Shared) (H : Hp) (vs : List V) (Q : VK) (E : XK), A.guards = some [] → Room k (A.deeper (envOfC qual (defScope st) s.heap.objs.size f cdv)) → sp vs H Q E →
      ∃ t, PSs (cxOf CX0 P w K mg base N qual (defScope st) f cdv A outer s H E).nox (defBody st) t ∧ t { nx := fun _ H' => Q .non H', rt := Q } (start N vs) H) : FnG P w K mg base CX0 (k + 1) f fd ps sp := by
  obtain ⟨oc, od, kV, doc, pm, an, cdv, ct, osl, rfl, lk, hcd⟩ := F.ex
  refine fnG_body lk hcd S hlen fun A outer s H vs Q E gu hr hsp => ?_
  obtain ⟨t, h, q⟩ := hb cdv A outer s H vs Q E gu hr hsp
  exact ⟨t, h.nox, q⟩
end
section
variable {X : Cx} {CX : CXT} {k : Nat} {f : Addr} {fd : FuncData} {ps : List Str} {sp : Sp} {dvs : List V} {ds : List Value} {E : XK} {x : Str} {p pos : Pos} {e : Expr} {es : List Expr} {t : TA}
theorem runG {pins : List (Addr × Obj)} {σ : L2.St} {H : Hp} {s : Shared} {Q : VK} {us : List Value} {vs : List V} (F : FnG X.prog X.w X.K X.mg X.base CX k f fd ps sp) (gu : X.A.guards = some []) (hr : Room k X.A)
    (hb : Binds X.K fd ps ds) (hd : Vals dvs ds) (hx : Passes CX X E) (I : Inv X pins σ H s) (r : Vals vs us) (h : sp (vs ++ dvs) H Q E) :
    wpAny (model X.prog X.w) X.A (call (.ref f) us) (EP X pins σ Q) X.xe s := by
  have both := r.append hd
  have n : (us ++ ds).length = ps.length := both.length.symm.trans (F.many _ _ _ _ h)
  have c := F.go X.A X.stack s H ⟨us, []⟩ (us ++ ds) (vs ++ dvs) Q E gu hr I.env0 (hb s us I.kIn n) both h
  refine wpAny_call (codeAny_mono c fun res s' z => ?_)
  match res, z with
  | .error e, z => exact hx pins σ H s e s' I z
  | .ok (.ret u), z => exact I.after z
/-- f(e, ..) where no repr is under way -/
theorem pe_callG (F : FnG X.prog X.w X.K X.mg X.base CX k f fd ps sp) (gu : X.A.guards = some []) (hr : Room k X.A) (hg : Gl X x) (hm : X.mg x = some (.ref f)) (kp : PySem.W.keepIn X.K (.ref f) = true) (hb : Binds X.K fd ps ds)
    (hd : Vals dvs ds) (hx : Passes CX X E) (ha : PA X (e :: es) t) (nd : (x == ("__debug__" : Str)) = false := by decide)
    (st : starEach (e :: es) X.env = (false, eval e X.env) :: starEach es X.env := by rfl) (pl : (backTo pos (starEach es X.env)).any (·.1) = false := by rfl) :
    PE X (.Call (.Name x p) (e :: es) [] pos) (tCall sp dvs E t) :=
  ⟨fun pins s σ H Q I h => wpAny_Call_Name_kw (ld_glob I hg hm (PySem.W.callWith_K (h₀ := X.base) I.ok.mod.kin kp
    (thn (ha.run pos pins s σ H _ I h) fun _ _ ⟨_, _, I1, r, q⟩ => ⟨I1.kIn, runG F gu hr hb hd hx I1 r q⟩) st pl) nd)⟩
end
end Kx
namespace Kx
open PySem PySem.Spec PyProof.Rows L2
/-! ### the law's own call -/
/-- what is tracked at the law's entry: at most the script at a -/
structure First (H : Hp) (a : Addr) (ob : Obj) (xs : List V) : Prop where
  all : ∀ b, H b = none ∨ (b = a ∧ H b = some (.frz ob (.lst xs)))
theorem First.only {H : Hp} {a : Addr} {ob : Obj} {xs : List V} (h : First H a ob xs) : Only H := fun b => (h.all b).imp id fun z => ⟨ob, xs, z.2⟩
section
variable {P : Program} {w : World} {K : PySem.W.Frag} {mg mb : Str → Option Value} {k : Nat} {fa a : Addr} {fd : FuncData} {x : Str} {sp : Sp} {s₁ : Shared} {vs : List Value} {ns : List Int}
theorem law_first (KX : K.In s₁.heap) (hns : s₁.heap.Ns mainGlobals mg) (hb : s₁.heap.Ns builtinsNs mb) (hbb : ∀ x : Str, x ≠ "__name__" → mb x = bootBuiltins x) (hlim : s₁.heap.NoLimit) (hg : s₁.gens = #[])
    (hr : Room k callerA) (F : ∀ base : Heap, K.In base → base.Ns mainGlobals mg → FnG P w K mg base CX0 k fa fd [x] sp) (hbind : ∀ (s : Shared) (u : Value), K.In s.heap → BindsTo s fd ⟨[u], []⟩ [(x, u)])
    {H : Hp} {ob : Obj} (fi : First H a ob (ns.map V.int)) (hob : ∀ o, H a = some o → s₁.heap.get? a = some ob ∧ K.lookup a = none ∧ ∃ its n, ob.data = .seq its n) (hok : HOk P w H s₁.heap)
    (h : sp [.ref a] H (fun v _ => v = .bl true) E0) :
    codeAny (model P w) callerA (.call (.ref fa) ⟨[.ref a], []⟩) (fun r s' => r = .ok (.ret (.bool true)) ∧ OldK s₁.heap s'.heap ∧ s'.os = s₁.os ∧ AllBare s'.gens) s₁ := by
  have free : ∀ {b : Addr}, b ≠ a → H b = none := fun {b} hne => (fi.all b).elim id fun z => absurd z.1 hne
  have freeK : ∀ b o, K.lookup b = some o → H b = none := fun b o e => by
    rcases fi.all b with z | ⟨rfl, z⟩
    · exact z
    · rw [(hob _ z).2.1] at e; cases e
  have freeD : ∀ {b : Addr} {o : Obj} {es : Array DictEntry} {n : Nat}, s₁.heap.get? b = some o → o.data = .dict es n → H b = none := fun {b o es n} e d => by
    rcases fi.all b with z | ⟨rfl, z⟩
    · exact z
    · obtain ⟨e2, _, its, m, d2⟩ := hob _ z
      rw [e] at e2
      obtain rfl := Option.some.inj e2
      rw [d] at d2; cases d2
  have nsOf : ∀ {b : Addr} {m : Str → Option Value}, s₁.heap.Ns b m → (hidT s₁.heap H).Ns b m := fun {b m} ⟨o, es, n, e, d, r⟩ => ⟨o, es, n, hidT_get e (freeD e d), d, r⟩
  have kin : K.In (hidT s₁.heap H) := fun b o e => hidT_get (KX b o e) (freeK b o e)
  obtain ⟨ml, l1, l2⟩ := hlim
  have mod : Mod K mg (hidT s₁.heap H) := ⟨kin, nsOf hns, ⟨mb, nsOf hb, hbb⟩, ⟨ml, nsOf l1, l2⟩⟩
  have e0 : Env0 P w K mg (hidT s₁.heap H) callerA [] s₁ H := ⟨rfl, mod, fun b o e => of_hidT e, Nat.le_of_eq (hidT_size _ _), trivial, fun b z => absurd (show b ∈ ([] : List Addr) from z) (by simp), hok, .of_eq hg⟩
  have c := (F _ kin (nsOf hns)).go callerA [] s₁ H ⟨[.ref a], []⟩ [.ref a] [.ref a] _ _ rfl hr e0 (hbind s₁ (.ref a) KX) (.cons rfl .nil) h
  refine codeAny_mono c fun res s' z => ?_
  match res, z with
  | .error e, z => exact False.elim z
  | .ok (.ret u), z =>
    obtain ⟨v, H', os, bare, un, hok', rv, q⟩ := z
    obtain rfl : v = .bl true := q
    obtain rfl : u = Value.bool true := rv
    refine ⟨rfl, OldK.of_keep fun b o e => ?_, os, bare⟩
    rcases fi.all b with y | ⟨rfl, y⟩
    · exact un.keep b o e y (fun z => absurd (show b ∈ ([] : List Addr) from z) (by simp)) (by simp)
    · obtain ⟨g1, _⟩ := hok b _ y
      obtain ⟨g2, _⟩ := hok' b _ (un.frzs b _ _ y)
      rw [e] at g1
      obtain rfl := Option.some.inj g1
      exact g2
end
theorem walkG {l : PySem.W.OpenLaw} {n k : Nat} {q : Program} {loose : List Str} {XP : (Str → Option Value) → Heap → Prop} {YP : World → Heap → Prop} {d : DefRec} {K : Params → PySem.W.Frag} {sp : World → Sp} {x : Str}
    (hn : l.most = some n) (hn2 : n ≤ sizeLine) (hdf : d.params.defaults = []) (hr : Room k callerA) (hY : ∀ (w : World) (h : Heap), YP w h → (K w.params).In h)
    (F : ∀ (w : World) (mg : Str → Option Value) (fa : Addr) (h : Heap), (K w.params).In h → h.Ns mainGlobals mg → mg d.name = some (.ref fa) →
      ∃ fd : FuncData, (∀ (s : Shared) (u : Value), (K w.params).In s.heap → BindsTo s fd ⟨[u], []⟩ [(x, u)]) ∧ ∀ base : Heap, (K w.params).In base → base.Ns mainGlobals mg → FnG l.prog w (K w.params) mg base CX0 k fa fd [x] (sp w))
    (hsp : ∀ (w : World) (H : Hp) (a : Addr) (ns : List Int), ns.length ≤ n → (∀ z ∈ ns, Builtin.Int.intBits z ≤ 1048576) → SqL (K w.params) H a (ns.map V.int) → sp w [.ref a] H (fun v _ => v = .bl true) E0) :
    PySem.W.WalkO q loose XP YP l.row.toRowW d [] (fun f vs => PySem.call f vs) := by
  refine Att.attach_callB hn hdf fun w s₀ s₁ mg mb fa o pm cd doc a vs ns G Y ho hd hcd hmg hobj hints hlen hbits hg => ?_
  have KX := hY w _ Y
  obtain ⟨fd, hb, hF⟩ := F w mg fa _ KX G.T.g hmg
  have rv := vals_ints hints
  have nv := hints.length
  cases hk : (K w.params).lookup a with
  | some o' =>
    have e := KX a o' hk
    rw [hobj] at e
    obtain rfl := Option.some.inj e
    have sq : SqL (K w.params) (fun _ => none) a (ns.map V.int) := .inr ⟨_, vs.toArray, _, hk, rfl, rfl, rfl, by rw [List.size_toArray, nv]; omega, by simpa using rv⟩
    exact law_first (ns := ns) (ob := o) KX G.T.g G.T.b G.T.builtins G.T.nolimit hg hr hF hb ⟨fun b => .inl rfl⟩ (fun o z => nomatch z) (fun b o z => nomatch z) (hsp w _ a ns hlen hbits sq)
  | none =>
    let ob : Obj := { cls := .type "list", data := .seq vs.toArray }
    let H : Hp := fun b => if b = a then some (.frz ob (.lst (ns.map V.int))) else none
    have Ha : H a = some (.frz ob (.lst (ns.map V.int))) := if_pos rfl
    have Hn : ∀ b, b ≠ a → H b = none := fun b z => if_neg z
    have fi : First H a ob (ns.map V.int) := ⟨fun b => if z : b = a then .inr ⟨z, by rw [z]; exact Ha⟩ else .inl (Hn b z)⟩
    have ok : HOk l.prog w H s₁.heap := fun b u z => by
      rcases fi.all b with y | ⟨e, y⟩
      · rw [y] at z; cases z
      · subst e
        rw [y] at z
        obtain rfl := Option.some.inj z
        exact ⟨hobj, by rw [List.length_map]; omega, vs, _, rv, hobj⟩
    exact law_first (ob := ob) KX G.T.g G.T.b G.T.builtins G.T.nolimit hg hr hF hb fi (fun o z => ⟨hobj, hk, _, _, rfl⟩) ok (hsp w H a ns hlen hbits (.inl (.inr ⟨ob, Ha⟩)))
end Kx

namespace Kx
open PySem PySem.Spec PyProof.Rows L2
/-! ### data in the heap, apart from what may still change -/
def Ex (H H' : Hp) : Prop := ∀ b o, H b = some o → H' b = some o
theorem Ex.refl (H : Hp) : Ex H H := fun _ _ z => z
theorem Ex.trans {H H1 H2 : Hp} (a : Ex H H1) (b : Ex H1 H2) : Ex H H2 := fun c o z => b c o (a c o z)
theorem Ex.new {H : Hp} {p : Addr} {o : HO} (n : H p = none) : Ex H (upd H p o) := fun b u z => (upd_ne (ne_of_none z n)).trans z
theorem ex_t {K : PySem.W.Frag} {H H' : Hp} {a : Addr} {xs : List V} (e : Ex H H') (h : SqT K H a xs) : SqT K H' a xs := by
  rcases h with (z | ⟨o, z⟩) | z
  · exact .inl (.inl (e _ _ z))
  · exact .inl (.inr ⟨o, e _ _ z⟩)
  · exact .inr z
theorem ex_l {K : PySem.W.Frag} {H H' : Hp} {a : Addr} {xs : List V} (e : Ex H H') (h : SqL K H a xs) : SqL K H' a xs := by
  rcases h with (z | ⟨o, z⟩) | z
  · exact .inl (.inl (e _ _ z))
  · exact .inl (.inr ⟨o, e _ _ z⟩)
  · exact .inr z
theorem sz_of {n : Nat} (h : n ≤ 100000) : n ≤ sizeLine := Nat.le_trans h (by decide)
def hide (H : Hp) (S : List Addr) : Hp := fun b => if b ∈ S then none else H b
theorem hide_of {H : Hp} {S : List Addr} {b : Addr} {o : HO} (h : H b = some o) (n : b ∉ S) : hide H S b = some o := by unfold hide; rw [if_neg n]; exact h
theorem of_hide {H : Hp} {S : List Addr} {b : Addr} {o : HO} (h : hide H S b = some o) : H b = some o ∧ b ∉ S := by
  unfold hide at h
  split at h
  · cases h
  · exact ⟨h, by assumption⟩
theorem hide_none {H : Hp} {S : List Addr} {b : Addr} (h : H b = none) : hide H S b = none := by unfold hide; split <;> simp [h]
/-- what stood apart from S stands apart from S' -/
def Eh (H : Hp) (S : List Addr) (H' : Hp) (S' : List Addr) : Prop := Ex (hide H S) (hide H' S')
theorem Eh.refl (H : Hp) (S : List Addr) : Eh H S H S := Ex.refl _
theorem Eh.trans {H H1 H2 : Hp} {S S1 S2 : List Addr} (a : Eh H S H1 S1) (b : Eh H1 S1 H2 S2) : Eh H S H2 S2 := Ex.trans a b
theorem eh_of {H H' : Hp} {S : List Addr} (e : Ex H H') : Eh H S H' S := fun a o h => hide_of (e a o (of_hide h).1) (of_hide h).2
/-- all but what is in M is kept -/
def Up (M : List Addr) (H H' : Hp) : Prop := ∀ b o, b ∉ M → H b = some o → H' b = some o
theorem Up.refl (M : List Addr) (H : Hp) : Up M H H := fun _ _ _ h => h
theorem Up.trans {M : List Addr} {H H1 H2 : Hp} (a : Up M H H1) (b : Up M H1 H2) : Up M H H2 := fun c o n h => b c o n (a c o n h)
theorem Up.of {M : List Addr} {H H' : Hp} (e : Ex H H') : Up M H H' := fun b o _ h => e b o h
theorem Up.mono {M M' : List Addr} {H H' : Hp} (e : Up M H H') (s : ∀ b ∈ M, b ∈ M') : Up M' H H' := fun b o n h => e b o (fun z => n (s b z)) h
theorem Up.eh {M : List Addr} {H H' : Hp} {S : List Addr} (e : Up M H H') (s : ∀ b ∈ M, b ∈ S) : Eh H S H' S := fun a o h => hide_of (e a o (fun z => (of_hide h).2 (s a z)) (of_hide h).1) (of_hide h).2
theorem Up.ex {H H' : Hp} (e : Up [] H H') : Ex H H' := fun b o h => e b o (by simp) h
/-- one more is kept apart -/
theorem eh_more {H H' : Hp} {S : List Addr} {l : Addr} (e : Ex H H') (n : H l = none) : Eh H S H' (l :: S) := fun a o h => by
  refine hide_of (e a o (of_hide h).1) fun z => ?_
  rcases List.mem_cons.mp z with z | z
  · rw [z] at h; rw [(of_hide h).1] at n; cases n
  · exact (of_hide h).2 z
theorem eh_less {H : Hp} {S : List Addr} {l : Addr} : Eh H (l :: S) H S := fun a o h => hide_of (of_hide h).1 fun z => (of_hide h).2 (List.mem_cons_of_mem _ z)
theorem eh_upd {H : Hp} {S : List Addr} {l : Addr} {o : HO} (m : l ∈ S) : Eh H S (upd H l o) S := fun a u h => by
  refine hide_of ?_ (of_hide h).2
  rw [upd_ne fun z => (of_hide h).2 (by rw [z]; exact m)]
  exact (of_hide h).1
theorem eh_new {H : Hp} {S : List Addr} {l : Addr} {o : HO} (n : H l = none) : Eh H S (upd H l o) S := eh_of (Ex.new n)
/-- what is kept apart stands -/
def Al (S : List Addr) (H : Hp) : Prop := ∀ s ∈ S, H s ≠ none
theorem Al.nil (H : Hp) : Al [] H := fun _ h => nomatch h
theorem Al.up {S : List Addr} {H H' : Hp} (a : Al S H) (e : Ex H H') : Al S H' := fun s h => by
  cases q : H s with
  | none => exact absurd q (a s h)
  | some o => rw [e s o q]; simp
theorem Al.new {S : List Addr} {H : Hp} {p : Addr} (a : Al S H) (n : H p = none) : p ∉ S := fun h => a p h n
theorem Al.cons {S : List Addr} {H : Hp} {l : Addr} {o : HO} (a : Al S H) (h : H l = some o) : Al (l :: S) H := fun s hs => by
  rcases List.mem_cons.mp hs with e | hs
  · rw [e, h]; simp
  · exact a s hs
theorem Al.upd {S : List Addr} {H : Hp} {l : Addr} {o : HO} (a : Al S H) : Al S (L2.upd H l o) := fun s h => by
  by_cases e : s = l
  · rw [e, upd_same]; simp
  · rw [upd_ne e]; exact a s h
mutual
inductive Dd (K : PySem.W.Frag) (H : Hp) : V → PyData → Prop
  | non : Dd K H .non .none
  | bl (b : Bool) : Dd K H (.bl b) (.bool b)
  | int (i : Int) : Dd K H (.int i) (.int i)
  | str (x : Str) : Dd K H (.str x) (.str x)
  | lst {a : Addr} {xs : List V} {ds : List PyData} : H a = some (.lst xs) → DdAll K H xs ds → Dd K H (.ref a) (.list ds)
  | tup {a : Addr} {xs : List V} {ds : List PyData} : SqT K H a xs → DdAll K H xs ds → Dd K H (.ref a) (.tuple ds)
inductive DdAll (K : PySem.W.Frag) (H : Hp) : List V → List PyData → Prop
  | nil : DdAll K H [] []
  | cons {v : V} {vs : List V} {d : PyData} {ds : List PyData} : Dd K H v d → DdAll K H vs ds → DdAll K H (v :: vs) (d :: ds)
end
section
variable {K : PySem.W.Frag} {H H' : Hp} {S S' : List Addr}
theorem sqt_up {G G' : Hp} {a : Addr} {xs : List V} (e : Ex G G') (h : SqT K G a xs) : SqT K G' a xs := ex_t e h
mutual
theorem Dd.upx {G G' : Hp} (e : Ex G G') : ∀ (d : PyData) (v : V), Dd K G v d → Dd K G' v d
  | .none, _, h => by cases h; exact .non
  | .bool b, _, h => by cases h; exact .bl b
  | .int i, _, h => by cases h; exact .int i
  | .str x, _, h => by cases h; exact .str x
  | .list ds, _, h => by
    cases h with
    | lst h1 h2 => exact .lst (e _ _ h1) (DdAll.upx e ds _ h2)
  | .tuple ds, _, h => by
    cases h with
    | tup h1 h2 => exact .tup (ex_t e h1) (DdAll.upx e ds _ h2)
  | .dict _, _, h => by cases h
theorem DdAll.upx {G G' : Hp} (e : Ex G G') : ∀ (ds : List PyData) (vs : List V), DdAll K G vs ds → DdAll K G' vs ds
  | [], _, h => by cases h; exact .nil
  | d :: ds, _, h => by
    cases h with
    | cons h1 h2 => exact .cons (Dd.upx e d _ h1) (DdAll.upx e ds _ h2)
end
theorem Dd.up {d : PyData} {v : V} (h : Dd K (hide H S) v d) (e : Eh H S H' S') : Dd K (hide H' S') v d := Dd.upx e d v h
theorem DdAll.up {ds : List PyData} {vs : List V} (h : DdAll K (hide H S) vs ds) (e : Eh H S H' S') : DdAll K (hide H' S') vs ds := DdAll.upx e ds vs h
theorem ex_hide : Ex (hide H S) H := fun _ _ h => (of_hide h).1
mutual
theorem Dd.dp {G : Hp} : ∀ (d : PyData) (v : V), Dd K G v d → Dp K G v d
  | .none, _, h => by cases h; exact .non
  | .bool b, _, h => by cases h; exact .bl b
  | .int i, _, h => by cases h; exact .int i
  | .str x, _, h => by cases h; exact .str x
  | .list ds, _, h => by
    cases h with
    | lst h1 h2 => exact .lst (SqL.of h1) (DdAll.dp ds _ h2)
  | .tuple ds, _, h => by
    cases h with
    | tup h1 h2 => exact .tup h1 (DdAll.dp ds _ h2)
  | .dict _, _, h => by cases h
theorem DdAll.dp {G : Hp} : ∀ (ds : List PyData) (vs : List V), DdAll K G vs ds → DpAll K G vs ds
  | [], _, h => by cases h; exact .nil
  | d :: ds, _, h => by
    cases h with
    | cons h1 h2 => exact .cons (Dd.dp d _ h1) (DdAll.dp ds _ h2)
end
theorem Dd.data {d : PyData} {v : V} (h : Dd K (hide H S) v d) : Dp K H v d := Dd.dp d v (Dd.upx ex_hide d v h)
theorem DdAll.get {G : Hp} : ∀ {vs : List V} {ds : List PyData} {i : Nat} {d : PyData}, DdAll K G vs ds → ds[i]? = some d → ∃ v, vs[i]? = some v ∧ Dd K G v d
  | _, _, _, _, .nil, e => by simp at e
  | _, _, 0, _, .cons r _, e => by simp at e; subst e; exact ⟨_, rfl, r⟩
  | _, _, i + 1, d, .cons _ t, e => by
    obtain ⟨u, h1, h2⟩ := DdAll.get (i := i) (d := d) t (by simpa using e)
    exact ⟨u, by simpa using h1, h2⟩
theorem DdAll.getv {G : Hp} : ∀ {vs : List V} {ds : List PyData} {i : Nat} {v : V}, DdAll K G vs ds → vs[i]? = some v → ∃ d, ds[i]? = some d ∧ Dd K G v d
  | _, _, _, _, .nil, e => by simp at e
  | _, _, 0, _, .cons r _, e => by simp at e; subst e; exact ⟨_, rfl, r⟩
  | _, _, i + 1, v, .cons _ t, e => by
    obtain ⟨u, h1, h2⟩ := DdAll.getv (i := i) (v := v) t (by simpa using e)
    exact ⟨u, by simpa using h1, h2⟩
theorem DdAll.len {G : Hp} : ∀ {vs : List V} {ds : List PyData}, DdAll K G vs ds → vs.length = ds.length
  | _, _, .nil => rfl
  | _, _, .cons _ t => by simp [DdAll.len t]
theorem DdAll.app {G : Hp} : ∀ {vs ws : List V} {ds es : List PyData}, DdAll K G vs ds → DdAll K G ws es → DdAll K G (vs ++ ws) (ds ++ es)
  | _, _, _, _, .nil, h => h
  | _, _, _, _, .cons r t, h => .cons r (DdAll.app t h)
theorem DdAll.one {G : Hp} {v : V} {d : PyData} (h : Dd K G v d) : DdAll K G [v] [d] := .cons h .nil
theorem DdAll.rep {G : Hp} {vs : List V} {ds : List PyData} (h : DdAll K G vs ds) : ∀ n : Nat, DdAll K G (List.replicate n vs).flatten (List.replicate n ds).flatten
  | 0 => .nil
  | n + 1 => by
    rw [List.replicate_succ, List.replicate_succ, List.flatten_cons, List.flatten_cons]
    exact h.app (DdAll.rep h n)
theorem DdAll.take {G : Hp} : ∀ (n : Nat) {vs : List V} {ds : List PyData}, DdAll K G vs ds → DdAll K G (vs.take n) (ds.take n)
  | 0, _, _, _ => .nil
  | _ + 1, _, _, .nil => .nil
  | n + 1, _, _, .cons r t => .cons r (DdAll.take n t)
theorem DdAll.drop {G : Hp} : ∀ (n : Nat) {vs : List V} {ds : List PyData}, DdAll K G vs ds → DdAll K G (vs.drop n) (ds.drop n)
  | 0, _, _, h => h
  | _ + 1, _, _, .nil => .nil
  | n + 1, _, _, .cons _ t => DdAll.drop n t
theorem dd_ref {G : Hp} {v : V} {ds : List PyData} (h : Dd K G v (.list ds)) : ∃ a xs, v = .ref a ∧ G a = some (.lst xs) ∧ DdAll K G xs ds := by cases h with | lst h1 h2 => exact ⟨_, _, rfl, h1, h2⟩
theorem dd_tup {G : Hp} {v : V} {ds : List PyData} (h : Dd K G v (.tuple ds)) : ∃ a xs, v = .ref a ∧ SqT K G a xs ∧ DdAll K G xs ds := by cases h with | tup h1 h2 => exact ⟨_, _, rfl, h1, h2⟩
theorem dd_int {G : Hp} {v : V} {i : Int} (h : Dd K G v (.int i)) : v = .int i := by cases h; rfl
theorem dd_bl {G : Hp} {v : V} {i : Bool} (h : Dd K G v (.bool i)) : v = .bl i := by cases h; rfl
theorem dd_str {G : Hp} {v : V} {i : Str} (h : Dd K G v (.str i)) : v = .str i := by cases h; rfl
theorem dd_non {G : Hp} {v : V} (h : Dd K G v .none) : v = .non := by cases h; rfl
/-- a new list, a new tuple of data -/
theorem dd_newL {p : Addr} {xs : List V} {ds : List PyData} (n : H p = none) (np : p ∉ S) (h : DdAll K (hide H S) xs ds) : Dd K (hide (upd H p (.lst xs)) S) (.ref p) (.list ds) :=
  .lst (hide_of upd_same np) (h.up (eh_new n))
theorem dd_newT {p : Addr} {xs : List V} {ds : List PyData} (n : H p = none) (np : p ∉ S) (h : DdAll K (hide H S) xs ds) : Dd K (hide (upd H p (.tup xs)) S) (.ref p) (.tuple ds) :=
  .tup (SqT.of (hide_of upd_same np)) (h.up (eh_new n))
end
/-! ### expressions that tell data and leave all as it was -/
section
variable {K : PySem.W.Frag} {S : List Addr} {σ : L2.St} {H : Hp}
def Ed (K : PySem.W.Frag) (S : List Addr) (te : TE) (σ : L2.St) (H : Hp) (d : PyData) : Prop :=
  Al S H → ∀ H1, Ex H H1 → ∀ Q : VK, (∀ v H2, Ex H1 H2 → Dd K (hide H2 S) v d → Q v H2) → te σ H1 Q
def EdA (K : PySem.W.Frag) (S : List Addr) (ta : TA) (σ : L2.St) (H : Hp) (ds : List PyData) : Prop :=
  Al S H → ∀ H1, Ex H H1 → ∀ Q : List V → Hp → Prop, (∀ vs H2, Ex H1 H2 → DdAll K (hide H2 S) vs ds → Q vs H2) → ta σ H1 Q
def EdT (S : List Addr) (tt : TT) (σ : L2.St) (H : Hp) (b : Bool) : Prop :=
  Al S H → ∀ H1, Ex H H1 → ∀ Q : Bool → Hp → Prop, (∀ H2, Ex H1 H2 → Q b H2) → tt σ H1 Q
def rLenQ (K : PySem.W.Frag) : List V → Hp → VK → Prop := fun xs H Q => ∃ p ys, xs = [.ref p] ∧ (SqL K H p ys ∨ SqT K H p ys) ∧ Q (.int ys.length) H
def rListQ (K : PySem.W.Frag) : List V → Hp → VK → Prop := fun xs H Q => ∃ p ys, xs = [.ref p] ∧ (SqL K H p ys ∨ SqT K H p ys) ∧ ∀ l, H l = none → Q (.ref l) (upd H l (.lst ys))
theorem call_lenQ {X : Cx} : CallR X (.builtin "len") (rLenQ X.K) := call_len_seq
theorem call_listQ {X : Cx} : CallR X (.type "list") (rListQ X.K) := call_list_of
variable {te ta tb : TE} {tt tu : TT} {tas tbs : TA} {d : PyData} {ds : List PyData} {i j : Int} {b c : Bool} {x y : Str}
theorem Ed.is {e : PyData} (h : Ed K S te σ H d) (q : d = e) : Ed K S te σ H e := q ▸ h
theorem EdT.is (h : EdT S tt σ H b) (q : b = c) : EdT S tt σ H c := q ▸ h
theorem ed_var {k : Nat} {v : V} (h : σ[k]? = some (some v)) (hd : Dd K (hide H S) v d) : Ed K S (tVar k) σ H d := fun _ H1 e Q q => ⟨v, h, q v H1 (Ex.refl _) (hd.up (eh_of e))⟩
theorem ed_int : Ed K S (tC (.int i)) σ H (.int i) := fun _ H1 e Q q => q _ H1 (Ex.refl _) (.int i)
theorem ed_str : Ed K S (tC (.str x)) σ H (.str x) := fun _ H1 e Q q => q _ H1 (Ex.refl _) (.str x)
theorem ed_bl : Ed K S (tC (.bl b)) σ H (.bool b) := fun _ H1 e Q q => q _ H1 (Ex.refl _) (.bl b)
theorem ed_non : Ed K S (tC .non) σ H .none := fun _ H1 e Q q => q _ H1 (Ex.refl _) .non
theorem ea_nil : EdA K S tNil σ H [] := fun _ H1 e Q q => q _ H1 (Ex.refl _) .nil
theorem ea_cons (h : Ed K S ta σ H d) (hs : EdA K S tas σ H ds) : EdA K S (tCons ta tas) σ H (d :: ds) := fun al H1 e Q q =>
  h al H1 e _ fun v H2 e2 dv => hs al H2 (e.trans e2) _ fun vs H3 e3 dvs => q _ _ (e2.trans e3) (.cons (dv.up (eh_of e3)) dvs)
theorem ed_tup (h : EdA K S tas σ H ds) (hn : ds.length ≤ 100000) : Ed K S (tTup tas) σ H (.tuple ds) := fun al H1 e Q q =>
  h al H1 e _ fun vs H2 e2 dv => ⟨sz_of (by rw [dv.len]; exact hn), fun p n => q _ _ (e2.trans (Ex.new n)) (dd_newT n ((al.up (e.trans e2)).new n) dv)⟩
theorem ed_lst (h : EdA K S tas σ H ds) (hn : ds.length ≤ 100000) : Ed K S (tLst tas) σ H (.list ds) := fun al H1 e Q q =>
  h al H1 e _ fun vs H2 e2 dv => ⟨sz_of (by rw [dv.len]; exact hn), fun p n => q _ _ (e2.trans (Ex.new n)) (dd_newL n ((al.up (e.trans e2)).new n) dv)⟩
theorem ed_op {r : R2} {d1 d2 d3 : PyData} (h1 : Ed K S ta σ H d1) (h2 : Ed K S tb σ H d2)
    (h : ∀ (v w : V) (H1 : Hp) (Q : VK), Al S H1 → Dd K (hide H1 S) v d1 → Dd K (hide H1 S) w d2 → (∀ u H2, Ex H1 H2 → Dd K (hide H2 S) u d3 → Q u H2) → r v w H1 Q) : Ed K S (tOp r ta tb) σ H d3 := fun al H1 e Q q =>
  h1 al H1 e _ fun v H2 e2 dv => h2 al H2 (e.trans e2) _ fun w H3 e3 dw => h v w H3 Q (al.up (e.trans (e2.trans e3))) (dv.up (eh_of e3)) dw fun u H4 e4 du => q u H4 (e2.trans (e3.trans e4)) du
theorem ed_I0 {g : Int → Int → V} {d3 : PyData} (h1 : Ed K S ta σ H (.int i)) (h2 : Ed K S tb σ H (.int j)) (hd : ∀ G, Dd K G (g i j) d3 := by intro G; first | exact .int _ | exact .bl _) : Ed K S (tOp (rI0 g) ta tb) σ H d3 :=
  ed_op h1 h2 fun v w H1 Q _ a b q => by rw [dd_int a, dd_int b]; exact ⟨i, j, rfl, rfl, q _ _ (Ex.refl _) (hd _)⟩
theorem ed_I {C : Int → Int → Prop} {g : Int → Int → V} {d3 : PyData} (h1 : Ed K S ta σ H (.int i)) (h2 : Ed K S tb σ H (.int j)) (hc : C i j) (hd : ∀ G, Dd K G (g i j) d3 := by intro G; first | exact .int _ | exact .bl _) : Ed K S (tOp (rI C g) ta tb) σ H d3 :=
  ed_op h1 h2 fun v w H1 Q _ a b q => by rw [dd_int a, dd_int b]; exact ⟨i, j, rfl, rfl, hc, q _ _ (Ex.refl _) (hd _)⟩
theorem ed_U {g : Int → V} {d3 : PyData} (h1 : Ed K S ta σ H (.int i)) (hd : ∀ G, Dd K G (g i) d3 := by intro G; first | exact .int _ | exact .bl _) : Ed K S (tUn (rU g) ta) σ H d3 := fun al H1 e Q q =>
  h1 al H1 e _ fun v H2 e2 dv => by rw [dd_int dv]; exact ⟨i, rfl, q _ _ e2 (hd _)⟩
theorem ed_addS (h1 : Ed K S ta σ H (.str x)) (h2 : Ed K S tb σ H (.str y)) (hl : x.length + y.length ≤ sizeLine) :
    Ed K S (tOp (fun x y H Q => ∃ i j, x = .str i ∧ y = .str j ∧ i.length + j.length ≤ sizeLine ∧ Q (.str (i ++ j)) H) ta tb) σ H (.str (x ++ y)) :=
  ed_op h1 h2 fun v w H1 Q _ a b q => by rw [dd_str a, dd_str b]; exact ⟨x, y, rfl, rfl, hl, q _ _ (Ex.refl _) (.str _)⟩
theorem ed_ixT (h1 : Ed K S ta σ H (.tuple ds)) (h2 : Ed K S tb σ H (.int i)) (hi : atI ds i = some d) : Ed K S (tOp (rIxT K) ta tb) σ H d :=
  ed_op h1 h2 fun v w H1 Q _ a b q => by
    obtain ⟨p, xs, rfl, hs, ha⟩ := dd_tup a
    rw [dd_int b]
    unfold atI at hi
    cases hk : ixN ds.length i with
    | none => rw [hk] at hi; cases hi
    | some k =>
      rw [hk] at hi
      obtain ⟨u, hu, du⟩ := ha.get (show ds[k]? = some d from hi)
      exact ⟨p, xs, i, u, rfl, rfl, ex_t ex_hide hs, by unfold atI; rw [ha.len, hk]; exact hu, q _ _ (Ex.refl _) du⟩
theorem ed_ixL (h1 : Ed K S ta σ H (.list ds)) (h2 : Ed K S tb σ H (.int i)) (hi : atI ds i = some d) : Ed K S (tOp (rIxL K) ta tb) σ H d :=
  ed_op h1 h2 fun v w H1 Q _ a b q => by
    obtain ⟨p, xs, rfl, hs, ha⟩ := dd_ref a
    rw [dd_int b]
    unfold atI at hi
    cases hk : ixN ds.length i with
    | none => rw [hk] at hi; cases hi
    | some k =>
      rw [hk] at hi
      obtain ⟨u, hu, du⟩ := ha.get (show ds[k]? = some d from hi)
      exact ⟨p, xs, i, u, rfl, rfl, SqL.of (of_hide hs).1, by unfold atI; rw [ha.len, hk]; exact hu, q _ _ (Ex.refl _) du⟩
theorem ed_len (h : EdA K S tas σ H [d]) (hd : (∃ xs, d = .list xs ∧ i = xs.length) ∨ ∃ xs, d = .tuple xs ∧ i = xs.length) :
    Ed K S (tCB (rLenQ K) tas) σ H (.int i) := fun al H1 e Q q =>
  h al H1 e _ fun vs H2 e2 dv => by
    cases dv with
    | cons h1 h2 =>
      cases h2
      rcases hd with ⟨xs, rfl, rfl⟩ | ⟨xs, rfl, rfl⟩
      · obtain ⟨p, ys, rfl, hs, ha⟩ := dd_ref h1
        exact ⟨p, ys, rfl, .inl (SqL.of (of_hide hs).1), by rw [ha.len]; exact q _ _ e2 (.int _)⟩
      · obtain ⟨p, ys, rfl, hs, ha⟩ := dd_tup h1
        exact ⟨p, ys, rfl, .inr (ex_t ex_hide hs), by rw [ha.len]; exact q _ _ e2 (.int _)⟩
theorem ed_repr (h : EdA K S tas σ H [d]) (ok : ReprOk d) : Ed K S (tCB (rRepr K) tas) σ H (.str d.shown) := fun al H1 e Q q =>
  h al H1 e _ fun vs H2 e2 dv => by
    cases dv with
    | cons h1 h2 =>
      cases h2
      exact ⟨_, d, rfl, h1.data, ok, q _ _ e2 (.str _)⟩
theorem ed_eqD {e : PyData} (h1 : Ed K S ta σ H d) (h2 : Ed K S tb σ H e) (s1 : SeqAt.shaped d = true) (s2 : SeqAt.shaped e = true) : Ed K S (tOp (rEqD K) ta tb) σ H (.bool (PyData.eqv d e)) :=
  ed_op h1 h2 fun v w H1 Q _ a b q => ⟨d, e, a.data, b.data, s1, s2, q _ _ (Ex.refl _) (.bl _)⟩
theorem ed_neD {e : PyData} (h1 : Ed K S ta σ H d) (h2 : Ed K S tb σ H e) (s1 : SeqAt.shaped d = true) (s2 : SeqAt.shaped e = true) : Ed K S (tOp (rNeD K) ta tb) σ H (.bool (!PyData.eqv d e)) :=
  ed_op h1 h2 fun v w H1 Q _ a b q => ⟨d, e, a.data, b.data, s1, s2, q _ _ (Ex.refl _) (.bl _)⟩
theorem ed_eqI (h1 : Ed K S ta σ H (.int i)) (h2 : Ed K S tb σ H (.int j)) : Ed K S (tOp rEq ta tb) σ H (.bool (decide (i = j))) :=
  ed_op h1 h2 fun v w H1 Q _ a b q => by rw [dd_int a, dd_int b]; exact ⟨rfl, q _ _ (Ex.refl _) (by rw [show decide (V.int i = V.int j) = decide (i = j) by simp]; exact .bl _)⟩
theorem ed_neI (h1 : Ed K S ta σ H (.int i)) (h2 : Ed K S tb σ H (.int j)) : Ed K S (tOp rNe ta tb) σ H (.bool (!decide (i = j))) :=
  ed_op h1 h2 fun v w H1 Q _ a b q => by rw [dd_int a, dd_int b]; exact ⟨rfl, q _ _ (Ex.refl _) (by rw [show decide (V.int i = V.int j) = decide (i = j) by simp]; exact .bl _)⟩
theorem ed_eqS (h1 : Ed K S ta σ H (.str x)) (h2 : Ed K S tb σ H (.str y)) : Ed K S (tOp rEq ta tb) σ H (.bool (decide (x = y))) :=
  ed_op h1 h2 fun v w H1 Q _ a b q => by rw [dd_str a, dd_str b]; exact ⟨rfl, q _ _ (Ex.refl _) (by rw [show decide (V.str x = V.str y) = decide (x = y) by simp]; exact .bl _)⟩
theorem ed_neS (h1 : Ed K S ta σ H (.str x)) (h2 : Ed K S tb σ H (.str y)) : Ed K S (tOp rNe ta tb) σ H (.bool (!decide (x = y))) :=
  ed_op h1 h2 fun v w H1 Q _ a b q => by rw [dd_str a, dd_str b]; exact ⟨rfl, q _ _ (Ex.refl _) (by rw [show decide (V.str x = V.str y) = decide (x = y) by simp]; exact .bl _)⟩
theorem ed_repL {n : Int} (h1 : Ed K S ta σ H (.list ds)) (h2 : Ed K S tb σ H (.int n)) (hn : -(2 ^ 63) ≤ n ∧ n < 2 ^ 63 ∧ ds.length * n.toNat ≤ sizeLine) : Ed K S (tOp rRep ta tb) σ H (.list (List.replicate n.toNat ds).flatten) :=
  ed_op h1 h2 fun v w H1 Q al a b q => by
    obtain ⟨p, xs, rfl, hs, ha⟩ := dd_ref a
    rw [dd_int b]
    exact ⟨p, n, xs, rfl, rfl, (of_hide hs).1, hn.1, hn.2.1, by rw [ha.len]; exact hn.2.2, fun z nz => q _ _ (Ex.new nz) (dd_newL nz (al.new nz) (ha.rep _))⟩
theorem ed_catL {es : List PyData} (h1 : Ed K S ta σ H (.list ds)) (h2 : Ed K S tb σ H (.list es)) (hn : ds.length + es.length ≤ sizeLine) : Ed K S (tOp rCat ta tb) σ H (.list (ds ++ es)) :=
  ed_op h1 h2 fun v w H1 Q al a b q => by
    obtain ⟨p, xs, rfl, hs, ha⟩ := dd_ref a
    obtain ⟨p', ys, rfl, hs', ha'⟩ := dd_ref b
    exact ⟨p, p', xs, ys, rfl, rfl, (of_hide hs).1, (of_hide hs').1, by rw [ha.len, ha'.len]; exact hn, fun z nz => q _ _ (Ex.new nz) (dd_newL nz (al.new nz) (ha.app ha'))⟩
theorem ed_tupleL (h : Ed K S ta σ H (.list ds)) : Ed K S (tThen ta (kTup K)) σ H (.tuple ds) := fun al H1 e Q q =>
  h al H1 e _ fun v H2 e2 dv => by
    obtain ⟨p, xs, rfl, hs, ha⟩ := dd_ref dv
    exact .inl ⟨p, xs, rfl, SqL.of (of_hide hs).1, fun z nz => q _ _ (e2.trans (Ex.new nz)) (dd_newT nz ((al.up (e.trans e2)).new nz) ha)⟩
theorem ed_tupleT (h : Ed K S ta σ H (.tuple ds)) : Ed K S (tThen ta (kTup K)) σ H (.tuple ds) := fun al H1 e Q q =>
  h al H1 e _ fun v H2 e2 dv => by
    obtain ⟨p, xs, rfl, hs, ha⟩ := dd_tup dv
    exact .inr ⟨p, xs, rfl, ex_t ex_hide hs, q _ _ e2 (.tup hs ha)⟩
theorem ed_listOf (h : EdA K S tas σ H [d]) (hd : d = .list ds ∨ d = .tuple ds) :
    Ed K S (tCB (rListQ K) tas) σ H (.list ds) := fun al H1 e Q q =>
  h al H1 e _ fun vs H2 e2 dv => by
    cases dv with
    | cons h1 h2 =>
      cases h2
      rcases hd with rfl | rfl
      · obtain ⟨p, ys, rfl, hs, ha⟩ := dd_ref h1
        exact ⟨p, ys, rfl, .inl (SqL.of (of_hide hs).1), fun z nz => q _ _ (e2.trans (Ex.new nz)) (dd_newL nz ((al.up (e.trans e2)).new nz) ha)⟩
      · obtain ⟨p, ys, rfl, hs, ha⟩ := dd_tup h1
        exact ⟨p, ys, rfl, .inr (ex_t ex_hide hs), fun z nz => q _ _ (e2.trans (Ex.new nz)) (dd_newL nz ((al.up (e.trans e2)).new nz) ha)⟩
theorem ed_int1 (h : EdA K S tas σ H [.int i]) : Ed K S (tCB (fun xs H Q => (∃ i, xs = [.int i] ∧ Q (.int i) H) ∨ ∃ k, xs = [.bl k] ∧ Q (.int (if k then 1 else 0)) H) tas) σ H (.int i) := fun al H1 e Q q =>
  h al H1 e _ fun vs H2 e2 dv => by
    cases dv with
    | cons h1 h2 =>
      cases h2
      rw [dd_int h1]
      exact .inl ⟨i, rfl, q _ _ e2 (.int _)⟩
theorem ed_intB (h : EdA K S tas σ H [.bool b]) : Ed K S (tCB (fun xs H Q => (∃ i, xs = [.int i] ∧ Q (.int i) H) ∨ ∃ k, xs = [.bl k] ∧ Q (.int (if k then 1 else 0)) H) tas) σ H (.int (if b then 1 else 0)) := fun al H1 e Q q =>
  h al H1 e _ fun vs H2 e2 dv => by
    cases dv with
    | cons h1 h2 =>
      cases h2
      rw [dd_bl h1]
      exact .inr ⟨b, rfl, q _ _ e2 (.int _)⟩
/-- a built-in function of ints -/
theorem ed_cb2 {g : Int → Int → Int} (h : EdA K S tas σ H [.int i, .int j]) : Ed K S (tCB (fun xs H Q => ∃ i j, xs = [.int i, .int j] ∧ Q (.int (g i j)) H) tas) σ H (.int (g i j)) := fun al H1 e Q q =>
  h al H1 e _ fun vs H2 e2 dv => by
    cases dv with
    | cons h1 h2 =>
      cases h2 with
      | cons h3 h4 =>
        cases h4
        rw [dd_int h1, dd_int h3]
        exact ⟨i, j, rfl, q _ _ e2 (.int _)⟩
theorem ed_cb1 {g : Int → Int} (h : EdA K S tas σ H [.int i]) : Ed K S (tCB (fun xs H Q => ∃ i, xs = [.int i] ∧ Q (.int (g i)) H) tas) σ H (.int (g i)) := fun al H1 e Q q =>
  h al H1 e _ fun vs H2 e2 dv => by
    cases dv with
    | cons h1 h2 =>
      cases h2
      rw [dd_int h1]
      exact ⟨i, rfl, q _ _ e2 (.int _)⟩
/-- tests -/
theorem et_test (h : Ed K S te σ H (.bool b)) : EdT S (tTest te) σ H b := fun al H1 e Q q => h al H1 e _ fun v H2 e2 dv => ⟨b, dd_bl dv, q H2 e2⟩
theorem et_B (h : Ed K S te σ H (.bool b)) : EdT S (tB te) σ H b := fun al H1 e Q q => h al H1 e _ fun v H2 e2 dv => ⟨b, dd_bl dv, q H2 e2⟩
theorem et_not (h : EdT S tt σ H b) : EdT S (tNot tt) σ H (!b) := fun al H1 e Q q => h al H1 e _ fun H2 e2 => q H2 e2
theorem et_and (h1 : EdT S tt σ H b) (h2 : b = true → EdT S tu σ H c) : EdT S (tAnd tt tu) σ H (b && c) := fun al H1 e Q q => h1 al H1 e _ fun H2 e2 => by
  cases b with
  | true => rw [if_pos rfl]; exact h2 rfl al H2 (e.trans e2) _ fun H3 e3 => q H3 (e2.trans e3)
  | false => rw [if_neg Bool.false_ne_true]; exact q H2 e2
theorem et_or (h1 : EdT S tt σ H b) (h2 : b = false → EdT S tu σ H c) : EdT S (tOr tt tu) σ H (b || c) := fun al H1 e Q q => h1 al H1 e _ fun H2 e2 => by
  cases b with
  | false => rw [if_neg Bool.false_ne_true]; exact h2 rfl al H2 (e.trans e2) _ fun H3 e3 => q H3 (e2.trans e3)
  | true => rw [if_pos rfl]; exact q H2 e2
theorem ed_andV (h1 : Ed K S ta σ H (.bool b)) (h2 : b = true → Ed K S tb σ H (.bool c)) : Ed K S (tAndV ta tb) σ H (.bool (b && c)) := fun al H1 e Q q => h1 al H1 e _ fun v H2 e2 dv => ⟨b, dd_bl dv, by
  cases b with
  | true => rw [if_pos rfl]; exact h2 rfl al H2 (e.trans e2) _ fun w H3 e3 dw => q w H3 (e2.trans e3) dw
  | false => rw [if_neg Bool.false_ne_true]; exact q _ H2 e2 (.bl _)⟩
theorem ed_orV (h1 : Ed K S ta σ H (.bool b)) (h2 : b = false → Ed K S tb σ H (.bool c)) : Ed K S (tOrV ta tb) σ H (.bool (b || c)) := fun al H1 e Q q => h1 al H1 e _ fun v H2 e2 dv => ⟨b, dd_bl dv, by
  cases b with
  | false => rw [if_neg Bool.false_ne_true]; exact h2 rfl al H2 (e.trans e2) _ fun w H3 e3 dw => q w H3 (e2.trans e3) dw
  | true => rw [if_pos rfl]; exact q _ H2 e2 (.bl _)⟩
theorem ed_notV (h1 : Ed K S ta σ H (.bool b)) : Ed K S (tNotV ta) σ H (.bool (!b)) := fun al H1 e Q q => h1 al H1 e _ fun v H2 e2 dv => ⟨b, dd_bl dv, q _ H2 e2 (.bl _)⟩
theorem ed_if (h : EdT S tt σ H b) (h1 : b = true → Ed K S ta σ H d) (h2 : b = false → Ed K S tb σ H d) : Ed K S (tIf tt ta tb) σ H d := fun al H1 e Q q => h al H1 e _ fun H2 e2 => by
  cases b with
  | true => rw [if_pos rfl]; exact h1 rfl al H2 (e.trans e2) _ fun v H3 e3 dv => q v H3 (e2.trans e3) dv
  | false => rw [if_neg Bool.false_ne_true]; exact h2 rfl al H2 (e.trans e2) _ fun v H3 e3 dv => q v H3 (e2.trans e3) dv
/-! ### pure defs -/
/-- f(data) is data: all stays as it was -/
def spP (K : PySem.W.Frag) (n : Nat) (f : List PyData → PyData → Prop) : Sp := fun vs H Q _ => vs.length = n ∧ ∃ S ds d, Al S H ∧ DdAll K (hide H S) vs ds ∧ f ds d ∧ ∀ v H', Ex H H' → Dd K (hide H' S) v d → Q v H'
theorem ed_call {n : Nat} {f : List PyData → PyData → Prop} {E : XK} (h : EdA K S tas σ H ds) (hn : ds.length = n) (hf : f ds d) : Ed K S (tCall (spP K n f) [] E tas) σ H d := fun al H1 e Q q =>
  h al H1 e _ fun vs H2 e2 dv => ⟨by rw [List.append_nil, dv.len]; exact hn, S, ds, d, al.up (e.trans e2), by rw [List.append_nil]; exact dv, hf, fun v H3 e3 d3 => q v H3 (e2.trans e3) d3⟩
/-! ### statements -/
variable {D : Ends} {tz t1 t2 : TS}
theorem Ed.go {Q : VK} (h : Ed K S te σ H d) (al : Al S H) (k : ∀ v H1, Ex H H1 → Dd K (hide H1 S) v d → Q v H1) : te σ H Q := h al H (Ex.refl _) Q k
theorem EdT.go {Q : Bool → Hp → Prop} (h : EdT S tt σ H b) (al : Al S H) (k : ∀ H1, Ex H H1 → Q b H1) : tt σ H Q := h al H (Ex.refl _) Q k
theorem qd_asg {k : Nat} (h : Ed K S te σ H d) (al : Al S H) (go : ∀ v H1, Ex H H1 → Dd K (hide H1 S) v d → tz D (σ.set k (some v)) H1) : tSeq (tAsg te (gName k)) tz D σ H := h al H (Ex.refl _) _ fun v H1 e dv => go v H1 e dv
theorem sd_asg {k : Nat} (h : Ed K S te σ H d) (al : Al S H) (go : ∀ v H1, Ex H H1 → Dd K (hide H1 S) v d → D.nx (σ.set k (some v)) H1) : tAsg te (gName k) D σ H := h al H (Ex.refl _) _ fun v H1 e dv => go v H1 e dv
theorem sd_ret (h : Ed K S te σ H d) (al : Al S H) (go : ∀ v H1, Ex H H1 → Dd K (hide H1 S) v d → D.rt v H1) : tRet te D σ H := h al H (Ex.refl _) _ go
theorem qd_if (h : EdT S tt σ H b) (al : Al S H) (g1 : b = true → ∀ H1, Ex H H1 → t1 { D with nx := tz D } σ H1) (g2 : b = false → ∀ H1, Ex H H1 → t2 { D with nx := tz D } σ H1) : tSeq (tIfS tt t1 t2) tz D σ H :=
  h al H (Ex.refl _) _ fun H1 e => by
    cases b with
    | true => rw [if_pos rfl]; exact g1 rfl H1 e
    | false => rw [if_neg Bool.false_ne_true]; exact g2 rfl H1 e
theorem sd_if (h : EdT S tt σ H b) (al : Al S H) (g1 : b = true → ∀ H1, Ex H H1 → t1 D σ H1) (g2 : b = false → ∀ H1, Ex H H1 → t2 D σ H1) : tIfS tt t1 t2 D σ H :=
  h al H (Ex.refl _) _ fun H1 e => by
    cases b with
    | true => rw [if_pos rfl]; exact g1 rfl H1 e
    | false => rw [if_neg Bool.false_ne_true]; exact g2 rfl H1 e
theorem qd_par {k l : Nat} {d e : PyData} (h : EdA K S tas σ H [d, e]) (al : Al S H) (go : ∀ v w H1, Ex H H1 → Dd K (hide H1 S) v d → Dd K (hide H1 S) w e → tz D ((σ.set k (some v)).set l (some w)) H1) : tSeq (tPar k l tas) tz D σ H :=
  h al H (Ex.refl _) _ fun vs H1 e1 dv => by
    cases dv with
    | cons h1 h2 =>
      cases h2 with
      | cons h3 h4 =>
        cases h4
        exact ⟨_, _, rfl, go _ _ H1 e1 h1 h3⟩
end
end Kx

namespace Kx
open PySem PySem.Spec PyProof.Rows L2
/-! ### what a for walks, as data -/
structure Src (K : PySem.W.Frag) (S : List Addr) (J : It) (H : Hp) (ds : List PyData) : Prop where
  go : ∀ i H' S', Eh H S H' S' → i < ds.length → J.go i H'
  stop : ∀ i H' S', Eh H S H' S' → ds.length ≤ i → J.stop i H'
  yld : ∀ i H' S' x H'', Eh H S H' S' → Al S' H' → J.yld i H' x H'' → i < ds.length → Ex H' H'' ∧ ∃ d, ds[i]? = some d ∧ Dd K (hide H'' S') x d
def EdI (K : PySem.W.Frag) (S : List Addr) (wi : TI) (σ : L2.St) (H : Hp) (ds : List PyData) : Prop :=
  Al S H → ∀ H1, Ex H H1 → ∀ R : It → Hp → Prop, (∀ J H2, Ex H1 H2 → Src K S J H2 ds → R J H2) → wi σ H1 R
section
variable {K : PySem.W.Frag} {S : List Addr} {σ : L2.St} {H : Hp} {ds es : List PyData}
theorem src_list {a : Addr} {xs : List V} (h : hide H S a = some (.lst xs)) (hd : DdAll K (hide H S) xs ds) : Src K S (Itl K a) H ds where
  go := fun i H' S' e hi => by
    obtain ⟨d, hd'⟩ := List.getElem?_eq_some_iff.mpr ⟨hi, rfl⟩ |> fun z => (⟨_, z⟩ : ∃ d, ds[i]? = some d)
    obtain ⟨v, hv, _⟩ := hd.get hd'
    exact ⟨xs, v, SqL.of (of_hide (e _ _ h)).1, hv⟩
  stop := fun i H' S' e hi => ⟨xs, SqL.of (of_hide (e _ _ h)).1, by rw [hd.len]; exact hi⟩
  yld := fun i H' S' x H'' e al y hi => by
    obtain ⟨rfl, y⟩ := y
    have hx := y xs (SqL.of (of_hide (e _ _ h)).1)
    obtain ⟨d, h1, h2⟩ := hd.getv hx
    exact ⟨Ex.refl _, d, h1, h2.up e⟩
theorem src_tup {a : Addr} {xs : List V} (h : SqT K (hide H S) a xs) (hd : DdAll K (hide H S) xs ds) : Src K S (Itt K a) H ds where
  go := fun i H' S' e hi => by
    obtain ⟨d, hd'⟩ := List.getElem?_eq_some_iff.mpr ⟨hi, rfl⟩ |> fun z => (⟨_, z⟩ : ∃ d, ds[i]? = some d)
    obtain ⟨v, hv, _⟩ := hd.get hd'
    exact ⟨xs, v, ex_t ex_hide (ex_t e h), hv⟩
  stop := fun i H' S' e hi => ⟨xs, ex_t ex_hide (ex_t e h), by rw [hd.len]; exact hi⟩
  yld := fun i H' S' x H'' e al y hi => by
    obtain ⟨rfl, y⟩ := y
    have hx := y xs (ex_t ex_hide (ex_t e h))
    obtain ⟨d, h1, h2⟩ := hd.getv hx
    exact ⟨Ex.refl _, d, h1, h2.up e⟩
/-- lo, lo + 1, .. -/
def rngD (lo : Int) (n : Nat) : List PyData := (List.range n).map fun i => .int (lo + (i : Nat))
theorem rngD_len (lo : Int) (n : Nat) : (rngD lo n).length = n := by simp [rngD]
theorem rngD_get {lo : Int} {n i : Nat} (h : i < n) : (rngD lo n)[i]? = some (.int (lo + (i : Nat))) := by simp [rngD, h]
theorem src_range {lo : Int} {n : Nat} : Src K S (Itr lo n) H (rngD lo n) where
  go := fun i H' S' e hi => by rw [rngD_len] at hi; exact hi
  stop := fun i H' S' e hi => by rw [rngD_len] at hi; exact hi
  yld := fun i H' S' x H'' e al y hi => by
    obtain ⟨rfl, rfl⟩ := y
    rw [rngD_len] at hi
    exact ⟨Ex.refl _, _, rngD_get hi, .int _⟩
def strD (x : Str) : List PyData := x.cps.toList.map fun c => .str ⟨#[c]⟩
theorem src_str {x : Str} : Src K S (Its x) H (strD x) where
  go := fun i H' S' e hi => by
    show i < x.cps.size
    simpa [strD] using hi
  stop := fun i H' S' e hi => by
    show x.cps.size ≤ i
    simpa [strD] using hi
  yld := fun i H' S' v H'' e al y hi => by
    obtain ⟨rfl, c, hc, rfl⟩ := y
    refine ⟨Ex.refl _, .str ⟨#[c]⟩, ?_, .str _⟩
    unfold strD
    rw [List.getElem?_map, Array.getElem?_toList, hc]
    rfl
def enumD (ds : List PyData) : List PyData := ds.zipIdx.map fun p => .tuple [.int (p.2 : Nat), p.1]
theorem enumD_len (ds : List PyData) : (enumD ds).length = ds.length := by simp [enumD]
theorem enumD_get {ds : List PyData} {i : Nat} {d : PyData} (h : ds[i]? = some d) : (enumD ds)[i]? = some (.tuple [.int (i : Nat), d]) := by simp [enumD, List.getElem?_map, List.getElem?_zipIdx, h]
theorem pair_new {H' : Hp} {S' : List Addr} {T : Addr} {x y : V} {d e : PyData} (al : Al S' H') (n : H' T = none) (hx : Dd K (hide H' S') x d) (hy : Dd K (hide H' S') y e) : Dd K (hide (upd H' T (.tup [x, y])) S') (.ref T) (.tuple [d, e]) :=
  dd_newT n (al.new n) (.cons hx (.cons hy .nil))
theorem src_enum {a : Addr} {xs : List V} (h : hide H S a = some (.lst xs)) (hd : DdAll K (hide H S) xs ds) : Src K S (Ite K a) H (enumD ds) where
  go := fun i H' S' e hi => by
    rw [enumD_len] at hi
    obtain ⟨d, hd'⟩ := List.getElem?_eq_some_iff.mpr ⟨hi, rfl⟩ |> fun z => (⟨_, z⟩ : ∃ d, ds[i]? = some d)
    obtain ⟨v, hv, _⟩ := hd.get hd'
    exact ⟨xs, v, SqL.of (of_hide (e _ _ h)).1, hv⟩
  stop := fun i H' S' e hi => ⟨xs, SqL.of (of_hide (e _ _ h)).1, by rw [hd.len]; rw [enumD_len] at hi; exact hi⟩
  yld := fun i H' S' v H'' e al y hi => by
    obtain ⟨T, x, rfl, n, rfl, y⟩ := y
    have hx := y xs (SqL.of (of_hide (e _ _ h)).1)
    obtain ⟨d, h1, h2⟩ := hd.getv hx
    exact ⟨Ex.new n, _, enumD_get h1, pair_new al n (.int _) (h2.up e)⟩
def zipD (ds es : List PyData) : List PyData := (ds.zip es).map fun p => .tuple [p.1, p.2]
theorem zipD_len (ds es : List PyData) : (zipD ds es).length = min ds.length es.length := by simp [zipD]
theorem zipD_get {ds es : List PyData} {i : Nat} {d e : PyData} (h : ds[i]? = some d) (h' : es[i]? = some e) : (zipD ds es)[i]? = some (.tuple [d, e]) := by
  unfold zipD
  rw [List.getElem?_map, (List.getElem?_zip_eq_some (z := (d, e))).mpr ⟨h, h'⟩] <;> rfl
theorem zip_at {ds es : List PyData} {i : Nat} (hi : i < (zipD ds es).length) : ∃ d e, ds[i]? = some d ∧ es[i]? = some e := by
  rw [zipD_len] at hi
  exact ⟨_, _, List.getElem?_eq_some_iff.mpr ⟨by omega, rfl⟩, List.getElem?_eq_some_iff.mpr ⟨by omega, rfl⟩⟩
theorem src_zip {a b : Addr} {xs ys : List V} (h : hide H S a = some (.lst xs)) (hd : DdAll K (hide H S) xs ds) (h' : hide H S b = some (.lst ys)) (hd' : DdAll K (hide H S) ys es) : Src K S (Itz K a b) H (zipD ds es) where
  go := fun i H' S' e hi => by
    obtain ⟨d, c, q1, q2⟩ := zip_at hi
    obtain ⟨v, hv, _⟩ := hd.get q1
    obtain ⟨w, hw, _⟩ := hd'.get q2
    exact ⟨xs, ys, v, w, SqL.of (of_hide (e _ _ h)).1, SqL.of (of_hide (e _ _ h')).1, hv, hw⟩
  stop := fun i H' S' e hi => ⟨xs, ys, SqL.of (of_hide (e _ _ h)).1, SqL.of (of_hide (e _ _ h')).1, by rw [hd.len, hd'.len]; rw [zipD_len] at hi; omega⟩
  yld := fun i H' S' v H'' e al y hi => by
    obtain ⟨T, x, z, rfl, n, rfl, y1, y2⟩ := y
    obtain ⟨d, h1, h2⟩ := hd.getv (y1 xs (SqL.of (of_hide (e _ _ h)).1))
    obtain ⟨d', h1', h2'⟩ := hd'.getv (y2 ys (SqL.of (of_hide (e _ _ h')).1))
    exact ⟨Ex.new n, _, zipD_get h1 h1', pair_new al n (h2.up e) (h2'.up e)⟩
theorem src_zipT {a b : Addr} {xs ys : List V} (h : SqT K (hide H S) a xs) (hd : DdAll K (hide H S) xs ds) (h' : SqT K (hide H S) b ys) (hd' : DdAll K (hide H S) ys es) : Src K S (RZ.ItzT K a b) H (zipD ds es) where
  go := fun i H' S' e hi => by
    obtain ⟨d, c, q1, q2⟩ := zip_at hi
    obtain ⟨v, hv, _⟩ := hd.get q1
    obtain ⟨w, hw, _⟩ := hd'.get q2
    exact ⟨xs, ys, v, w, ex_t ex_hide (ex_t e h), ex_t ex_hide (ex_t e h'), hv, hw⟩
  stop := fun i H' S' e hi => ⟨xs, ys, ex_t ex_hide (ex_t e h), ex_t ex_hide (ex_t e h'), by rw [hd.len, hd'.len]; rw [zipD_len] at hi; omega⟩
  yld := fun i H' S' v H'' e al y hi => by
    obtain ⟨T, x, z, rfl, n, rfl, y1, y2⟩ := y
    obtain ⟨d, h1, h2⟩ := hd.getv (y1 xs (ex_t ex_hide (ex_t e h)))
    obtain ⟨d', h1', h2'⟩ := hd'.getv (y2 ys (ex_t ex_hide (ex_t e h')))
    exact ⟨Ex.new n, _, zipD_get h1 h1', pair_new al n (h2.up e) (h2'.up e)⟩
variable {tl te : TE} {tas : TA}
theorem ei_list (h : Ed K S tl σ H (.list ds)) : EdI K S (iList K tl) σ H ds := fun al H1 e R q => h al H1 e _ fun v H2 e2 dv => by
  obtain ⟨a, xs, rfl, hs, ha⟩ := dd_ref dv
  exact ⟨a, rfl, ⟨xs, SqL.of (of_hide hs).1⟩, q _ _ e2 (src_list hs ha)⟩
theorem ei_tup (h : Ed K S tl σ H (.tuple ds)) : EdI K S (iTup K tl) σ H ds := fun al H1 e R q => h al H1 e _ fun v H2 e2 dv => by
  obtain ⟨a, xs, rfl, hs, ha⟩ := dd_tup dv
  exact ⟨a, rfl, ⟨xs, ex_t ex_hide hs⟩, q _ _ e2 (src_tup hs ha)⟩
theorem ei_rng1 {n : Int} (h : EdA K S tas σ H [.int n]) (hn : -(2 ^ 62) ≤ n ∧ n < 2 ^ 62) : EdI K S (iRng1 tas) σ H (rngD 0 n.toNat) := fun al H1 e R q => h al H1 e _ fun vs H2 e2 dv => by
  cases dv with
  | cons h1 h2 => cases h2; rw [dd_int h1]; exact ⟨n, rfl, hn.1, hn.2, q _ _ e2 src_range⟩
theorem ei_rng2 {lo n : Int} (h : EdA K S tas σ H [.int lo, .int n]) (hn : -(2 ^ 62) ≤ lo ∧ lo < 2 ^ 62 ∧ -(2 ^ 62) ≤ n ∧ n < 2 ^ 62) : EdI K S (iRng2 tas) σ H (rngD lo (n - lo).toNat) := fun al H1 e R q => h al H1 e _ fun vs H2 e2 dv => by
  cases dv with
  | cons h1 h2 =>
    cases h2 with
    | cons h3 h4 => cases h4; rw [dd_int h1, dd_int h3]; exact ⟨lo, n, rfl, hn, q _ _ e2 src_range⟩
theorem ei_str {x : Str} (h : Ed K S te σ H (.str x)) : EdI K S (iStr te) σ H (strD x) := fun al H1 e R q => h al H1 e _ fun v H2 e2 dv => ⟨x, dd_str dv, q _ _ e2 src_str⟩
theorem ei_enum (h : EdA K S tas σ H [.list ds]) : EdI K S (iEnum K tas) σ H (enumD ds) := fun al H1 e R q => h al H1 e _ fun vs H2 e2 dv => by
  cases dv with
  | cons h1 h2 =>
    cases h2
    obtain ⟨a, xs, rfl, hs, ha⟩ := dd_ref h1
    exact ⟨a, xs, rfl, SqL.of (of_hide hs).1, q _ _ e2 (src_enum hs ha)⟩
theorem ei_zip (h : EdA K S tas σ H [.list ds, .list es]) : EdI K S (iZip K tas) σ H (zipD ds es) := fun al H1 e R q => h al H1 e _ fun vs H2 e2 dv => by
  cases dv with
  | cons h1 h2 =>
    cases h2 with
    | cons h3 h4 =>
      cases h4
      obtain ⟨a, xs, rfl, hs, ha⟩ := dd_ref h1
      obtain ⟨b, ys, rfl, hs', ha'⟩ := dd_ref h3
      exact ⟨a, b, xs, ys, rfl, SqL.of (of_hide hs).1, SqL.of (of_hide hs').1, q _ _ e2 (src_zip hs ha hs' ha')⟩
theorem ei_zipT (h : EdA K S tas σ H [.tuple ds, .tuple es]) : EdI K S (RZ.iZipA K tas) σ H (zipD ds es) := fun al H1 e R q => h al H1 e _ fun vs H2 e2 dv => by
  cases dv with
  | cons h1 h2 =>
    cases h2 with
    | cons h3 h4 =>
      cases h4
      obtain ⟨a, xs, rfl, hs, ha⟩ := dd_tup h1
      obtain ⟨b, ys, rfl, hs', ha'⟩ := dd_tup h3
      exact ⟨a, b, xs, ys, rfl, .inr ⟨ex_t ex_hide hs, ex_t ex_hide hs', q _ _ e2 (src_zipT hs ha hs' ha')⟩⟩
theorem ei_zipL (h : EdA K S tas σ H [.list ds, .list es]) : EdI K S (RZ.iZipA K tas) σ H (zipD ds es) := fun al H1 e R q => h al H1 e _ fun vs H2 e2 dv => by
  cases dv with
  | cons h1 h2 =>
    cases h2 with
    | cons h3 h4 =>
      cases h4
      obtain ⟨a, xs, rfl, hs, ha⟩ := dd_ref h1
      obtain ⟨b, ys, rfl, hs', ha'⟩ := dd_ref h3
      exact ⟨a, b, xs, ys, rfl, .inl ⟨SqL.of (of_hide hs).1, SqL.of (of_hide hs').1, q _ _ e2 (src_zip hs ha hs' ha')⟩⟩
/-- [e for .. in .. if ..] of data -/
theorem filter_take {α : Type} {ds : List α} {i : Nat} {d : α} (p : α → Bool) (h : ds[i]? = some d) : (ds.take (i + 1)).filter p = (ds.take i).filter p ++ (if p d then [d] else []) := by
  obtain ⟨hi, e⟩ := List.getElem?_eq_some_iff.mp h
  have q : ds.take (i + 1) = ds.take i ++ [d] := by rw [List.take_succ, h] <;> rfl
  rw [q, List.filter_append]
  congr 1
  cases hp : p d <;> simp [hp]
theorem ed_lc {wi : TI} {g : TG} {tt : TT} {te : TE} {vs : List Nat} {f : PyData → PyData} {kp : PyData → Bool} (h : EdI K S wi σ H ds) (hz : ds.length ≤ 100000)
    (el : ∀ S' Hx x (i : Nat) d, Eh H S Hx S' → Al S' Hx → ds[i]? = some d → Dd K (hide Hx S') x d →
      ∃ σ2, (∀ Q : L2.St → Hp → Prop, Q σ2 Hx → g x (wipe σ vs) Hx Q) ∧ wipe σ2 vs = wipe σ vs ∧ EdT S' tt σ2 Hx (kp d) ∧ (kp d = true → Ed K S' te σ2 Hx (f d))) :
    Ed K S (tLc wi g tt te vs) σ H (.list ((ds.filter kp).map f)) := fun al H1 e Q q => h al H1 e _ fun J H2 e2 src => by
  intro D nD
  have alD : ∀ H', Ex H2 H' → Al S H' := fun H' e' => al.up (e.trans (e2.trans e'))
  have npD : D ∉ S := (al.up (e.trans e2)).new nD
  refine ⟨fun i m H' => m = ds.length - i ∧ i ≤ ds.length ∧ Ex H2 H' ∧ ∃ acc, H' D = some (.lst acc) ∧ DdAll K (hide H' (D :: S)) acc (((ds.take i).filter kp).map f),
    ⟨ds.length, by simp, Nat.zero_le _, Ex.new nD, [], upd_same, .nil⟩, ?_⟩
  rintro i m H' ⟨rfl, hi, e', acc, hD, hacc⟩
  have eh : Eh H2 S H' (D :: S) := eh_more e' nD
  have alS : Al (D :: S) H' := (alD H' e').cons hD
  by_cases hlt : i < ds.length
  · refine .inr ⟨src.go i H' _ eh hlt, fun H'' => Ex H2 H'' ∧ ∃ acc, H'' D = some (.lst acc) ∧ DdAll K (hide H'' (D :: S)) acc (((ds.take (i + 1)).filter kp).map f),
      fun H'' z => ⟨ds.length - (i + 1), by omega, rfl, hlt, z⟩, fun x H3 y => ?_⟩
    obtain ⟨e3, d, hd, dx⟩ := src.yld i H' _ x H3 eh alS y hlt
    have hD3 := e3 _ _ hD
    have al3 : Al (D :: S) H3 := alS.up e3
    obtain ⟨σ2, g1, g2, g3, g4⟩ := el (D :: S) H3 x i d ((eh_of (e.trans e2)).trans (eh.trans (eh_of e3))) al3 hd dx
    refine g1 _ ⟨g2, g3.go al3 fun H4 e4 => ?_⟩
    have hD4 := e4 _ _ hD3
    have up4 : DdAll K (hide H4 (D :: S)) acc (((ds.take i).filter kp).map f) := hacc.up (eh_of (e3.trans e4))
    rw [filter_take kp hd]
    cases hk : kp d with
    | false =>
      rw [if_neg Bool.false_ne_true, if_neg Bool.false_ne_true, List.append_nil]
      exact ⟨e'.trans (e3.trans e4), acc, hD4, up4⟩
    | true =>
      rw [if_pos rfl, if_pos rfl]
      refine g4 hk al3 H4 e4 _ fun w H5 e5 dw => ?_
      have hD5 := e5 _ _ hD4
      refine ⟨acc, hD5, ?_, ?_, acc ++ [w], upd_same, ?_⟩
      · have := hacc.len
        have l1 : (((ds.take i).filter kp).map f).length ≤ i := by
          rw [List.length_map]
          exact Nat.le_trans (List.length_filter_le _ _) (by rw [List.length_take]; omega)
        have : acc.length < 100000 := by omega
        exact Nat.lt_of_lt_of_le this (by decide)
      · intro b o z
        have z5 := (e'.trans (e3.trans (e4.trans e5))) b o z
        rw [upd_ne (ne_of_none z nD)]
        exact z5
      · rw [List.map_append]
        exact ((up4.up (eh_of e5)).up (eh_upd List.mem_cons_self)).app (.one (dw.up (eh_upd List.mem_cons_self)))
  · have e1 : i = ds.length := by omega
    subst e1
    refine .inl ⟨src.stop _ H' _ eh (Nat.le_refl _), q _ _ (e2.trans e') ?_⟩
    rw [List.take_length] at hacc
    exact .lst (hide_of hD npD) (hacc.up eh_less)
/-- .. the loop as a statement -/
theorem sd_for {wi : TI} {g : TG} {tb : TS} {D : Ends} (h : EdI K S wi σ H ds) (al : Al S H) (Pv : Hp → Nat → L2.St → Hp → Prop) (S' : List Addr)
    (h0 : ∀ Hs, Ex H Hs → Pv Hs 0 σ Hs) (hk : ∀ Hs i σ' H', Ex H Hs → Pv Hs i σ' H' → Eh Hs S H' S' ∧ Al S' H')
    (turn : ∀ Hs i σ' H' x H'' d, Ex H Hs → Pv Hs i σ' H' → ds[i]? = some d → Ex H' H'' → Dd K (hide H'' S') x d →
      g x σ' H'' fun σ2 H2 => tb { D with nx := Pv Hs (i + 1), ct := Pv Hs (i + 1), bk := D.nx } σ2 H2)
    (done : ∀ Hs σ' H', Ex H Hs → Pv Hs ds.length σ' H' → D.nx σ' H') : tFor wi g tb D σ H := h al H (Ex.refl _) _ fun J Hs e src => by
  refine ⟨fun i m σ' H' => m = ds.length - i ∧ i ≤ ds.length ∧ Pv Hs i σ' H', ⟨ds.length, by simp, Nat.zero_le _, h0 Hs e⟩, ?_⟩
  rintro i m σ' H' ⟨rfl, hi, p⟩
  obtain ⟨eh, al'⟩ := hk Hs i σ' H' e p
  by_cases hlt : i < ds.length
  · refine .inr ⟨src.go i H' S' eh hlt, Pv Hs (i + 1), fun σ'' H'' z => ⟨ds.length - (i + 1), by omega, rfl, hlt, z⟩, fun x H'' y => ?_⟩
    obtain ⟨e3, d, hd, dx⟩ := src.yld i H' S' x H'' eh al' y hlt
    exact turn Hs i σ' H' x H'' d e p hd e3 dx
  · have e1 : i = ds.length := by omega
    subst e1
    exact .inl ⟨src.stop _ H' S' eh (Nat.le_refl _), done Hs σ' H' e p⟩
theorem qd_for {wi : TI} {g : TG} {tb tz : TS} {D : Ends} (h : EdI K S wi σ H ds) (al : Al S H) (Pv : Hp → Nat → L2.St → Hp → Prop) (S' : List Addr)
    (h0 : ∀ Hs, Ex H Hs → Pv Hs 0 σ Hs) (hk : ∀ Hs i σ' H', Ex H Hs → Pv Hs i σ' H' → Eh Hs S H' S' ∧ Al S' H')
    (turn : ∀ Hs i σ' H' x H'' d, Ex H Hs → Pv Hs i σ' H' → ds[i]? = some d → Ex H' H'' → Dd K (hide H'' S') x d →
      g x σ' H'' fun σ2 H2 => tb { D with nx := Pv Hs (i + 1), ct := Pv Hs (i + 1), bk := tz D } σ2 H2)
    (done : ∀ Hs σ' H', Ex H Hs → Pv Hs ds.length σ' H' → tz D σ' H') : tSeq (tFor wi g tb) tz D σ H := sd_for (D := { D with nx := tz D }) h al Pv S' h0 hk turn done
/-- a, b = a tuple: into slots -/
theorem g_pair {i j : Nat} {x : V} {d e : PyData} {Q : L2.St → Hp → Prop} (h : Dd K (hide H S) x (.tuple [d, e]))
    (k : ∀ v w, Dd K (hide H S) v d → Dd K (hide H S) w e → Q ((σ.set i (some v)).set j (some w)) H) : gTup K 2 (gCons (gName i) (gCons (gName j) gNil)) x σ H Q := by
  obtain ⟨a, xs, rfl, hs, ha⟩ := dd_tup h
  cases ha with
  | cons h1 h2 =>
    cases h2 with
    | cons h3 h4 =>
      cases h4
      exact ⟨a, _, rfl, ex_t ex_hide hs, rfl, _, _, rfl, _, _, rfl, rfl, k _ _ h1 h3⟩
end
end Kx

namespace Kx
open PySem PySem.Spec PyProof.Rows L2
/-! ### sizes of ints -/
abbrev bitsI (x : Int) : Nat := Builtin.Int.intBits x
theorem bits_lt (x : Int) : x.natAbs < 2 ^ bitsI x := natAbs_lt_pow_bits x
theorem bits_of {x : Int} {k : Nat} (h : x.natAbs < 2 ^ k) : bitsI x ≤ k := intBits_le h
theorem pow_mono {a b : Nat} (h : a ≤ b) : 2 ^ a ≤ 2 ^ b := Nat.pow_le_pow_right (by decide) h
theorem bits_add (x y : Int) {k : Nat} (hx : bitsI x ≤ k) (hy : bitsI y ≤ k) : bitsI (x + y) ≤ k + 1 := by
  refine bits_of ?_
  have h1 := Nat.lt_of_lt_of_le (bits_lt x) (pow_mono hx)
  have h2 := Nat.lt_of_lt_of_le (bits_lt y) (pow_mono hy)
  have h3 : (2 : Nat) ^ (k + 1) = 2 ^ k + 2 ^ k := by rw [Nat.pow_succ]; omega
  rw [h3]
  generalize (2 : Nat) ^ k = z at *
  omega
theorem bits_mul (x y : Int) {a b : Nat} (hx : bitsI x ≤ a) (hy : bitsI y ≤ b) : bitsI (x * y) ≤ a + b := by
  refine bits_of ?_
  rw [Int.natAbs_mul, Nat.pow_add]
  exact Nat.mul_lt_mul'' (Nat.lt_of_lt_of_le (bits_lt x) (pow_mono hx)) (Nat.lt_of_lt_of_le (bits_lt y) (pow_mono hy))
theorem bits_le {x y : Int} (h0 : 0 ≤ x) (h : x ≤ y) : bitsI x ≤ bitsI y := bits_of (Nat.lt_of_le_of_lt (by omega) (bits_lt y))
theorem bits_div {x y : Int} (h0 : 0 ≤ x) (h : 0 < y) : bitsI (x / y) ≤ bitsI x :=
  bits_le (Int.ediv_nonneg h0 (by omega)) (Int.ediv_le_self _ h0)
theorem mulOk {x y : Int} (h : bitsI x + bitsI y ≤ 100000000) : IntMulOk x y := by
  unfold IntMulOk
  intro z
  rw [Bool.and_eq_true] at z
  have z2 := z.2
  unfold Builtin.Int.intTooBig at z2
  have z3 := of_decide_eq_true z2
  have e : bitsLine = 134217728 := by decide
  rw [e] at z3
  have h' : Builtin.Int.intBits x + Builtin.Int.intBits y ≤ 100000000 := h
  omega
theorem op_mulB {X : Cx} : OpR X (binaryOp .Mult) (rI IntMulOk fun i j => .int (i * j)) := opI fun _ _ _ _ _ _ _ hc q => mul_int q hc
/-- small ones -/
theorem bits_small {x : Int} {k : Nat} (h : x.natAbs < 2 ^ k) : bitsI x ≤ k := bits_of h
theorem mulS {x y : Int} (hx : x.natAbs < 2 ^ 64) : IntMulOk x y := .of_left (bits_of hx)
theorem mulS' {x y : Int} (hy : y.natAbs < 2 ^ 64) : IntMulOk x y := .of_right (bits_of hy)
theorem divW {x y : Int} (h : 0 < y) (hy : y.natAbs < 2 ^ 200) : CDivW x y := wide_div h hy (by decide) (by decide)
theorem powW {x : Int} {n : Int} {k : Nat} (hn : 0 ≤ n) (h : bitsI x ≤ k) (hk : (k : Int) * n ≤ 100000000) : CPowW x n := by
  refine ⟨hn, ?_⟩
  have h1 : (bitsI x : Int) ≤ k := by omega
  have h2 : (bitsI x : Int) * n ≤ (k : Int) * n := Int.mul_le_mul_of_nonneg_right h1 hn
  have e : (2 : Int) ^ 27 = 134217728 := by decide
  rw [e]
  show (bitsI x : Int) * n ≤ 134217728
  omega
theorem itd {c A B : Prop} [Decidable c] (h1 : c → A) (h2 : ¬ c → B) : if decide c = true then A else B := by
  by_cases h : c
  · rw [if_pos (decide_eq_true h)]; exact h1 h
  · rw [if_neg (by simp [h])]; exact h2 h
theorem itn {c A B : Prop} [Decidable c] (h1 : ¬ c → A) (h2 : c → B) : if (!decide c) = true then A else B := by
  by_cases h : c
  · rw [if_neg (by simp [h])]; exact h2 h
  · rw [if_pos (by simp [h])]; exact h1 h
/-! ### the draws -/
structure PipeIs (a b c : Int) (n : Nat) : Prop where
  a0 : 0 ≤ a
  ab : bitsI a ≤ 1048577
  bb : bitsI b ≤ 1048600
  c0 : 0 ≤ c
  cn : c ≤ n
def PipeAt (H : Hp) (p : Addr) (n : Nat) : Prop := ∃ a b c, H p = some (.lst [.int a, .int b, .int c]) ∧ PipeIs a b c n
/-- all but p is as it was -/
def But (p : Addr) (H H' : Hp) : Prop := ∀ b, b ≠ p → H' b = H b
theorem But.refl (p : Addr) (H : Hp) : But p H H := fun _ _ => rfl
theorem But.trans {p : Addr} {H H1 H2 : Hp} (a : But p H H1) (b : But p H1 H2) : But p H H2 := fun c n => (b c n).trans (a c n)
theorem But.upd {p : Addr} {H H' : Hp} {o : HO} (a : But p H H') : But p H (L2.upd H' p o) := fun c n => (upd_ne n).trans (a c n)
theorem PipeAt.some {H : Hp} {p : Addr} {n : Nat} (h : PipeAt H p n) : H p ≠ none := by obtain ⟨a, b, c, e, _⟩ := h; rw [e]; simp
theorem PipeAt.up {H H' : Hp} {p : Addr} {n : Nat} (h : PipeAt H p n) (e : Ex H H') : PipeAt H' p n := by obtain ⟨a, b, c, z, i⟩ := h; exact ⟨a, b, c, e _ _ z, i⟩
theorem PipeAt.mono {H : Hp} {p : Addr} {n m : Nat} (h : PipeAt H p n) (e : n ≤ m) : PipeAt H p m := by obtain ⟨a, b, c, z, i⟩ := h; exact ⟨a, b, c, z, i.a0, i.ab, i.bb, i.c0, by have := i.cn; omega⟩
theorem PipeAt.upd {H : Hp} {p q : Addr} {n : Nat} {o : HO} (h : PipeAt H p n) (ne : p ≠ q) : PipeAt (L2.upd H q o) p n := by obtain ⟨a, b, c, z, i⟩ := h; exact ⟨a, b, c, (upd_ne ne).trans z, i⟩
/-- what calls with the pipe leave: all but the pipe stands, as data and as it is -/
structure Dr (p : Addr) (H H' : Hp) : Prop where
  up : ∀ b o, b ≠ p → H b = some o → H' b = some o
theorem Dr.refl (p : Addr) (H : Hp) : Dr p H H := ⟨fun _ _ _ h => h⟩
theorem Dr.trans {p : Addr} {H H1 H2 : Hp} (a : Dr p H H1) (b : Dr p H1 H2) : Dr p H H2 := ⟨fun c o n h => b.up c o n (a.up c o n h)⟩
theorem Dr.of {p : Addr} {H H' : Hp} (e : Ex H H') : Dr p H H' := ⟨fun b o _ h => e b o h⟩
theorem Dr.but {p : Addr} {H H' : Hp} (e : But p H H') : Dr p H H' := ⟨fun b o n h => (e b n).trans h⟩
theorem Dr.eh {p : Addr} {H H' : Hp} {S : List Addr} (e : Dr p H H') (m : p ∈ S) : Eh H S H' S := fun a o h => hide_of (e.up a o (fun z => (of_hide h).2 (z ▸ m)) (of_hide h).1) (of_hide h).2
theorem Dr.al {p : Addr} {H H' : Hp} {S : List Addr} (e : Dr p H H') (hp : H' p ≠ none) (al : Al S H) : Al S H' := fun s hs => by
  by_cases q : s = p
  · rw [q]; exact hp
  · cases z : H s with
    | none => exact absurd z (al s hs)
    | some o => rw [e.up s o q z]; simp
def spTune : Sp := fun vs H Q _ => vs.length = 2 ∧ ∃ p m n, vs = [.ref p, .int m] ∧ PipeAt H p n ∧ n < 2 ^ 40 ∧ 0 < m ∧ m.natAbs < 2 ^ 200 ∧
  ∀ t H', 0 ≤ t → t < m → But p H H' → PipeAt H' p (n + 1) → Q (.int t) H'
/-- a draw below m, the pipe first in slot 0 .. -/
theorem tune_bits {b c : Int} {n : Nat} (hb : bitsI b ≤ 1048600) (h0 : 0 ≤ c) (hc : c ≤ n) (hn : n ≤ 2 ^ 40) : bitsI (b + 49979687 * c + 32452867 * c * c) ≤ 1048602 := by
  have hcb : bitsI c ≤ 41 := bits_of (by omega)
  have h1 : bitsI (49979687 * c) ≤ 67 := bits_mul _ _ (a := 26) (bits_of (by decide)) hcb
  have h2 : bitsI (32452867 * c * c) ≤ 107 := bits_mul _ _ (a := 66) (bits_mul _ _ (a := 25) (bits_of (by decide)) hcb) hcb
  exact bits_add _ _ (k := 1048601) (bits_add _ _ (k := 1048600) hb (by omega)) (by omega)
theorem pipe_bits {z : Int} {i : Int} (hz : bitsI z ≤ 1048576) (h0 : 0 ≤ i) (hi : i ≤ 100) : bitsI (17 * z + 86028121 * i + 20127115594067) ≤ 1048600 := by
  have h1 : bitsI (17 * z) ≤ 1048581 := by
    have := bits_mul 17 z (a := 5) (bits_of (by decide)) hz
    omega
  have h2 : bitsI (86028121 * i) ≤ 34 := bits_mul _ _ (a := 27) (b := 7) (bits_of (by decide)) (bits_of (by omega))
  have h3 : bitsI 20127115594067 ≤ 45 := bits_of (by decide)
  have h4 := bits_add (17 * z) (86028121 * i) (k := 1048581) h1 (by omega)
  have h5 := bits_add (17 * z + 86028121 * i) 20127115594067 (k := 1048582) h4 (by omega)
  omega
theorem left_bits {z : Int} (hz : bitsI z ≤ 1048576) : bitsI (if z - 10 ^ 18 > 0 then z - 10 ^ 18 else 0) ≤ 1048577 := by
  have h1 : bitsI (-(10 ^ 18 : Int)) ≤ 60 := bits_of (by decide)
  have h2 := bits_add z (-(10 ^ 18)) (k := 1048576) hz (by omega)
  rw [← Int.sub_eq_add_neg] at h2
  split
  · exact h2
  · have : bitsI (0 : Int) ≤ 0 := bits_of (by decide)
    omega
end Kx

namespace Kx
open PySem PySem.Spec PyProof.Rows L2
/-! ### calls by name -/
/-- the places idx of a list, in that order -/
def pick {α : Type} (idx : List Nat) (l : List α) : List α := idx.filterMap fun j => l[j]?
theorem vals_none : ∀ {xs : List V} {us : List Value} {j : Nat}, Vals xs us → xs[j]? = none → us[j]? = none := fun r e => r.none_of e
theorem vals_pick {xs : List V} {us : List Value} (r : Vals xs us) : ∀ idx : List Nat, Vals (pick idx xs) (pick idx us)
  | [] => .nil
  | j :: js => by
    have ih := vals_pick r js
    unfold pick at ih ⊢
    cases hx : xs[j]? with
    | none => rw [List.filterMap_cons_none hx, List.filterMap_cons_none (r.none_of hx)]; exact ih
    | some x =>
      obtain ⟨u, hu, ru⟩ := r.get hx
      rw [List.filterMap_cons_some hx, List.filterMap_cons_some hu]
      exact .cons ru ih
structure KwB (K : PySem.W.Frag) (fd : FuncData) (ps ks : List Str) (n : Nat) (idx : List Nat) : Prop where
  to : ∀ (s : Shared) (us ws : List Value), us.length = n → ws.length = ks.length → BindsTo s fd ⟨us, ks.zip ws⟩ (ps.zip (pick idx (us ++ ws)))
theorem kwb {K : PySem.W.Frag} {x qual : Str} {st : Stmt} {f : Addr} {fd : FuncData} {ps ks : List Str} {n : Nat} {idx : List Nat} (F : Fun K x qual st f fd)
    (h : ∀ (kV doc pm : Value) (an : Option Addr) (cdv ct : Value) (us ws : List Value), us.length = n → ws.length = ks.length → bindArgs (PySem.W.fnOf x qual (defArgs st) (defBody st) (defScope st) .none kV doc pm an cdv ct) ⟨us, ks.zip ws⟩ = pure (ps.zip (pick idx (us ++ ws)))) :
    KwB K fd ps ks n idx := by
  obtain ⟨oc, od, kV, doc, pm, an, cdv, ct, osl, rfl, lk, hcd⟩ := F.ex
  exact ⟨fun s us ws h1 h2 => .of_eq (h kV doc pm an cdv ct us ws h1 h2)⟩
def tCallW (sp : Sp) (idx : List Nat) (n m : Nat) (E : XK) (t tk : TA) : TE := fun σ H Q => t σ H fun vs H1 => tk σ H1 fun zs H2 => vs.length = n ∧ zs.length = m ∧ sp (pick idx (vs ++ zs)) H2 Q E
section
variable {X : Cx} {CX : CXT} {k n : Nat} {f : Addr} {fd : FuncData} {ps ks : List Str} {sp : Sp} {E : XK} {x : Str} {p pos : Pos} {e : Expr} {es : List Expr} {kws : List Keyword} {t tk : TA} {idx : List Nat}
theorem runW {pins : List (Addr × Obj)} {σ : L2.St} {H : Hp} {s : Shared} {Q : VK} {us ws : List Value} {vs zs : List V} (F : FnG X.prog X.w X.K X.mg X.base CX k f fd ps sp) (gu : X.A.guards = some []) (hr : Room k X.A)
    (hb : KwB X.K fd ps ks n idx) (hx : Passes CX X E) (I : Inv X pins σ H s) (r : Vals vs us) (rz : Vals zs ws) (l1 : vs.length = n) (l2 : zs.length = ks.length) (h : sp (pick idx (vs ++ zs)) H Q E) :
    wpAny (model X.prog X.w) X.A (call (.ref f) us (ks.zip ws)) (EP X pins σ Q) X.xe s := by
  have c := F.go X.A X.stack s H ⟨us, ks.zip ws⟩ (pick idx (us ++ ws)) (pick idx (vs ++ zs)) Q E gu hr I.env0 (hb.to s us ws (r.length.symm.trans l1) (rz.length.symm.trans l2)) (vals_pick (r.append rz) idx) h
  refine wpAny_call (codeAny_mono c fun res s' z => ?_)
  match res, z with
  | .error e, z => exact hx pins σ H s e s' I z
  | .ok (.ret u), z => exact I.after z
/-- f(k = v, ..) -/
theorem pe_callW0 (F : FnG X.prog X.w X.K X.mg X.base CX k f fd ps sp) (gu : X.A.guards = some []) (hr : Room k X.A) (hg : Gl X x) (hm : X.mg x = some (.ref f)) (kp : PySem.W.keepIn X.K (.ref f) = true)
    (hb : KwB X.K fd ps ks 0 idx) (hx : Passes CX X E) (hkw : PK X kws tk) (h1 : (backToKw pos (keywordEach kws X.env)).all (·.1.isSome) = true := by rfl) (h2 : (backToKw pos (keywordEach kws X.env)).filterMap (·.1) = ks := by rfl)
    (nd : (x == ("__debug__" : Str)) = false := by decide) (pl : ((backTo pos (starEach [] X.env)).any (·.1) || (backToKw pos (keywordEach kws X.env)).any (·.1.isNone)) = false := by rfl) :
    PE X (.Call (.Name x p) [] kws pos) (tCallW sp idx 0 ks.length E tNil tk) := by
  refine ⟨fun pins s σ H Q I h => wpAny_Call_Name_kw (ld_glob I hg hm (PySem.W.callWith_KW0 (h₀ := X.base) I.ok.mod.kin kp h1 (thn (hkw.run pos pins s σ H _ I h) fun ws s2 ⟨zs, H2, I2, rz, l1, l2, q2⟩ => ⟨I2.kIn, ?_⟩) pl) nd)⟩
  rw [h2]
  exact runW (us := []) (vs := []) F gu hr hb hx I2 .nil rz rfl l2 q2
/-- f(e, .., k = v, ..) -/
theorem pe_callW (F : FnG X.prog X.w X.K X.mg X.base CX k f fd ps sp) (gu : X.A.guards = some []) (hr : Room k X.A) (hg : Gl X x) (hm : X.mg x = some (.ref f)) (kp : PySem.W.keepIn X.K (.ref f) = true)
    (hb : KwB X.K fd ps ks n idx) (hx : Passes CX X E) (ha : PA X (e :: es) t) (hkw : PK X kws tk) (h1 : (backToKw pos (keywordEach kws X.env)).all (·.1.isSome) = true := by rfl) (h2 : (backToKw pos (keywordEach kws X.env)).filterMap (·.1) = ks := by rfl)
    (nd : (x == ("__debug__" : Str)) = false := by decide) (st : starEach (e :: es) X.env = (false, eval e X.env) :: starEach es X.env := by rfl)
    (pl : ((backTo pos (starEach (e :: es) X.env)).any (·.1) || (backToKw pos (keywordEach kws X.env)).any (·.1.isNone)) = false := by rfl) :
    PE X (.Call (.Name x p) (e :: es) kws pos) (tCallW sp idx n ks.length E t tk) := by
  refine ⟨fun pins s σ H Q I h => wpAny_Call_Name_kw (ld_glob I hg hm (PySem.W.callWith_KW (h₀ := X.base) I.ok.mod.kin kp h1 (thn (ha.run pos pins s σ H _ I h) fun us s1 ⟨vs, H1, I1, r, q⟩ => ?_) pl st) nd)⟩
  refine thn (hkw.run pos pins s1 σ H1 _ I1 q) fun ws s2 ⟨zs, H2, I2, rz, l1, l2, q2⟩ => ⟨I2.kIn, ?_⟩
  rw [h2]
  exact runW F gu hr hb hx I2 r rz l1 l2 q2
end
section
variable {K : PySem.W.Frag} {S : List Addr} {σ : L2.St} {H : Hp} {tas tbs : TA} {ds es : List PyData} {d : PyData}
theorem ed_callW {n m : Nat} {idx : List Nat} {j : Nat} {f : List PyData → PyData → Prop} {E : XK} (h : EdA K S tas σ H ds) (h' : EdA K S tbs σ H es) (hn : ds.length = n) (hm : es.length = m) (hj : (pick idx (ds ++ es)).length = j) (hf : f (pick idx (ds ++ es)) d) :
    Ed K S (tCallW (spP K j f) idx n m E tas tbs) σ H d := fun al H1 e Q q =>
  h al H1 e _ fun vs H2 e2 dv => h' al H2 (e.trans e2) _ fun ws H3 e3 dw => by
    have all : DdAll K (hide H3 S) (vs ++ ws) (ds ++ es) := (dv.up (eh_of e3)).app dw
    have pk : ∀ idx : List Nat, DdAll K (hide H3 S) (pick idx (vs ++ ws)) (pick idx (ds ++ es)) := by
      intro idx
      induction idx with
      | nil => exact .nil
      | cons a as ih =>
        unfold pick at ih ⊢
        cases hx : (ds ++ es)[a]? with
        | none =>
          have hv : (vs ++ ws)[a]? = none := by
            rw [List.getElem?_eq_none_iff] at hx ⊢
            rw [all.len]; exact hx
          rw [List.filterMap_cons_none hx, List.filterMap_cons_none hv]
          exact ih
        | some y =>
          obtain ⟨v, hv, dv⟩ := all.get hx
          rw [List.filterMap_cons_some hx, List.filterMap_cons_some hv]
          exact .cons dv ih
    exact ⟨by rw [dv.len, hn], by rw [dw.len, hm], by rw [(pk idx).len]; exact hj, S, _, d, al.up (e.trans (e2.trans e3)), pk idx, hf, fun v H4 e4 d4 => q v H4 (e2.trans (e3.trans e4)) d4⟩
end
end Kx

namespace Kx
open PySem PySem.Spec PyProof.Rows L2
/-! ### how long a repr is -/
mutual
/-- no dicts; ints and texts of a common size -/
def fine : PyData → Bool
  | .none => true
  | .bool _ => true
  | .int i => decide (i.natAbs.log2 < 1900)
  | .str x => PyData.strOk x && x.cps.toList.all fun c => decide (c < 16 ^ 8)
  | .list xs => fineAll xs
  | .tuple xs => fineAll xs
  | .dict _ => false
def fineAll : List PyData → Bool
  | [] => true
  | x :: xs => fine x && fineAll xs
end
mutual
def Wt : PyData → Nat
  | .none => 5
  | .bool _ => 5
  | .int _ => 2000
  | .str x => 10 * x.length + 2
  | .list xs => 3 + WtAll xs
  | .tuple xs => 3 + WtAll xs
  | .dict _ => 0
def WtAll : List PyData → Nat
  | [] => 0
  | x :: xs => Wt x + 2 + WtAll xs
end
mutual
theorem fine_len : ∀ d : PyData, fine d = true → d.shown.length ≤ Wt d
  | .none, _ => by simp only [PyData.shown, Wt]; decide +kernel
  | .bool b, _ => by simp only [PyData.shown, Wt]; cases b <;> decide +kernel
  | .int i, h => by
    simp only [PyData.shown, Wt]
    have h1 : i.natAbs.log2 < 1900 := by simpa [fine] using h
    have h2 := int_text_length_le (k := 1900) (by decide) h1
    show (Str.ofString (toString i)).length ≤ 2000
    rw [PySem.ofString_length]
    omega
  | .str x, h => by
    simp only [PyData.shown, Wt]
    refine StrLaws.reprText_len x fun c hc => ?_
    simp only [fine, List.all_eq_true, decide_eq_true_eq, Bool.and_eq_true] at h
    exact h.2 c hc
  | .list xs, h => by
    simp only [PyData.shown, Wt]
    have h1 := fine_lenAll xs (by simpa [fine] using h)
    have h2 := listText_len_le (PyData.shownAll xs)
    omega
  | .tuple xs, h => by
    simp only [PyData.shown, Wt]
    have h1 := fine_lenAll xs (by simpa [fine] using h)
    have h2 := tupleText_len_le (PyData.shownAll xs)
    omega
  | .dict _, h => by simp [fine] at h
theorem fine_lenAll : ∀ ds : List PyData, fineAll ds = true → ((PyData.shownAll ds).map (·.length)).sum + 2 * (PyData.shownAll ds).length ≤ WtAll ds
  | [], _ => by simp [PyData.shownAll, WtAll]
  | x :: xs, h => by
    simp only [fineAll, Bool.and_eq_true] at h
    have h1 := fine_len x h.1
    have h2 := fine_lenAll xs h.2
    simp only [PyData.shownAll, WtAll, List.map_cons, List.sum_cons, List.length_cons]
    omega
end
mutual
theorem fine_showable : ∀ d : PyData, fine d = true → d.showable = true
  | .none, _ => rfl
  | .bool _, _ => rfl
  | .int i, h => by
    have h1 : i.natAbs.log2 < 1900 := by simpa [fine] using h
    simp only [PyData.showable, decide_eq_true_eq]
    omega
  | .str x, _ => rfl
  | .list xs, h => by simp only [PyData.showable]; exact fine_showableAll xs (by simpa [fine] using h)
  | .tuple xs, h => by simp only [PyData.showable]; exact fine_showableAll xs (by simpa [fine] using h)
  | .dict _, h => by simp [fine] at h
theorem fine_showableAll : ∀ ds : List PyData, fineAll ds = true → PyData.showableAll ds = true
  | [], _ => rfl
  | x :: xs, h => by
    simp only [fineAll, Bool.and_eq_true] at h
    simp only [PyData.showableAll, fine_showable x h.1, fine_showableAll xs h.2, Bool.and_self]
end
mutual
theorem fine_lay : ∀ d : PyData, fine d = true → d.canLay0 = true
  | .none, _ => by simp [PyData.canLay0]
  | .bool _, _ => by simp [PyData.canLay0]
  | .int i, h => by simp [PyData.canLay0]
  | .str x, h => by
    simp only [fine, Bool.and_eq_true] at h
    simp only [PyData.canLay0, h.1]
  | .list xs, h => by simp only [PyData.canLay0]; exact fine_layAll xs (by simpa [fine] using h)
  | .tuple xs, h => by simp only [PyData.canLay0]; exact fine_layAll xs (by simpa [fine] using h)
  | .dict _, h => by simp [fine] at h
theorem fine_layAll : ∀ ds : List PyData, fineAll ds = true → PyData.canLayAll0 ds = true
  | [], _ => by simp [PyData.canLayAll0]
  | x :: xs, h => by
    simp only [fineAll, Bool.and_eq_true] at h
    simp only [PyData.canLayAll0, fine_lay x h.1, fine_layAll xs h.2, Bool.and_self]
end
theorem reprOk {d : PyData} (h : fine d = true) (hd : d.depth ≤ 60) (hw : Wt d ≤ 16000000) : ReprOk d :=
  ⟨fine_showable d h, PyData.hasDict_of_canLay d (fine_lay d h), hd, Nat.le_trans (fine_len d h) (Nat.le_trans hw (by rw [sizeLine_eq]; decide))⟩
theorem shapedOk {d : PyData} (h : fine d = true) (hd : d.depth ≤ 60) : SeqAt.shaped d = true := by
  show (d.canLay0 && decide (d.depth ≤ 64)) = true
  rw [fine_lay d h, decide_eq_true (by omega)]; rfl
mutual
theorem eqv_self : ∀ d : PyData, fine d = true → PyData.eqv d d = true
  | .none, _ => by simp [PyData.eqv]
  | .bool b, _ => by simp [PyData.eqv]
  | .int i, _ => by simp [PyData.eqv]
  | .str x, _ => by simp [PyData.eqv]
  | .list xs, h => by simp only [PyData.eqv]; exact eqv_selfAll xs (by simpa [fine] using h)
  | .tuple xs, h => by simp only [PyData.eqv]; exact eqv_selfAll xs (by simpa [fine] using h)
  | .dict _, h => by simp [fine] at h
theorem eqv_selfAll : ∀ ds : List PyData, fineAll ds = true → PyData.eqvAll ds ds = true
  | [], _ => by simp [PyData.eqvAll]
  | x :: xs, h => by
    simp only [fineAll, Bool.and_eq_true] at h
    simp only [PyData.eqvAll, eqv_self x h.1, eqv_selfAll xs h.2, Bool.and_self]
end
/-! ### ratios -/
abbrev Rt := Int × Int × Int
def ratD (r : Rt) : PyData := .tuple [.int r.1, .int r.2.1, .int r.2.2]
def Rt.add (a b : Rt) : Rt := (a.1 + b.1, a.2.1 + b.2.1, a.2.2 + b.2.2)
def Rt.sub (a b : Rt) : Rt := (a.1 - b.1, a.2.1 - b.2.1, a.2.2 - b.2.2)
/-- exponents of at most B -/
def Rt.le (r : Rt) (B : Int) : Prop := (-B ≤ r.1 ∧ r.1 ≤ B) ∧ (-B ≤ r.2.1 ∧ r.2.1 ≤ B) ∧ (-B ≤ r.2.2 ∧ r.2.2 ≤ B)
theorem log_small {i : Int} (h : -(10 ^ 9) ≤ i ∧ i ≤ 10 ^ 9) : i.natAbs.log2 < 1900 := by
  have h1 : i.natAbs < 2 ^ 31 := by omega
  by_cases z : i.natAbs = 0
  · rw [z]; decide
  · exact Nat.lt_of_lt_of_le ((Nat.log2_lt z).mpr h1) (by decide)
theorem rat_fine {r : Rt} (h : r.le (10 ^ 9)) : fine (ratD r) = true := by
  simp only [ratD, fine, fineAll, Bool.and_true, Bool.and_eq_true, decide_eq_true_eq]
  exact ⟨log_small h.1, log_small h.2.1, log_small h.2.2⟩
theorem rat_depth (r : Rt) : (ratD r).depth = 1 := by simp [ratD, PyData.depth, PyData.depthAll]
theorem rat_wt (r : Rt) : Wt (ratD r) = 6009 := by simp [ratD, Wt, WtAll]
theorem rat_eqv (a b : Rt) : PyData.eqv (ratD a) (ratD b) = decide (a = b) := by
  obtain ⟨a1, a2, a3⟩ := a
  obtain ⟨b1, b2, b3⟩ := b
  simp only [ratD, PyData.eqv, PyData.eqvAll, Bool.and_true]
  rw [Bool.eq_iff_iff]
  simp only [Bool.and_eq_true, beq_iff_eq, decide_eq_true_eq, Prod.mk.injEq]
end Kx
namespace Kx
open PySem PySem.Spec PyProof.Rows L2
/-- _law_pipe(script, place): a new pipe -/
def spPipe (K : PySem.W.Frag) : Sp := fun vs H Q _ => vs.length = 2 ∧ ∃ (a : Addr) (i : Int) (ns : List Int), vs = [.ref a, .int i] ∧ SqL K H a (ns.map V.int) ∧ ns.length ≤ 63 ∧ (∀ z ∈ ns, Builtin.Int.intBits z ≤ 1048576) ∧ 0 ≤ i ∧ i ≤ 63 ∧
  ∀ p H', H p = none → But p H H' → PipeAt H' p 0 → Q (.ref p) H'
end Kx
namespace Kx
open PySem PySem.Spec PyProof.Rows L2
theorem Dr.some {p : Addr} {H H' : Hp} (e : Dr p H H') {b : Addr} {o : HO} (n : b ≠ p) (h : H b = some o) : H' b = some o := e.up b o n h
theorem PipeAt.ne {H : Hp} {p q : Addr} {n : Nat} (h : PipeAt H p n) (hq : H q = none) : q ≠ p := fun z => h.some (z ▸ hq)
/-- tuple([draw - m for .. in range(3)]) -/
def spDrawn (K : PySem.W.Frag) : Sp := fun vs H Q _ => vs.length = 2 ∧ ∃ p m n, vs = [.ref p, .int m] ∧ PipeAt H p n ∧ n + 3 < 2 ^ 40 ∧ 0 ≤ m ∧ m ≤ 1000000 ∧
  ∀ v r H', Rt.le r m → Dr p H H' → PipeAt H' p (n + 3) → (∀ S, Al S H → p ∈ S → Dd K (hide H' S) v (ratD r)) → Q v H'
end Kx
namespace Kx
open PySem PySem.Spec PyProof.Rows L2
theorem Dr.new {p : Addr} {H H' : Hp} (e : Dr p H H') {D : Addr} {o : HO} (n : H D = none) : Dr p H (upd H' D o) := ⟨fun b u nb h => (upd_ne (ne_of_none h n)).trans (e.up b u nb h)⟩
theorem yes_go {σ : L2.St} {H : Hp} {A B : Hp → Prop} (h : A H) : tYes σ H fun b H3 => if b = true then A H3 else B H3 := iteT (A := A H) (B := B H) h
theorem len3 {xs : List Int} (h : xs.length = 3) : ∃ a b c, xs = [a, b, c] := match xs, h with | [a, b, c], _ => ⟨a, b, c, rfl⟩
end Kx

namespace Kx
open PySem PySem.Spec PyProof.Rows L2
/-! ### draws in a body -/
section
variable {K : PySem.W.Frag} {S : List Addr} {σ : L2.St} {H : Hp} {te tl : TE} {tas : TA} {p : Addr} {n : Nat} {m : Int} {i : Nat} {Q : VK} {ds : List PyData}
theorem go_tune (hp : σ[i]? = some (some (.ref p))) (hm : Ed K S te σ H (.int m)) (al : Al S H) (pt : PipeAt H p n) (hn : n < 2 ^ 40) (m0 : 0 < m) (m1 : m.natAbs < 2 ^ 200)
    (k : ∀ t H1, 0 ≤ t → t < m → Dr p H H1 → PipeAt H1 p (n + 1) → Q (.int t) H1) : tCall spTune [] E0 (tCons (tVar i) (tCons te tNil)) σ H Q := by
  refine ⟨_, hp, hm al H (Ex.refl _) _ fun v H2 e2 dv => ?_⟩
  rw [dd_int dv]
  exact ⟨rfl, p, m, n, rfl, pt.up e2, hn, m0, m1, fun t H1 t0 t1 bt pt1 => k t H1 t0 t1 ((Dr.of e2).trans (Dr.but bt)) pt1⟩
theorem go_drawn (hp : σ[i]? = some (some (.ref p))) (hm : Ed K S te σ H (.int m)) (al : Al S H) (pt : PipeAt H p n) (hn : n + 3 < 2 ^ 40) (m0 : 0 ≤ m) (m1 : m ≤ 1000000) (mp : p ∈ S)
    (k : ∀ v r H1, Rt.le r m → Dr p H H1 → PipeAt H1 p (n + 3) → Dd K (hide H1 S) v (ratD r) → Q v H1) : tCall (spDrawn K) [] E0 (tCons (tVar i) (tCons te tNil)) σ H Q := by
  refine ⟨_, hp, hm al H (Ex.refl _) _ fun v H2 e2 dv => ?_⟩
  rw [dd_int dv]
  exact ⟨rfl, p, m, n, rfl, pt.up e2, hn, m0, m1, fun t r H1 hr d1 pt1 dd => k t r H1 hr ((Dr.of e2).trans d1) pt1 (dd S (al.up e2) mp)⟩
theorem atI_int {α : Type} {xs : List α} {t : Int} (h0 : 0 ≤ t) (h1 : t < xs.length) : ∃ x ∈ xs, atI xs t = some x := by
  obtain ⟨j, rfl⟩ : ∃ j : Nat, t = (j : Int) := ⟨t.toNat, by omega⟩
  have hj : j < xs.length := by omega
  exact ⟨xs[j], List.getElem_mem hj, atI_nat (List.getElem?_eq_getElem hj)⟩
/-- [..][a draw] -/
theorem go_menu (hp : σ[i]? = some (some (.ref p))) (hl : Ed K S tl σ H (.list ds)) (al : Al S H) (mp : p ∈ S) (pt : PipeAt H p n) (hn : n < 2 ^ 40) (hm : m = (ds.length : Int)) (m0 : 0 < m) (m1 : m.natAbs < 2 ^ 200)
    (k : ∀ v d H1, d ∈ ds → Dr p H H1 → PipeAt H1 p (n + 1) → Dd K (hide H1 S) v d → Q v H1) : tOp (rIxL K) tl (tCall spTune [] E0 (tCons (tVar i) (tCons (tC (.int m)) tNil))) σ H Q :=
  hl al H (Ex.refl _) _ fun v H2 e2 dv => by
    obtain ⟨a, xs, rfl, hs, ha⟩ := dd_ref dv
    refine go_tune (K := K) (S := S) hp ed_int (al.up e2) (pt.up e2) hn m0 m1 fun t H1 t0 t1 d1 pt1 => ?_
    obtain ⟨d, hd, hat⟩ := atI_int (xs := ds) t0 (by omega)
    have hs1 := d1.eh mp _ _ hs
    have ha1 := ha.up (d1.eh mp)
    unfold atI at hat
    cases hk : ixN ds.length t with
    | none => rw [hk] at hat; cases hat
    | some j =>
      rw [hk] at hat
      obtain ⟨u, hu, du⟩ := ha1.get (show ds[j]? = some d from hat)
      exact ⟨a, xs, t, u, rfl, rfl, SqL.of (of_hide hs1).1, by unfold atI; rw [ha1.len, hk]; exact hu, k u d H1 hd ((Dr.of e2).trans d1) pt1 du⟩
end
/-- Up to the pipe: the same data -/
theorem Dd.dr {K : PySem.W.Frag} {S : List Addr} {H H' : Hp} {p : Addr} {d : PyData} {v : V} (h : Dd K (hide H S) v d) (e : Dr p H H') (m : p ∈ S) : Dd K (hide H' S) v d := h.up (e.eh m)
theorem Dd.ex {K : PySem.W.Frag} {S : List Addr} {H H' : Hp} {d : PyData} {v : V} (h : Dd K (hide H S) v d) (e : Ex H H') : Dd K (hide H' S) v d := h.up (eh_of e)
/-- _law_fits(pipe) -/
def spFits : Sp := fun vs H Q _ => vs.length = 1 ∧ ∃ p, vs = [.ref p] ∧ PipeAt H p 0 ∧ ∀ H', Dr p H H' → Q (.bl true) H'
/-- law(script) -/
def spLaw (K : PySem.W.Frag) : Sp := fun vs H Q _ => vs.length = 1 ∧ ∃ (a : Addr) (ns : List Int), vs = [.ref a] ∧ SqL K H a (ns.map V.int) ∧ ns.length ≤ 63 ∧ (∀ z ∈ ns, Builtin.Int.intBits z ≤ 1048576) ∧ ∀ H', Q (.bl true) H'
theorem sql_dr {K : PySem.W.Frag} {H H' : Hp} {p a : Addr} {xs : List V} (h : SqL K H a xs) (e : ∀ b o, b ≠ p → H b = some o → H' b = some o) (n : a ≠ p ∨ H p = none) : SqL K H' a xs := by
  have ne : ∀ o, H a = some o → a ≠ p := fun o z => n.elim id fun q w => by rw [w, q] at z; cases z
  rcases h with (z | ⟨o, z⟩) | z
  · exact .inl (.inl (e _ _ (ne _ z) z))
  · exact .inl (.inr ⟨o, e _ _ (ne _ z) z⟩)
  · exact .inr z
end Kx
namespace Kx
open PySem PySem.Spec PyProof.Rows L2
/-! ### ways that join again -/
def tJoin (t u : TS) : TS := fun D σ H => ∃ M : L2.St → Hp → Prop, t { D with nx := M } σ H ∧ ∀ σ' H', M σ' H' → u D σ' H'
theorem pss_join {X : Cx} {st : Stmt} {rest : List Stmt} {t u : TS} (h1 : PS X st t) (h2 : PSs X rest u) : PSs X (st :: rest) (tJoin t u) := by
  refine ⟨fun pins s σ H D I ⟨M, a, b⟩ => wpAny_execs_cons (thn (h1.run pins s σ H _ I a) fun fl s1 z => ?_)⟩
  cases fl with
  | next =>
    obtain ⟨σ', H', J, q⟩ := z
    exact h2.run pins s1 σ' H' D J (b σ' H' q)
  | brk => exact z
  | cont => exact z
  | ret u => exact z
end Kx
namespace Kx
open PySem PySem.Spec PyProof.Rows L2
section
variable {K : PySem.W.Frag} {S : List Addr} {σ : L2.St} {H : Hp}
theorem et_yes : EdT S tYes σ H true := fun _ H1 e Q q => q H1 (Ex.refl _)
def negD : PyData → PyData
  | .int i => .int (-i)
  | d => d
def Rt.neg (a : Rt) : Rt := (-a.1, -a.2.1, -a.2.2)
/-- tuple([-number for number in r]) -/
theorem ed_neg {i k : Nat} {r : Rt} {v : V} (h : σ[i]? = some (some v)) (hd : Dd K (hide H S) v (ratD r)) (hk : ∀ x, wipe ((wipe σ [k]).set k (some x)) [k] = wipe σ [k]) (hs : ∀ x, ((wipe σ [k]).set k (some x))[k]? = some (some x)) :
    Ed K S (tThen (tLc (iTup K (tVar i)) (gName k) tYes (tUn (rU fun i => .int (-i)) (tVar k)) [k]) (kTup K)) σ H (ratD r.neg) := by
  refine ed_tupleL (ds := [.int (-r.1), .int (-r.2.1), .int (-r.2.2)]) ?_
  refine (ed_lc (f := negD) (kp := fun _ => true) (ei_tup (ed_var h hd)) (by decide : 3 ≤ 100000) fun S' Hx x j d eh al hd dx => ?_).is ?_
  · obtain ⟨z, rfl⟩ : ∃ z, d = PyData.int z := by
      have := List.mem_of_getElem? hd
      simp only [List.mem_cons, List.not_mem_nil, or_false] at this
      rcases this with e | e | e <;> exact ⟨_, e⟩
    exact ⟨_, fun Q q => q, hk x, et_yes, fun _ => ed_U (ed_var (hs x) dx)⟩
  · simp [negD]
theorem Rt.neg_le {r : Rt} {B : Int} (h : r.le B) : r.neg.le B := by
  obtain ⟨⟨a, b⟩, ⟨c, d⟩, e, f⟩ := h
  exact ⟨⟨by simp only [Rt.neg]; omega, by simp only [Rt.neg]; omega⟩, ⟨by simp only [Rt.neg]; omega, by simp only [Rt.neg]; omega⟩, by simp only [Rt.neg]; omega, by simp only [Rt.neg]; omega⟩
theorem Rt.le_mono {r : Rt} {B C : Int} (h : r.le B) (e : B ≤ C) : r.le C := by
  obtain ⟨⟨a, b⟩, ⟨c, d⟩, g, f⟩ := h
  exact ⟨⟨by omega, by omega⟩, ⟨by omega, by omega⟩, by omega, by omega⟩
theorem Rt.add_le {a b : Rt} {B C : Int} (h : a.le B) (h' : b.le C) : (a.add b).le (B + C) := by
  obtain ⟨⟨a1, a2⟩, ⟨a3, a4⟩, a5, a6⟩ := h
  obtain ⟨⟨b1, b2⟩, ⟨b3, b4⟩, b5, b6⟩ := h'
  exact ⟨⟨by simp only [Rt.add]; omega, by simp only [Rt.add]; omega⟩, ⟨by simp only [Rt.add]; omega, by simp only [Rt.add]; omega⟩, by simp only [Rt.add]; omega, by simp only [Rt.add]; omega⟩
theorem Rt.sub_le {a b : Rt} {B C : Int} (h : a.le B) (h' : b.le C) : (a.sub b).le (B + C) := by
  obtain ⟨⟨a1, a2⟩, ⟨a3, a4⟩, a5, a6⟩ := h
  obtain ⟨⟨b1, b2⟩, ⟨b3, b4⟩, b5, b6⟩ := h'
  exact ⟨⟨by simp only [Rt.sub]; omega, by simp only [Rt.sub]; omega⟩, ⟨by simp only [Rt.sub]; omega, by simp only [Rt.sub]; omega⟩, by simp only [Rt.sub]; omega, by simp only [Rt.sub]; omega⟩
end
/-- what is added and taken exponent by exponent, by places -/
theorem ed_add3 {K : PySem.W.Frag} {S : List Addr} {σ : L2.St} {H : Hp} {i j : Nat} {a b : Rt} {v w : V} (h : σ[i]? = some (some v)) (hd : Dd K (hide H S) v (ratD a)) (h' : σ[j]? = some (some w)) (hd' : Dd K (hide H S) w (ratD b)) :
    Ed K S (tTup (tCons (tOp (rI0 fun i j => .int (i + j)) (tOp (rIxT K) (tVar i) (tC (.int 0))) (tOp (rIxT K) (tVar j) (tC (.int 0)))) (tCons (tOp (rI0 fun i j => .int (i + j)) (tOp (rIxT K) (tVar i) (tC (.int 1))) (tOp (rIxT K) (tVar j) (tC (.int 1)))) (tCons (tOp (rI0 fun i j => .int (i + j)) (tOp (rIxT K) (tVar i) (tC (.int 2))) (tOp (rIxT K) (tVar j) (tC (.int 2)))) tNil)))) σ H (ratD (a.add b)) :=
  ed_tup (ea_cons (ed_I0 (ed_ixT (ed_var h hd) ed_int rfl) (ed_ixT (ed_var h' hd') ed_int rfl)) (ea_cons (ed_I0 (ed_ixT (ed_var h hd) ed_int rfl) (ed_ixT (ed_var h' hd') ed_int rfl)) (ea_cons (ed_I0 (ed_ixT (ed_var h hd) ed_int rfl) (ed_ixT (ed_var h' hd') ed_int rfl)) ea_nil))) (by decide : 3 ≤ 100000)
theorem ed_sub3 {K : PySem.W.Frag} {S : List Addr} {σ : L2.St} {H : Hp} {i j : Nat} {a b : Rt} {v w : V} (h : σ[i]? = some (some v)) (hd : Dd K (hide H S) v (ratD a)) (h' : σ[j]? = some (some w)) (hd' : Dd K (hide H S) w (ratD b)) :
    Ed K S (tTup (tCons (tOp (rI0 fun i j => .int (i - j)) (tOp (rIxT K) (tVar i) (tC (.int 0))) (tOp (rIxT K) (tVar j) (tC (.int 0)))) (tCons (tOp (rI0 fun i j => .int (i - j)) (tOp (rIxT K) (tVar i) (tC (.int 1))) (tOp (rIxT K) (tVar j) (tC (.int 1)))) (tCons (tOp (rI0 fun i j => .int (i - j)) (tOp (rIxT K) (tVar i) (tC (.int 2))) (tOp (rIxT K) (tVar j) (tC (.int 2)))) tNil)))) σ H (ratD (a.sub b)) :=
  ed_tup (ea_cons (ed_I0 (ed_ixT (ed_var h hd) ed_int rfl) (ed_ixT (ed_var h' hd') ed_int rfl)) (ea_cons (ed_I0 (ed_ixT (ed_var h hd) ed_int rfl) (ed_ixT (ed_var h' hd') ed_int rfl)) (ea_cons (ed_I0 (ed_ixT (ed_var h hd) ed_int rfl) (ed_ixT (ed_var h' hd') ed_int rfl)) ea_nil))) (by decide : 3 ≤ 100000)
/-- lists of ratios -/
theorem rats_fine : ∀ {rs : List Rt}, (∀ r ∈ rs, Rt.le r (10 ^ 9)) → fineAll (rs.map ratD) = true
  | [], _ => rfl
  | r :: rs, h => by
    rw [List.map_cons]
    simp only [fineAll, rat_fine (h r List.mem_cons_self), rats_fine fun x hx => h x (List.mem_cons_of_mem _ hx), Bool.and_self]
theorem rats_wt : ∀ rs : List Rt, WtAll (rs.map ratD) = 6011 * rs.length
  | [] => rfl
  | r :: rs => by simp only [List.map_cons, WtAll, rat_wt, rats_wt rs, List.length_cons]; omega
theorem rats_depth : ∀ rs : List Rt, PyData.depthAll (rs.map ratD) ≤ 1
  | [] => by simp [PyData.depthAll]
  | r :: rs => by
    have := rats_depth rs
    simp only [List.map_cons, PyData.depthAll, rat_depth]
    omega
theorem rats_repr {rs : List Rt} (h : ∀ r ∈ rs, Rt.le r (10 ^ 9)) (n : rs.length ≤ 2000) : ReprOk (.list (rs.map ratD)) := by
  refine reprOk (by simpa [fine] using rats_fine h) ?_ ?_
  · have := rats_depth rs
    simp only [PyData.depth]; omega
  · simp only [Wt, rats_wt]; omega
theorem rat_repr {r : Rt} (h : r.le (10 ^ 9)) : ReprOk (ratD r) := reprOk (rat_fine h) (by rw [rat_depth]; decide) (by rw [rat_wt]; decide)
theorem rat_shaped {r : Rt} (h : r.le (10 ^ 9)) : SeqAt.shaped (ratD r) = true := shapedOk (rat_fine h) (by rw [rat_depth]; decide)
end Kx
namespace Kx
open PySem PySem.Spec PyProof.Rows L2
theorem ne_shown {d e : PyData} (h : d = e) : (!decide (d.shown = e.shown)) = false := by rw [h]; simp
theorem eq_shown {d e : PyData} (h : d = e) : decide (d.shown = e.shown) = true := by rw [h]; simp
theorem ratsL_repr {rs : List Rt} {ds : List PyData} (e : ds = rs.map ratD) (h : ∀ r ∈ rs, Rt.le r 100000) (n : rs.length ≤ 2000) : ReprOk (.list ds) := by
  rw [e]; exact rats_repr (fun r hr => Rt.le_mono (h r hr) (by decide)) n
theorem rep_ok {n : Nat} {k : Int} (h : n ≤ 1000) (h0 : 0 ≤ k) (h1 : k ≤ 1000) : -(2 ^ 63) ≤ k ∧ k < 2 ^ 63 ∧ n * k.toNat ≤ sizeLine := by
  refine ⟨by omega, by omega, ?_⟩
  have e : k.toNat ≤ 1000 := by omega
  have := Nat.mul_le_mul h e
  rw [sizeLine_eq]; omega
end Kx
namespace Kx
open PySem PySem.Spec PyProof.Rows L2
def colD (xs ys : List Int) : PyData → PyData
  | .int q => .int (xs.getD q.toNat 0 + ys.getD q.toNat 0)
  | d => d
theorem atI_map {xs : List Int} {i : Nat} (h : i < xs.length) : atI (xs.map PyData.int) ((i : Nat) : Int) = some (.int (xs.getD i 0)) := by
  refine atI_nat ?_
  rw [List.getElem?_map, List.getElem?_eq_getElem h, List.getD_eq_getElem?_getD, List.getElem?_eq_getElem h]; rfl
/-- [xs[at] + ys[at] for at in range(n)] -/
theorem ed_cols {K : PySem.W.Frag} {S : List Addr} {σ : L2.St} {H : Hp} {i j k n : Nat} {xs ys : List Int} {v w : V} (lx : xs.length = n) (ly : ys.length = n) (hn : n ≤ 1000)
    (h : σ[i]? = some (some v)) (hd : Dd K (hide H S) v (.list (xs.map PyData.int))) (h' : σ[j]? = some (some w)) (hd' : Dd K (hide H S) w (.tuple (ys.map PyData.int)))
    (hk : ∀ x, wipe ((wipe σ [k]).set k (some x)) [k] = wipe σ [k]) (hs : ∀ x, ((wipe σ [k]).set k (some x))[k]? = some (some x)) (hi : ∀ x, ((wipe σ [k]).set k (some x))[i]? = some (some v)) (hj : ∀ x, ((wipe σ [k]).set k (some x))[j]? = some (some w)) :
    Ed K S (tLc (iRng1 (tCons (tC (.int (n : Nat))) tNil)) (gName k) tYes (tOp (rI0 fun i j => .int (i + j)) (tOp (rIxL K) (tVar i) (tVar k)) (tOp (rIxT K) (tVar j) (tVar k))) [k]) σ H (.list ((List.zipWith (· + ·) xs ys).map PyData.int)) := by
  refine (ed_lc (f := colD xs ys) (kp := fun _ => true) (ei_rng1 (ea_cons ed_int ea_nil) (by omega)) (by rw [rngD_len]; omega) fun S' Hx x q d eh al hq dx => ?_).is ?_
  · have hq' : q < n := by
      have := (List.getElem?_eq_some_iff.mp hq).1
      rw [rngD_len] at this; omega
    have e := rngD_get (lo := 0) (n := (n : Int).toNat) (i := q) (by omega)
    rw [hq] at e
    obtain rfl := Option.some.inj e
    rw [Int.zero_add] at dx
    refine ⟨_, fun Q q => q, hk x, et_yes, fun _ => ?_⟩
    rw [Int.zero_add]
    refine (ed_I0 (ed_ixL (ed_var (hi x) (hd.up eh)) (ed_var (hs x) dx) (atI_map (by omega))) (ed_ixT (ed_var (hj x) (hd'.up eh)) (ed_var (hs x) dx) (atI_map (by omega)))).is ?_
    simp [colD]
  · congr 1
    have e1 : ((n : Int)).toNat = n := by omega
    rw [e1, List.filter_eq_self.mpr (fun _ _ => rfl)]
    apply List.ext_getElem?
    intro q
    by_cases hq : q < n
    · rw [List.getElem?_map, rngD_get hq, List.getElem?_map, List.getElem?_zipWith]
      have hx : q < xs.length := by omega
      have hy : q < ys.length := by omega
      simp [colD, List.getElem?_eq_getElem hx, List.getElem?_eq_getElem hy, List.getD_eq_getElem?_getD]
    · rw [List.getElem?_eq_none (by rw [List.length_map, rngD_len]; omega), List.getElem?_eq_none (by rw [List.length_map, List.length_zipWith]; omega)]
def Rt.row (a : Rt) : List Int := [a.1, a.2.1, a.2.2]
theorem row_add (a b : Rt) : List.zipWith (· + ·) a.row b.row = (a.add b).row := rfl
theorem Rt.add_sub (a b : Rt) : (a.sub b).add b = a := by simp [Rt.sub, Rt.add]
theorem Rt.sub_add (a b : Rt) : (a.add b).sub b = a := by simp [Rt.sub, Rt.add]
theorem Rt.sub_self (a : Rt) : a.sub a = ((0, 0, 0) : Rt) := by simp [Rt.sub]
theorem ne_rat {a b : Rt} (h : a = b) : (!PyData.eqv (ratD a) (ratD b)) = false := by rw [h, rat_eqv]; simp
end Kx
namespace Kx
open PySem PySem.Spec PyProof.Rows L2
section
variable {K : PySem.W.Frag} {S : List Addr} {σ : L2.St} {H : Hp} {tt : TT} {D : Ends} {tz t1 : TS}
/-- if .. : what leaves; the rest where the test is known False -/
theorem qd_no (h : EdT S tt σ H false) (al : Al S H) (g : ∀ H1, Ex H H1 → tz D σ H1) : tSeq (tIfS tt t1 tNext) tz D σ H := h al H (Ex.refl _) _ fun H1 e => iteF (g H1 e)
end
end Kx
namespace Kx
open PySem PySem.Spec PyProof.Rows L2
section
variable {K : PySem.W.Frag} {S : List Addr} {σ : L2.St} {H : Hp} {te : TE} {g : TG} {d : PyData} {D : Ends} {tz : TS}
theorem qd_asgG (h : Ed K S te σ H d) (al : Al S H) (go : ∀ v H1, Ex H H1 → Dd K (hide H1 S) v d → g v σ H1 (tz D)) : tSeq (tAsg te g) tz D σ H := h al H (Ex.refl _) _ fun v H1 e dv => go v H1 e dv
theorem sd_asgG (h : Ed K S te σ H d) (al : Al S H) (go : ∀ v H1, Ex H H1 → Dd K (hide H1 S) v d → g v σ H1 D.nx) : tAsg te g D σ H := h al H (Ex.refl _) _ fun v H1 e dv => go v H1 e dv
end
end Kx

namespace Law
open PySem PySem.Spec PyProof.Rows L2 Kx
def top (i : Nat) : Stmt := PySem.Challenge.pw_heldtones_k02_ratios_multiplied.main.body.getD i (.Pass ⟨0, 0, 0, 0⟩)
abbrev s_times : Stmt := top 1
abbrev N_times : List Str := ["one", "other"]
theorem sc_times : FnScope N_times ["one", "other"] (defScope s_times) := ⟨rfl, rfl, rfl, by decide +kernel, rfl, by decide +kernel, by decide +kernel⟩
abbrev s_over : Stmt := top 2
abbrev N_over : List Str := ["one", "other"]
theorem sc_over : FnScope N_over ["one", "other"] (defScope s_over) := ⟨rfl, rfl, rfl, by decide +kernel, rfl, by decide +kernel, by decide +kernel⟩
abbrev s_l_pipe : Stmt := top 4
abbrev N_l_pipe : List Str := ["script", "place", "cell", "left"]
theorem sc_l_pipe : FnScope N_l_pipe ["script", "place"] (defScope s_l_pipe) := ⟨rfl, rfl, rfl, by decide +kernel, rfl, by decide +kernel, by decide +kernel⟩
abbrev s_l_tune : Stmt := top 5
abbrev N_l_tune : List Str := ["pipe", "many", "stir", "rest", "taken"]
theorem sc_l_tune : FnScope N_l_tune ["pipe", "many"] (defScope s_l_tune) := ⟨rfl, rfl, rfl, by decide +kernel, rfl, by decide +kernel, by decide +kernel⟩
abbrev s_l_drawn : Stmt := top 6
abbrev N_l_drawn : List Str := ["pipe", "most", "turn"]
theorem sc_l_drawn : FnScope N_l_drawn ["pipe", "most"] (defScope s_l_drawn) := ⟨rfl, rfl, rfl, by decide +kernel, rfl, by decide +kernel, by decide +kernel⟩
abbrev s_l_fits : Stmt := top 7
abbrev N_l_fits : List Str := ["pipe", "most", "added", "taken", "turn", "left", "right", "total", "sums_here", "some", "at", "number"]
theorem sc_l_fits : FnScope N_l_fits ["pipe"] (defScope s_l_fits) := ⟨rfl, rfl, rfl, by decide +kernel, rfl, by decide +kernel, by decide +kernel⟩
abbrev s_law : Stmt := top 8
abbrev N_law : List Str := ["script", "place"]
theorem sc_law : FnScope N_law ["script"] (defScope s_law) := ⟨rfl, rfl, rfl, by decide +kernel, rfl, by decide +kernel, by decide +kernel⟩
structure Tx (K : PySem.W.Frag) (mg : Str → Option Value) where
  f_times : Addr
  d_times : FuncData
  F_times : Fun K "times" "times" s_times f_times d_times
  b_times : Binds K d_times ["one", "other"] []
  m_times : mg "times" = some (.ref f_times)
  f_over : Addr
  d_over : FuncData
  F_over : Fun K "over" "over" s_over f_over d_over
  b_over : Binds K d_over ["one", "other"] []
  m_over : mg "over" = some (.ref f_over)
  f_l_pipe : Addr
  d_l_pipe : FuncData
  F_l_pipe : Fun K "_law_pipe" "_law_pipe" s_l_pipe f_l_pipe d_l_pipe
  b_l_pipe : Binds K d_l_pipe ["script", "place"] []
  m_l_pipe : mg "_law_pipe" = some (.ref f_l_pipe)
  f_l_tune : Addr
  d_l_tune : FuncData
  F_l_tune : Fun K "_law_tune" "_law_tune" s_l_tune f_l_tune d_l_tune
  b_l_tune : Binds K d_l_tune ["pipe", "many"] []
  m_l_tune : mg "_law_tune" = some (.ref f_l_tune)
  f_l_drawn : Addr
  d_l_drawn : FuncData
  F_l_drawn : Fun K "_law_drawn" "_law_drawn" s_l_drawn f_l_drawn d_l_drawn
  b_l_drawn : Binds K d_l_drawn ["pipe", "most"] []
  m_l_drawn : mg "_law_drawn" = some (.ref f_l_drawn)
  f_l_fits : Addr
  d_l_fits : FuncData
  F_l_fits : Fun K "_law_fits" "_law_fits" s_l_fits f_l_fits d_l_fits
  b_l_fits : Binds K d_l_fits ["pipe"] []
  m_l_fits : mg "_law_fits" = some (.ref f_l_fits)
  f_law : Addr
  d_law : FuncData
  F_law : Fun K "law" "law" s_law f_law d_law
  b_law : Binds K d_law ["script"] []
  m_law : mg "law" = some (.ref f_law)
  z_int : mg "int" = none
  z_len : mg "len" = none
  z_max : mg "max" = none
  z_min : mg "min" = none
  z_range : mg "range" = none
  z_repr : mg "repr" = none
  z_tuple : mg "tuple" = none

section
variable {P : Program} {w : World} {K : PySem.W.Frag} {mg : Str → Option Value} {base : Heap}
theorem ok_l_tune (T : Tx K mg) : FnG P w K mg base CX0 1 T.f_l_tune T.d_l_tune ["pipe", "many"] spTune := by
  refine okG T.F_l_tune sc_l_tune (fun vs H Q E h => h.1) (fun cdv A outer s H vs Q E gu hr h => ?_)
  obtain ⟨_, p, m, n, rfl, ⟨a, b, c, hp, I⟩, hn, m0, m1, k⟩ := h
  refine ⟨_, (pss_cons (ps_if (pt_cmpR op_gt (pe_ix ix_list (pv 0) pe_int (fun _ _ => rfl)) pe_int (nomark _))
(pss_cons (ps_set (i := 3) sc_l_tune.nd rfl (Or.inl rfl) (pe_op op_fdivW (pe_ix ix_list (pv 0) pe_int (fun _ _ => rfl)) (pv 1)))
(pss_cons (ps_set (i := 4) sc_l_tune.nd rfl (Or.inl rfl) (pe_op op_sub (pe_ix ix_list (pv 0) pe_int (fun _ _ => rfl)) (pe_op op_mulB (pv 3) (pv 1))))
(pss_cons (ps_asg (pv 3) (pg_sub (pv 0) pe_int set_list))
(pss_one (ps_ret (pv 4))))))
pss_nil)
(pss_cons (ps_asg (pe_op op_add (pe_ix ix_list (pv 0) pe_int (fun _ _ => rfl)) pe_int) (pg_sub (pv 0) pe_int set_list))
(pss_cons (ps_set (i := 2) sc_l_tune.nd rfl (Or.inl rfl) (pe_op op_add (pe_op op_add (pe_ix ix_list (pv 0) pe_int (fun _ _ => rfl)) (pe_op op_mulB pe_int (pe_ix ix_list (pv 0) pe_int (fun _ _ => rfl)))) (pe_op op_mulB (pe_op op_mulB pe_int (pe_ix ix_list (pv 0) pe_int (fun _ _ => rfl))) (pe_ix ix_list (pv 0) pe_int (fun _ _ => rfl)))))
(pss_cons (ps_set (i := 2) sc_l_tune.nd rfl (Or.inl rfl) (pe_op op_add (pe_op op_mod (pe_callTy call_int1 rfl T.z_int (by decide +kernel) (pa_cons (pe_op op_powW (pv 2) pe_int) pa_nil)) pe_int) (pe_op op_mulB pe_int (pe_ix ix_list (pv 0) pe_int (fun _ _ => rfl)))))
(pss_cons (ps_set (i := 2) sc_l_tune.nd rfl (Or.inl rfl) (pe_op op_mod (pe_callTy call_int1 rfl T.z_int (by decide +kernel) (pa_cons (pe_op op_powW (pv 2) pe_int) pa_nil)) pe_int))
(pss_one (ps_ret (pe_op op_mod (pe_callTy call_int1 rfl T.z_int (by decide +kernel) (pa_cons (pe_op op_fdivW (pv 2) pe_int) pa_nil)) (pv 1))))))))), ?_⟩
  -- pipe[0] > 0
  refine ⟨_, rfl, _, _, _, _, rfl, rfl, SqL.of hp, atI_nat (j := 0) rfl, _, _, rfl, rfl, _, rfl, ?_⟩
  refine itd (fun ha => ?_) (fun ha => ?_)
  · have ab := I.ab
    have hq : bitsI (a / m) ≤ 1048577 := Nat.le_trans (bits_div I.a0 m0) I.ab
    have hm : bitsI m ≤ 200 := bits_of m1
    refine ⟨_, rfl, _, _, _, _, rfl, rfl, SqL.of hp, atI_nat (j := 0) rfl, _, rfl, _, _, rfl, rfl, divW m0 m1, ?_⟩
    refine ⟨_, rfl, _, _, _, _, rfl, rfl, SqL.of hp, atI_nat (j := 0) rfl, _, rfl, _, rfl, _, _, rfl, rfl, mulOk (by omega), _, _, rfl, rfl, ?_⟩
    refine ⟨_, rfl, _, rfl, p, _, _, 0, rfl, rfl, hp, rfl, _, rfl, ?_⟩
    have e1 : a - a / m * m = a % m := by have := Int.emod_add_mul_ediv a m; rw [Int.mul_comm m] at this; omega
    exact k (a - a / m * m) _ (by rw [e1]; exact Int.emod_nonneg _ (by omega)) (by rw [e1]; exact Int.emod_lt_of_pos _ m0) (But.refl p H).upd ⟨_, _, _, upd_same, Int.ediv_nonneg I.a0 (by omega), hq, I.bb, I.c0, by have := I.cn; omega⟩
  · have cn := I.cn
    have c0 := I.c0
    refine ⟨_, rfl, _, _, _, _, rfl, rfl, SqL.of hp, atI_nat (j := 2) rfl, _, _, rfl, rfl, _, rfl, p, _, _, 2, rfl, rfl, hp, rfl, ?_⟩
    have hp2 : (upd H p (.lst ([V.int a, .int b, .int c].set 2 (.int (c + 1))))) p = some (.lst [.int a, .int b, .int (c + 1)]) := upd_same
    have hst := tune_bits (b := b) (c := c + 1) (n := n + 1) I.bb (by omega) (by omega) (by omega)
    refine ⟨_, rfl, _, _, _, _, rfl, rfl, SqL.of hp2, atI_nat (j := 1) rfl, _, rfl, _, _, _, _, rfl, rfl, SqL.of hp2, atI_nat (j := 2) rfl, _, _, rfl, rfl, mulS (by decide), _, _, rfl, rfl,
      _, rfl, _, _, _, _, rfl, rfl, SqL.of hp2, atI_nat (j := 2) rfl, _, _, rfl, rfl, mulS (by decide), _, rfl, _, _, _, _, rfl, rfl, SqL.of hp2, atI_nat (j := 2) rfl, _, _, rfl, rfl, mulS' (by omega), _, _, rfl, rfl, ?_⟩
    let st : Int := b + 49979687 * (c + 1) + 32452867 * (c + 1) * (c + 1)
    refine ⟨_, rfl, _, _, rfl, rfl, powW (by decide) hst (by decide), .inl ⟨_, rfl, ?_⟩⟩
    refine ⟨_, _, rfl, rfl, (by show (0 : Int) < 618970019642690137449562111; decide), _, rfl, _, _, _, _, rfl, rfl, SqL.of hp2, atI_nat (j := 2) rfl, _, _, rfl, rfl, mulS (by decide), _, _, rfl, rfl, ?_⟩
    have hs2 : bitsI (st ^ (5 : Int).toNat % 618970019642690137449562111 + 7 * (c + 1)) ≤ 100 := by
      have h1 := Int.emod_nonneg (st ^ (5 : Int).toNat) (show (618970019642690137449562111 : Int) ≠ 0 by decide)
      have h2 := Int.emod_lt_of_pos (st ^ (5 : Int).toNat) (show (0 : Int) < 618970019642690137449562111 by decide)
      exact bits_of (by omega)
    refine ⟨_, rfl, _, _, rfl, rfl, powW (by decide) hs2 (by decide), .inl ⟨_, rfl, ?_⟩⟩
    refine ⟨_, _, rfl, rfl, (by show (0 : Int) < 2305843009213693951; decide), ?_⟩
    refine ⟨_, rfl, _, _, rfl, rfl, divW (by decide) (by decide), .inl ⟨_, rfl, ?_⟩⟩
    refine ⟨_, rfl, _, _, rfl, rfl, m0, ?_⟩
    exact k _ _ (Int.emod_nonneg _ (by omega)) (Int.emod_lt_of_pos _ m0) (But.refl p H).upd ⟨_, _, _, hp2, I.a0, I.ab, I.bb, by omega, by omega⟩
/-! times, over -/
def fTimes (ds : List PyData) (d : PyData) : Prop := ∃ a b : Rt, ds = [ratD a, ratD b] ∧ d = ratD (a.add b)
def fOver (ds : List PyData) (d : PyData) : Prop := ∃ a b : Rt, ds = [ratD a, ratD b] ∧ d = ratD (a.sub b)
theorem ok_times (T : Tx K mg) : FnG P w K mg base CX0 1 T.f_times T.d_times ["one", "other"] (spP K 2 fTimes) := by
  refine okG T.F_times sc_times (fun vs H Q E h => h.1) (fun cdv A outer s H vs Q E gu hr h => ?_)
  obtain ⟨_, S, ds, d, al, dv, ⟨a, b, rfl, rfl⟩, k⟩ := h
  cases dv with
  | cons h1 h2 =>
    cases h2 with
    | cons h3 h4 =>
      cases h4
      refine ⟨_, (pss_one (ps_ret (pe_tup (pa_cons (pe_op op_add (pe_ix ix_tup (pv 0) pe_int (fun _ _ => rfl)) (pe_ix ix_tup (pv 1) pe_int (fun _ _ => rfl))) (pa_cons (pe_op op_add (pe_ix ix_tup (pv 0) pe_int (fun _ _ => rfl)) (pe_ix ix_tup (pv 1) pe_int (fun _ _ => rfl))) (pa_cons (pe_op op_add (pe_ix ix_tup (pv 0) pe_int (fun _ _ => rfl)) (pe_ix ix_tup (pv 1) pe_int (fun _ _ => rfl))) pa_nil)))))), ?_⟩
      exact sd_ret (ed_tup (ea_cons (ed_I0 (ed_ixT (ed_var rfl h1) ed_int rfl) (ed_ixT (ed_var rfl h3) ed_int rfl)) (ea_cons (ed_I0 (ed_ixT (ed_var rfl h1) ed_int rfl) (ed_ixT (ed_var rfl h3) ed_int rfl)) (ea_cons (ed_I0 (ed_ixT (ed_var rfl h1) ed_int rfl) (ed_ixT (ed_var rfl h3) ed_int rfl)) ea_nil))) (by decide : 3 ≤ 100000)) al k
theorem ok_over (T : Tx K mg) : FnG P w K mg base CX0 1 T.f_over T.d_over ["one", "other"] (spP K 2 fOver) := by
  refine okG T.F_over sc_over (fun vs H Q E h => h.1) (fun cdv A outer s H vs Q E gu hr h => ?_)
  obtain ⟨_, S, ds, d, al, dv, ⟨a, b, rfl, rfl⟩, k⟩ := h
  cases dv with
  | cons h1 h2 =>
    cases h2 with
    | cons h3 h4 =>
      cases h4
      refine ⟨_, (pss_one (ps_ret (pe_tup (pa_cons (pe_op op_sub (pe_ix ix_tup (pv 0) pe_int (fun _ _ => rfl)) (pe_ix ix_tup (pv 1) pe_int (fun _ _ => rfl))) (pa_cons (pe_op op_sub (pe_ix ix_tup (pv 0) pe_int (fun _ _ => rfl)) (pe_ix ix_tup (pv 1) pe_int (fun _ _ => rfl))) (pa_cons (pe_op op_sub (pe_ix ix_tup (pv 0) pe_int (fun _ _ => rfl)) (pe_ix ix_tup (pv 1) pe_int (fun _ _ => rfl))) pa_nil)))))), ?_⟩
      exact sd_ret (ed_tup (ea_cons (ed_I0 (ed_ixT (ed_var rfl h1) ed_int rfl) (ed_ixT (ed_var rfl h3) ed_int rfl)) (ea_cons (ed_I0 (ed_ixT (ed_var rfl h1) ed_int rfl) (ed_ixT (ed_var rfl h3) ed_int rfl)) (ea_cons (ed_I0 (ed_ixT (ed_var rfl h1) ed_int rfl) (ed_ixT (ed_var rfl h3) ed_int rfl)) ea_nil))) (by decide : 3 ≤ 100000)) al k
theorem ok_l_pipe (T : Tx K mg) : FnG P w K mg base CX0 1 T.f_l_pipe T.d_l_pipe ["script", "place"] (spPipe K) := by
  refine okG T.F_l_pipe sc_l_pipe (fun vs H Q E h => h.1) (fun cdv A outer s H vs Q E gu hr h => ?_)
  obtain ⟨_, a, i, ns, rfl, hS, hl, hb, i0, i1, k⟩ := h
  refine ⟨_, (pss_cons (ps_set (i := 2) sc_l_pipe.nd rfl (Or.inl rfl) (pe_ifExp (pt_cmpR op_ge (pv 1) (pe_callB call_lenQ rfl T.z_len (by decide +kernel) (pa_cons (pv 0) pa_nil)) (nomark _)) pe_int (pe_ix ix_list (pv 0) (pv 1) (fun _ _ => rfl))))
(pss_cons (ps_set (i := 3) sc_l_pipe.nd rfl (Or.inl rfl) (pe_callB (call_max2 rfl) rfl T.z_max (by decide +kernel) (pa_cons pe_int (pa_cons (pe_op op_sub (pv 2) (pe_op op_powW pe_int pe_int)) pa_nil))))
(pss_one (ps_ret (pe_lst (pa_cons (pv 3) (pa_cons (pe_op op_add (pe_op op_add (pe_op op_mulB pe_int (pv 2)) (pe_op op_mulB pe_int (pv 1))) pe_int) (pa_cons pe_int pa_nil)))))))), ?_⟩
  have rest : ∀ z : Int, bitsI z ≤ 1048576 → (tSeq (tAsg (tCB (fun xs H Q => ∃ i j, xs = [V.int i, V.int j] ∧ Q (V.int (if j > i then j else i)) H) (tCons (tC (.int 0)) (tCons (tOp (rI0 fun i j => .int (i - j)) (tVar 2) (tOp (rI CPowW fun i j => .int (i ^ j.toNat)) (tC (.int 10)) (tC (.int 18)))) tNil))) (gName 3))
      (tRet (tLst (tCons (tVar 3) (tCons (tOp (rI0 fun i j => .int (i + j)) (tOp (rI0 fun i j => .int (i + j)) (tOp (rI IntMulOk fun i j => .int (i * j)) (tC (.int 17)) (tVar 2)) (tOp (rI IntMulOk fun i j => .int (i * j)) (tC (.int 86028121)) (tVar 1))) (tC (.int 20127115594067))) (tCons (tC (.int 0)) tNil))))))
      { nx := fun _ H' => Q .non H', rt := Q } [some (.ref a), some (.int i), some (.int z), none] H := by
    intro z hz
    refine ⟨_, rfl, _, _, rfl, rfl, powW (k := 4) (by decide) (bits_of (by decide)) (by decide), _, _, rfl, rfl, _, _, rfl, ?_⟩
    refine ⟨_, rfl, _, rfl, _, _, rfl, rfl, mulS (by decide), _, rfl, _, _, rfl, rfl, mulS (by decide), _, _, rfl, rfl, _, _, rfl, rfl, (by show 3 ≤ sizeLine; decide), fun p hp => ?_⟩
    exact k p _ hp (fun b n => upd_ne n) ⟨_, _, _, upd_same, by split <;> omega, left_bits hz, pipe_bits hz i0 (by omega), by decide, by decide⟩
  refine ⟨_, rfl, _, rfl, a, _, rfl, .inl hS, _, _, rfl, rfl, _, rfl, ?_⟩
  refine itd (fun c => ?_) (fun c => ?_)
  · exact rest 0 (Nat.le_trans (bits_of (k := 0) (by decide)) (by decide))
  · have c' : i < ns.length := by rw [List.length_map] at c; omega
    obtain ⟨j, rfl⟩ : ∃ j : Nat, i = (j : Int) := ⟨i.toNat, by omega⟩
    have hj : j < ns.length := by omega
    refine ⟨_, rfl, _, rfl, _, _, _, _, rfl, rfl, hS, atI_nat (j := j) (by rw [List.getElem?_map, List.getElem?_eq_getElem hj]; rfl), ?_⟩
    exact rest _ (hb _ (List.getElem_mem hj))
theorem ok_l_drawn (T : Tx K mg) : FnG P w K mg base CX0 2 T.f_l_drawn T.d_l_drawn ["pipe", "most"] (spDrawn K) := by
  have G_l_tune : FnG P w K mg base CX0 1 T.f_l_tune T.d_l_tune ["pipe", "many"] spTune := ok_l_tune T
  refine okG T.F_l_drawn sc_l_drawn (fun vs H Q E h => h.1) (fun cdv A outer s H vs Q E gu hr h => ?_)
  obtain ⟨_, p, m, n, rfl, hp, hn, m0, m1, k⟩ := h
  refine ⟨_, (pss_one (ps_ret (pe_tupleOf rfl T.z_tuple (pe_lc (own := [("turn", 2)]) rfl sc_l_drawn.nd (pi_range1 rfl T.z_range (pa_cons pe_int pa_nil)) (blkOk_by (own := [("turn", 2)]) (N := N_l_drawn) (sc := defScope s_l_drawn) (by decide +kernel)) (fun _ _ _ _ _ => (pg_name (i := 2) sc_l_drawn.nd rfl (Or.inl rfl))) (fun _ _ _ _ _ => pts_nil) (fun _ _ _ _ _ => (pe_op op_sub (pe_callG G_l_tune gu (hr.mono (by decide)) rfl T.m_l_tune T.F_l_tune.kp T.b_l_tune .nil pass0 (pa_cons (pv 0) (pa_cons (pe_op op_add (pe_op op_mulB pe_int (pv 1)) pe_int) pa_nil))) (pv 1))))))), ?_⟩
  refine ⟨3, rfl, by decide, by decide, fun D nD => lc_range (lo := 0) (n := 3) (fun i H' => Dr p H H' ∧ PipeAt H' p (n + i) ∧ ∃ xs : List Int, xs.length = i ∧ (∀ x ∈ xs, -m ≤ x ∧ x ≤ m) ∧ H' D = some (.lst (xs.map V.int))) ?_ ?_ ?_⟩
  · exact ⟨Dr.of (Ex.new nD), hp.upd (Ne.symm (hp.ne nD)), [], rfl, (fun x z => nomatch z), upd_same⟩
  · rintro i H' hi ⟨dr, pt, xs, lx, bx, hD⟩
    refine ⟨rfl, yes_go ?_⟩
    refine ⟨_, rfl, _, rfl, _, _, rfl, rfl, mulS (by decide), _, _, rfl, rfl, rfl, p, _, n + i, rfl, pt, by omega, by omega, by omega, fun t H4 t0 t1 bt pt4 => ?_⟩
    refine ⟨_, rfl, _, _, rfl, rfl, xs.map V.int, (bt D (hp.ne nD)).trans hD, sz_of (by rw [List.length_map]; omega), ?_⟩
    refine ⟨(dr.trans (Dr.but bt)).new nD, pt4.upd (Ne.symm (hp.ne nD)), xs ++ [t - m], by rw [List.length_append, lx]; rfl, ?_, ?_⟩
    · intro x hx
      rcases List.mem_append.mp hx with z | z
      · exact bx x z
      · rw [List.mem_singleton.mp z]; omega
    · rw [upd_same, List.map_append]; rfl
  · rintro H' ⟨dr, pt, xs, lx, bx, hD⟩
    obtain ⟨x, y, z, rfl⟩ := len3 lx
    refine .inl ⟨D, _, rfl, SqL.of hD, fun q nq => k _ (x, y, z) _ ⟨bx x (by simp), bx y (by simp), bx z (by simp)⟩ (dr.trans (Dr.of (Ex.new nq))) (pt.up (Ex.new nq)) fun S al mp => ?_⟩
    exact dd_newT nq ((dr.al pt.some al).new nq) (.cons (.int x) (.cons (.int y) (.cons (.int z) .nil)))
theorem ok_l_fits (T : Tx K mg) : FnG P w K mg base CX0 3 T.f_l_fits T.d_l_fits ["pipe"] spFits := by
  have G_l_tune : FnG P w K mg base CX0 1 T.f_l_tune T.d_l_tune ["pipe", "many"] spTune := ok_l_tune T
  have G_l_drawn : FnG P w K mg base CX0 2 T.f_l_drawn T.d_l_drawn ["pipe", "most"] (spDrawn K) := ok_l_drawn T
  have G_times : FnG P w K mg base CX0 1 T.f_times T.d_times ["one", "other"] (spP K 2 fTimes) := ok_times T
  have G_over : FnG P w K mg base CX0 1 T.f_over T.d_over ["one", "other"] (spP K 2 fOver) := ok_over T
  refine okG T.F_l_fits sc_l_fits (fun vs H Q E h => h.1) (fun cdv A outer s H vs Q E gu hr h => ?_)
  obtain ⟨_, p, rfl, pt, k⟩ := h
  refine ⟨_, (pss_cons (ps_set (i := 1) sc_l_fits.nd rfl (Or.inl rfl) (pe_ix (r := rIxL K) ix_list (pe_lst (pa_cons pe_int (pa_cons pe_int (pa_cons pe_int (pa_cons pe_int pa_nil))))) (pe_callG G_l_tune gu (hr.mono (by decide)) rfl T.m_l_tune T.F_l_tune.kp T.b_l_tune .nil pass0 (pa_cons (pv 0) (pa_cons pe_int pa_nil))) (fun _ _ => rfl)))
(pss_cons (ps_par (i := 5) (j := 6) rfl sc_l_fits.nd rfl rfl (by decide) rfl rfl (pa_cons (pe_callG G_l_drawn gu (hr.mono (by decide)) rfl T.m_l_drawn T.F_l_drawn.kp T.b_l_drawn .nil pass0 (pa_cons (pv 0) (pa_cons (pv 1) pa_nil))) (pa_cons (pe_callG G_l_drawn gu (hr.mono (by decide)) rfl T.m_l_drawn T.F_l_drawn.kp T.b_l_drawn .nil pass0 (pa_cons (pv 0) (pa_cons (pv 1) pa_nil))) pa_nil)) rfl)
(pss_join (ps_if (pt_cmpR op_eq (pe_callG G_l_tune gu (hr.mono (by decide)) rfl T.m_l_tune T.F_l_tune.kp T.b_l_tune .nil pass0 (pa_cons (pv 0) (pa_cons pe_int pa_nil))) pe_int (nomark _))
(pss_one (ps_set (i := 6) sc_l_fits.nd rfl (Or.inl rfl) (pe_ix (r := rIxL K) ix_list (pe_lst (pa_cons (pv 5) (pa_cons (pe_tupleOf rfl T.z_tuple (pe_lc (own := [("number", 11)]) rfl sc_l_fits.nd (pi_tup (pv 5)) (blkOk_by (own := [("number", 11)]) (N := N_l_fits) (sc := defScope s_l_fits) (by decide +kernel)) (fun _ _ _ _ _ => (pg_name (i := 11) sc_l_fits.nd rfl (Or.inl rfl))) (fun _ _ _ _ _ => pts_nil) (fun _ _ _ _ _ => (pe_un un_neg (pv 11))))) pa_nil))) (pe_callG G_l_tune gu (hr.mono (by decide)) rfl T.m_l_tune T.F_l_tune.kp T.b_l_tune .nil pass0 (pa_cons (pv 0) (pa_cons pe_int pa_nil))) (fun _ _ => rfl))))
pss_nil)
(pss_cons (ps_set (i := 2) sc_l_fits.nd rfl (Or.inl rfl) (pe_tup (pa_cons (pe_op op_add (pe_ix (r := rIxT K) ix_tup (pv 5) pe_int (fun _ _ => rfl)) (pe_ix (r := rIxT K) ix_tup (pv 6) pe_int (fun _ _ => rfl))) (pa_cons (pe_op op_add (pe_ix (r := rIxT K) ix_tup (pv 5) pe_int (fun _ _ => rfl)) (pe_ix (r := rIxT K) ix_tup (pv 6) pe_int (fun _ _ => rfl))) (pa_cons (pe_op op_add (pe_ix (r := rIxT K) ix_tup (pv 5) pe_int (fun _ _ => rfl)) (pe_ix (r := rIxT K) ix_tup (pv 6) pe_int (fun _ _ => rfl))) pa_nil)))))
(pss_cons (ps_set (i := 3) sc_l_fits.nd rfl (Or.inl rfl) (pe_tup (pa_cons (pe_op op_sub (pe_ix (r := rIxT K) ix_tup (pv 5) pe_int (fun _ _ => rfl)) (pe_ix (r := rIxT K) ix_tup (pv 6) pe_int (fun _ _ => rfl))) (pa_cons (pe_op op_sub (pe_ix (r := rIxT K) ix_tup (pv 5) pe_int (fun _ _ => rfl)) (pe_ix (r := rIxT K) ix_tup (pv 6) pe_int (fun _ _ => rfl))) (pa_cons (pe_op op_sub (pe_ix (r := rIxT K) ix_tup (pv 5) pe_int (fun _ _ => rfl)) (pe_ix (r := rIxT K) ix_tup (pv 6) pe_int (fun _ _ => rfl))) pa_nil)))))
(pss_cons (ps_if (pt_cmpR op_ne (pe_callB (r := rRepr K) (call_repr gu hr.units) rfl T.z_repr (by decide +kernel) (pa_cons (pe_lst (pa_cons (pe_callG G_times gu (hr.mono (by decide)) rfl T.m_times T.F_times.kp T.b_times .nil pass0 (pa_cons (pv 5) (pa_cons (pv 6) pa_nil))) (pa_cons (pe_callW0 (ks := ["other", "one"]) (idx := [1, 0]) G_times gu (hr.mono (by decide)) rfl T.m_times T.F_times.kp (kwb T.F_times fun _ _ _ _ _ _ us ws h1 h2 => match us, ws, h1, h2 with | [], [_, _], _, _ => rfl) pass0 (pk_cons (pv 6) (pk_cons (pv 5) pk_nil))) (pa_cons (pe_callG G_times gu (hr.mono (by decide)) rfl T.m_times T.F_times.kp T.b_times .nil pass0 (pa_cons (pv 6) (pa_cons (pv 5) pa_nil))) pa_nil)))) pa_nil)) (pe_callB (r := rRepr K) (call_repr gu hr.units) rfl T.z_repr (by decide +kernel) (pa_cons (pe_op op_rep (pe_lst (pa_cons (pv 2) pa_nil)) pe_int) pa_nil)) (nomark _))
(pss_one (ps_ret pe_bl))
pss_nil)
(pss_cons (ps_if (pt_cmpR op_ne (pe_callB (r := rRepr K) (call_repr gu hr.units) rfl T.z_repr (by decide +kernel) (pa_cons (pe_lst (pa_cons (pe_callG G_over gu (hr.mono (by decide)) rfl T.m_over T.F_over.kp T.b_over .nil pass0 (pa_cons (pv 5) (pa_cons (pv 6) pa_nil))) (pa_cons (pe_callW0 (ks := ["other", "one"]) (idx := [1, 0]) G_over gu (hr.mono (by decide)) rfl T.m_over T.F_over.kp (kwb T.F_over fun _ _ _ _ _ _ us ws h1 h2 => match us, ws, h1, h2 with | [], [_, _], _, _ => rfl) pass0 (pk_cons (pv 6) (pk_cons (pv 5) pk_nil))) pa_nil))) pa_nil)) (pe_callB (r := rRepr K) (call_repr gu hr.units) rfl T.z_repr (by decide +kernel) (pa_cons (pe_op op_rep (pe_lst (pa_cons (pv 3) pa_nil)) pe_int) pa_nil)) (nomark _))
(pss_one (ps_ret pe_bl))
pss_nil)
(pss_cons (ps_if (PW.pt (pw_or (pt_cmpR (r := rNeD K) (op_neD hr.units) (pe_callG G_times gu (hr.mono (by decide)) rfl T.m_times T.F_times.kp T.b_times .nil pass0 (pa_cons (pv 3) (pa_cons (pv 6) pa_nil))) (pv 5) (nomark _)) (pw_or (pt_cmpR (r := rNeD K) (op_neD hr.units) (pe_callG G_over gu (hr.mono (by decide)) rfl T.m_over T.F_over.kp T.b_over .nil pass0 (pa_cons (pv 2) (pa_cons (pv 6) pa_nil))) (pv 5) (nomark _)) (pw_or1 (pt_cmpR (r := rNeD K) (op_neD hr.units) (pe_callG G_over gu (hr.mono (by decide)) rfl T.m_over T.F_over.kp T.b_over .nil pass0 (pa_cons (pv 5) (pa_cons (pv 5) pa_nil))) (pe_tup (pa_cons pe_int (pa_cons pe_int (pa_cons pe_int pa_nil)))) (nomark _))))))
(pss_one (ps_ret pe_bl))
pss_nil)
(pss_cons (ps_asg (pe_tup (pa_cons (pe_tup (pa_cons pe_int (pa_cons pe_int (pa_cons pe_int pa_nil)))) (pa_cons (pe_lst (pa_cons pe_int (pa_cons pe_int (pa_cons pe_int pa_nil)))) pa_nil))) (pg_tup rfl (pgs_cons (pg_name (i := 7) sc_l_fits.nd rfl (Or.inl rfl)) (pgs_cons (pg_name (i := 8) sc_l_fits.nd rfl (Or.inr rfl)) pgs_nil))))
(pss_cons (ps_for PassesOwn.never rfl (pi_range1 rfl T.z_range (pa_cons (pe_callG G_l_tune gu (hr.mono (by decide)) rfl T.m_l_tune T.F_l_tune.kp T.b_l_tune .nil pass0 (pa_cons (pv 0) (pa_cons pe_int pa_nil))) pa_nil)) (pg_name (i := 4) sc_l_fits.nd rfl (Or.inl rfl))
(pss_cons (ps_set (i := 9) sc_l_fits.nd rfl (Or.inr rfl) (pe_callG G_l_drawn gu (hr.mono (by decide)) rfl T.m_l_drawn T.F_l_drawn.kp T.b_l_drawn .nil pass0 (pa_cons (pv 0) (pa_cons (pv 1) pa_nil))))
(pss_cons (ps_set (i := 7) sc_l_fits.nd rfl (Or.inl rfl) (pe_callG G_times gu (hr.mono (by decide)) rfl T.m_times T.F_times.kp T.b_times .nil pass0 (pa_cons (pv 7) (pa_cons (pv 9) pa_nil))))
(pss_one (ps_set (i := 8) sc_l_fits.nd rfl (Or.inr rfl) (pe_lc (own := [("at", 10)]) rfl sc_l_fits.nd (pi_range1 rfl T.z_range (pa_cons pe_int pa_nil)) (blkOk_by (own := [("at", 10)]) (N := N_l_fits) (sc := defScope s_l_fits) (by decide +kernel)) (fun _ _ _ _ _ => (pg_name (i := 10) sc_l_fits.nd rfl (Or.inl rfl))) (fun _ _ _ _ _ => pts_nil) (fun _ _ _ _ _ => (pe_op op_add (pe_ix (r := rIxL K) ix_list (pv 8) (pv 10) (fun _ _ => rfl)) (pe_ix (r := rIxT K) ix_tup (pv 9) (pv 10) (fun _ _ => rfl))))))))))
(pss_one (ps_ret (pe_cmpR op_eq (pe_callB (r := rRepr K) (call_repr gu hr.units) rfl T.z_repr (by decide +kernel) (pa_cons (pv 7) pa_nil)) (pe_callB (r := rRepr K) (call_repr gu hr.units) rfl T.z_repr (by decide +kernel) (pa_cons (pe_tupleOf rfl T.z_tuple (pv 8)) pa_nil)) (nomark _)))))))))))))), ?_⟩
  have mp : p ∈ [p] := List.mem_singleton.mpr rfl
  have al0 : ∀ {H' : Hp} {n : Nat}, PipeAt H' p n → Al [p] H' := fun h s hs => by rw [List.mem_singleton.mp hs]; exact h.some
  refine go_menu (S := [p]) (n := 0) rfl (ed_lst (ea_cons ed_int (ea_cons ed_int (ea_cons ed_int (ea_cons ed_int ea_nil)))) (by decide : 4 ≤ 100000)) (al0 pt) mp pt (by decide) rfl (by decide) (by decide) fun v d H1 hd d1 pt1 dd => ?_
  obtain ⟨m, rfl, m0, m1⟩ : ∃ m : Int, d = .int m ∧ 0 ≤ m ∧ m ≤ 200 := by
    simp only [List.mem_cons, List.not_mem_nil, or_false] at hd
    rcases hd with e | e | e | e <;> exact ⟨_, e, by decide, by decide⟩
  obtain rfl := dd_int dd
  refine go_drawn (S := [p]) rfl (ed_var rfl (.int m)) (al0 pt1) pt1 (by decide) m0 (by omega) mp fun vl a H2 ha d2 pt2 l => ?_
  refine go_drawn (S := [p]) rfl (ed_var rfl (.int m)) (al0 pt2) pt2 (by decide) m0 (by omega) mp fun vr b H3 hb d3 pt3 r => ?_
  replace l := l.dr d3 mp
  refine ⟨vl, vr, rfl, ?_⟩
  -- the join behind the exchange of right
  refine ⟨fun σ' H' => ∃ (v2 : V) (b : Rt), σ' = [some (.ref p), some (.int m), none, none, none, some vl, some v2, none, none, none, none, none] ∧ Dr p H3 H' ∧ PipeAt H' p 10 ∧ Dd K (hide H' [p]) vl (ratD a) ∧ Dd K (hide H' [p]) v2 (ratD b) ∧ b.le m, ?_, ?_⟩
  · refine go_tune (K := K) (S := [p]) rfl ed_int (al0 pt3) pt3 (by decide) (by decide) (by decide) fun t H4 t0 t1 d4 pt4 => ⟨rfl, _, rfl, ?_⟩
    replace l := l.dr d4 mp
    replace r := r.dr d4 mp
    refine itd (fun _ => ?_) (fun _ => ?_)
    · refine go_menu (S := [p]) (ds := [ratD a, ratD a.neg]) rfl (ed_lst (ea_cons (ed_var rfl l) (ea_cons (ed_neg rfl l (fun _ => rfl) (fun _ => rfl)) ea_nil)) (by decide : 2 ≤ 100000)) (al0 pt4) mp pt4 (by decide) rfl (by decide) (by decide) fun v d H5 hd d5 pt5 dd => ?_
      simp only [List.mem_cons, List.not_mem_nil, or_false] at hd
      rcases hd with rfl | rfl
      · exact ⟨v, a, rfl, d4.trans d5, pt5.mono (by decide), l.dr d5 mp, dd, ha⟩
      · exact ⟨v, a.neg, rfl, d4.trans d5, pt5.mono (by decide), l.dr d5 mp, dd, Rt.neg_le ha⟩
    · exact ⟨vr, b, rfl, d4, pt4.mono (by decide), l, r, hb⟩
  · rintro σ' H' ⟨v2, b, rfl, d4, pt4, l, r, hb⟩
    have a2 : a.le 200 := Rt.le_mono ha m1
    have b2 : b.le 200 := Rt.le_mono hb m1
    have s2 : (a.add b).le 400 := Rt.add_le a2 b2
    have t2 : (a.sub b).le 400 := Rt.sub_le a2 b2
    have al := al0 pt4
    refine qd_asg (ed_add3 rfl l rfl r) al fun va H5 e5 add => ?_
    replace l := l.ex e5; replace r := r.ex e5; replace al := al.up e5; replace pt4 := pt4.up e5
    refine qd_asg (ed_sub3 rfl l rfl r) al fun vt H6 e6 tak => ?_
    replace l := l.ex e6; replace r := r.ex e6; replace add := add.ex e6; replace al := al.up e6; replace pt4 := pt4.up e6
    -- three products
    have c1 : a.add b = b.add a := by simp only [Rt.add, Int.add_comm]
    refine qd_no ((et_test (ed_neS (ed_repr (ea_cons (ed_lst (ea_cons (ed_call (ea_cons (ed_var rfl l) (ea_cons (ed_var rfl r) ea_nil)) rfl ⟨a, b, rfl, rfl⟩) (ea_cons (ed_callW ea_nil (ea_cons (ed_var rfl r) (ea_cons (ed_var rfl l) ea_nil)) rfl rfl rfl ⟨a, b, rfl, rfl⟩) (ea_cons (ed_call (ea_cons (ed_var rfl r) (ea_cons (ed_var rfl l) ea_nil)) rfl ⟨b, a, rfl, rfl⟩) ea_nil))) (by decide : 3 ≤ 100000)) ea_nil) ?o1)
      (ed_repr (ea_cons (ed_repL (ed_lst (ea_cons (ed_var rfl add) ea_nil) (by decide : 1 ≤ 100000)) ed_int (rep_ok (by decide : 1 ≤ 1000) (by decide) (by decide))) ea_nil) ?o2))).is ?o3) al fun H7 e7 => ?_
    case o1 => exact ratsL_repr (rs := [a.add b, a.add b, b.add a]) rfl (by rw [← c1]; intro x hx; simp only [List.mem_cons, List.not_mem_nil, or_false, or_self] at hx; subst hx; exact Rt.le_mono s2 (by decide)) (by decide : 3 ≤ 2000)
    case o2 => exact ratsL_repr (rs := [a.add b, a.add b, a.add b]) rfl (by intro x hx; simp only [List.mem_cons, List.not_mem_nil, or_false, or_self] at hx; subst hx; exact Rt.le_mono s2 (by decide)) (by decide : 3 ≤ 2000)
    case o3 => exact ne_shown (by rw [← c1]; rfl)
    replace l := l.ex e7; replace r := r.ex e7; replace add := add.ex e7; replace tak := tak.ex e7; replace al := al.up e7; replace pt4 := pt4.up e7
    refine qd_no ((et_test (ed_neS (ed_repr (ea_cons (ed_lst (ea_cons (ed_call (ea_cons (ed_var rfl l) (ea_cons (ed_var rfl r) ea_nil)) rfl ⟨a, b, rfl, rfl⟩) (ea_cons (ed_callW ea_nil (ea_cons (ed_var rfl r) (ea_cons (ed_var rfl l) ea_nil)) rfl rfl rfl ⟨a, b, rfl, rfl⟩) ea_nil)) (by decide : 2 ≤ 100000)) ea_nil) ?o1)
      (ed_repr (ea_cons (ed_repL (ed_lst (ea_cons (ed_var rfl tak) ea_nil) (by decide : 1 ≤ 100000)) ed_int (rep_ok (by decide : 1 ≤ 1000) (by decide) (by decide))) ea_nil) ?o2))).is ?o3) al fun H8 e8 => ?_
    case o1 => exact ratsL_repr (rs := [a.sub b, a.sub b]) rfl (by intro x hx; simp only [List.mem_cons, List.not_mem_nil, or_false, or_self] at hx; subst hx; exact Rt.le_mono t2 (by decide)) (by decide : 2 ≤ 2000)
    case o2 => exact ratsL_repr (rs := [a.sub b, a.sub b]) rfl (by intro x hx; simp only [List.mem_cons, List.not_mem_nil, or_false, or_self] at hx; subst hx; exact Rt.le_mono t2 (by decide)) (by decide : 2 ≤ 2000)
    case o3 => exact ne_shown rfl
    replace l := l.ex e8; replace r := r.ex e8; replace add := add.ex e8; replace tak := tak.ex e8; replace al := al.up e8; replace pt4 := pt4.up e8
    have a3 : SeqAt.shaped (ratD a) = true := rat_shaped (Rt.le_mono a2 (by decide))
    refine qd_no ((et_or (et_test ((ed_neD (ed_call (ea_cons (ed_var rfl tak) (ea_cons (ed_var rfl r) ea_nil)) rfl ⟨a.sub b, b, rfl, rfl⟩) (ed_var rfl l) (by rw [Rt.add_sub]; exact a3) a3).is (congrArg _ (ne_rat (Rt.add_sub a b)))))
      fun _ => et_or (et_test ((ed_neD (ed_call (ea_cons (ed_var rfl add) (ea_cons (ed_var rfl r) ea_nil)) rfl ⟨a.add b, b, rfl, rfl⟩) (ed_var rfl l) (by rw [Rt.sub_add]; exact a3) a3).is (congrArg _ (ne_rat (Rt.sub_add a b)))))
      fun _ => et_test ((ed_neD (ed_call (ea_cons (ed_var rfl l) (ea_cons (ed_var rfl l) ea_nil)) rfl ⟨a, a, rfl, rfl⟩) (ed_tup (ea_cons ed_int (ea_cons ed_int (ea_cons ed_int ea_nil))) (by decide : 3 ≤ 100000)) (by rw [Rt.sub_self]; exact rat_shaped ⟨⟨by decide, by decide⟩, ⟨by decide, by decide⟩, by decide, by decide⟩) (rat_shaped (r := (0, 0, 0)) ⟨⟨by decide, by decide⟩, ⟨by decide, by decide⟩, by decide, by decide⟩)).is (congrArg _ (ne_rat (b := (0, 0, 0)) (Rt.sub_self a))))).is rfl) al fun H9 e9 => ?_
    replace l := l.ex e9; replace r := r.ex e9; replace al := al.up e9; replace pt4 := pt4.up e9
    -- total, sums_here
    refine qd_asgG (ed_tup (K := K) (ea_cons (ed_tup (ea_cons ed_int (ea_cons ed_int (ea_cons ed_int ea_nil))) (by decide : 3 ≤ 100000)) (ea_cons (ed_lst (ea_cons ed_int (ea_cons ed_int (ea_cons ed_int ea_nil))) (by decide : 3 ≤ 100000)) ea_nil)) (by decide : 2 ≤ 100000)) al fun vp H10 e10 dp => ?_
    replace al := al.up e10; replace pt4 := pt4.up e10
    refine g_pair dp fun v7 v8 d7 d8 => ?_
    -- the loop
    refine go_tune (K := K) (S := [p]) rfl ed_int al pt4 (by decide) (by decide) (by decide) fun t H11 t0 t1 d11 pt11 => ⟨t, rfl, by omega, by omega, for_range (lo := 0) (n := t.toNat) (fun i σ' H' => ∃ (v7 v8 v9 v4 : Option V) (u7 u8 : V) (tot : Rt), σ' = [some (.ref p), some (.int m), some va, some vt, v4, some vl, some v2, v7, v8, v9, none, none] ∧ v7 = some u7 ∧ v8 = some u8 ∧
      PipeAt H' p (11 + 3 * i) ∧ Dd K (hide H' [p]) u7 (ratD tot) ∧ Dd K (hide H' [p]) u8 (.list (tot.row.map PyData.int)) ∧ tot.le (200 * i) ∧ Dr p H10 H') ?_ ?_ ?_⟩
    · exact ⟨_, _, _, _, v7, v8, (0, 0, 0), rfl, rfl, rfl, pt11, d7.dr d11 mp, d8.dr d11 mp, ⟨⟨by decide, by decide⟩, ⟨by decide, by decide⟩, by decide, by decide⟩, d11⟩
    · rintro i σ' H' hi ⟨_, _, v9, v4, u7, u8, tot, rfl, rfl, rfl, pt, d7, d8, ht, dr⟩
      refine go_drawn (S := [p]) rfl (ed_var rfl (.int m)) (al0 pt) pt (by omega) m0 (by omega) mp fun vs r1 Ha hr1 da pta ds => ?_
      replace d7 := d7.dr da mp; replace d8 := d8.dr da mp
      refine qd_asg (ed_call (ea_cons (ed_var rfl d7) (ea_cons (ed_var rfl ds) ea_nil)) rfl ⟨tot, r1, rfl, rfl⟩) (al0 pta) fun w7 Hb eb d7' => ?_
      replace d8 := d8.ex eb; replace ds := ds.ex eb
      refine sd_asg (ed_cols (n := 3) (xs := tot.row) (ys := r1.row) rfl rfl (by decide) rfl d8 rfl ds (fun _ => rfl) (fun _ => rfl) (fun _ => rfl) (fun _ => rfl)) (al0 (pta.up eb)) fun w8 Hc ec d8' => ?_
      refine ⟨_, _, _, _, w7, w8, tot.add r1, rfl, rfl, rfl, ((pta.up eb).up ec).mono (by omega), d7'.ex ec, d8', ?_, (dr.trans da).trans (Dr.of (eb.trans ec))⟩
      have := Rt.add_le ht (Rt.le_mono hr1 m1)
      exact Rt.le_mono this (by omega)
    · rintro σ' H' ⟨_, _, v9, v4, u7, u8, tot, rfl, rfl, rfl, pt, d7, d8, ht, dr⟩
      have ho := rat_repr (Rt.le_mono ht (by omega))
      refine sd_ret ((ed_eqS (ed_repr (ea_cons (ed_var rfl d7) ea_nil) ho) (ed_repr (ea_cons (ed_tupleL (ed_var rfl d8)) ea_nil) ho)).is (congrArg _ (eq_shown rfl))) (al0 pt) fun v H'' e'' dv => ?_
      obtain rfl := dd_bl dv
      refine k _ ?_
      exact (((d1.trans d2).trans d3).trans d4).trans ((Dr.of (e5.trans (e6.trans (e7.trans (e8.trans (e9.trans e10)))))).trans (dr.trans (Dr.of e'')))
theorem ok_law (T : Tx K mg) : FnG P w K mg base CX0 4 T.f_law T.d_law ["script"] (spLaw K) := by
  have G_l_fits : FnG P w K mg base CX0 3 T.f_l_fits T.d_l_fits ["pipe"] spFits := ok_l_fits T
  have G_l_pipe : FnG P w K mg base CX0 1 T.f_l_pipe T.d_l_pipe ["script", "place"] (spPipe K) := ok_l_pipe T
  refine okG T.F_law sc_law (fun vs H Q E h => h.1) (fun cdv A outer s H vs Q E gu hr h => ?_)
  obtain ⟨_, a, ns, rfl, hS, hl, hb, k⟩ := h
  refine ⟨_, (pss_cons (ps_for PassesOwn.never rfl (pi_range1 rfl T.z_range (pa_cons (pe_callB (call_min2 rfl) rfl T.z_min (by decide +kernel) (pa_cons pe_int (pa_cons (pe_op op_sub (pe_op op_add (pe_callB (r := rLenQ K) call_lenQ rfl T.z_len (by decide +kernel) (pa_cons (pv 0) pa_nil)) pe_int) (pe_callTy call_int1 rfl T.z_int (by decide +kernel) (pa_cons (pe_cmpR op_gt (pe_callB (r := rLenQ K) call_lenQ rfl T.z_len (by decide +kernel) (pa_cons (pv 0) pa_nil)) pe_int (nomark _)) pa_nil))) pa_nil))) pa_nil)) (pg_name (i := 1) sc_law.nd rfl (Or.inl rfl))
(pss_one (ps_if (pt_not (pt_val (pe_callG G_l_fits gu (hr.mono (by decide)) rfl T.m_l_fits T.F_l_fits.kp T.b_l_fits .nil pass0 (pa_cons (pe_callG G_l_pipe gu (hr.mono (by decide)) rfl T.m_l_pipe T.F_l_pipe.kp T.b_l_pipe .nil pass0 (pa_cons (pv 0) (pa_cons (pv 1) pa_nil))) pa_nil))))
(pss_one (ps_ret pe_bl))
pss_nil)))
(pss_one (ps_ret pe_bl))), ?_⟩
  have hll : (ns.map V.int).length = ns.length := List.length_map ..
  refine ⟨_, rfl, a, _, rfl, .inl hS, _, _, rfl, rfl, _, rfl, a, _, rfl, .inl hS, _, _, rfl, rfl, .inr ⟨_, rfl, _, _, rfl, rfl, _, _, rfl, _, rfl, ?_, ?_, for_range (lo := 0) (fun i σ' H' => (∃ v, σ' = [some (.ref a), v]) ∧ SqL K H' a (ns.map V.int)) ⟨⟨_, rfl⟩, hS⟩ ?_ ?_⟩⟩
  · split <;> split <;> omega
  · split <;> split <;> omega
  · rintro i σ' H' hi ⟨⟨v, rfl⟩, hS'⟩
    have hi' : i ≤ 63 := by
      rw [hll] at hi
      split at hi <;> split at hi <;> omega
    refine ⟨_, rfl, _, rfl, rfl, a, _, ns, rfl, hS', hl, hb, by omega, by omega, fun p H1 np bt pt => ⟨rfl, p, rfl, pt, fun H2 dr => ⟨_, rfl, iteF ?_⟩⟩⟩
    exact ⟨⟨_, rfl⟩, sql_dr (p := p) hS' (fun b o nb h => dr.up b o nb ((bt b nb).trans h)) (.inr np)⟩
  · rintro σ' H' _
    exact k H'
end
def tx_mk {K : PySem.W.Frag} {h : Heap} {mg : Str → Option Value} (X : K.In h) (G : h.Ns mainGlobals mg)
    {f_times : Addr} {od_times an_times : Option Addr} {sl_times : Array (Option Value)} {oc_times kV_times dc_times pm_times cd_times ct_times : Value}
    {f_over : Addr} {od_over an_over : Option Addr} {sl_over : Array (Option Value)} {oc_over kV_over dc_over pm_over cd_over ct_over : Value}
    {f_l_pipe : Addr} {od_l_pipe an_l_pipe : Option Addr} {sl_l_pipe : Array (Option Value)} {oc_l_pipe kV_l_pipe dc_l_pipe pm_l_pipe cd_l_pipe ct_l_pipe : Value}
    {f_l_tune : Addr} {od_l_tune an_l_tune : Option Addr} {sl_l_tune : Array (Option Value)} {oc_l_tune kV_l_tune dc_l_tune pm_l_tune cd_l_tune ct_l_tune : Value}
    {f_l_drawn : Addr} {od_l_drawn an_l_drawn : Option Addr} {sl_l_drawn : Array (Option Value)} {oc_l_drawn kV_l_drawn dc_l_drawn pm_l_drawn cd_l_drawn ct_l_drawn : Value}
    {f_l_fits : Addr} {od_l_fits an_l_fits : Option Addr} {sl_l_fits : Array (Option Value)} {oc_l_fits kV_l_fits dc_l_fits pm_l_fits cd_l_fits ct_l_fits : Value}
    {f_law : Addr} {od_law an_law : Option Addr} {sl_law : Array (Option Value)} {oc_law kV_law dc_law pm_law cd_law ct_law : Value}
    (a_times : PySem.W.nsIn K mainGlobals "times" = some (some (.ref f_times)))
    (l_times : K.lookup f_times = some ⟨oc_times, od_times, .func (PySem.W.fnOf "times" "times" (defArgs s_times) (defBody s_times) (defScope s_times) .none kV_times dc_times pm_times an_times cd_times ct_times), sl_times⟩)
    (c_times : PySem.W.codeIn K cd_times "times" = true)
    (k_times : PySem.W.keepIn K (.ref f_times) = true)
    (a_over : PySem.W.nsIn K mainGlobals "over" = some (some (.ref f_over)))
    (l_over : K.lookup f_over = some ⟨oc_over, od_over, .func (PySem.W.fnOf "over" "over" (defArgs s_over) (defBody s_over) (defScope s_over) .none kV_over dc_over pm_over an_over cd_over ct_over), sl_over⟩)
    (c_over : PySem.W.codeIn K cd_over "over" = true)
    (k_over : PySem.W.keepIn K (.ref f_over) = true)
    (a_l_pipe : PySem.W.nsIn K mainGlobals "_law_pipe" = some (some (.ref f_l_pipe)))
    (l_l_pipe : K.lookup f_l_pipe = some ⟨oc_l_pipe, od_l_pipe, .func (PySem.W.fnOf "_law_pipe" "_law_pipe" (defArgs s_l_pipe) (defBody s_l_pipe) (defScope s_l_pipe) .none kV_l_pipe dc_l_pipe pm_l_pipe an_l_pipe cd_l_pipe ct_l_pipe), sl_l_pipe⟩)
    (c_l_pipe : PySem.W.codeIn K cd_l_pipe "_law_pipe" = true)
    (k_l_pipe : PySem.W.keepIn K (.ref f_l_pipe) = true)
    (a_l_tune : PySem.W.nsIn K mainGlobals "_law_tune" = some (some (.ref f_l_tune)))
    (l_l_tune : K.lookup f_l_tune = some ⟨oc_l_tune, od_l_tune, .func (PySem.W.fnOf "_law_tune" "_law_tune" (defArgs s_l_tune) (defBody s_l_tune) (defScope s_l_tune) .none kV_l_tune dc_l_tune pm_l_tune an_l_tune cd_l_tune ct_l_tune), sl_l_tune⟩)
    (c_l_tune : PySem.W.codeIn K cd_l_tune "_law_tune" = true)
    (k_l_tune : PySem.W.keepIn K (.ref f_l_tune) = true)
    (a_l_drawn : PySem.W.nsIn K mainGlobals "_law_drawn" = some (some (.ref f_l_drawn)))
    (l_l_drawn : K.lookup f_l_drawn = some ⟨oc_l_drawn, od_l_drawn, .func (PySem.W.fnOf "_law_drawn" "_law_drawn" (defArgs s_l_drawn) (defBody s_l_drawn) (defScope s_l_drawn) .none kV_l_drawn dc_l_drawn pm_l_drawn an_l_drawn cd_l_drawn ct_l_drawn), sl_l_drawn⟩)
    (c_l_drawn : PySem.W.codeIn K cd_l_drawn "_law_drawn" = true)
    (k_l_drawn : PySem.W.keepIn K (.ref f_l_drawn) = true)
    (a_l_fits : PySem.W.nsIn K mainGlobals "_law_fits" = some (some (.ref f_l_fits)))
    (l_l_fits : K.lookup f_l_fits = some ⟨oc_l_fits, od_l_fits, .func (PySem.W.fnOf "_law_fits" "_law_fits" (defArgs s_l_fits) (defBody s_l_fits) (defScope s_l_fits) .none kV_l_fits dc_l_fits pm_l_fits an_l_fits cd_l_fits ct_l_fits), sl_l_fits⟩)
    (c_l_fits : PySem.W.codeIn K cd_l_fits "_law_fits" = true)
    (k_l_fits : PySem.W.keepIn K (.ref f_l_fits) = true)
    (a_law : PySem.W.nsIn K mainGlobals "law" = some (some (.ref f_law)))
    (l_law : K.lookup f_law = some ⟨oc_law, od_law, .func (PySem.W.fnOf "law" "law" (defArgs s_law) (defBody s_law) (defScope s_law) .none kV_law dc_law pm_law an_law cd_law ct_law), sl_law⟩)
    (c_law : PySem.W.codeIn K cd_law "law" = true)
    (k_law : PySem.W.keepIn K (.ref f_law) = true)
    (z_int : PySem.W.nsIn K mainGlobals "int" = some none)
    (z_len : PySem.W.nsIn K mainGlobals "len" = some none)
    (z_max : PySem.W.nsIn K mainGlobals "max" = some none)
    (z_min : PySem.W.nsIn K mainGlobals "min" = some none)
    (z_range : PySem.W.nsIn K mainGlobals "range" = some none)
    (z_repr : PySem.W.nsIn K mainGlobals "repr" = some none)
    (z_tuple : PySem.W.nsIn K mainGlobals "tuple" = some none) : Tx K mg :=
  { f_times := f_times, d_times := _, F_times := fun_mk (st := s_times) l_times c_times k_times, b_times := (fun_mk (st := s_times) l_times c_times k_times).binds (ps := ["one", "other"]) fun _ _ _ _ _ _ us hl => match us, hl with | [_, _], _ => rfl,
    m_times := PySem.W.mg_of X G a_times,
    f_over := f_over, d_over := _, F_over := fun_mk (st := s_over) l_over c_over k_over, b_over := (fun_mk (st := s_over) l_over c_over k_over).binds (ps := ["one", "other"]) fun _ _ _ _ _ _ us hl => match us, hl with | [_, _], _ => rfl,
    m_over := PySem.W.mg_of X G a_over,
    f_l_pipe := f_l_pipe, d_l_pipe := _, F_l_pipe := fun_mk (st := s_l_pipe) l_l_pipe c_l_pipe k_l_pipe, b_l_pipe := (fun_mk (st := s_l_pipe) l_l_pipe c_l_pipe k_l_pipe).binds (ps := ["script", "place"]) fun _ _ _ _ _ _ us hl => match us, hl with | [_, _], _ => rfl,
    m_l_pipe := PySem.W.mg_of X G a_l_pipe,
    f_l_tune := f_l_tune, d_l_tune := _, F_l_tune := fun_mk (st := s_l_tune) l_l_tune c_l_tune k_l_tune, b_l_tune := (fun_mk (st := s_l_tune) l_l_tune c_l_tune k_l_tune).binds (ps := ["pipe", "many"]) fun _ _ _ _ _ _ us hl => match us, hl with | [_, _], _ => rfl,
    m_l_tune := PySem.W.mg_of X G a_l_tune,
    f_l_drawn := f_l_drawn, d_l_drawn := _, F_l_drawn := fun_mk (st := s_l_drawn) l_l_drawn c_l_drawn k_l_drawn, b_l_drawn := (fun_mk (st := s_l_drawn) l_l_drawn c_l_drawn k_l_drawn).binds (ps := ["pipe", "most"]) fun _ _ _ _ _ _ us hl => match us, hl with | [_, _], _ => rfl,
    m_l_drawn := PySem.W.mg_of X G a_l_drawn,
    f_l_fits := f_l_fits, d_l_fits := _, F_l_fits := fun_mk (st := s_l_fits) l_l_fits c_l_fits k_l_fits, b_l_fits := (fun_mk (st := s_l_fits) l_l_fits c_l_fits k_l_fits).binds (ps := ["pipe"]) fun _ _ _ _ _ _ us hl => match us, hl with | [_], _ => rfl,
    m_l_fits := PySem.W.mg_of X G a_l_fits,
    f_law := f_law, d_law := _, F_law := fun_mk (st := s_law) l_law c_law k_law, b_law := (fun_mk (st := s_law) l_law c_law k_law).binds (ps := ["script"]) fun _ _ _ _ _ _ us hl => match us, hl with | [_], _ => rfl,
    m_law := PySem.W.mg_of X G a_law,
    z_int := PySem.W.mg_none_of X G z_int,
    z_len := PySem.W.mg_none_of X G z_len,
    z_max := PySem.W.mg_none_of X G z_max,
    z_min := PySem.W.mg_none_of X G z_min,
    z_range := PySem.W.mg_none_of X G z_range,
    z_repr := PySem.W.mg_none_of X G z_repr,
    z_tuple := PySem.W.mg_none_of X G z_tuple }

theorem walk {l : PySem.W.OpenLaw} {q : Program} {loose : List Str} {XP : (Str → Option Value) → Heap → Prop} {YP : World → Heap → Prop} {d : DefRec} {K : Params → PySem.W.Frag} (hn : l.most = some 63) (hdf : d.params.defaults = []) (hnm : d.name = ("law" : Str))
    (hY : ∀ (w : World) (h : Heap), YP w h → (K w.params).In h)
    (F : ∀ (w : World) (mg : Str → Option Value) (h : Heap), (K w.params).In h → h.Ns mainGlobals mg → Nonempty (Tx (K w.params) mg)) :
    PySem.W.WalkO q loose XP YP l.row.toRowW d [] (fun f vs => PySem.call f vs) := by
  refine walkG (n := 63) (k := 4) (x := "script") (sp := fun w => spLaw (K w.params)) hn (by decide) hdf ⟨rfl, by decide, by decide⟩ hY (fun w mg fa h KX G hmg => ?_) (fun w H a ns hl hb hS => ⟨rfl, a, ns, rfl, hS, hl, hb, fun _ => rfl⟩)
  obtain ⟨T⟩ := F w mg h KX G
  rw [hnm] at hmg
  have e := hmg.symm.trans T.m_law
  injection e with e
  injection e with e
  subst e
  exact ⟨T.d_law, fun s v X => T.b_law s [v] X rfl, fun base _ _ => ok_law T⟩
end Law
open PySem PySem.W PyProof.Rows
set_option maxRecDepth 100000 in
set_option maxHeartbeats 0 in
theorem PySem.Challenge.cw_heldtones_k02_ratios_multiplied_holds : PySem.Challenge.rw_heldtones_k02_ratios_multiplied.Holds := by
  w_on; o_law; k_head; (case hw => w_witness2)
  k_fill
  refine Law.walk (l := PySem.Challenge.rw_heldtones_k02_ratios_multiplied) rfl rfl rfl (fun w h Y => PySem.W.kIn_of Y) ?F
  case F =>
    intro w mg h KX G
    refine' ⟨Law.tx_mk KX G ?a_times ?l_times ?c_times ?k_times ?a_over ?l_over ?c_over ?k_over ?a_l_pipe ?l_l_pipe ?c_l_pipe ?k_l_pipe ?a_l_tune ?l_l_tune ?c_l_tune ?k_l_tune ?a_l_drawn ?l_l_drawn ?c_l_drawn ?k_l_drawn ?a_l_fits ?l_l_fits ?c_l_fits ?k_l_fits ?a_law ?l_law ?c_law ?k_law ?z_int ?z_len ?z_max ?z_min ?z_range ?z_repr ?z_tuple⟩
    (case a_times => k_is); (case l_times => k_is); (case c_times => k_is); (case k_times => k_is); (case a_over => k_is); (case l_over => k_is); (case c_over => k_is); (case k_over => k_is); (case a_l_pipe => k_is); (case l_l_pipe => k_is); (case c_l_pipe => k_is); (case k_l_pipe => k_is); (case a_l_tune => k_is); (case l_l_tune => k_is); (case c_l_tune => k_is); (case k_l_tune => k_is); (case a_l_drawn => k_is); (case l_l_drawn => k_is); (case c_l_drawn => k_is); (case k_l_drawn => k_is); (case a_l_fits => k_is); (case l_l_fits => k_is); (case c_l_fits => k_is); (case k_l_fits => k_is); (case a_law => k_is); (case l_law => k_is); (case c_law => k_is); (case k_law => k_is); (case z_int => k_is); (case z_len => k_is); (case z_max => k_is); (case z_min => k_is); (case z_range => k_is); (case z_repr => k_is); (case z_tuple => k_is)

