import PyProof.Rows.All
import Wide.All
import OpenK.AllK
import Wide.FinOn
import HandS.ForMost
import HandS.ForExc
import HandS.ExcInit
import HandS.ExcValue
import HandS.IsInst
import HandS.Wide
import HandS.Gcd
import HandS.Lambda
import HandS.Ends
import HandS.Head0
import HandS.Head1
import HandS.Head2
import HandS.HeadEnd
import HandS.HeadHook1
import HandS.HeadHook2
import HandS.HeadHook4
import HandS.EndTab
import HandS.ExcIs
import HandS.ExcField
import HandS.Defaults
import HandS.More
import HandS.Star
import HandS.OwnEq
import HandS.Style
import HandS.TupAny
import HandS.RevRange
import PySem.Challenge.RW_spindleway_k32_likenesses_that_given_one
import PyProof.ZipIter
import HandS.Zip
import HandS.Walk
import PyProof.NeKinds
import HandS.LawCells
import KE.KIndexOf
import HandS.ClsMeth
import HandS.MakeKw
import HandS.Conv
import HandS.SetBool
import HandS.TupSets
import KE.KDictKeyed
import KE.KeyNested
import HandS.DictComp
import HandS.TupLen
import PyProof.Rows.TupDisplay
import HandS.NamedTupSort
import PyProof.EqAt
import KE.KDictPairs
import HandS.Deep
import HandS.TupMul
set_option Elab.async false
set_option linter.all false
set_option maxRecDepth 100000
set_option maxHeartbeats 2000000
namespace K0
open PySem PySem.Spec PyProof.Rows L2

/-- a def's promise where no repr is under way around the call -/
structure FnG (P : Program) (w : World) (K : PySem.W.Frag) (mg : Str → Option Value) (base : Heap)
    (k : Nat) (f : Addr) (fd : FuncData) (ps : List Str) (sp : Sp) : Prop where
  len : ∀ vs H Q E, sp vs H Q E → vs.length = ps.length
  go : ∀ (A : Around) (outer : List Env) (s : Shared) (H : Hp) (args : Args) (us : List Value)
    (vs : List V) (Q : VK) (E : XK), A.guards = some [] → Room k A → Env0 P w K mg base A outer s H →
    BindsTo s fd args (ps.zip us) → Vals vs us → sp vs H Q E →
    codeAny (model P w) A (.call (.ref f) args) (CR CX0 outer P w H s Q E) s

theorem FnG.of {P : Program} {w : World} {K : PySem.W.Frag} {mg : Str → Option Value} {base : Heap}
    {k : Nat} {f : Addr} {fd : FuncData} {ps : List Str} {sp : Sp}
    (F : FnOk P w K mg base CX0 k f fd ps sp) : FnG P w K mg base k f fd ps sp :=
  ⟨F.len, fun A outer s H args us vs Q E _ => F.run A outer s H args us vs Q E⟩

theorem Fun_okG {P : Program} {w : World} {K : PySem.W.Frag} {mg : Str → Option Value} {base : Heap}
    {x qual : Str} {st : Stmt} {f : Addr} {fd : FuncData} {N ps : List Str} {k : Nat} {sp : Sp}
    (F : Fun K x qual st f fd) (S : FnScope N ps (defScope st))
    (len : ∀ vs H Q E, sp vs H Q E → vs.length = ps.length)
    (hbody : ∀ (cdv : Value) (A : Around) (outer : List Env) (s : Shared) (H : Hp) (vs : List V) (Q : VK) (E : XK),
      A.guards = some [] → Room k (A.deeper (envOfC qual (defScope st) s.heap.objs.size f cdv)) → sp vs H Q E →
      ∃ t, PSs (cxOf CX0 P w K mg base N qual (defScope st) f cdv A outer s H E) (defBody st) t ∧
        t { nx := fun _ H' => Q .non H', rt := Q } (start N vs) H) :
    FnG P w K mg base (k + 1) f fd ps sp := by
  obtain ⟨oc, od, kV, doc, pm, an, cdv, ct, osl, rfl, lk, hcd⟩ := F.ex
  refine ⟨len, ?_⟩
  intro A outer s H args us vs Q E hg hr e0 hb r hsp
  have kept : ∀ b o, base.get? b = some o → s.heap.get? b = some o := fun b o e => (e0.bs b o e).1
  have KX : K.In s.heap := e0.mod.kin.keeps kept
  have lim : s.heap.NoLimit := e0.mod.nolimit.keeps kept
  refine codeAny_call_function hr.depth (KX _ _ lk) rfl S.co S.gen rfl
    (PySem.W.codeRec_of KX hcd) (hb _ _ _ _ ?_)
  refine wpAny_newFunctionEnv_cells S.kind ?_ ?_
  · rintro ⟨n, v⟩ hy
    cases S.par n (List.of_mem_zip hy).1 with
    | inl q => exact Or.inl q
    | inr q => exact Or.inr ⟨q, PySem.W.cellsFrom_some _ _ _ (Or.inl q)⟩
  · intro env he s1 x
    subst he
    obtain ⟨t, ht, hq⟩ := hbody cdv A outer s H vs Q E hg (hr.deeper _) hsp
    refine ⟨lim.keeps x.toInCall.keep, codeAny_func ?_⟩
    have I := inv_start (CX := CX0) (E := E) (N := N) (cd := cdv) S hr.hd e0 (len _ _ _ _ hsp) r x
    refine wpAny_mono (ht.run [] s1 (start N vs) H _ I hq) ?_ (fun _ _ z => z)
    intro fl s' hs
    cases fl with
    | ret u =>
      obtain ⟨v, σ', H', J, rv, q⟩ := hs
      exact ⟨v, H', J.os, J.bare, J.base, J.hok, rv, q⟩
    | next =>
      obtain ⟨σ', H', J, q⟩ := hs
      exact ⟨.non, H', J.os, J.bare, J.base, J.hok, rfl, q⟩
    | brk =>
      obtain ⟨_, _, _, q⟩ := hs
      cases q
    | cont =>
      obtain ⟨_, _, _, q⟩ := hs
      cases q

section
variable {X : Cx} {k : Nat} {f : Addr} {fd : FuncData} {ps : List Str} {sp : Sp} {x : Str} {p pos : Pos} {e : Expr} {es : List Expr} {t : TA}
/-- a call of such a def, by place -/
theorem pe_callG (F : FnG X.prog X.w X.K X.mg X.base k f fd ps sp) (hG : X.A.guards = some []) (hr : Room k X.A) (hg : Gl X x)
    (hm : X.mg x = some (.ref f)) (hk : PySem.W.keepIn X.K (.ref f) = true) (hb : Binds X.K fd ps []) (ha : PA X (e :: es) t)
    (hdb : (x == ("__debug__" : Str)) = false := by decide)
    (he : starEach (e :: es) X.env = (false, eval e X.env) :: starEach es X.env := by rfl)
    (hpl : (backTo pos (starEach es X.env)).any (·.1) = false := by rfl) :
    PE X (.Call (.Name x p) (e :: es) [] pos) (fun σ H Q => t σ H fun vs H1 => sp vs H1 Q E0) := by
  refine ⟨fun pins s σ H Q I h => wpAny_Call_Name_kw (ld_glob I hg hm ?_ hdb)⟩
  refine PySem.W.callWith_K (h₀ := X.base) I.ok.mod.kin hk
    (thn (ha.run pos pins s σ H _ I h) ?_) he hpl
  rintro us s1 ⟨vs, H1, I1, r, q⟩
  have hl : us.length = ps.length := r.length.symm.trans (F.len _ _ _ _ q)
  have hb1 := hb s1 us I1.kIn (by rw [List.append_nil]; exact hl)
  rw [List.append_nil] at hb1
  refine ⟨I1.kIn, wpAny_call (codeAny_mono (F.go X.A X.stack s1 H1 ⟨us, []⟩ us vs Q E0 hG hr I1.env0 hb1 r q) ?_)⟩
  intro r' s' hq
  cases r' with
  | error e' => cases hq
  | ok fl =>
    cases fl with
    | ret u => exact I1.after hq
    | next => cases hq
    | brk => cases hq
    | cont => cases hq
end
end K0


set_option Elab.async false
set_option linter.all false
set_option maxRecDepth 100000
set_option maxHeartbeats 4000000
/-! the head by one run, facts by names and one Bool; the law's call at the top, its promise FnG's -/
namespace HZ
open PySem PySem.Spec PyProof.Rows L2 He
/-- tuples hidden: what they hold is not grown into -/
def hideT (g : Addr → Option Obj) : Addr → Option Obj := fun a => match g a with
  | some o => (match o.cls with
    | .type "tuple" => none
    | _ => some o)
  | none => none
def itemsT (g : Addr → Option Obj) (as : List Addr) : List Addr := as.flatMap fun a => match g a with
  | some o => (match o.cls, o.data with
    | .type "tuple", .seq its _ => its.toList.flatMap refV
    | _, _ => [])
  | none => []
/-- what the globals lead to in n steps; then what tuples hold, twice -/
def asZ (n : Nat) (g : Addr → Option Obj) : List Addr := asD (hideT g) n ++ (itemsT g (asD (hideT g) n) ++ (itemsT g (itemsT g (asD (hideT g) n)) ++ [cStatics]))
/-- the def of a static method, as it stands in the written part -/
abbrev FnY : Type := Option (Str × Str × Arguments × FuncBody × Scope × Addr × List Str × Value × Addr)
abbrev AlZ : Type := AlD × Bool × FnY
/-- what is told of a def's table: empty, not in K -/
structure TabE (h : Heap) (K : PySem.W.Frag) (p : Defn) : Prop where
  hd : PySem.W.codeHdIn K (cT K p).1 (cT K p).2 = true
  out : K.lookup (cT K p).2 = none
  empty : h.get? (cT K p).2 = some { cls := .none, data := .fields #[] }
theorem tabsB_ok {as : List Addr} {h : Heap} {tf : List Defn} (e : tabsB h.get? tf (frT h.get? as) = true) : ∀ p ∈ tf, TabE h (frT h.get? as) p := fun p hp => by
  obtain ⟨h3, h4⟩ := ba (List.all_eq_true.mp e p hp)
  cases q : h.get? (cT (frT h.get? as) p).2 with
  | none =>
    rw [q] at h4
    cases h4
  | some o =>
    rw [q] at h4
    have h5 : emptyTab o = true := h4
    exact ⟨h3, frT_none q h5, by rw [q, emptyTab_eq h5]⟩
def obsY (n : Nat) (fa : List Fa) (fn : List DefD) (tf : List Defn) (ex : (Addr → Option Obj) → Bool) (fx : PySem.W.Frag → FnY) (g : Addr → Option Obj) : AlZ := (obsD fa fn (frT g (asZ n g)), ex g && tabsB g tf (frT g (asZ n g)), fx (frT g (asZ n g)))
def hookY (n : Nat) (fa : List Fa) (fn : List DefD) (tf : List Defn) (ex : (Addr → Option Obj) → Bool) (fx : PySem.W.Frag → FnY) (vy : FnY) (Tb : PySem.W.Frag → Prop) (ok : ∀ g, ex g = true → fx (frT g (asZ n g)) = vy → Tb (frT g (asZ n g))) : PySem.W.Hook where
  α := AlZ
  obs := fun s => obsY n fa fn tf ex fx s.heap.get?
  val := fun _ => (valD fn, true, vy)
  says := fun _ h => ∃ K : PySem.W.Frag, K.In h ∧ SaysD fa fn K ∧ Tb K ∧ ∀ p ∈ tf, TabE h K p
  of := fun _ _ e => by
    have e2 := congrArg (fun z : AlZ => z.2.1) e
    obtain ⟨e3, e4⟩ := ba e2
    exact ⟨_, frT_in, congrArg (fun z : AlZ => z.1) e, ok _ e3 (congrArg (fun z : AlZ => z.2.2) e), tabsB_ok e4⟩
  keeps := fun _ _ _ ⟨K, hK, c, t, q⟩ k => ⟨K, PySem.W.Frag.In.keeps hK k, c, t, fun p hp => ⟨(q p hp).hd, (q p hp).out, k _ _ (q p hp).empty⟩⟩
theorem obsY_eq {n : Nat} {fa : List Fa} {fn : List DefD} {tf : List Defn} {ex : (Addr → Option Obj) → Bool} {fx : PySem.W.Frag → FnY} {vy : FnY} {Tb : PySem.W.Frag → Prop} {ok : ∀ g, ex g = true → fx (frT g (asZ n g)) = vy → Tb (frT g (asZ n g))} {g : Addr → Option Obj} {s : Shared} (h : ∀ a, g a = s.heap.get? a) : obsY n fa fn tf ex fx g = (hookY n fa fn tf ex fx vy Tb ok).obs s := by
  have e : g = s.heap.get? := funext h
  rw [e] <;> rfl
theorem notTab {o : Obj} {c : String} (h : o.cls = .type c) : emptyTab o = false := by
  obtain ⟨oc, od, dt, sl⟩ := o
  cases h
  rfl
theorem lookup_fr {g : Addr → Option Obj} {a : Addr} {o : Obj} (h : g a = some o) : ∀ {as : List Addr}, a ∈ as → (frG g as).lookup a = some o
  | b :: r, hm => by
    unfold frG
    by_cases e : b = a
    · subst e
      rw [List.filterMap_cons_some (b := (b, o)) (by rw [h]; rfl)]
      exact List.lookup_cons_self
    · have hr : a ∈ r := (List.mem_cons.mp hm).resolve_left fun z => e z.symm
      have far := lookup_fr h hr
      unfold frG at far
      cases q : g b with
      | none => rw [List.filterMap_cons_none (by rw [q]; rfl)]; exact far
      | some o2 =>
        rw [List.filterMap_cons_some (b := (b, o2)) (by rw [q]; rfl), List.lookup_cons]
        have ne : (a == b) = false := by simpa using fun z : a = b => e z.symm
        rw [ne]
        exact far
theorem lookup_ft {g : Addr → Option Obj} {a : Addr} {o : Obj} {c : String} (h : g a = some o) (hc : o.cls = .type c) : ∀ {as : List Addr}, a ∈ as → (frT g as).lookup a = some o
  | b :: r, hm => by
    by_cases e : b = a
    · subst e
      have q : frT g (b :: r) = (b, o) :: frT g r := by
        unfold frT frG
        rw [List.filterMap_cons_some (b := (b, o)) (by rw [h]; rfl), List.filter_cons_of_pos (by show (!emptyTab o) = true; rw [notTab hc]; rfl)]
      rw [q]
      exact List.lookup_cons_self
    · have hr : a ∈ r := (List.mem_cons.mp hm).resolve_left fun z => e z.symm
      have far := lookup_ft h hc hr
      cases q : g b with
      | none =>
        have z : frT g (b :: r) = frT g r := by
          unfold frT frG
          rw [List.filterMap_cons_none (by rw [q]; rfl)]
        rw [z]
        exact far
      | some o2 =>
        have ne : (a == b) = false := by simpa using fun z : a = b => e z.symm
        by_cases t : emptyTab o2 = true
        · have z : frT g (b :: r) = frT g r := by
            unfold frT frG
            rw [List.filterMap_cons_some (b := (b, o2)) (by rw [q]; rfl), List.filter_cons_of_neg (by show ¬ (!emptyTab o2) = true; rw [t]; decide)]
          rw [z]
          exact far
        · have z : frT g (b :: r) = (b, o2) :: frT g r := by
            unfold frT frG
            rw [List.filterMap_cons_some (b := (b, o2)) (by rw [q]; rfl), List.filter_cons_of_pos (by show (!emptyTab o2) = true; cases y : emptyTab o2 with | false => rfl | true => exact absurd y t)]
          rw [z, List.lookup_cons, ne]
          exact far
theorem mem_items {g : Addr → Option Obj} {as : List Addr} {a p : Addr} {o : Obj} {its : Array Value} {n : Nat} (ha : a ∈ as) (h : g a = some o) (hc : o.cls = .type "tuple") (hd : o.data = .seq its n) (hp : Value.ref p ∈ its.toList) : p ∈ itemsT g as := by
  unfold itemsT
  rw [List.mem_flatMap]
  refine ⟨a, ha, ?_⟩
  rw [h]
  dsimp only
  rw [hc, hd]
  exact List.mem_flatMap.mpr ⟨_, hp, List.mem_singleton.mpr rfl⟩
/-- a def without defaults -/
def dd (x : Str) (st : Stmt) : DefD := ⟨(x, none), x, x, defArgs st, defBody st, defScope st, [], []⟩
def dm (C m q : Str) (st : Stmt) : DefD := ⟨(C, some m), m, q, defArgs st, defBody st, defScope st, [], []⟩
theorem funD {K : PySem.W.Frag} {x q : Str} {st : Stmt} {f : Addr} {fd : FuncData} (F : FunD K x q (defArgs st) (defBody st) (defScope st) [] [] f fd) : Fun K x q st f fd := by
  obtain ⟨⟨oc, od, dV, kV, doc, pm, an, cdv, ct, osl, e, l, c, hd, hk⟩, kp⟩ := F
  refine ⟨⟨oc, od, kV, doc, pm, an, cdv, ct, osl, ?_, l, c⟩, kp⟩
  rcases hd with ⟨_, e2⟩ | ⟨h, _⟩
  · rw [e, e2]
  · exact absurd rfl h
section
variable {fa : List Fa} {fn : List DefD} {K : PySem.W.Frag}
theorem fun_at (c : SaysD fa fn K) (i : Nat) {x : Str} {st : Stmt} (h : fn[i]? = some (dd x st)) : ∃ fd, Fun K x x st (ga K x) fd := by
  obtain ⟨fd, F⟩ := c.def_ i h
  exact ⟨fd, funD F⟩
theorem met_at (c : SaysD fa fn K) (i : Nat) {C m q : Str} {st : Stmt} (h : fn[i]? = some (dm C m q st)) : ∃ fd, Fun K m q st (ma K (ga K C) m) fd := by
  obtain ⟨fd, F⟩ := c.def_ i h
  exact ⟨fd, funD F⟩
end
section
open K0
/-- what the top tracks: the tables, and the list at a where t -/
def topH (PS : List (Addr × Addr)) (a : Addr) (t : Bool) (u : HO) : Hp := fun b => if b ∈ PS.map (·.2) then some (.tbl #[]) else if b = a then (if t = true then some u else none) else none
section
variable {PS : List (Addr × Addr)} {a b : Addr} {t : Bool} {u : HO}
theorem topH_T (h : b ∈ PS.map (·.2)) : topH PS a t u b = some (.tbl #[]) := if_pos h
theorem topH_a (h : a ∉ PS.map (·.2)) : topH PS a t u a = if t = true then some u else none := (if_neg h).trans (if_pos rfl)
theorem topH_o (h1 : b ∉ PS.map (·.2)) (h2 : b ≠ a) : topH PS a t u b = none := (if_neg h1).trans (if_neg h2)
end
section
variable {P : Program} {w : World} {K : PySem.W.Frag} {mg mb : Str → Option Value} {k : Nat} {fa a : Addr} {PS : List (Addr × Addr)} {fd : FuncData} {x : Str} {sp : Sp} {sT : Shared} {vs : List Value} {ns : List Int}
theorem top_call (KX : K.In sT.heap) (nG : sT.heap.Ns mainGlobals mg) (nB : sT.heap.Ns builtinsNs mb) (bB : ∀ y : Str, y ≠ "__name__" → mb y = bootBuiltins y) (lim : sT.heap.NoLimit) (gens : sT.gens = #[])
    (tabs : ∀ p ∈ PS, sT.heap.get? p.2 = some { cls := .none, data := .fields #[] } ∧ K.lookup p.2 = none ∧ PySem.W.CodeHd sT.heap p.1 p.2)
    (bm : ∃ (m : Addr) (om : Obj), mg "__builtins__" = some (.ref m) ∧ m ≠ builtinsNs ∧ sT.heap.get? m = some om ∧ om.cls = .type "module" ∧ om.dict = some builtinsNs ∧ om.data = .plain)
    (la : sT.heap.get? a = some { cls := .type "list", data := .seq vs.toArray }) (li : IntsAre vs ns) (ll : ns.length ≤ sizeLine) (room : Room k callerA)
    (F : ∀ gr : Heap, K.In gr → gr.Ns mainGlobals mg → (∀ p ∈ PS, LamX.TabB gr mg p.1 p.2) → FnG P w K mg gr k fa fd [x] sp)
    (bind : ∀ (s : Shared) (v : Value), BindsTo s fd ⟨[v], []⟩ [(x, v)])
    (ask : ∀ Hx : Hp, (∀ p ∈ PS, Hx p.2 = some (.tbl #[])) → SqL K Hx a (ns.map V.int) → sp [.ref a] Hx (fun v _ => v = .bl true) fun _ _ _ => False) :
    codeAny (model P w) callerA (.call (.ref fa) ⟨[.ref a], []⟩) (fun r sE => r = .ok (.ret (.bool true)) ∧ OldK sT.heap sE.heap ∧ sE.os = sT.os ∧ AllBare sE.gens) sT := by
  have vn := vals_ints li
  have len := li.length
  have tab : ∀ {b : Addr}, b ∈ PS.map (·.2) → sT.heap.get? b = some { cls := .none, data := .fields #[] } := fun {b} hb => by
    obtain ⟨p, hp, rfl⟩ := List.mem_map.mp hb
    exact (tabs p hp).1
  have tabK : ∀ {b : Addr}, b ∈ PS.map (·.2) → K.lookup b = none := fun {b} hb => by
    obtain ⟨p, hp, rfl⟩ := List.mem_map.mp hb
    exact (tabs p hp).2.1
  have aT : a ∉ PS.map (·.2) := fun z => by
    rw [tab z] at la
    cases la
  obtain ⟨t, ht⟩ : ∃ t, t = (K.lookup a).isNone := ⟨_, rfl⟩
  obtain ⟨u, hu⟩ : ∃ u, u = HO.frz { cls := .type "list", data := .seq vs.toArray } (.lst (ns.map V.int)) := ⟨_, rfl⟩
  obtain ⟨Hx, eH⟩ : ∃ Hx, Hx = topH PS a t u := ⟨_, rfl⟩
  have hT : ∀ {b : Addr}, b ∈ PS.map (·.2) → Hx b = some (.tbl #[]) := fun {b} hb => by rw [eH]; exact topH_T hb
  have hA : Hx a = if t = true then some u else none := by rw [eH]; exact topH_a aT
  have hO : ∀ b, b ∉ PS.map (·.2) → b ≠ a → Hx b = none := fun b h1 h2 => by rw [eH]; exact topH_o h1 h2
  -- nothing but a list and a table is tracked
  have free : ∀ {b : Addr} {o : Obj}, sT.heap.get? b = some o → o.data ≠ .fields #[] → (∀ its n, o.data ≠ .seq its n) → Hx b = none := fun {b o} e d1 d2 => by
    refine hO b (fun z => ?_) fun z => ?_
    · rw [tab z] at e
      cases e
      exact d1 rfl
    · rw [z, la] at e
      cases e
      exact d2 _ _ rfl
  have held : HOk P w Hx sT.heap := fun b o e => by
    by_cases h1 : b ∈ PS.map (·.2)
    · rw [hT h1] at e
      cases e
      exact tab h1
    · by_cases h2 : b = a
      · rw [h2, hA] at e
        cases t with
        | false => exact absurd e (by simp)
        | true =>
          rw [if_pos rfl] at e
          cases e
          rw [h2, hu]
          exact ⟨la, by rw [List.length_map]; exact ll, vs, _, vn, la⟩
      · rw [hO b h1 h2] at e
        cases e
  have seq : SqL K Hx a (ns.map V.int) := by
    cases hk : K.lookup a with
    | none =>
      rw [hk] at ht
      refine .inl (.inr ⟨{ cls := .type "list", data := .seq vs.toArray }, ?_⟩)
      rw [hA, ht, ← hu]
      rfl
    | some o =>
      have e := KX a o hk
      rw [la] at e
      cases e
      exact .inr ⟨_, vs.toArray, _, hk, rfl, rfl, rfl, by rw [List.size_toArray, len]; exact ll, by simpa using vn⟩
  have inGr : K.In (hidT sT.heap Hx) := fun b o e => by
    refine hidT_get (KX b o e) ?_
    by_cases h1 : b ∈ PS.map (·.2)
    · rw [tabK h1] at e
      cases e
    · by_cases h2 : b = a
      · rw [h2] at e
        rw [e] at ht
        rw [h2, hA, ht]
        rfl
      · exact hO b h1 h2
  have ns2 : ∀ {b : Addr} {m : Str → Option Value}, sT.heap.Ns b m → (hidT sT.heap Hx).Ns b m := fun {b m} ⟨o, es, ep, e, d, r⟩ =>
    ⟨o, es, ep, hidT_get e (free e (fun z => by rw [d] at z; cases z) fun its n z => by rw [d] at z; cases z), d, r⟩
  have tb : ∀ p ∈ PS, LamX.TabB (hidT sT.heap Hx) mg p.1 p.2 := fun p hp => by
    obtain ⟨tab, tabK, code⟩ := tabs p hp
    refine ⟨?_, ?_, fun z => ?_⟩
    · obtain ⟨o, us, file, tf, flags, tg, inF, text, tt, e1, r1, r2, r3, rest⟩ := code
      refine ⟨o, us, file, tf, flags, tg, inF, text, tt, hidT_get e1 (free e1 (fun z => ?_) fun its n z => ?_), r1, r2, r3, rest⟩
      · rw [r2] at z
        cases z
        simp at r3
      · rw [r2] at z
        cases z
    · obtain ⟨m, om, b1, b2, b3, b4, b5, b6⟩ := bm
      refine ⟨m, om, b1, b2, fun z => ?_, fun z => ?_, hidT_get b3 (free b3 (fun z => ?_) fun its n z => ?_), b4, b5, b6⟩
      · obtain ⟨o, es, ep, e, d, _⟩ := nG
        rw [z, e] at b3
        cases b3
        rw [d] at b6
        cases b6
      · rw [z, tab] at b3
        cases b3
        cases b6
      · rw [b6] at z
        cases z
      · rw [b6] at z
        cases z
    · obtain ⟨o, es, ep, e, d, _⟩ := nG
      rw [z, tab] at e
      cases e
      cases d
  have env : Env0 P w K mg (hidT sT.heap Hx) callerA [] sT Hx :=
    { frames := rfl
      mod := ⟨inGr, ns2 nG, ⟨mb, ns2 nB, bB⟩, let ⟨mc, z1, z2⟩ := lim; ⟨mc, ns2 z1, z2⟩⟩
      bs := fun b o e => of_hidT e
      bsz := Nat.le_of_eq (hidT_size _ _)
      funs := trivial
      frf := fun b hb => absurd hb List.not_mem_nil
      hok := held
      bare := .of_eq gens }
  have go := (F _ inGr (ns2 nG) tb).go callerA [] sT Hx ⟨[.ref a], []⟩ [.ref a] [.ref a] _ _ rfl room env (bind sT (.ref a)) (.cons rfl .nil) (ask Hx (fun p hp => hT (List.mem_map_of_mem hp)) seq)
  refine codeAny_mono go fun r sE h => ?_
  match r, h with
  | .error e, h => exact (show False from h).elim
  | .ok .next, h => exact (show False from h).elim
  | .ok .brk, h => exact (show False from h).elim
  | .ok .cont, h => exact (show False from h).elim
  | .ok (.ret z), h =>
    obtain ⟨v, Hy, os, bare, un, ok2, rv, q⟩ := h
    have q2 : v = .bl true := q
    subst q2
    obtain rfl : z = Value.bool true := rv
    have stay : ∀ b o, b ∉ PS.map (·.2) → sT.heap.get? b = some o → sE.heap.get? b = some o := fun b o nb e => by
      by_cases hb : b = a
      · have hAe := hA
        cases t with
        | false => exact un.keep b o e (by rw [hb, hAe]; rfl) List.not_mem_nil List.not_mem_nil
        | true =>
          rw [if_pos rfl] at hAe
          have fz := hAe
          rw [hu] at fz
          have f2 := un.frzs a _ _ fz
          obtain ⟨z1, _⟩ := held a _ fz
          obtain ⟨z2, _⟩ := ok2 a _ f2
          rw [hb, z1] at e
          cases e
          rw [hb]
          exact z2
      · exact un.keep b o e (hO b nb hb) List.not_mem_nil List.not_mem_nil
    refine ⟨rfl, ⟨fun b o e => ?_, fun b o e => ?_⟩, os, bare⟩
    · by_cases hb : b ∈ PS.map (·.2)
      · obtain ⟨p, hp, rfl⟩ := List.mem_map.mp hb
        obtain ⟨more, hm⟩ := un.tbls p.2 #[] (hT hb)
        have tE : sE.heap.get? p.2 = some { cls := .none, data := .fields (#[] ++ more) } := ok2 p.2 _ hm
        rw [tab hb] at e
        cases e
        exact .inr (.inl ⟨((tabs p hp).2.2.tab (tab hb)).isCodeTable, rfl, #[], more, rfl, tE⟩)
      · exact .inl (stay b o hb e)
    · by_cases hb : b ∈ PS.map (·.2)
      · obtain ⟨more, hm⟩ := un.tbls b #[] (hT hb)
        exact ⟨_, ok2 b _ hm⟩
      · exact ⟨o, stay b o hb e⟩
end
theorem walk_G {l : PySem.W.OpenLaw} {n k : Nat} {q : Program} {loose : List Str} {XP : (Str → Option Value) → Heap → Prop} {YP : World → Heap → Prop} {d : DefRec}
    {x : Str}
    (hn : l.most = some n) (hn2 : n ≤ sizeLine) (hdf : d.params.defaults = []) (room : Room k callerA)
    (F : ∀ (w : World) (mg : Str → Option Value) (fa : Addr) (h : Heap),
      YP w h → h.Ns mainGlobals mg → mg d.name = some (.ref fa) →
      ∃ (K : PySem.W.Frag) (fd : FuncData) (PS : List (Addr × Addr)) (sp : Sp), K.In h ∧ (∀ p ∈ PS, h.get? p.2 = some { cls := .none, data := .fields #[] } ∧ K.lookup p.2 = none ∧ PySem.W.CodeHd h p.1 p.2) ∧
        (∀ (s : Shared) (v : Value), BindsTo s fd ⟨[v], []⟩ [(x, v)]) ∧
        (∀ (Hx : Hp) (a : Addr) (ns : List Int), ns.length ≤ n → (∀ p ∈ PS, Hx p.2 = some (.tbl #[])) →
          SqL K Hx a (ns.map V.int) → sp [.ref a] Hx (fun v _ => v = .bl true) fun _ _ _ => False) ∧
        ∀ gr : Heap, K.In gr → gr.Ns mainGlobals mg → (∀ p ∈ PS, LamX.TabB gr mg p.1 p.2) →
          FnG l.prog w K mg gr k fa fd [x] sp) :
    PySem.W.WalkO q loose XP YP l.row.toRowW d []
      (fun f vs => PySem.call f vs) := by
  refine Att.attach_call hn hdf fun w sB sT mg mb fa o pm cd doc a vs ns Gd Y _ _ _ hmg la li ll gens => ?_
  obtain ⟨K, fd, PS, sp, KX, tabs, bind, ask, Fg⟩ := F w mg fa _ Y Gd.T.g hmg
  exact top_call KX Gd.T.g Gd.T.b Gd.T.builtins Gd.T.nolimit gens tabs Gd.T.bmain la li
    (Nat.le_trans ll hn2) room Fg bind fun Hx h1 h2 => ask Hx a ns ll h1 h2
end
/-! ### tables in the written part -/
def intsB : List Value → List Int → Bool
  | [], [] => true
  | .int i _ :: us, n :: ns => decide (i = n) && intsB us ns
  | _, _ => false
theorem intsB_ok : ∀ {us : List Value} {ns : List Int}, intsB us ns = true → Vals (ns.map V.int) us
  | [], [], _ => .nil
  | [], _ :: _, h => by cases h
  | u :: us, [], h => by cases u <;> cases h
  | u :: us, n :: ns, h => by
    cases u with
    | int i t =>
      have h2 : (decide (i = n) && intsB us ns) = true := h
      rw [Bool.and_eq_true] at h2
      have e := of_decide_eq_true h2.1
      subst e
      exact .cons ⟨t, rfl⟩ (intsB_ok h2.2)
    | _ => cases h
/-- at a a tuple whose items are these -/
def tupAt (g : Addr → Option Obj) (a : Addr) (p : List Value → Bool) : Bool := match g a with
  | some ⟨.type c, _, .seq its _, _⟩ => decide (c = "tuple") && (decide (its.size ≤ sizeLine) && p its.toList)
  | _ => false
theorem tupAt_ok {g : Addr → Option Obj} {a : Addr} {p : List Value → Bool} (h : tupAt g a p = true) : ∃ (o : Obj) (its : Array Value) (n : Nat), g a = some o ∧ o.cls = .type "tuple" ∧ o.data = .seq its n ∧ its.size ≤ sizeLine ∧ p its.toList = true := by
  unfold tupAt at h
  cases q : g a with
  | none =>
    rw [q] at h
    cases h
  | some o =>
    obtain ⟨oc, od, dt, osl⟩ := o
    rw [q] at h
    cases oc with
    | type c =>
      cases dt with
      | seq its n =>
        obtain ⟨h1, h2⟩ := ba (show (decide (c = "tuple") && (decide (its.size ≤ sizeLine) && p its.toList)) = true from h)
        obtain ⟨h3, h4⟩ := ba h2
        exact ⟨_, its, n, rfl, congrArg Value.type (of_decide_eq_true h1), rfl, of_decide_eq_true h3, h4⟩
      | _ => cases h
    | _ => cases dt <;> cases h
section
variable {g : Addr → Option Obj} {as : List Addr}
def rowB (g : Addr → Option Obj) (u : Value) (r : List Int) : Bool := match u with
  | .ref p => tupAt g p fun us => intsB us r
  | _ => false
theorem rowB_ok {u : Value} {r : List Int} (h : rowB g u r = true) (m : ∀ p, u = .ref p → p ∈ as) : ∃ p, u = .ref p ∧ ∀ H, SqT (frT g as) H p (r.map V.int) := by
  cases u with
  | ref p =>
    obtain ⟨o, its, n, h1, h2, h3, h4, h5⟩ := tupAt_ok (show tupAt g p (fun us => intsB us r) = true from h)
    exact ⟨p, rfl, fun H => .inr ⟨o, its, n, lookup_ft h1 h2 (m p rfl), h2, h3, h4, intsB_ok h5⟩⟩
  | _ => cases h
def rowsB (g : Addr → Option Obj) : List Value → List (List Int) → Bool
  | [], [] => true
  | u :: us, r :: rs => rowB g u r && rowsB g us rs
  | _, _ => false
theorem rowsB_ok : ∀ {us : List Value} {rs : List (List Int)}, rowsB g us rs = true → (∀ p, Value.ref p ∈ us → p ∈ as) → ∃ xs : List V, Vals xs us ∧ xs.length = rs.length ∧ ∀ (i : Nat) (r : List Int), rs[i]? = some r → ∃ p : Addr, xs[i]? = some (V.ref p) ∧ ∀ H, SqT (frT g as) H p (r.map V.int)
  | [], [], _, _ => ⟨[], .nil, rfl, fun i r e => by cases e⟩
  | [], _ :: _, h, _ => by cases h
  | _ :: _, [], h, _ => by cases h
  | u :: us, r :: rs, h, m => by
    obtain ⟨h1, h2⟩ := ba (show (rowB g u r && rowsB g us rs) = true from h)
    obtain ⟨p, rfl, hp⟩ := rowB_ok (as := as) h1 fun p e => m p (by rw [e]; exact List.mem_cons_self)
    obtain ⟨xs, h3, h4, h5⟩ := rowsB_ok h2 fun p e => m p (List.mem_cons_of_mem _ e)
    refine ⟨.ref p :: xs, .cons rfl h3, by rw [List.length_cons, h4, List.length_cons], fun i r' e => ?_⟩
    cases i with
    | zero => cases e; exact ⟨p, rfl, hp⟩
    | succ i => exact h5 i r' e
/-- .. is a tuple of pairs of a tuple and a number -/
def pairP (g : Addr → Option Obj) (r : List Int × Int) : List Value → Bool
  | [v, .int n _] => rowB g v r.1 && decide (n = r.2)
  | _ => false
def pairB (g : Addr → Option Obj) (u : Value) (r : List Int × Int) : Bool := match u with
  | .ref p => tupAt g p (pairP g r)
  | _ => false
theorem pairB_ok {bs : List Addr} {u : Value} {r : List Int × Int} (h : pairB g u r = true) (m : ∀ p, u = .ref p → p ∈ as ∧ p ∈ bs) (m2 : ∀ p, p ∈ itemsT g bs → p ∈ as) : ∃ t p, u = .ref t ∧ (∀ H, SqT (frT g as) H t [.ref p, .int r.2]) ∧ ∀ H, SqT (frT g as) H p (r.1.map V.int) := by
  cases u with
  | ref t =>
    obtain ⟨o, its, n, h1, h2, h3, h4, h5⟩ := tupAt_ok (show tupAt g t (pairP g r) = true from h)
    obtain ⟨m3, m4⟩ := m t rfl
    generalize hl : its.toList = us at h5
    match us, h5 with
    | [v, .int k tk], h5 =>
      obtain ⟨h6, h7⟩ := ba (show (rowB g v r.1 && decide (k = r.2)) = true from h5)
      obtain ⟨p, rfl, hp⟩ := rowB_ok (as := as) h6 fun p e => m2 p (mem_items m4 h1 h2 h3 (by rw [hl, e]; exact List.mem_cons_self))
      have e := of_decide_eq_true h7
      refine ⟨t, p, rfl, fun H => .inr ⟨o, its, n, lookup_ft h1 h2 m3, h2, h3, h4, ?_⟩, hp⟩
      rw [hl]
      exact .cons rfl (.cons ⟨tk, by rw [e]⟩ .nil)
  | _ => cases h
def pairsB (g : Addr → Option Obj) : List Value → List (List Int × Int) → Bool
  | [], [] => true
  | u :: us, r :: rs => pairB g u r && pairsB g us rs
  | _, _ => false
theorem pairsB_ok {bs : List Addr} (m2 : ∀ p, p ∈ itemsT g bs → p ∈ as) : ∀ {us : List Value} {rs : List (List Int × Int)}, pairsB g us rs = true → (∀ p, Value.ref p ∈ us → p ∈ as ∧ p ∈ bs) → ∃ xs : List V, Vals xs us ∧ xs.length = rs.length ∧ ∀ (i : Nat) (r : List Int × Int), rs[i]? = some r → ∃ t p : Addr, xs[i]? = some (V.ref t) ∧ (∀ H, SqT (frT g as) H t [.ref p, .int r.2]) ∧ ∀ H, SqT (frT g as) H p (r.1.map V.int)
  | [], [], _, _ => ⟨[], .nil, rfl, fun i r e => by cases e⟩
  | [], _ :: _, h, _ => by cases h
  | _ :: _, [], h, _ => by cases h
  | u :: us, r :: rs, h, m => by
    obtain ⟨h1, h2⟩ := ba (show (pairB g u r && pairsB g us rs) = true from h)
    obtain ⟨t, p, rfl, ht, hp⟩ := pairB_ok h1 (fun p e => m p (by rw [e]; exact List.mem_cons_self)) m2
    obtain ⟨xs, h3, h4, h5⟩ := pairsB_ok m2 h2 fun p e => m p (List.mem_cons_of_mem _ e)
    refine ⟨.ref t :: xs, .cons rfl h3, by rw [List.length_cons, h4, List.length_cons], fun i r' e => ?_⟩
    cases i with
    | zero => cases e; exact ⟨t, p, rfl, ht, hp⟩
    | succ i => exact h5 i r' e
end
/-! .. in what asZ holds -/
section
variable {g : Addr → Option Obj} {n : Nat} {a : Addr}
theorem z0 (h : a ∈ asD (hideT g) n) : a ∈ asZ n g := List.mem_append.mpr (.inl h)
theorem z1 (h : a ∈ itemsT g (asD (hideT g) n)) : a ∈ asZ n g := List.mem_append.mpr (.inr (List.mem_append.mpr (.inl h)))
theorem z2 (h : a ∈ itemsT g (itemsT g (asD (hideT g) n))) : a ∈ asZ n g := List.mem_append.mpr (.inr (List.mem_append.mpr (.inr (List.mem_append.mpr (.inl h)))))
def inB (a : Addr) (as : List Addr) : Bool := as.any fun b => Nat.beq b a
theorem inB_ok {as : List Addr} (h : inB a as = true) : a ∈ as := by
  obtain ⟨b, hb, e⟩ := List.any_eq_true.mp h
  have := Nat.eq_of_beq_eq_true e
  subst this
  exact hb
/-- the module's name x is a tuple of tuples of these -/
def TabP (K : PySem.W.Frag) (x : Str) (rs : List (List Int)) : Prop := ∃ xs : List V, (∀ H, SqT K H (ga K x) xs) ∧ xs.length = rs.length ∧ ∀ (i : Nat) (r : List Int), rs[i]? = some r → ∃ p : Addr, xs[i]? = some (V.ref p) ∧ ∀ H, SqT K H p (r.map V.int)
/-- .. is a tuple of these -/
def SeqP (K : PySem.W.Frag) (x : Str) (ns : List Int) : Prop := ∀ H, SqT K H (ga K x) (ns.map V.int)
/-- .. is a tuple of pairs of a tuple and a number -/
def PairP (K : PySem.W.Frag) (x : Str) (rs : List (List Int × Int)) : Prop := ∃ xs : List V, (∀ H, SqT K H (ga K x) xs) ∧ xs.length = rs.length ∧ ∀ (i : Nat) (r : List Int × Int), rs[i]? = some r → ∃ t p : Addr, xs[i]? = some (V.ref t) ∧ (∀ H, SqT K H t [.ref p, .int r.2]) ∧ ∀ H, SqT K H p (r.1.map V.int)
def tabB (n : Nat) (g : Addr → Option Obj) (x : Str) (rs : List (List Int)) : Bool := inB (ga (frT g (asZ n g)) x) (asD (hideT g) n) && tupAt g (ga (frT g (asZ n g)) x) fun us => rowsB g us rs
theorem tabB_ok {x : Str} {rs : List (List Int)} (h : tabB n g x rs = true) : TabP (frT g (asZ n g)) x rs := by
  obtain ⟨h0, h⟩ := ba h
  have hm := inB_ok h0
  obtain ⟨o, its, k, h1, h2, h3, h4, h5⟩ := tupAt_ok h
  obtain ⟨xs, h6, h7, h8⟩ := rowsB_ok (as := asZ n g) h5 fun p e => z1 (mem_items hm h1 h2 h3 e)
  exact ⟨xs, fun H => .inr ⟨o, its, k, lookup_ft h1 h2 (z0 hm), h2, h3, h4, h6⟩, h7, h8⟩
def seqB (n : Nat) (g : Addr → Option Obj) (x : Str) (ns : List Int) : Bool := inB (ga (frT g (asZ n g)) x) (asD (hideT g) n) && tupAt g (ga (frT g (asZ n g)) x) fun us => intsB us ns
theorem seqB_ok {x : Str} {ns : List Int} (h : seqB n g x ns = true) : SeqP (frT g (asZ n g)) x ns := by
  obtain ⟨h0, h⟩ := ba h
  have hm := inB_ok h0
  obtain ⟨o, its, k, h1, h2, h3, h4, h5⟩ := tupAt_ok h
  exact fun H => .inr ⟨o, its, k, lookup_ft h1 h2 (z0 hm), h2, h3, h4, intsB_ok h5⟩
def ptabB (n : Nat) (g : Addr → Option Obj) (x : Str) (rs : List (List Int × Int)) : Bool := inB (ga (frT g (asZ n g)) x) (asD (hideT g) n) && tupAt g (ga (frT g (asZ n g)) x) fun us => pairsB g us rs
theorem ptabB_ok {x : Str} {rs : List (List Int × Int)} (h : ptabB n g x rs = true) : PairP (frT g (asZ n g)) x rs := by
  obtain ⟨h0, h⟩ := ba h
  have hm := inB_ok h0
  obtain ⟨o, its, k, h1, h2, h3, h4, h5⟩ := tupAt_ok h
  obtain ⟨xs, h6, h7, h8⟩ := pairsB_ok (as := asZ n g) (bs := itemsT g (asD (hideT g) n)) (fun p e => z2 e) h5 fun p e => ⟨z1 (mem_items hm h1 h2 h3 e), mem_items hm h1 h2 h3 e⟩
  exact ⟨xs, fun H => .inr ⟨o, its, k, lookup_ft h1 h2 (z0 hm), h2, h3, h4, h6⟩, h7, h8⟩
end
end HZ


set_option Elab.async false
set_option linter.all false
set_option maxRecDepth 100000
set_option maxHeartbeats 2000000
namespace K0
open PySem PySem.Spec PyProof.Rows L2

/-- what a value of the law's own draws shows: data without dicts, or a dict of no or one pair -/
inductive It (K : PySem.W.Frag) (H : Hp) : V → PyData → Prop
  | dp {v : V} {d : PyData} (h : Dp K H v d) (n : d.hasDict = false) : It K H v d
  | d0 {a : Addr} (h : H a = some (.dK [])) : It K H (.ref a) (.dict [])
  | d1 {a : Addr} {n : Int} {x : Str} (h : H a = some (.dK [(Sum.inl n, .str x)])) : It K H (.ref a) (.dict [(.int n, .str x)])

section
variable {X : Cx} {pins : List (Addr × Obj)} {σ : L2.St} {H : Hp} {s : Shared}
theorem It.rd (I : Inv X pins σ H s) {v : V} {d : PyData} {u : Value} (h : It X.K H v d) (r : RelV v u) :
    ∃ as, Reads s.heap u d as ∧ (d.hasDict = true → sysModules ∉ as) := by
  cases h with
  | dp hd hn =>
    obtain ⟨as, q⟩ := Dp.reads I d v u hd r
    exact ⟨as, q, fun z => by rw [hn] at z; cases z⟩
  | @d0 a h =>
    cases r
    obtain ⟨_, hsm, vs, kv, o, es, ep, ho, hx, hd, _, hp, _⟩ := I.hok a _ h
    cases kv
    have e : es.toList = [] := List.eq_nil_of_length_eq_zero hp.length
    refine ⟨_, Reads.dict (kvs := []) (as := []) (bs := []) ho hx.1 hd (by rw [e]; exact .nil) (by rw [e]; exact .nil), fun _ => ?_⟩
    have hne : a ≠ sysModules := by simpa using hsm
    simpa using Ne.symm hne
  | @d1 a n x h =>
    cases r
    obtain ⟨_, hsm, vs, kv, o, es, ep, ho, hx, hd, _, hp, _⟩ := I.hok a _ h
    have hne : a ≠ sysModules := by simpa using hsm
    cases kv with
    | @cons _ y _ _ q qs =>
      cases qs
      obtain ⟨q1, q2⟩ := q
      have q1' : y.1 = Sum.inl n := q1.symm
      obtain ⟨t, q2'⟩ := q2
      obtain ⟨l⟩ := es
      cases hp with
      | @cons en _ _ _ p1 p2 p3 =>
        cases p3
        rw [q1', mixKind_is] at p1
        obtain ⟨t', e'⟩ := Value.isInt_shape (k := n) (v := en.key) p1
        refine ⟨_, Reads.dict (kvs := [(.int n, .str x)]) (as := []) (bs := []) ho hx.1 hd ?_ ?_, fun _ => ?_⟩
        · show ReadsAll s.heap [en.key] [.int n] []
          rw [e']
          exact ReadsAll.cons (as := []) (bs := []) (.int n t') .nil
        · show ReadsAll s.heap [en.val] [.str x] []
          rw [p2, q2']
          exact ReadsAll.cons (as := []) (bs := []) (.str x t) .nil
        · simpa using Ne.symm hne
end

/-- what a shown value asks: its numbers not too long, not too deep, its text not too long -/
structure Short (d : PyData) : Prop where
  sh : d.showable = true
  dp : d.depth ≤ 20
  ln : d.shown.length ≤ 1000000

theorem lineOk : 1000000 ≤ sizeLine := by rw [sizeLine_eq]; decide

/-- repr(x), x as told -/
def rRepr (K : PySem.W.Frag) : List V → Hp → VK → Prop := fun xs H Q => ∃ (v : V) (d : PyData), xs = [v] ∧ It K H v d ∧ Short d ∧ Q (.str d.shown) H
/-- repr of a list of two -/
def rRepr2 (K : PySem.W.Frag) : List V → Hp → VK → Prop := fun xs H Q => ∃ (l : Addr) (v1 v2 : V) (d1 d2 : PyData), xs = [.ref l] ∧ H l = some (.lst [v1, v2]) ∧
  It K H v1 d1 ∧ It K H v2 d2 ∧ Short d1 ∧ Short d2 ∧ Q (.str (listText [d1.shown, d2.shown])) H

section
variable {X : Cx}
theorem call_repr (hg : X.A.guards = some []) (hu : X.A.units + 64 < cLine) : CallR X (.builtin "repr") (rRepr X.K) := by
  intro pins s σ H xs us Q I r h
  obtain ⟨v, d, rfl, hd, ⟨hs, hdp, hz⟩, q⟩ := h
  have hz' : d.shown.length ≤ sizeLine := Nat.le_trans hz lineOk
  obtain ⟨u, rfl, ru⟩ := vals1 r
  have fin : ∀ tk t, EP X pins σ Q (.str d.shown t) { s with toks := tk } := fun tk t => ⟨.str d.shown, H, I.tok tk, ⟨t, rfl⟩, q⟩
  obtain ⟨as, rd, hn⟩ := It.rd I hd ru
  have big : ∀ a, u = .ref a → wpAny (model X.prog X.w) X.A (call (.builtin "repr") [u]) (EP X pins σ Q) X.xe s := by
    intro a e
    subst e
    refine PySem.repr_of_reads' rd hs hn hg (by omega) (fun _ _ z => z) (fun h' t tk hk => ?_) hz'
    exact ⟨.str d.shown, H, I.kept (t' := tk) hk, ⟨t, rfl⟩, q⟩
  cases rd with
  | none => exact PySem.P.repr_of_none (by simpa only [PyData.shown] using fin _ _)
  | bool b => exact PySem.P.repr_of_bool (by simpa only [PyData.shown] using fin _ _)
  | int i t =>
    refine PySem.P.repr_of_int ?_ (by simpa only [PyData.shown] using fin _ _)
    simpa only [PyData.showable, decide_eq_true_eq] using hs
  | str x t => exact PySem.P.repr_of_str (by simpa only [PyData.shown] using fin _ _) (by simpa only [PyData.shown] using hz')
  | list => exact big _ rfl
  | tuple => exact big _ rfl
  | dict => exact big _ rfl

theorem pair_len (x y : Str) : (listText [x, y]).length = x.length + y.length + 4 := by
  show (((Str.ofString "[" ++ Str.ofString "" ++ x) ++ Str.ofString ", " ++ y) ++ Str.ofString "]").length = _
  have e0 : (Str.ofString "").length = 0 := by decide
  have e1 : (Str.ofString "[").length = 1 := by decide
  have e2 : (Str.ofString "]").length = 1 := by decide
  have e3 : (Str.ofString ", ").length = 2 := by decide
  simp only [Str.length_append, e0, e1, e2, e3]
  omega

theorem call_repr2 (hg : X.A.guards = some []) (hu : X.A.units + 64 < cLine) : CallR X (.builtin "repr") (rRepr2 X.K) := by
  intro pins s σ H xs us Q I r h
  obtain ⟨l, v1, v2, d1, d2, rfl, hl, t1, t2, ⟨a1, a2, a3⟩, ⟨b1, b2, b3⟩, q⟩ := h
  obtain ⟨u, rfl, ru⟩ := vals1 r
  cases ru
  obtain ⟨its, rv, ⟨o, n, ho, hc, _, hd⟩, _⟩ := I.list (SqL.of hl)
  obtain ⟨u1, u2, rfl, r1, r2⟩ := vals2 rv
  obtain ⟨as1, rd1, n1⟩ := It.rd I t1 r1
  obtain ⟨as2, rd2, n2⟩ := It.rd I t2 r2
  have z1 : d1.shown.length ≤ sizeLine := Nat.le_trans a3 lineOk
  have z2 : d2.shown.length ≤ sizeLine := Nat.le_trans b3 lineOk
  obtain ⟨bs1, m1, k1⟩ := ReprK.of_reads (prog := X.prog) (w := X.w) rd1 a1 n1 z1
  obtain ⟨bs2, m2, k2⟩ := ReprK.of_reads (prog := X.prog) (w := X.w) rd2 b1 n2 z2
  have rl : Reads s.heap (.ref l) (.list [d1, d2]) _ := Reads.list ho hc hd (.cons rd1 (.cons rd2 .nil))
  have hm : ReadAtMost s.heap (max d1.depth d2.depth) (bs1 ++ bs2) := by
    intro b hb
    cases List.mem_append.mp hb with
    | inl e =>
      obtain ⟨d', as', r', le⟩ := m1 b e
      exact ⟨d', as', r', Nat.le_trans le (Nat.le_max_left _ _)⟩
    | inr e =>
      obtain ⟨d', as', r', le⟩ := m2 b e
      exact ⟨d', as', r', Nat.le_trans le (Nat.le_max_right _ _)⟩
  have hna : l ∉ bs1 ++ bs2 := not_mem_of_deeper rl (by simp only [PyData.depth, PyData.depthAll]; omega) hm
  have ka : ReprK X.prog X.w (bs1 ++ bs2) s.heap (max d1.depth d2.depth) u1 d1.shown :=
    (k1.more fun b hb => List.mem_append_left _ hb).level_le (Nat.le_max_left _ _)
  have kb : ReprK X.prog X.w (bs1 ++ bs2) s.heap (max d1.depth d2.depth) u2 d2.shown :=
    (k2.more fun b hb => List.mem_append_right _ hb).level_le (Nat.le_max_right _ _)
  have hsz : (listText [d1.shown, d2.shown]).length ≤ sizeLine := by
    rw [pair_len, sizeLine_eq]
    omega
  have hmax : max d1.depth d2.depth ≤ 20 := Nat.max_le.mpr ⟨a2, b2⟩
  refine call_repr_slot (by omega) ⟨o, ho, hc⟩ F.slot_list_repr.toG ?_
  refine call_list_reprK (A := X.A.in1) (as := bs1 ++ bs2) (d := max d1.depth d2.depth) (ts := [d1.shown, d2.shown]) ho hc hd hna (by simp) ?_ hg
    (fun b _ => Clear.nil b) (by show X.A.units + 1 + _ < cLine; omega) (fun _ _ z => z) (fun h' t tk hk => ⟨_, _, rfl, ⟨.str _, H, I.kept (t' := tk) hk, ⟨t, rfl⟩, q⟩⟩) hsz
  intro i y hy
  match i, hy with
  | 0, hy =>
    have e : u1 = y := by simpa using hy
    exact ⟨_, rfl, e ▸ ka⟩
  | 1, hy =>
    have e : u2 = y := by simpa using hy
    exact ⟨_, rfl, e ▸ kb⟩
  | i + 2, hy => simp at hy
end
end K0


set_option Elab.async false
set_option linter.all false
set_option maxRecDepth 100000
set_option maxHeartbeats 4000000
namespace PySem
namespace K0x
open PySem.W PySem.Calls PyProof.Rows PySem.HandSPX
section
variable {M : Model} {prog : Program} {w : World} {A : Around} {E : Value → Shared → Prop} {R : Result → Shared → Prop}
  {h : Heap} {g : Array GenState} {d : Drawn} {t : Nat} {os : OsState}
variable {nm q : Str} {C N : Addr} {bs bm bmB : List Value} {hdct : Bool} {sn : List Str} {sub : List Value} {ab : Bool}
  {col : Option Bool} {dd : Option Addr} {k0 k1 k2 k3 k5 : Option Value} {B newId initId : String}

/-- an own exception class asked to make one, with keywords: the check of the built-in maker -/
theorem chk_new (F : ExcBaseFacts B newId initId bmB) (hT : ∀ X : String, bm.contains (.type X) = bmB.contains (.type X))
    {rest : List Value} {kw : List (Str × Value)} {Q : Unit → Shared → Prop}
    (hC : h.get? C = some (excClassObj nm q C N bs bm hdct sn sub ab col dd k0 k1 k2 k3 k5 newId)) (hq : Q () ⟨h, g, d, t, os⟩) :
    wpAny M A (checkBuiltinCall newId ⟨.ref C :: rest, kw⟩) Q E ⟨h, g, d, t, os⟩ := by
  have c1 : (Value.ref C :: bm).contains (.type B) = true := by
    rw [List.contains_cons, hT, F.hasB, Bool.or_true]
  have c2 := F.noStar
  simp only [checkBuiltinCall, F.newKind, F.newSplit, F.newRow]
  repeat (first
    | refine wpAny_loadPart_at hC ?_
    | (refine wpAny_isSubtype_exc hC ?_
       rw [c1])
    | refine wpAny_staticBase_exc hC ?_
    | refine wpAny_madeBy_exc hC ?_
    | simp only [bne_self_eq_false, Bool.false_eq_true, if_false]
    | wp_step)
  exact hq

theorem new_kw (F : ExcBaseFacts B newId initId bmB) (hT : ∀ X : String, bm.contains (.type X) = bmB.contains (.type X))
    {rest : List Value} {kw : List (Str × Value)}
    (hC : h.get? C = some (excClassObj nm q C N bs bm hdct sn sub ab col dd k0 k1 k2 k3 k5 newId))
    (hq : R (.ok (.ret (.ref (h.objs.size + 1)))) ⟨(h.push (kdv_tup rest)).push (excO C h.objs.size), g, d, t, os⟩)
    (hrest : rest.length ≤ sizeLine) :
    codeAny (model prog w) A (.builtin newId ⟨.ref C :: rest, kw⟩) R ⟨h, g, d, t, os⟩ := by
  have ends := F.ends
  have i1 : (Value.ref C :: bm).contains (.type B) = true := by
    rw [List.contains_cons, hT, F.hasB, Bool.or_true]
  have i2 : (Value.ref C :: bm).contains (.type "AttributeError") = false := by
    rw [List.contains_cons, hT, F.noAttr]
    rfl
  have i3 : (Value.ref C :: bm).contains (.type "NameError") = false := by
    rw [List.contains_cons, hT, F.noName]
    rfl
  refine codeAny_builtinAt F.entry ?_
  unfold Builtin.«BaseException.__new__»
  refine wpAt_bind ?_
  show wpAt _ _ _ (stack >>= _) _ _ _
  refine wpAt_bind (wpAt_stack fun p below => wpAt_of_wpAny ?_)
  wp_walk
  refine wpAt_of_wpAny ?_
  rw [F.owner]
  repeat (first
    | with_reducible refine wpAny_madeHere_exc F.canon hC ?_
    | with_reducible refine wpAny_loadPart_at hC ?_
    | (with_reducible refine wpAny_isSubtype_exc hC ?_
       first | rw [i1] | rw [i2] | rw [i3])
    | wp_step)
  show R _ _
  rw [Heap.size_push]
  exact hq

theorem type_kw (F : ExcBaseFacts B newId initId bmB) (hT : ∀ X : String, bm.contains (.type X) = bmB.contains (.type X))
    {rest : List Value} {kw : List (Str × Value)} {fI : Addr} {Q : Fin → Shared → Prop}
    (hC : h.get? C = some (excClassObj nm q C N bs bm hdct sn sub ab col dd k0 k1 k2 k3 k5 newId))
    (hi : W.Looks (model prog w) h (typeLookup (.ref C) "__init__") (some (.ref fI)))
    (hb : ∀ self, W.Looks (model prog w) h (bindSpecial (.ref fI) self) (.ref fI, [self])) (hrest : rest.length ≤ sizeLine)
    (hq : codeAny (model prog w) A (.call (.ref fI) ⟨.ref (h.objs.size + 1) :: rest, kw⟩)
      (fun r s' => match r with
        | .ok (.ret v) => v = .none ∧ Q (.done (.ret (.ref (h.objs.size + 1)))) s'
        | .ok _ => False
        | .error e => E e s')
      ⟨(h.push (kdv_tup rest)).push (excO C h.objs.size), g, d, t, os⟩) :
    wpAny (model prog w) A (Builtin.«type.__call__» ⟨.ref C :: rest, kw⟩) Q E ⟨h, g, d, t, os⟩ := by
  repeat (first
    | with_reducible refine wpAny_loadPart_at hC ?_
    | with_reducible refine wpAny_madeBy_exc hC ?_
    | wp_step)
  refine codeAny_call_builtin_code (Code.quiet_builtin _ F.quiet) (chk_new F hT hC ?_)
  refine new_kw F hT hC ?_ hrest
  show wpAny _ _ _ _ _ _
  have kp : ∀ b o, h.get? b = some o → ((h.push (kdv_tup rest)).push (excO C h.objs.size)).get? b = some o :=
    fun b o e => Heap.get?_push_of_some _ (Heap.get?_push_of_some _ e)
  have hC1 := kp _ _ hC
  have hx : ((h.push (kdv_tup rest)).push (excO C h.objs.size)).get? (h.objs.size + 1) = some (excO C h.objs.size) := by
    heap_get
  have self_in : (Value.ref C :: bm).contains (.ref C) = true := by
    simp
  have j1 := hi.keeps kp
  have j2 := (hb (.ref (h.objs.size + 1))).keeps kp
  unfold isInstance
  repeat (first
    | with_reducible refine wpAny_loadPart_at hx ?_
    | (with_reducible refine wpAny_isSubtype_exc hC1 ?_
       rw [self_in])
    | wp_step)
  show wpAny _ _ (typeLookup (.ref C) _) _ _ _
  refine j1.at ?_
  refine wpAny_holding (wpAny_bind (j2.at ?_))
  refine wpAny_bind (wpAny_call (codeAny_mono hq ?_))
  intro r s' z
  rcases r with e | (v | _ | _ | _) <;> first | exact z | exact z.elim | skip
  obtain ⟨rfl, z⟩ := z
  first
    | exact wpAny_pure (wpAny_pure z)
    | (wp_walk
       exact z)

theorem chk_type {rest : List Value} {kw : List (Str × Value)} {Q : Unit → Shared → Prop}
    (hC : h.get? C = some (excClassObj nm q C N bs bm hdct sn sub ab col dd k0 k1 k2 k3 k5 newId)) (hq : Q () ⟨h, g, d, t, os⟩) :
    wpAny M A (checkBuiltinCall "type.__call__" ⟨.ref C :: rest, kw⟩) Q E ⟨h, g, d, t, os⟩ := by
  have f3 := tc_sub
  have hTy : (⟨h, g, d, t, os⟩ : Shared).TypeIs (.ref C) "type" := ⟨_, hC, rfl⟩
  simp only [checkBuiltinCall, tc_kind, tc_split]
  repeat (any_goals (first
    | assumption
    | with_reducible refine wpAny_loadPart_at hC ?_
    | with_reducible refine wpAny_onRaise ?_
    | with_reducible refine wpAny_map ?_
    | wp_step))

theorem call_kw (F : ExcBaseFacts B newId initId bmB) (hT : ∀ X : String, bm.contains (.type X) = bmB.contains (.type X))
    {rest : List Value} {kw : List (Str × Value)} {fI : Addr}
    (hC : h.get? C = some (excClassObj nm q C N bs bm hdct sn sub ab col dd k0 k1 k2 k3 k5 newId))
    (hi : W.Looks (model prog w) h (typeLookup (.ref C) "__init__") (some (.ref fI)))
    (hb : ∀ self, W.Looks (model prog w) h (bindSpecial (.ref fI) self) (.ref fI, [self])) (hrest : rest.length ≤ sizeLine)
    (hq : codeAny (model prog w) (A.under (.builtin "type.__call__" ⟨.ref C :: rest, kw⟩))
      (.call (.ref fI) ⟨.ref (h.objs.size + 1) :: rest, kw⟩) (W.InitBack (h.objs.size + 1) R)
      ⟨(h.push (kdv_tup rest)).push (excO C h.objs.size), g, d, t, os⟩) :
    codeAny (model prog w) A (.call (.ref C) ⟨rest, kw⟩) R ⟨h, g, d, t, os⟩ := by
  have f1 := tc_lookup
  have f2 := tc_bind (.ref C)
  have hTy : (⟨h, g, d, t, os⟩ : Shared).TypeIs (.ref C) "type" := ⟨_, hC, rfl⟩
  refine codeAny_of_tree ?_
  show wpAny _ _ (callAny (.ref C) _) _ _ _
  repeat (any_goals (first
    | assumption
    | with_reducible refine wpAny_loadPart_at hC ?_
    | wp_step))
  refine ⟨rfl, ?_⟩
  refine codeAny_call_builtin_at (Code.quiet_builtin _ (by decide +kernel)) entry_typeCall (chk_type hC ?_)
  refine type_kw F hT hC hi hb hrest (codeAny_mono hq ?_)
  intro r s' z
  rcases r with e | (v | _ | _ | _) <;> exact z
end
end K0x
end PySem


set_option Elab.async false
set_option linter.all false
set_option maxRecDepth 100000
set_option maxHeartbeats 4000000
namespace PySem
namespace K0x
open PySem.W PySem.Calls PyProof.Rows PySem.HandSPX
section
variable {prog : Program} {w : World} {A : Around} {E : Value → Shared → Prop} {s : Shared} {K : Frag} {x D : Addr} {ox : Obj} {od : Option Obj}
/-- x.__class__ of an instance of an own exception class, whatever its own dict holds -/
theorem cls_asked {Q : Option Value → Shared → Prop}
    (h1 : findIn K (.ref D) "__getattribute__" = some (some (.builtin "BaseException.__getattribute__")))
    (h2 : findIn K (.ref D) "__getattr__" = some none) (h3 : subIn K (.ref D) (.type "BaseException") = some true)
    (h4 : hasDictIn K D = true) (h5 : findIn K (.ref D) "__class__" = some (some (.builtin "object.__class__")))
    (h6 : specialIn K (.builtin "object.__class__") "__get__" = some (some (.builtin "getset_descriptor.__get__")))
    (h7 : takesIn K (.builtin "object.__class__") = some true) (h8 : mroIn K D (.type "object") = some true)
    (X : K.In s.heap) (I : W.InstAt s.heap x ox D od) (h : Q (some (.ref D)) { s with toks := s.toks + 1 }) :
    wpAny (model prog w) A (getAttr? (.ref x) "__class__") Q E s := by
  have found : findObj K D od "__class__" = some (.bind (.builtin "getset_descriptor.__get__") (.builtin "object.__class__")) := by
    obtain ⟨cd, hc, _⟩ := any_some h4
    unfold findObj
    rw [hc, Option.bind_some, h5, Option.bind_some]
    simp [h6, h7]
  obtain ⟨hp, g, d, t, os⟩ := s
  have l0 := I.type (M := model prog w)
  have l1 := looks_findIn (M := model prog w) X h1
  have l2 := looks_findIn (M := model prog w) X h2
  have l3 := looks_find (M := model prog w) X I found
  have under : Looks (model prog w) hp (isInstance (.ref x) (.type "BaseException")) true :=
    l0.andThen (looks_subIn X h3)
  have n0 : (false && onTheHeap (Value.builtin "BaseException.__getattribute__")) = false := rfl
  have n2 : (Value.builtin "BaseException.__getattribute__" == Value.builtin "object.__getattribute__") = false := by
    decide +kernel
  have n1 : (onTheHeap (Value.ref D) &&
      Value.builtin "BaseException.__getattribute__" == Value.builtin "object.__getattribute__") = false := by
    rw [n2]
    rfl
  unfold getAttr? getAttrBy? getAttrBy
  refine wpAny_bind (wpAny_mkText (wpAny_bind (wpAny_attempt (wpAny_holding
    (wpAny_bind (l0.at (wpAny_bind (l1.at ?_))))))))
  show wpAny _ _ (if (onTheHeap (Value.ref D) &&
    Value.builtin "BaseException.__getattribute__" == Value.builtin "object.__getattribute__") = true then _ else _) _ _ _
  rw [n1, if_neg Bool.false_ne_true]
  unfold getAttrByItsOwn hookBefore
  refine wpAny_bind ?_
  rw [if_pos (show onTheHeap (Value.ref D) = true from rfl)]
  refine l2.at (wpAny_bind (wpAny_attempt (wpAny_holding ?_)))
  unfold callGetattribute
  rw [n0, if_neg Bool.false_ne_true]
  unfold boundAndCalled
  rw [PySem.F.excAttr_ValueError.ga.bind (.ref x)]
  refine wpAny_bind (wpAny_pure ?_)
  show wpAny _ _ (call (.builtin "BaseException.__getattribute__") [.ref x, .str "__class__" t]) _ _ _
  refine wpAny_call (codeAny_call_builtin PySem.F.excAttr_ValueError.ga.plain
    PySem.F.entry_bexc_ga ?_)
  refine @check_slot (model prog w) _ _ ⟨hp, g, d, t + 1, os⟩ "BaseException.__getattribute__" "BaseException"
    "__getattribute__" (.ref x) [.str "__class__" t] [] _ (by decide +kernel) (by decide +kernel) under
    (PySem.F.args_bexc_ga (.ref x) (.str "__class__" t)) ?_
  unfold Builtin.«object.__getattribute__»
  refine wpAny_bind (wpAny_of_eq (a := ((Value.ref x : Value), [Value.str "__class__" t]))
    (by first | rfl | (simp only [slotArgs]; rfl)) ?_)
  refine wpAny_bind (wpAny_pure (wpAny_bind (l0.at (wpAny_bind (l3.at ?_)))))
  show wpAny _ _ (holding [Value.builtin "object.__class__"]
    (call (.builtin "getset_descriptor.__get__") [.builtin "object.__class__", .ref x, .ref D]) >>= ret) _ _ _
  refine wpAny_bind (wpAny_holding (wpAny_call
    (class_get (s := ⟨hp, g, d, t + 1, os⟩) (ox := ox) (od := od) X I h8 ?_)))
  refine wpAny_pure ?_
  show wpAny _ _ (handedOut (.ref D)) _ _ _
  rw [handedOut_of (v := .ref D) rfl]
  first
    | exact wpAny_pure (wpAny_pure h)
    | exact wpAny_pure h
    | exact wpAny_pure (wpAny_bind (wpAny_pure (wpAny_pure h)))

theorem kit_exc
    (h1 : findIn K (.ref D) "__getattribute__" = some (some (.builtin "BaseException.__getattribute__")))
    (h2 : findIn K (.ref D) "__getattr__" = some none) (h3 : subIn K (.ref D) (.type "BaseException") = some true)
    (h4 : hasDictIn K D = true) (h5 : findIn K (.ref D) "__class__" = some (some (.builtin "object.__class__")))
    (h6 : specialIn K (.builtin "object.__class__") "__get__" = some (some (.builtin "getset_descriptor.__get__")))
    (h7 : takesIn K (.builtin "object.__class__") = some true) (h8 : mroIn K D (.type "object") = some true) :
    KitX K (.ref x) (.ref D) (fun h => ∃ ox od, W.InstAt h x ox D od) := by
  obtain ⟨cd, hcd, _⟩ := any_some h4
  have data : ∃ c' d' sl', K.lookup D = some ⟨c', d', .cls cd, sl'⟩ := by
    unfold clsIn at hcd
    split at hcd
    · rename_i c' d' cd' sl' ho
      cases hcd
      exact ⟨c', d', sl', ho⟩
    · cases hcd
  obtain ⟨c', d', sl', ho⟩ := data
  refine ⟨fun M h X I => ?_, fun M h X I => ?_, fun h tp dd its n sl X htp => ?_, fun X I k => ?_⟩
  · obtain ⟨ox, od, I⟩ := I
    exact I.type
  · intro A' Q' E' s' k q
    unfold isType loadHead
    exact wpAny_bind (wpAny_loadPart (k _ _ (X _ _ ho)) (wpAny_pure q))
  · refine Bool.eq_false_iff.mpr fun q => ?_
    have e : D = tp := Value.ref.inj (beq_iff_eq.mp q)
    subst e
    have z := (X _ _ ho).symm.trans htp
    cases z
  · obtain ⟨ox, od, I⟩ := I
    exact cls_asked h1 h2 h3 h4 h5 h6 h7 h8 X I k
end
end K0x
end PySem


set_option Elab.async false
set_option linter.all false
set_option maxRecDepth 100000
set_option maxHeartbeats 4000000
namespace K0
open PySem PySem.Spec PyProof.Rows L2

/-- a value's class, the instances of own exception classes among them -/
inductive TyE (K : PySem.W.Frag) (H : Hp) : V → Value → Prop where
  | base {x : V} {t : Value} (h : TyX K H x t) : TyE K H x t
  | err {a C : Addr} {d : Option Addr} (e : H a = some (exo a C d)) (hd : ∀ dd, d = some dd → ∃ o, H dd = some o) (T : ExcC K C) : TyE K H (.ref a) (.ref C)
  | err0 {a C : Addr} (e : H a = some (ExO (.ref C) a)) (T : ExcC K C) : TyE K H (.ref a) (.ref C)

section
variable {X : Cx} {pins : List (Addr × Obj)} {σ : L2.St} {H : Hp} {s : Shared}
theorem inst_exo {a C : Addr} {d : Option Addr} (I : Inv X pins σ H s) (e : H a = some (exo a C d)) (hd : ∀ dd, d = some dd → ∃ o, s.heap.get? dd = some o) :
    ∃ ox od, PySem.W.InstAt s.heap a ox C od := by
  obtain ⟨t1, ho⟩ := exo_at I.hok e
  cases d with
  | none => exact ⟨_, none, ho, rfl, rfl, trivial⟩
  | some dd =>
    obtain ⟨o, q⟩ := hd dd rfl
    exact ⟨_, some o, ho, rfl, rfl, q⟩
theorem obj_there {dd : Addr} {o : HO} (I : Inv X pins σ H s) (q : H dd = some o) : ∃ u, s.heap.get? dd = some u := by
  have hlt := (I.hok dd o q)
  cases o with
  | lst xs => obtain ⟨_, its, n, _, z⟩ := hlt; exact ⟨_, z⟩
  | tup xs => obtain ⟨_, its, _, o, z, _⟩ := hlt; exact ⟨_, z⟩
  | dK kvs => obtain ⟨_, _, vs, _, o, es, ep, z, _⟩ := hlt; exact ⟨_, z⟩
  | dT kvs => obtain ⟨_, _, vs, _, o, es, ep, z, _⟩ := hlt; exact ⟨_, z⟩
  | set S n => obtain ⟨o, _, _, _, z, _⟩ := hlt; exact ⟨_, z⟩
  | ins C' dx fs => obtain ⟨_, _, _, z, _⟩ := hlt; exact ⟨_, z⟩
  | own y => exact hlt
  | xd fs => obtain ⟨_, ⟨o, _, _, z, _⟩, _⟩ := hlt; exact ⟨_, z⟩
  | rng lo hi => obtain ⟨_, _, _, z⟩ := hlt; exact ⟨_, z⟩
  | frz o u => exact ⟨_, hlt.1⟩
  | tbl ps => exact ⟨_, hlt⟩
  | met f y => exact ⟨_, hlt⟩
  | ext φ => exact hlt.2.1
theorem kit_of' {x : V} {u t : Value} (I : Inv X pins σ H s) (rx : RelV x u) (ty : TyE X.K H x t) :
    ∃ P : Heap → Prop, PySem.W.KitX X.K u t P ∧ P s.heap ∧ u ≠ .builtin "__main__.__loader__#opaque" := by
  cases ty with
  | base h => exact kit_of I rx h
  | @err a C d e hd T =>
    cases rx
    refine ⟨_, PySem.K0x.kit_exc T.hg T.hk T.hs T.hd T.ha T.hn T.ht T.hm, ?_, fun z => nomatch z⟩
    refine inst_exo I e fun dd q => ?_
    obtain ⟨o, h⟩ := hd dd q
    exact obj_there I h
  | @err0 a C e T =>
    cases rx
    refine ⟨_, PySem.K0x.kit_exc T.hg T.hk T.hs T.hd T.ha T.hn T.ht T.hm, ?_, fun z => nomatch z⟩
    obtain ⟨⟨oe, vs, ho, hz, hv, _⟩, _, _⟩ := I.hok a _ e
    obtain ⟨oc, od, oda, osl⟩ := oe
    obtain ⟨z1, z2⟩ := hz
    dsimp only at z1 z2 hv
    subst z1 z2 hv
    exact ⟨_, none, ho, rfl, rfl, trivial⟩
end

def rIsA (K : PySem.W.Frag) : List V → Hp → VK → Prop := fun xs H Q => ∃ (x c : V) (t u : Value) (b : Bool),
  xs = [x, c] ∧ ClsV c u ∧ TyE K H x t ∧ PySem.W.kitOne K t u = some b ∧ Q (.bl b) H
def rIsT (K : PySem.W.Frag) : List V → Hp → VK → Prop := fun xs H Q => ∃ (x : V) (tp : Addr) (cs : List V) (t : Value) (us : List Value) (b : Bool),
  xs = [x, .ref tp] ∧ H tp = some (.tup cs) ∧ Paired ClsV cs us ∧ TyE K H x t ∧ PySem.W.kitAny K t us = some b ∧ Q (.bl b) H
section
variable {X : Cx}
theorem call_isA : CallR X (.builtin "isinstance") (rIsA X.K) := by
  intro pins s σ H xs us Q I r h
  obtain ⟨x, c, t, u, b, rfl, k, ty, e, q⟩ := h
  obtain ⟨u1, u2, rfl, r1, r2⟩ := vals2 r
  have e2 := k.eq r2
  subst e2
  obtain ⟨P, Z, p, hx⟩ := kit_of' I r1 ty
  exact PySem.W.kia_one Z I.kIn p e hx fun tk => ⟨.bl b, H, I.tok tk, rfl, q⟩
theorem call_isT : CallR X (.builtin "isinstance") (rIsT X.K) := by
  intro pins s σ H xs us Q I r h
  obtain ⟨x, tp, cs, t, ws, b, rfl, hT, k, ty, e, q⟩ := h
  obtain ⟨u1, u2, rfl, r1, r2⟩ := vals2 r
  cases (show u2 = Value.ref tp from r2)
  obtain ⟨P, Z, p, hx⟩ := kit_of' I r1 ty
  obtain ⟨_, its, rv, o, g1, g2, n, g3⟩ := I.hok tp _ hT
  have e3 := ClsV.all k rv
  subst e3
  obtain ⟨oc, od, dt, sl⟩ := o
  simp only at g2 g3
  subst g2 g3
  exact PySem.W.kia_tup Z I.kIn p g1 e hx fun tk => ⟨.bl b, H, I.tok tk, rfl, q⟩
end

/-! ### making an exception of an own class with an __init__ of its own -/
/-- C(e, ..) or C(k = v, ..) as a value; sp: what its __init__ promises -/
def tMkE (C : Addr) (sp : Sp) (g : List V → List V → List V) (t tk : TA) (n m : Nat) : TE := fun σ H Q => t σ H fun vs H1 => tk σ H1 fun zs H2 =>
  vs.length = n ∧ zs.length = m ∧ n ≤ 1000 ∧ ∀ a, H2 a = none → sp (g (.ref a :: vs) zs) (upd H2 a (exo a C none)) (fun v H3 => v = .non ∧ Q (.ref a) H3) E0
section
variable {X : Cx} {C fI : Addr} {k n : Nat} {fd : FuncData} {ps ks : List Str} {sp : Sp} {x : Str} {p pos : Pos} {e : Expr} {es : List Expr} {kws : List Keyword} {t tk : TA}
  {g : List Value → List Value → List Value} {gV : List V → List V → List V}
theorem run_mkE {pins : List (Addr × Obj)} {σ : L2.St} {H : Hp} {s : Shared} {Q : VK} {us ws : List Value} {vs zs : List V} (T : OexC X.K C)
    (iC : PySem.W.findIn X.K (.ref C) "__init__" = some (some (.ref fI))) (tI : PySem.W.typeIn X.K (.ref fI) = some (.type "function"))
    (F : FnOk X.prog X.w X.K X.mg X.base CX0 k fI fd ps sp) (hr : Room (k + 1) X.A) (hb : KBn X.K fd ps (n + 1) ks g gV)
    (I : Inv X pins σ H s) (r : Vals vs us) (rz : Vals zs ws) (l1 : vs.length = n) (l2 : zs.length = ks.length) (ln : n ≤ 1000)
    (h : ∀ a, H a = none → sp (gV (.ref a :: vs) zs) (upd H a (exo a C none)) (fun v H3 => v = .non ∧ Q (.ref a) H3) E0) :
    wpAny (model X.prog X.w) X.A (call (.ref C) us (ks.zip ws)) (EP X pins σ Q) X.xe s := by
  obtain ⟨nm, q, N, bs, bm, sn, sub, ab, col, dd, k0, k1, k2, k3, k5, hC, hbm⟩ := T.cls
  obtain ⟨hp, gg, dr, tk, os⟩ := s
  have hsz : hp.objs.size ≤ hp.objs.size + 1 := Nat.le_succ _
  have hq := h (hp.objs.size + 1) (I.hok.fresh hsz)
  have kk : ∀ b o, hp.get? b = some o →
      ((hp.push (PySem.W.kdv_tup us)).push (PySem.HandSPX.excO C hp.objs.size)).get? b = some o :=
    fun b o e => Heap.get?_push_of_some _ (Heap.get?_push_of_some _ e)
  have hget : ((hp.push (PySem.W.kdv_tup us)).push (PySem.HandSPX.excO C hp.objs.size)).get? (hp.objs.size + 1) =
      some (PySem.HandSPX.excO C hp.objs.size) := by
    heap_get
  have I2 : Inv X pins σ (upd H (hp.objs.size + 1) (exo (hp.objs.size + 1) C none))
      ⟨(hp.push (PySem.W.kdv_tup us)).push (PySem.HandSPX.excO C hp.objs.size), gg, dr, tk, os⟩ :=
    I.laid (t' := tk) (h' := (hp.push (PySem.W.kdv_tup us)).push (PySem.HandSPX.excO C hp.objs.size)) kk hsz (exo_ok hget)
  have ra : Vals (V.ref (hp.objs.size + 1) :: vs) (Value.ref (hp.objs.size + 1) :: us) := .cons rfl r
  have r2 := hb.rel ra rz
  have lu : us.length ≤ sizeLine := by
    have := Paired.length r
    rw [sizeLine_eq]
    omega
  have lu1 : (Value.ref (hp.objs.size + 1) :: us).length = n + 1 := by
    rw [List.length_cons, ← Paired.length r, l1]
  refine wpAny_call (PySem.K0x.call_kw PySem.F.excBase_ValueError (fun Y => PySem.HandSPX.refsVE_contains Y bm hbm) (I.kIn _ _ hC)
    (PySem.W.looks_findIn I.kIn iC) (fun self => PySem.W.bind_fn I.kIn self tI) lu
    (codeAny_mono (F.run _ X.stack _ _ ⟨Value.ref (hp.objs.size + 1) :: us, ks.zip ws⟩ _ _ _ E0 (hr.make C us (ks.zip ws))
      (I2.env0.make C us (ks.zip ws)) (hb.to _ _ ws I2.kIn lu1 ((Paired.length rz).symm.trans l2)) r2 hq) ?_))
  intro r' s' hq'
  cases r' with
  | error er => cases hq'
  | ok fl =>
    cases fl with
    | ret u =>
      obtain ⟨v, H3, I3, rv, ev, q3⟩ := I2.after hq'
      subst ev
      exact ⟨rv, V.ref (hp.objs.size + 1), H3, I3, rfl, q3⟩
    | next => cases hq'
    | brk => cases hq'
    | cont => cases hq'

/-- C(e, ..) -/
theorem pe_mkE (T : OexC X.K C)
    (iC : PySem.W.findIn X.K (.ref C) "__init__" = some (some (.ref fI))) (tI : PySem.W.typeIn X.K (.ref fI) = some (.type "function"))
    (F : FnOk X.prog X.w X.K X.mg X.base CX0 k fI fd ps sp) (hr : Room (k + 1) X.A) (hb : KBn X.K fd ps (n + 1) [] g gV)
    (hg : Gl X x) (hm : X.mg x = some (.ref C)) (ha : PA X (e :: es) t)
    (hdb : (x == ("__debug__" : Str)) = false := by decide)
    (he : starEach (e :: es) X.env = (false, eval e X.env) :: starEach es X.env := by rfl)
    (hpl : (backTo pos (starEach es X.env)).any (·.1) = false := by rfl) :
    PE X (.Call (.Name x p) (e :: es) [] pos) (tMkE C sp gV t tNil n 0) := by
  refine ⟨fun pins s σ H Q I h => wpAny_Call_Name_kw (ld_glob I hg hm ?_ hdb)⟩
  refine PySem.W.callWith_K (h₀ := X.base) I.ok.mod.kin T.kC
    (thn (ha.run pos pins s σ H _ I h) ?_) he hpl
  rintro us s1 ⟨vs, H1, I1, r, l1, _, ln, q⟩
  exact ⟨I1.kIn, run_mkE (ws := []) (zs := []) (ks := []) T iC tI F hr hb I1 r .nil l1 rfl ln q⟩
/-- C(k = v, ..) -/
theorem pe_mkEK (T : OexC X.K C)
    (iC : PySem.W.findIn X.K (.ref C) "__init__" = some (some (.ref fI))) (tI : PySem.W.typeIn X.K (.ref fI) = some (.type "function"))
    (F : FnOk X.prog X.w X.K X.mg X.base CX0 k fI fd ps sp) (hr : Room (k + 1) X.A) (hb : KBn X.K fd ps 1 ks g gV)
    (hg : Gl X x) (hm : X.mg x = some (.ref C)) (hkw : PK X kws tk)
    (hall : (backToKw pos (keywordEach kws X.env)).all (·.1.isSome) = true := by rfl)
    (hks : (backToKw pos (keywordEach kws X.env)).filterMap (·.1) = ks := by rfl)
    (hdb : (x == ("__debug__" : Str)) = false := by decide)
    (hpl : ((backTo pos (starEach [] X.env)).any (·.1) || (backToKw pos (keywordEach kws X.env)).any (·.1.isNone)) = false := by rfl) :
    PE X (.Call (.Name x p) [] kws pos) (tMkE C sp gV tNil tk 0 ks.length) := by
  refine ⟨fun pins s σ H Q I h => wpAny_Call_Name_kw (ld_glob I hg hm ?_ hdb)⟩
  refine PySem.W.callWith_KW0 (h₀ := X.base) I.ok.mod.kin T.kC hall
    (thn (hkw.run pos pins s σ H _ I h) ?_) hpl
  rintro ws s2 ⟨zs, H2, I2, rz, l1, l2, ln, q2⟩
  refine ⟨I2.kIn, ?_⟩
  rw [hks]
  exact run_mkE (us := []) (vs := []) T iC tI F hr hb I2 .nil rz rfl l2 ln q2
/-- f(k = v, ..) of a def, no value by place -/
theorem pe_kw0 {f : Addr} (F : FnOk X.prog X.w X.K X.mg X.base CX0 k f fd ps sp) (hr : Room k X.A) (hg : Gl X x) (hm : X.mg x = some (.ref f))
    (hk : PySem.W.keepIn X.K (.ref f) = true) (hb : KBn X.K fd ps 0 ks g gV) (hkw : PK X kws tk)
    (hall : (backToKw pos (keywordEach kws X.env)).all (·.1.isSome) = true := by rfl)
    (hks : (backToKw pos (keywordEach kws X.env)).filterMap (·.1) = ks := by rfl)
    (hdb : (x == ("__debug__" : Str)) = false := by decide)
    (hpl : ((backTo pos (starEach [] X.env)).any (·.1) || (backToKw pos (keywordEach kws X.env)).any (·.1.isNone)) = false := by rfl) :
    PE X (.Call (.Name x p) [] kws pos) (fun σ H Q => tk σ H fun zs H1 => zs.length = ks.length ∧ sp (gV [] zs) H1 Q E0) := by
  refine ⟨fun pins s σ H Q I h => wpAny_Call_Name_kw (ld_glob I hg hm ?_ hdb)⟩
  refine PySem.W.callWith_KW0 (h₀ := X.base) I.ok.mod.kin hk hall
    (thn (hkw.run pos pins s σ H _ I h) ?_) hpl
  rintro ws s2 ⟨zs, H2, I2, rz, l2, q2⟩
  refine ⟨I2.kIn, ?_⟩
  rw [hks]
  exact run_fnN (us := []) (vs := []) F hr hb pass0 I2 .nil rz rfl l2 q2
/-- e.f, e an exception that is held as a value -/
theorem pe_fldE {te : TE} {f : Str} {pos : Pos} {o : Expr} (he : PE X o te) (hb : attributeBase o f X.env (eval o X.env) = eval o X.env := by rfl) :
    PE X (.Attribute o f pos) (fun σ H Q => te σ H fun y H1 => ∃ (a C d : Addr) (fs : List (Str × V)) (v : V), y = .ref a ∧ H1 a = some (exo a C (some d)) ∧ H1 d = some (exd d fs) ∧
      XfC X.K C ∧ PySem.W.findIn X.K (.ref C) f = some none ∧ fs.lookup f = some v ∧ Q v H1) := by
  refine ⟨fun pins s σ H Q I h => attr_of hb (thn (he.run pins s σ H _ I h) ?_)⟩
  rintro u s1 ⟨y, H1, I1, rx, a, C, d, fs, v, rfl, ea, ed, T, hno, l, q⟩
  obtain rfl : u = Value.ref a := rx
  obtain ⟨t1, ho⟩ := exo_at I1.hok ea
  obtain ⟨mA, hns, hr⟩ := exd_at I1.hok ed
  obtain ⟨od, hod, hl⟩ := lookIn_ns hns
  obtain ⟨u, hu, ru⟩ := RelO.some_of (v := v) (o := mA f) (by rw [← l]; exact hr f)
  have J : PySem.W.InstAt s1.heap a _ C (some od) := ⟨ho, rfl, rfl, hod⟩
  exact HandSPX.exc_get I1.kIn J T.ga T.gg T.exC
    (PySem.W.findObj_own T.hdC hno rfl (by rw [hl, hu])) (handed_of ru) ⟨v, H1, I1.tok _, ru, q⟩
end
end K0


set_option Elab.async false
set_option linter.all false
set_option maxRecDepth 100000
set_option maxHeartbeats 4000000
namespace K0
open PySem PySem.Spec PyProof.Rows L2

section
variable {prog : Program} {w : World} {A : Around} {E : Value → Shared → Prop} {s : Shared} {K : PySem.W.Frag} {x C f : Addr} {ox : Obj} {od : Option Obj} {b : Value}
theorem ifBound_objNe {M : Model} {args : List Value} {Q : Option Value → Shared → Prop} (X : K.In s.heap) (I : PySem.W.InstAt s.heap x ox C od) (hs : PySem.W.findIn K (.ref C) "__ne__" = some (some (.builtin "object.__ne__")))
    (h : wpAny M A (call (.builtin "object.__ne__") (.ref x :: args)) (fun v => Q (some v)) E s) : wpAny M A (callSpecialIfBound? (.ref x) "__ne__" args) Q E s := by
  simp only [callSpecialIfBound?, bindSpecialIfBound?]
  refine wpAny_holding (wpAny_bind (wpAny_bind (wpAny_bind (I.type.here ((PySem.W.looks_findIn X hs).here ?_)))))
  refine wpAny_bind (wpAny_askSetting (wpAny_ite ?_))
  have fin : wpAny M A (call (.builtin "object.__ne__") ([.ref x] ++ args) >>= fun v => pure (some v)) Q E s := wpAny_bind (wpAny_mono h (fun v s' h' => wpAny_pure h') fun _ _ h' => h')
  split
  · exact wpAny_bind (wpAny_of_eq (F.cmp_object.ne.bind _) (wpAny_pure (by exact fin)))
  · exact wpAny_tryCatch (wpAny_bind (wpAny_of_eq (F.cmp_object.ne.bind _) (wpAny_pure (by exact fin))))
theorem objNe_K {Q : Fin → Shared → Prop} (hu : A.units < cLine) (X : K.In s.heap) (I : PySem.W.InstAt s.heap x ox C od) (hs : PySem.W.findIn K (.ref C) "__eq__" = some (some (.ref f))) (hf : PySem.W.isFn K (.ref f) = true)
    (hcall : wpAny (model prog w) A (call (.ref f) [.ref x, b]) (fun v s' => ∃ r, v = .bool r ∧ Q (.done (.ret (.bool (!r)))) s') E s) :
    wpAny (model prog w) A (Builtin.«object.__ne__» ⟨[.ref x, b], []⟩) Q E s := by
  unfold Builtin.«object.__ne__»
  repeat (first
    | with_reducible refine wpAny_cRoomFor hu ?_
    | (refine wpAny_bind (m := callSpecialIfBound? (.ref x) (Str.ofString "__eq__") [b])
        (PySem.W.ifBound_K X I hs hf (wpAny_mono hcall (fun r s' hr => by
          obtain ⟨b, rfl, hq⟩ := hr
          repeat (first | exact hq | exact wpAny_pure hq | exact wpAny_truthy_bool hq | (refine wpAny_bind (m := truthy (.bool _)) (wpAny_truthy_bool ?_)) | wp_step)) fun _ _ e => e)))
    | wp_step)
theorem ne_K {Q : Value → Shared → Prop} {y : Addr} (hu : A.units + 1 < cLine) (X : K.In s.heap) (I : PySem.W.InstAt s.heap x ox C od) {oy : Obj} {ody : Option Obj} (J : PySem.W.InstAt s.heap y oy C ody) (hn : PySem.W.findIn K (.ref C) "__ne__" = some (some (.builtin "object.__ne__")))
    (hm : PySem.W.mroIn K C (.type "object") = some true) (hs : PySem.W.findIn K (.ref C) "__eq__" = some (some (.ref f))) (hf : PySem.W.isFn K (.ref f) = true)
    (hcall : wpAny (model prog w) A.in1 (call (.ref f) [.ref x, .ref y]) (fun v s' => ∃ r, v = .bool r ∧ Q (.bool (!r)) s') E s) : wpAny (model prog w) A (richCompare .NotEq (.ref x) (.ref y)) Q E s := by
  have one : wpAny (model prog w) A (tryCompare (.ref x) "__ne__" (.ref y)) (fun r s' => ∃ v, r = some v ∧ Q v s') E s := by
    unfold tryCompare
    refine wpAny_bind (ifBound_objNe X I hn (wpAny_call (codeAny_call_builtin F.cmp_object.ne.plain F.cmpEntry_ne (PySem.W.check_slot F.cmpKind_ne F.cmpSplit_ne (I.type.andThen (PySem.W.looks_mroIn X hm)) (F.cmpArgs_ne _ _) ?_))))
    refine objNe_K (A := A.in1) hu X I hs hf (wpAny_mono hcall (fun v s' hv => ?_) fun _ _ z => z)
    obtain ⟨r, rfl, q⟩ := hv
    exact ⟨r, rfl, wpAny_pure ⟨_, rfl, q⟩⟩
  simp only [richCompare, cmpInfo_NotEq, oneThing_ref]
  refine wpAny_holding (wpAny_bind (wpAny_cRoomFor (Nat.lt_of_succ_lt hu) ?_))
  refine wpAny_bind (I.type.here (wpAny_bind (J.type.here ?_)))
  rw [show (Value.ref C != Value.ref C) = false from by simp]
  simp only [Bool.false_eq_true, if_false]
  refine wpAny_bind (wpAny_pure ?_)
  simp only [Bool.false_eq_true, if_false]
  refine wpAny_bind (wpAny_mono one (fun r s' z => ?_) fun _ _ e => e)
  obtain ⟨v, rfl, hq⟩ := z
  exact wpAny_pure hq
end
section
variable {X : Cx} {CX : CXT} {k : Nat} {f C : Addr} {fd : FuncData} {ps : List Str} {sp : Sp} {E : XK}
/-- the type of what == is asked of -/
def CmpTy (K : PySem.W.Frag) (H : Hp) (C : Addr) (y : V) : Prop := (∃ b dy gs, y = .ref b ∧ H b = some (.ins C dy gs)) ∨ ((∃ b xs, y = .ref b ∧ H b = some (.tup xs)) ∧ PySem.W.subIn K (.type "tuple") (.ref C) = some false)
/-- x == y, x of the class at C with the program's own __eq__ -/
theorem op_eqI (F : FnOk X.prog X.w X.K X.mg X.base CX k f fd ps sp) (hr : Room k X.A) (hs : PySem.W.findIn X.K (.ref C) "__eq__" = some (some (.ref f))) (hf : PySem.W.isFn X.K (.ref f) = true) (hb : Binds X.K fd ps []) (hx : Passes CX X E) :
    OpR X (compareOp .Eq) (fun x y H Q => ∃ a dx fs, x = .ref a ∧ H a = some (.ins C dx fs) ∧ CmpTy X.K H C y ∧ sp [x, y] H (fun v H' => ∃ b, v = .bl b ∧ Q (.bl b) H') E) := by
  intro pins s σ H x y v u Q I rx ry h
  obtain ⟨a, dx, fs, rfl, ha, hy, h⟩ := h
  cases rx
  obtain ⟨mA, J, _⟩ := ins_get I.hok ha
  obtain ⟨od, J, _⟩ := J.look
  obtain ⟨m, hF⟩ := I.fr
  have run : wpAny (model X.prog X.w) X.A (call (.ref f) [.ref a, u]) (EP X pins σ fun v H' => ∃ b, v = .bl b ∧ Q (.bl b) H') X.xe s := by
    have := run_fn (us := [.ref a, u]) (vs := [.ref a, y]) F hr hb .nil hx I (.cons rfl (.cons ry .nil)) (by simpa using h)
    simpa using this
  have back : ∀ v s', EP X pins σ (fun v H' => ∃ b, v = V.bl b ∧ Q (.bl b) H') v s' → PySem.W.CmpBack (EP X pins σ Q) v s' := by
    rintro v s' ⟨z, H', I', rz, b, rfl, q⟩
    cases rz
    show EP X pins σ Q (.bool b) s'
    exact ⟨.bl b, H', I', rfl, q⟩
  show wpAny (model X.prog X.w) X.A (richCompare .Eq _ u) (EP X pins σ Q) X.xe s
  rcases hy with ⟨b, dy, gs, rfl, hb'⟩ | ⟨⟨b, xs, rfl, hb'⟩, hsub⟩
  · cases ry
    obtain ⟨mB, J', _⟩ := ins_get I.hok hb'
    obtain ⟨od', J', _⟩ := J'.look
    exact PySem.W.cmp_K (op := .Eq) (tb := .ref C) hr.units0 hF I.ok.mod.kin J J'.type (by simp [PySem.W.notFirst]) hs hf (wpAny_mono run back fun _ _ z => z)
  · cases ry
    obtain ⟨_, its, _, o, ho, hc, _⟩ := I.hok b _ hb'
    refine PySem.W.cmp_K (op := .Eq) (tb := .type "tuple") hr.units0 hF I.ok.mod.kin J (hc ▸ (PySem.W.Looks.ld ho).andThen .now) ?_ hs hf (wpAny_mono run back fun _ _ z => z)
    unfold PySem.W.notFirst
    rw [hsub]
    simp
/-- x != y of two of the class at C -/
theorem op_neI (F : FnOk X.prog X.w X.K X.mg X.base CX k f fd ps sp) (hr : Room (k + 1) X.A) (hs : PySem.W.findIn X.K (.ref C) "__eq__" = some (some (.ref f))) (hf : PySem.W.isFn X.K (.ref f) = true) (hn : PySem.W.findIn X.K (.ref C) "__ne__" = some (some (.builtin "object.__ne__")))
    (hm : PySem.W.mroIn X.K C (.type "object") = some true) (hb : Binds X.K fd ps []) (hx : Passes CX X E) :
    OpR X (compareOp .NotEq) (fun x y H Q => ∃ a dx fs b dy gs, x = .ref a ∧ H a = some (.ins C dx fs) ∧ y = .ref b ∧ H b = some (.ins C dy gs) ∧ sp [x, y] H (fun v H' => ∃ b, v = .bl b ∧ Q (.bl (!b)) H') E) := by
  intro pins s σ H x y v u Q I rx ry h
  obtain ⟨a, dx, fs, b, dy, gs, rfl, ha, rfl, hb', h⟩ := h
  cases rx
  cases ry
  obtain ⟨mA, J, _⟩ := ins_get I.hok ha
  obtain ⟨od, J, _⟩ := J.look
  obtain ⟨mB, J', _⟩ := ins_get I.hok hb'
  obtain ⟨od', J', _⟩ := J'.look
  have hl : ([Value.ref a, Value.ref b] ++ []).length = ps.length := by
    have := F.len _ _ _ _ h
    simpa using this
  have run : wpAny (model X.prog X.w) X.A.in1 (call (.ref f) [.ref a, .ref b]) (EP X pins σ fun v H' => ∃ b, v = .bl b ∧ Q (.bl (!b)) H') X.xe s := by
    refine wpAny_call (codeAny_mono (F.run X.A.in1 X.stack s H ⟨[.ref a, .ref b], []⟩ [.ref a, .ref b] [.ref a, .ref b] _ E hr.in1 I.env0.in1 (by
      have := hb s [.ref a, .ref b] I.kIn hl
      simpa using this) (.cons rfl (.cons rfl .nil)) h) fun r s' hq => ?_)
    cases r with
    | error e => exact hx pins σ H s e s' I hq
    | ok fl =>
      cases fl with
      | ret u => exact I.after hq
      | next => exact False.elim hq
      | brk => exact False.elim hq
      | cont => exact False.elim hq
  show wpAny (model X.prog X.w) X.A (richCompare .NotEq _ _) (EP X pins σ Q) X.xe s
  refine ne_K (by have := hr.units; omega) I.kIn J J' hn hm hs hf (wpAny_mono run ?_ fun _ _ z => z)
  rintro v s' ⟨z, H', I', rz, c, rfl, q⟩
  cases rz
  exact ⟨c, rfl, .bl (!c), H', I', rfl, q⟩
end
end K0


set_option Elab.async false
set_option linter.all false
set_option maxRecDepth 100000
set_option maxHeartbeats 4000000
namespace K0
open PySem PySem.Spec PyProof.Rows L2

/-! ### defs, bundled -/
/-- the def x of the module stands at f and keeps sp -/
structure Dn (P : Program) (w : World) (K : PySem.W.Frag) (mg : Str → Option Value) (base : Heap) (k : Nat) (x : Str) (f : Addr) (ps : List Str) (sp : Sp) : Prop where
  ex : ∃ fd, FnOk P w K mg base CX0 k f fd ps sp ∧ Binds K fd ps []
  mg : mg x = some (.ref f)
  kp : PySem.W.keepIn K (.ref f) = true
/-- .. and what is bound where keywords ks are given -/
structure DnK (P : Program) (w : World) (K : PySem.W.Frag) (mg : Str → Option Value) (base : Heap) (k : Nat) (x : Str) (f : Addr) (ps ks : List Str) (gV : List V → List V → List V) (sp : Sp) : Prop where
  ex : ∃ fd g, FnOk P w K mg base CX0 k f fd ps sp ∧ KBn K fd ps 0 ks g gV
  mg : mg x = some (.ref f)
  kp : PySem.W.keepIn K (.ref f) = true
structure DnG (P : Program) (w : World) (K : PySem.W.Frag) (mg : Str → Option Value) (base : Heap) (k : Nat) (x : Str) (f : Addr) (ps : List Str) (sp : Sp) : Prop where
  ex : ∃ fd, FnG P w K mg base k f fd ps sp ∧ Binds K fd ps []
  mg : mg x = some (.ref f)
  kp : PySem.W.keepIn K (.ref f) = true
section
variable {X : Cx} {k : Nat} {f : Addr} {ps ks : List Str} {sp : Sp} {x : Str} {p pos : Pos} {e : Expr} {es : List Expr} {kws : List Keyword} {t tk : TA} {gV : List V → List V → List V}
def tDn (sp : Sp) (t : TA) : TE := fun σ H Q => t σ H fun vs H1 => sp vs H1 Q E0
theorem pe_dn (D : Dn X.prog X.w X.K X.mg X.base k x f ps sp) (hr : Room k X.A) (hg : Gl X x) (ha : PA X (e :: es) t)
    (hdb : (x == ("__debug__" : Str)) = false := by decide)
    (he : starEach (e :: es) X.env = (false, eval e X.env) :: starEach es X.env := by rfl)
    (hpl : (backTo pos (starEach es X.env)).any (·.1) = false := by rfl) :
    PE X (.Call (.Name x p) (e :: es) [] pos) (tDn sp t) := by
  obtain ⟨⟨fd, F, B⟩, m, kp⟩ := D
  have h := pe_call (p := p) F hr hg m kp B .nil pass0 ha hdb he hpl
  refine ⟨fun pins s σ H Q I q => h.run pins s σ H Q I ?_⟩
  have e1 : tCall sp [] E0 t σ H Q = tDn sp t σ H Q := by
    show t σ H (fun vs H1 => sp (vs ++ []) H1 Q E0) = _
    simp only [List.append_nil]
    rfl
  rw [e1]
  exact q
theorem pe_dk (D : DnK X.prog X.w X.K X.mg X.base k x f ps ks gV sp) (hr : Room k X.A) (hg : Gl X x) (hkw : PK X kws tk)
    (hall : (backToKw pos (keywordEach kws X.env)).all (·.1.isSome) = true := by rfl)
    (hks : (backToKw pos (keywordEach kws X.env)).filterMap (·.1) = ks := by rfl)
    (hdb : (x == ("__debug__" : Str)) = false := by decide)
    (hpl : ((backTo pos (starEach [] X.env)).any (·.1) || (backToKw pos (keywordEach kws X.env)).any (·.1.isNone)) = false := by rfl) :
    PE X (.Call (.Name x p) [] kws pos) (fun σ H Q => tk σ H fun zs H1 => zs.length = ks.length ∧ sp (gV [] zs) H1 Q E0) := by
  obtain ⟨⟨fd, g, F, B⟩, m, kp⟩ := D
  exact pe_kw0 F hr hg m kp B hkw hall hks hdb hpl
theorem pe_dg (D : DnG X.prog X.w X.K X.mg X.base k x f ps sp) (hG : X.A.guards = some []) (hr : Room k X.A) (hg : Gl X x) (ha : PA X (e :: es) t)
    (hdb : (x == ("__debug__" : Str)) = false := by decide)
    (he : starEach (e :: es) X.env = (false, eval e X.env) :: starEach es X.env := by rfl)
    (hpl : (backTo pos (starEach es X.env)).any (·.1) = false := by rfl) :
    PE X (.Call (.Name x p) (e :: es) [] pos) (tDn sp t) := by
  obtain ⟨⟨fd, F, B⟩, m, kp⟩ := D
  exact pe_callG F hG hr hg m kp B ha hdb he hpl
end

/-! ### exceptions, bundled -/
/-- an exception of the class at C with these fields stands at a -/
def ErrAt (H : Hp) (a C : Addr) (fs : List (Str × V)) : Prop := ∃ d, H a = some (exo a C (some d)) ∧ H d = some (exd d fs)
theorem ErrAt.same {H H' : Hp} {a C : Addr} {fs : List (Str × V)} (h : ErrAt H a C fs) (s : Same H H') : ErrAt H' a C fs := by
  obtain ⟨d, h1, h2⟩ := h
  exact ⟨d, s _ _ h1, s _ _ h2⟩
/-- what __init__ promises: the fields named are stored -/
def spI (C : Addr) (n : Nat) (fs : List V → List (Str × V)) : Sp := fun vs H Q _ => ∃ (a : Addr) (ws : List V), vs = .ref a :: ws ∧ ws.length = n ∧ H a = some (exo a C none) ∧
  ∀ (d : Addr) (H' : Hp), H d = none → d ≠ a → H' a = some (exo a C (some d)) → H' d = some (exd d (fs ws)) → (∀ b o, b ≠ a → H b = some o → H' b = some o) → Q .non H'
/-- the class x of the module stands at C; its maker binds by place, and by the keywords ks -/
structure Ec (P : Program) (w : World) (K : PySem.W.Frag) (mg : Str → Option Value) (base : Heap) (x : Str) (C : Addr) (n : Nat) (ks : List Str) (gV : List V → List V) (fs : List V → List (Str × V)) : Prop where
  ox : OexC K C
  xf : XfC K C
  ec : ExcC K C
  ex : ∃ fI fd ps g1 g2, PySem.W.findIn K (.ref C) "__init__" = some (some (.ref fI)) ∧ PySem.W.typeIn K (.ref fI) = some (.type "function") ∧ FnOk P w K mg base CX0 1 fI fd ps (spI C n fs) ∧
    KBn K fd ps (n + 1) [] g1 (fun vs _ => vs) ∧ KBn K fd ps 1 ks g2 (fun vs zs => vs ++ gV zs)
  len : ∀ zs : List V, zs.length = ks.length → (gV zs).length = n
  nk : n ≤ 1000
  mg : mg x = some (.ref C)
  no : ∀ ws : List V, ws.length = n → ∀ q ∈ fs ws, PySem.W.findIn K (.ref C) q.1 = some none
section
variable {X : Cx} {C : Addr} {n : Nat} {ks : List Str} {x : Str} {p pos : Pos} {e : Expr} {es : List Expr} {kws : List Keyword} {t tk : TA} {gV : List V → List V} {fs : List V → List (Str × V)}
/-- the reading of C(e, ..) -/
def tEc (C : Addr) (n : Nat) (fs : List V → List (Str × V)) (t : TA) : TE := fun σ H Q => t σ H fun vs H1 => vs.length = n ∧
  ∀ (a : Addr) (H2 : Hp), H1 a = none → ErrAt H2 a C (fs vs) → Same H1 H2 → Q (.ref a) H2
theorem ini_way {H1 : Hp} {Q : VK} {ws : List V} (hl : ws.length = n) (h : ∀ (a : Addr) (H2 : Hp), H1 a = none → ErrAt H2 a C (fs ws) → Same H1 H2 → Q (.ref a) H2) :
    ∀ a, H1 a = none → spI C n fs (.ref a :: ws) (upd H1 a (exo a C none)) (fun v H3 => v = .non ∧ Q (.ref a) H3) E0 := by
  intro a ha
  refine ⟨a, ws, rfl, hl, upd_same, fun d H' hd hda h1 h2 hk => ⟨rfl, h a H' ha ⟨d, h1, h2⟩ fun b o hb => ?_⟩⟩
  have hba : b ≠ a := ne_of_none hb ha
  exact hk b o hba (by rw [upd_ne hba]; exact hb)
theorem pe_ec (D : Ec X.prog X.w X.K X.mg X.base x C n ks gV fs) (hr : Room 2 X.A) (hg : Gl X x) (ha : PA X (e :: es) t)
    (hdb : (x == ("__debug__" : Str)) = false := by decide)
    (he : starEach (e :: es) X.env = (false, eval e X.env) :: starEach es X.env := by rfl)
    (hpl : (backTo pos (starEach es X.env)).any (·.1) = false := by rfl) :
    PE X (.Call (.Name x p) (e :: es) [] pos) (tEc C n fs t) := by
  obtain ⟨fI, fd, ps, g1, g2, h1, h2, F, b1, b2⟩ := D.ex
  refine ⟨fun pins s σ H Q I q => wpAny_Call_Name_kw (ld_glob I hg D.mg ?_ hdb)⟩
  refine PySem.W.callWith_K (h₀ := X.base) I.ok.mod.kin D.ox.kC
    (thn (ha.run pos pins s σ H _ I q) ?_) he hpl
  rintro us s1 ⟨vs, H1, I1, r, l1, q1⟩
  exact ⟨I1.kIn, run_mkE (ws := []) (zs := []) (ks := []) D.ox h1 h2 F hr b1 I1 r .nil l1 rfl D.nk (ini_way l1 q1)⟩
theorem pe_eck (D : Ec X.prog X.w X.K X.mg X.base x C n ks gV fs) (hr : Room 2 X.A) (hg : Gl X x) (hkw : PK X kws tk)
    (hall : (backToKw pos (keywordEach kws X.env)).all (·.1.isSome) = true := by rfl)
    (hks : (backToKw pos (keywordEach kws X.env)).filterMap (·.1) = ks := by rfl)
    (hdb : (x == ("__debug__" : Str)) = false := by decide)
    (hpl : ((backTo pos (starEach [] X.env)).any (·.1) || (backToKw pos (keywordEach kws X.env)).any (·.1.isNone)) = false := by rfl) :
    PE X (.Call (.Name x p) [] kws pos) (fun σ H Q => tk σ H fun zs H1 => zs.length = ks.length ∧
      ∀ (a : Addr) (H2 : Hp), H1 a = none → ErrAt H2 a C (fs (gV zs)) → Same H1 H2 → Q (.ref a) H2) := by
  obtain ⟨fI, fd, ps, g1, g2, h1, h2, F, b1, b2⟩ := D.ex
  refine ⟨fun pins s σ H Q I h => wpAny_Call_Name_kw (ld_glob I hg D.mg ?_ hdb)⟩
  refine PySem.W.callWith_KW0 (h₀ := X.base) I.ok.mod.kin D.ox.kC hall
    (thn (hkw.run pos pins s σ H _ I h) ?_) hpl
  rintro ws s2 ⟨zs, H2, I2, rz, l2, q2⟩
  refine ⟨I2.kIn, ?_⟩
  rw [hks]
  exact run_mkE (us := []) (vs := []) (n := 0) D.ox h1 h2 F hr b2 I2 .nil rz rfl l2 (Nat.zero_le _) (ini_way (D.len zs l2) q2)
/-- e.f of such an exception -/
theorem fld_err {K : PySem.W.Frag} {H : Hp} {a : Addr} {f : Str} {v : V} {ws : List V} {Q : VK} {P : Program} {w : World} {mg : Str → Option Value} {base : Heap} (D : Ec P w K mg base x C n ks gV fs) (h : ErrAt H a C (fs ws)) (hn : ws.length = n)
    (hl : (fs ws).lookup f = some v) (q : Q v H) :
    ∃ (b C' d : Addr) (fs' : List (Str × V)) (v' : V), V.ref a = .ref b ∧ H b = some (exo b C' (some d)) ∧ H d = some (exd d fs') ∧
      XfC K C' ∧ PySem.W.findIn K (.ref C') f = some none ∧ fs'.lookup f = some v' ∧ Q v' H := by
  obtain ⟨d, h1, h2⟩ := h
  refine ⟨a, C, d, fs ws, v, rfl, h1, h2, D.xf, ?_, hl, q⟩
  have key : ∀ (l : List (Str × V)), l.lookup f = some v → ∃ q ∈ l, q.1 = f := by
    intro l
    induction l with
    | nil => intro h; cases h
    | cons p l ih =>
      intro h
      obtain ⟨f', z⟩ := p
      rw [lookup_put] at h
      by_cases e : f = f'
      · exact ⟨_, List.mem_cons_self, e.symm⟩
      · rw [if_neg e] at h
        obtain ⟨q, hq, hf⟩ := ih h
        exact ⟨q, List.mem_cons_of_mem _ hq, hf⟩
  obtain ⟨q', hq, hf⟩ := key _ hl
  rw [← hf]
  exact D.no ws hn q' hq
end
end K0


set_option Elab.async false
set_option linter.all false
set_option maxRecDepth 100000
set_option maxHeartbeats 4000000
namespace K0
open PySem PySem.Spec PyProof.Rows L2

def topS (i : Nat) : Stmt := PySem.Challenge.pw_spindleway_k32_likenesses_that_given_one.main.body.getD i (.Pass ⟨0, 0, 0, 0⟩)
abbrev si_BadNumber : Stmt := inClass (topS 2) 0
abbrev si_BadPoint : Stmt := inClass (topS 3) 0
abbrev si_BadLot : Stmt := inClass (topS 4) 0
abbrev si_BadLikeness : Stmt := inClass (topS 5) 0
abbrev si_Misfit : Stmt := inClass (topS 6) 0
abbrev si_TooMany : Stmt := inClass (topS 7) 0
abbrev st_is_integer : Stmt := topS 9
abbrev st_is_within : Stmt := topS 10
abbrev st_is_list : Stmt := topS 11
abbrev st_are_integers : Stmt := topS 12
abbrev st_is_point : Stmt := topS 13
abbrev st_are_points : Stmt := topS 14
abbrev sm_init : Stmt := inClass (topS 21) 0
abbrev sm_eq : Stmt := inClass (topS 21) 1
abbrev sm_led : Stmt := inClass (topS 21) 2
abbrev sm_then : Stmt := inClass (topS 21) 3
abbrev sm_back : Stmt := inClass (topS 21) 4
abbrev sm_same : Stmt := inClass (topS 21) 5
abbrev st__are_places : Stmt := topS 22
abbrev st_likenesses_of : Stmt := topS 23
abbrev st__check_points_and_given : Stmt := topS 24
abbrev st__leads_of : Stmt := topS 25
abbrev st_led_indexes : Stmt := topS 26
abbrev st__made_of : Stmt := topS 27
abbrev st__one_then : Stmt := topS 28
abbrev st__law_keg : Stmt := topS 30
abbrev st__law_tap : Stmt := topS 31
abbrev st__law_choose : Stmt := topS 32
abbrev st__law_stirred : Stmt := topS 33
abbrev st__law_one : Stmt := topS 34
abbrev st__law_led : Stmt := topS 35
abbrev st__law_reached : Stmt := topS 36
abbrev st__law_made : Stmt := topS 37
abbrev st__law_points : Stmt := topS 38
abbrev st__law_strays : Stmt := topS 39
abbrev st__law_heard : Stmt := topS 40
abbrev st__law_right : Stmt := topS 41
abbrev st__law_refused_right : Stmt := topS 42
abbrev st_law : Stmt := topS 43

/-- names of the module that are the built-ins still -/
structure Nm (mg : Str → Option Value) : Prop where
  n_isinstance : mg "isinstance" = none
  n_int : mg "int" = none
  n_bool : mg "bool" = none
  n_dict : mg "dict" = none
  n_list : mg "list" = none
  n_tuple : mg "tuple" = none
  n_len : mg "len" = none
  n_abs : mg "abs" = none
  n_repr : mg "repr" = none
  n_range : mg "range" = none
  n_zip : mg "zip" = none
  n_sorted : mg "sorted" = none
  n_all : mg "all" = none
  n_set : mg "set" = none
  c_LEAST_WIDE : ∃ t, mg "LEAST_WIDE" = some (.int 2 t)
  c_MOST_WIDE : ∃ t, mg "MOST_WIDE" = some (.int 6 t)
  c_MOST_POINTS : ∃ t, mg "MOST_POINTS" = some (.int 48 t)
  c_MOST_GIVEN : ∃ t, mg "MOST_GIVEN" = some (.int 10 t)
  c_MOST_MADE : ∃ t, mg "MOST_MADE" = some (.int 64 t)
/-! ### kinds of values -/
def isI : V → Bool
  | .int _ => true
  | _ => false
/-- what isinstance tells of v: of int, of bool, of list and tuple -/
def Asks (K : PySem.W.Frag) (H : Hp) (v : V) (q : Bool) : Prop := ∃ (t : Value) (i b : Bool), TyE K H v t ∧
  PySem.W.kitOne K t (.type "int") = some i ∧ PySem.W.kitOne K t (.type "bool") = some b ∧ (i && !b) = isI v ∧
  PySem.W.kitAny K t [.type "list", .type "tuple"] = some q
section
variable {K : PySem.W.Frag} {H : Hp}
theorem any2 {t : Value} {b1 b2 : Bool} (h1 : PySem.W.kitOne K t (.type "list") = some b1) (h2 : PySem.W.kitOne K t (.type "tuple") = some b2) :
    PySem.W.kitAny K t [.type "list", .type "tuple"] = some (b1 || b2) :=
  kitAny_cons h1 (fun e => by
    subst e
    exact kitAny_cons h2 (fun e => by subst e; exact kitAny_nil) (fun e => by subst e; rfl)) (fun e => by subst e; rfl)
theorem Asks.int (n : Int) : Asks K H (.int n) false :=
  ⟨.type "int", true, false, .base (.base (.int n)), kit_ty (by decide +kernel), kit_ty (by decide +kernel), rfl,
    any2 (kit_ty (r := false) (by decide +kernel)) (kit_ty (r := false) (by decide +kernel))⟩
theorem Asks.bl (b : Bool) : Asks K H (.bl b) false :=
  ⟨.type "bool", true, true, .base (.base (.bl b)), kit_ty (by decide +kernel), kit_ty (by decide +kernel), rfl,
    any2 (kit_ty (r := false) (by decide +kernel)) (kit_ty (r := false) (by decide +kernel))⟩
theorem Asks.non : Asks K H .non false :=
  ⟨.type "NoneType", false, false, .base (.base .non), kit_ty (by decide +kernel), kit_ty (by decide +kernel), rfl,
    any2 (kit_ty (r := false) (by decide +kernel)) (kit_ty (r := false) (by decide +kernel))⟩
theorem Asks.str (x : Str) : Asks K H (.str x) false :=
  ⟨.type "str", false, false, .base (.base (.str x)), kit_ty (by decide +kernel), kit_ty (by decide +kernel), rfl,
    any2 (kit_ty (r := false) (by decide +kernel)) (kit_ty (r := false) (by decide +kernel))⟩
theorem Asks.lst {a : Addr} {xs : List V} (h : H a = some (.lst xs)) : Asks K H (.ref a) true :=
  ⟨.type "list", false, false, .base (.base (.lst h)), kit_ty (by decide +kernel), kit_ty (by decide +kernel), rfl,
    any2 (kit_ty (r := true) (by decide +kernel)) (kit_ty (r := false) (by decide +kernel))⟩
theorem Asks.tup {a : Addr} {xs : List V} (h : H a = some (.tup xs)) : Asks K H (.ref a) true :=
  ⟨.type "tuple", false, false, .base (.base (.tup h)), kit_ty (by decide +kernel), kit_ty (by decide +kernel), rfl,
    any2 (kit_ty (r := false) (by decide +kernel)) (kit_ty (r := true) (by decide +kernel))⟩
theorem Asks.dict {a : Addr} {kvs : List (Key × V)} (h : H a = some (.dK kvs)) : Asks K H (.ref a) false :=
  ⟨.type "dict", false, false, .base (.base (.dK h)), kit_ty (by decide +kernel), kit_ty (by decide +kernel), rfl,
    any2 (kit_ty (r := false) (by decide +kernel)) (kit_ty (r := false) (by decide +kernel))⟩
/-- what an own class of errors, at C, tells of its instances -/
structure KindsC (K : PySem.W.Frag) (C : Addr) : Prop where
  ki : PySem.W.kitOne K (.ref C) (.type "int") = some false
  kb : PySem.W.kitOne K (.ref C) (.type "bool") = some false
  kl : PySem.W.kitOne K (.ref C) (.type "list") = some false
  kt : PySem.W.kitOne K (.ref C) (.type "tuple") = some false
theorem Asks.err0 {a C : Addr} (h : H a = some (ExO (.ref C) a)) (T : ExcC K C) (k : KindsC K C) : Asks K H (.ref a) false :=
  ⟨.ref C, false, false, .err0 h T, k.ki, k.kb, rfl, any2 k.kl k.kt⟩
end
theorem pe_tyn {X : Cx} {x : Str} {pos : Pos} (n : String) (hg : Gl X x) (hm : X.mg x = none) (hv : bootBuiltins x = some (.type n)) (hn : x ≠ "__name__" := by decide)
    (hd : (x == ("__debug__" : Str)) = false := by decide) : PE X (.Name x pos) (tC (.ty n)) := pe_bltn hg hm hv rfl hn hd
end K0


set_option Elab.async false
set_option linter.all false
set_option maxRecDepth 100000
set_option maxHeartbeats 4000000
namespace K0
open PySem PySem.Spec PyProof.Rows L2

theorem TyOf.same {K : PySem.W.Frag} {H H' : Hp} {v : V} {t : Value} (s : Same H H') (h : TyOf K H v t) : TyOf K H' v t := by
  cases h with
  | non => exact .non
  | bl x => exact .bl x
  | int i => exact .int i
  | str x => exact .str x
  | flt x => exact .flt x
  | lst e => exact .lst (s _ _ e)
  | frz e => exact .frz (s _ _ e)
  | tup e => exact .tup (s _ _ e)
  | dK e => exact .dK (s _ _ e)
  | dT e => exact .dT (s _ _ e)
  | ins e cl ha hn htk hm => exact .ins (s _ _ e) cl ha hn htk hm
theorem TyX.same {K : PySem.W.Frag} {H H' : Hp} {v : V} {t : Value} (s : Same H H') (h : TyX K H v t) : TyX K H' v t := by
  cases h with
  | base h => exact .base (TyOf.same s h)
  | byt b => exact .byt b
  | set e => exact .set (s _ _ e)
  | kList e c => exact .kList e c
  | kTuple e c => exact .kTuple e c
  | kDict e c => exact .kDict e c
  | fTuple e => exact .fTuple (s _ _ e)
  | fDict e => exact .fDict (s _ _ e)
theorem TyE.same {K : PySem.W.Frag} {H H' : Hp} {v : V} {t : Value} (s : Same H H') (h : TyE K H v t) : TyE K H' v t := by
  cases h with
  | base h => exact .base (TyX.same s h)
  | err e hd T => exact .err (s _ _ e) (fun dd q => let ⟨o, z⟩ := hd dd q; ⟨o, s _ _ z⟩) T
  | err0 e T => exact .err0 (s _ _ e) T
theorem Asks.same {K : PySem.W.Frag} {H H' : Hp} {v : V} {q : Bool} (s : Same H H') (h : Asks K H v q) : Asks K H' v q := by
  obtain ⟨t, i, b, ty, r⟩ := h
  exact ⟨t, i, b, ty.same s, r⟩

/-! ### is_integer, is_within -/
def spIsInt (K : PySem.W.Frag) : Sp := fun vs H Q _ => ∃ (v : V) (q : Bool), vs = [v] ∧ Asks K H v q ∧ ∀ H', Same H H' → Q (.bl (isI v)) H'
def leB : V → Int → Bool
  | .int k, n => decide (k ≤ n)
  | _, _ => true
def geB : V → Int → Bool
  | .int k, n => decide (n ≤ k)
  | _, _ => true
/-- whether v is an integer from l to m -/
def within : V → V → V → Bool
  | .int n, l, m => leB l n && geB m n
  | _, _, _ => false
def Bd (l : V) : Prop := l = .non ∨ ∃ k, l = .int k
def spWithin (K : PySem.W.Frag) : Sp := fun vs H Q _ => ∃ (v l m : V) (q : Bool), vs = [v, l, m] ∧ Asks K H v q ∧ Bd l ∧ Bd m ∧ ∀ H', Same H H' → Q (.bl (within v l m)) H'

section
variable {P : Program} {w : World} {K : PySem.W.Frag} {mg : Str → Option Value} {base : Heap} {f g : Addr} {fd : FuncData}
theorem sc_is_integer : FnScope ["value"] ["value"] (defScope st_is_integer) := ⟨rfl, rfl, rfl, by decide +kernel, rfl, by decide +kernel, by decide +kernel⟩
theorem ok_is_integer (F : Fun K "is_integer" "is_integer" st_is_integer f fd) (T : Nm mg) : FnOk P w K mg base CX0 1 f fd ["value"] (spIsInt K) := by
  refine F.ok sc_is_integer (fun vs H Q E h => ?_) (fun cdv A outer s H vs Q E hr h => ?_)
  · obtain ⟨v, q, rfl, _⟩ := h
    rfl
  · obtain ⟨v, q, rfl, ⟨t, i, b, ty, hi, hb, hib, _⟩, k⟩ := h
    refine ⟨_, (pss_one (ps_ret (pe_and (pe_callB call_isA (by rfl) T.n_isinstance (by decide +kernel) (pa_cons (pv 0) (pa_cons (pe_tyn "int" (by rfl) T.n_int (by decide +kernel)) pa_nil))) (pe_one (pe_not (pe_callB call_isA (by rfl) T.n_isinstance (by decide +kernel) (pa_cons (pv 0) (pa_cons (pe_tyn "bool" (by rfl) T.n_bool (by decide +kernel)) pa_nil)))))))), ?_⟩
    refine ⟨_, rfl, v, .ty "int", t, .type "int", i, rfl, .ty _, ty, hi, i, rfl, ?_⟩
    cases i with
    | false =>
      refine iteF ?_
      have e : isI v = false := hib.symm
      rw [← e]
      exact k H (Same.refl H)
    | true =>
      refine iteT ?_
      refine ⟨_, rfl, v, .ty "bool", t, .type "bool", b, rfl, .ty _, ty, hb, b, rfl, ?_⟩
      have e : isI v = !b := hib.symm
      rw [← e]
      exact k H (Same.refl H)
theorem sc_is_within : FnScope ["value", "least", "most"] ["value", "least", "most"] (defScope st_is_within) := ⟨rfl, rfl, rfl, by decide +kernel, rfl, by decide +kernel, by decide +kernel⟩
theorem ok_is_within (F : Fun K "is_within" "is_within" st_is_within f fd) (T : Nm mg) (D_is_integer : Dn P w K mg base 1 "is_integer" g ["value"] (spIsInt K)) :
    FnOk P w K mg base CX0 2 f fd ["value", "least", "most"] (spWithin K) := by
  refine F.ok sc_is_within (fun vs H Q E h => ?_) (fun cdv A outer s H vs Q E hr h => ?_)
  · obtain ⟨v, l, m, q, rfl, _⟩ := h
    rfl
  · obtain ⟨v, l, m, q, rfl, av, bl, bm, k⟩ := h
    refine ⟨_, (pss_cons (ps_if (pt_not (pt_val (pe_dn D_is_integer (hr.mono (by decide)) rfl (pa_cons (pv 0) pa_nil)))) (pss_one (ps_ret pe_bl)) pss_nil)
    (pss_one (ps_ret (pe_and (pe_or (pe_cmp (pc_isN (pv 1)) rfl) (pe_one (pe_cmpR op_le (pv 1) (pv 0) (nomark _)))) (pe_one (pe_or (pe_cmp (pc_isN (pv 2)) rfl) (pe_one (pe_cmpR op_le (pv 0) (pv 2) (nomark _))))))))), ?_⟩
    refine ⟨_, rfl, v, q, rfl, av, fun H1 s1 => ⟨_, rfl, ?_⟩⟩
    cases v with
    | int n =>
      refine iteF ?_
      have low : ∀ R : VK, R (.bl (leB l n)) H1 → (tOrV (tIsN (tVar 1)) (tOp (rI0 fun i j => .bl (decide (i ≤ j))) (tVar 1) (tVar 0))) [some (.int n), some l, some m] H1 R := by
        intro R hR
        refine ⟨l, rfl, _, rfl, ?_⟩
        rcases bl with rfl | ⟨k1, rfl⟩
        · exact iteT hR
        · exact iteF ⟨_, rfl, _, rfl, _, _, rfl, rfl, hR⟩
      have high : ∀ R : VK, R (.bl (geB m n)) H1 → (tOrV (tIsN (tVar 2)) (tOp (rI0 fun i j => .bl (decide (i ≤ j))) (tVar 0) (tVar 2))) [some (.int n), some l, some m] H1 R := by
        intro R hR
        refine ⟨m, rfl, _, rfl, ?_⟩
        rcases bm with rfl | ⟨k1, rfl⟩
        · exact iteT hR
        · exact iteF ⟨_, rfl, _, rfl, _, _, rfl, rfl, hR⟩
      refine low _ ⟨_, rfl, ?_⟩
      have hk : Q (.bl (leB l n && geB m n)) H1 := k H1 s1
      cases e : leB l n with
      | false =>
        rw [e] at hk
        exact iteF hk
      | true =>
        rw [e] at hk
        exact iteT (high _ hk)
    | non => exact iteT (k H1 s1)
    | bl b => exact iteT (k H1 s1)
    | str x => exact iteT (k H1 s1)
    | byt x => exact iteT (k H1 s1)
    | flt x => exact iteT (k H1 s1)
    | ref x => exact iteT (k H1 s1)
    | ty x => exact iteT (k H1 s1)
end
end K0


set_option Elab.async false
set_option linter.all false
set_option maxRecDepth 100000
set_option maxHeartbeats 4000000
namespace K0
open PySem PySem.Spec PyProof.Rows L2

theorem same_upd {H : Hp} {p : Addr} {o : HO} (h : H p = none) : Same H (upd H p o) := fun b u e => by
  rw [upd_ne (ne_of_none e h)]
  exact e
theorem same_at {H : Hp} {p : Addr} {o o' : HO} (h : H p = some o) {H0 : Hp} (s : Same H0 H) (hn : H0 p = none) : Same H0 (upd H p o') := fun b u e => by
  rw [upd_ne (ne_of_none e hn)]
  exact s b u e
theorem same_sqT {K : PySem.W.Frag} {H H' : Hp} {a : Addr} {xs : List V} (e : Same H H') (h : SqT K H a xs) : SqT K H' a xs := by
  rcases h with (h | ⟨o, h⟩) | h
  · exact .inl (.inl (e _ _ h))
  · exact .inl (.inr ⟨o, e _ _ h⟩)
  · exact .inr h

/-- what a comprehension holds behind i items, all else as it was -/
def LcI (H1 : Hp) (D : Addr) (l : List V) (H : Hp) : Prop := H D = some (.lst l) ∧ Same H1 H
theorem take_get {α : Type} : ∀ {l : List α} {i : Nat} {x : α}, l[i]? = some x → l.take (i + 1) = l.take i ++ [x]
  | [], i, x, h => by simp at h
  | a :: l, 0, x, h => by
    have e : a = x := Option.some.inj h
    subst e
    rfl
  | a :: l, i + 1, x, h => by
    have ih := take_get (l := l) (i := i) (x := x) h
    show a :: l.take (i + 1) = a :: l.take i ++ [x]
    rw [ih]
    rfl
section
variable {K : PySem.W.Frag} {a D : Addr} {xs : List V} {i0 : Nat} {tt : TT} {te : TE} {vs : List Nat} {σ : L2.St} {H1 : Hp} {Qd : Hp → Prop} (sel : V → Option V)
/-- one turn of a comprehension that only looks -/
theorem lc_turn (hD : H1 D = none) (hz : xs.length < sizeLine) (hw : ∀ x, wipe ((wipe σ vs).set i0 (some x)) vs = wipe σ vs)
    (ht : ∀ x ∈ xs, ∀ H, Same H1 H → ∀ R : Bool → Hp → Prop, (∀ H', Same H H' → R (sel x).isSome H') → tt ((wipe σ vs).set i0 (some x)) H R)
    (he : ∀ x ∈ xs, ∀ y, sel x = some y → ∀ H, Same H1 H → ∀ R : VK, (∀ H', Same H H' → R y H') → te ((wipe σ vs).set i0 (some x)) H R)
    {i : Nat} {x : V} {H : Hp} (hx : xs[i]? = some x) (p : LcI H1 D ((xs.take i).filterMap sel) H) :
    gName i0 x (wipe σ vs) H fun σ2 H2 => wipe σ2 vs = wipe σ vs ∧ tt σ2 H2 fun b H3 =>
      if b = true then te σ2 H3 fun y H4 => ∃ acc, H4 D = some (.lst acc) ∧ acc.length < sizeLine ∧ LcI H1 D ((xs.take (i + 1)).filterMap sel) (upd H4 D (.lst (acc ++ [y])))
      else LcI H1 D ((xs.take (i + 1)).filterMap sel) H3 := by
  have hm : x ∈ xs := List.mem_of_getElem? hx
  obtain ⟨pd, ps⟩ := p
  refine ⟨hw x, ht x hm H ps _ fun H3 s3 => ?_⟩
  rw [take_get hx, List.filterMap_append]
  cases e : sel x with
  | none =>
    refine iteF ⟨?_, ps.trans s3⟩
    simp only [List.filterMap_cons, e, List.filterMap_nil, List.append_nil]
    exact s3 _ _ pd
  | some y =>
    refine iteT (he x hm y e H3 (ps.trans s3) _ fun H4 s4 => ⟨_, s4 _ _ (s3 _ _ pd), ?_, ?_, ?_⟩)
    · refine Nat.lt_of_le_of_lt (List.length_filterMap_le ..) (Nat.lt_of_le_of_lt ?_ hz)
      rw [List.length_take]
      exact Nat.min_le_right _ _
    · rw [upd_same]
      simp only [List.filterMap_cons, e, List.filterMap_nil]
    · exact same_at (s4 _ _ (s3 _ _ pd)) ((ps.trans s3).trans s4) hD
theorem lcl (hD : H1 D = none) (hS : SqL K H1 a xs) (hz : xs.length < sizeLine) (hw : ∀ x, wipe ((wipe σ vs).set i0 (some x)) vs = wipe σ vs)
    (ht : ∀ x ∈ xs, ∀ H, Same H1 H → ∀ R : Bool → Hp → Prop, (∀ H', Same H H' → R (sel x).isSome H') → tt ((wipe σ vs).set i0 (some x)) H R)
    (he : ∀ x ∈ xs, ∀ y, sel x = some y → ∀ H, Same H1 H → ∀ R : VK, (∀ H', Same H H' → R y H') → te ((wipe σ vs).set i0 (some x)) H R)
    (hd : ∀ H, LcI H1 D (xs.filterMap sel) H → Qd H) :
    ∃ W : Nat → Nat → Hp → Prop, (∃ m, W 0 m (upd H1 D (.lst []))) ∧ ∀ i m H, W i m H →
      ((Itl K a).stop i H ∧ Qd H) ∨ ((Itl K a).go i H ∧ ∃ Nx : Hp → Prop, (∀ H', Nx H' → ∃ m', m' < m ∧ W (i + 1) m' H') ∧ ∀ x H', (Itl K a).yld i H x H' →
        gName i0 x (wipe σ vs) H' fun σ2 H2 => wipe σ2 vs = wipe σ vs ∧ tt σ2 H2 fun b H3 =>
          if b = true then te σ2 H3 fun y H4 => ∃ acc, H4 D = some (.lst acc) ∧ acc.length < sizeLine ∧ Nx (upd H4 D (.lst (acc ++ [y]))) else Nx H3) := by
  refine lc_list (xs := xs) (fun i H => LcI H1 D ((xs.take i).filterMap sel) H) ⟨upd_same, same_upd hD⟩ (fun i H _ p => p.2.seq hS)
    (fun i x H hx p => lc_turn sel hD hz hw ht he hx p) fun H p => hd H ?_
  rw [List.take_length] at p
  exact p
theorem lct (hD : H1 D = none) (hS : SqT K H1 a xs) (hz : xs.length < sizeLine) (hw : ∀ x, wipe ((wipe σ vs).set i0 (some x)) vs = wipe σ vs)
    (ht : ∀ x ∈ xs, ∀ H, Same H1 H → ∀ R : Bool → Hp → Prop, (∀ H', Same H H' → R (sel x).isSome H') → tt ((wipe σ vs).set i0 (some x)) H R)
    (he : ∀ x ∈ xs, ∀ y, sel x = some y → ∀ H, Same H1 H → ∀ R : VK, (∀ H', Same H H' → R y H') → te ((wipe σ vs).set i0 (some x)) H R)
    (hd : ∀ H, LcI H1 D (xs.filterMap sel) H → Qd H) :
    ∃ W : Nat → Nat → Hp → Prop, (∃ m, W 0 m (upd H1 D (.lst []))) ∧ ∀ i m H, W i m H →
      ((Itt K a).stop i H ∧ Qd H) ∨ ((Itt K a).go i H ∧ ∃ Nx : Hp → Prop, (∀ H', Nx H' → ∃ m', m' < m ∧ W (i + 1) m' H') ∧ ∀ x H', (Itt K a).yld i H x H' →
        gName i0 x (wipe σ vs) H' fun σ2 H2 => wipe σ2 vs = wipe σ vs ∧ tt σ2 H2 fun b H3 =>
          if b = true then te σ2 H3 fun y H4 => ∃ acc, H4 D = some (.lst acc) ∧ acc.length < sizeLine ∧ Nx (upd H4 D (.lst (acc ++ [y]))) else Nx H3) := by
  refine lc_tup (xs := xs) (fun i H => LcI H1 D ((xs.take i).filterMap sel) H) ⟨upd_same, same_upd hD⟩ (fun i H _ p => same_sqT p.2 hS)
    (fun i x H hx p => lc_turn sel hD hz hw ht he hx p) fun H p => hd H ?_
  rw [List.take_length] at p
  exact p
/-- the ints from lo on, n of them -/
def ups (lo : Int) (n : Nat) : List V := (List.range n).map fun i => V.int (lo + (i : Nat))
theorem ups_len (lo : Int) (n : Nat) : (ups lo n).length = n := by simp [ups]
theorem ups_get (lo : Int) (n : Nat) {i : Nat} (h : i < n) : (ups lo n)[i]? = some (.int (lo + (i : Nat))) := by
  simp [ups, h]
theorem lcr {lo : Int} {n : Nat} (hD : H1 D = none) (hz : n < sizeLine) (hw : ∀ x, wipe ((wipe σ vs).set i0 (some x)) vs = wipe σ vs)
    (ht : ∀ x ∈ ups lo n, ∀ H, Same H1 H → ∀ R : Bool → Hp → Prop, (∀ H', Same H H' → R (sel x).isSome H') → tt ((wipe σ vs).set i0 (some x)) H R)
    (he : ∀ x ∈ ups lo n, ∀ y, sel x = some y → ∀ H, Same H1 H → ∀ R : VK, (∀ H', Same H H' → R y H') → te ((wipe σ vs).set i0 (some x)) H R)
    (hd : ∀ H, LcI H1 D ((ups lo n).filterMap sel) H → Qd H) :
    ∃ W : Nat → Nat → Hp → Prop, (∃ m, W 0 m (upd H1 D (.lst []))) ∧ ∀ i m H, W i m H →
      ((Itr lo n).stop i H ∧ Qd H) ∨ ((Itr lo n).go i H ∧ ∃ Nx : Hp → Prop, (∀ H', Nx H' → ∃ m', m' < m ∧ W (i + 1) m' H') ∧ ∀ x H', (Itr lo n).yld i H x H' →
        gName i0 x (wipe σ vs) H' fun σ2 H2 => wipe σ2 vs = wipe σ vs ∧ tt σ2 H2 fun b H3 =>
          if b = true then te σ2 H3 fun y H4 => ∃ acc, H4 D = some (.lst acc) ∧ acc.length < sizeLine ∧ Nx (upd H4 D (.lst (acc ++ [y]))) else Nx H3) := by
  refine lc_range (fun i H => LcI H1 D (((ups lo n).take i).filterMap sel) H) ⟨upd_same, same_upd hD⟩
    (fun i H hi p => lc_turn sel hD (by rw [ups_len]; exact hz) hw ht he (ups_get lo n hi) p) fun H p => hd H ?_
  have e : (ups lo n).take n = ups lo n := List.take_of_length_le (by rw [ups_len]; exact Nat.le_refl _)
  rw [e] at p
  exact p
end
end K0


set_option Elab.async false
set_option linter.all false
set_option maxRecDepth 100000
set_option maxHeartbeats 4000000
namespace K0
open PySem PySem.Spec PyProof.Rows L2

/-- v is no list or tuple, or one of these items -/
def Seqs (K : PySem.W.Frag) (H : Hp) (v : V) : Option (List V) → Prop
  | none => Asks K H v false
  | some xs => Asks K H v true ∧ xs.length < sizeLine ∧ ∃ a, v = .ref a ∧ (SqL K H a xs ∨ SqT K H a xs)
theorem Seqs.asks {K : PySem.W.Frag} {H : Hp} {v : V} {o : Option (List V)} (h : Seqs K H v o) : Asks K H v o.isSome := by
  cases o with
  | none => exact h
  | some xs => exact h.1
theorem Seqs.same {K : PySem.W.Frag} {H H' : Hp} {v : V} {o : Option (List V)} (s : Same H H') (h : Seqs K H v o) : Seqs K H' v o := by
  cases o with
  | none => exact Asks.same s h
  | some xs =>
    obtain ⟨h1, hz, a, e, h2⟩ := h
    refine ⟨h1.same s, hz, a, e, ?_⟩
    rcases h2 with h2 | h2
    · exact .inl (Same.seq s h2)
    · exact .inr (same_sqT s h2)
/-- whether a list of this length is within the bounds -/
def lenB (o : Option (List V)) (l m : V) : Bool := match o with
  | none => false
  | some xs => within (.int xs.length) l m
def spIsList (K : PySem.W.Frag) : Sp := fun vs H Q _ => ∃ (v l m : V) (o : Option (List V)), vs = [v, l, m] ∧ Seqs K H v o ∧ Bd l ∧ Bd m ∧ ∀ H', Same H H' → Q (.bl (lenB o l m)) H'
/-- whether all of a list are integers -/
def intsB (o : Option (List V)) : Bool := match o with
  | none => false
  | some xs => xs.all isI
/-- the items can be asked -/
def Items (K : PySem.W.Frag) (H : Hp) (o : Option (List V)) : Prop := ∀ xs, o = some xs → ∀ x ∈ xs, ∃ q, Asks K H x q
theorem Items.same {K : PySem.W.Frag} {H H' : Hp} {o : Option (List V)} (s : Same H H') (h : Items K H o) : Items K H' o := fun xs e x hx =>
  let ⟨q, z⟩ := h xs e x hx
  ⟨q, z.same s⟩
def spAreInts (K : PySem.W.Frag) : Sp := fun vs H Q _ => ∃ (v : V) (o : Option (List V)), vs = [v] ∧ Seqs K H v o ∧ Items K H o ∧ ∀ H', Same H H' → Q (.bl (intsB o)) H'
def spIsPoint (K : PySem.W.Frag) : Sp := fun vs H Q _ => ∃ (v : V) (k : Int) (o : Option (List V)), vs = [v, .int k] ∧ Seqs K H v o ∧ Items K H o ∧
  ∀ H', Same H H' → Q (.bl (lenB o (.int k) (.int k) && intsB o)) H'
/-- ascending from lo on below many -/
def ascB : Int → Int → List V → Bool
  | _, _, [] => true
  | lo, many, .int n :: r => decide (lo ≤ n) && decide (n < many) && ascB (n + 1) many r
  | _, _, _ :: _ => false
def lotB (o : Option (List V)) (many : Int) : Bool := match o with
  | none => false
  | some xs => xs.all isI && ascB 0 many xs
def spIsLot (K : PySem.W.Frag) : Sp := fun vs H Q _ => ∃ (v : V) (many : Int) (o : Option (List V)), vs = [v, .int many] ∧ Seqs K H v o ∧ Items K H o ∧
  ∀ H', Same H H' → Q (.bl (lotB o many)) H'

section
variable {P : Program} {w : World} {K : PySem.W.Frag} {mg : Str → Option Value} {base : Heap} {f g g2 : Addr} {fd : FuncData}
theorem sc_is_list : FnScope ["value", "least", "most"] ["value", "least", "most"] (defScope st_is_list) := ⟨rfl, rfl, rfl, by decide +kernel, rfl, by decide +kernel, by decide +kernel⟩
theorem ok_is_list (F : Fun K "is_list" "is_list" st_is_list f fd) (T : Nm mg) (D_is_within : Dn P w K mg base 2 "is_within" g ["value", "least", "most"] (spWithin K)) :
    FnOk P w K mg base CX0 3 f fd ["value", "least", "most"] (spIsList K) := by
  refine F.ok sc_is_list (fun vs H Q E h => ?_) (fun cdv A outer s H vs Q E hr h => ?_)
  · obtain ⟨v, l, m, o, rfl, _⟩ := h
    rfl
  · obtain ⟨v, l, m, o, rfl, hv, bl, bm, k⟩ := h
    refine ⟨_, (pss_one (ps_ret (pe_and (pe_callB call_isT (by rfl) T.n_isinstance (by decide +kernel) (pa_cons (pv 0) (pa_cons (pe_tup (pa_cons (pe_tyn "list" (by rfl) T.n_list (by decide +kernel)) (pa_cons (pe_tyn "tuple" (by rfl) T.n_tuple (by decide +kernel)) pa_nil))) pa_nil))) (pe_one (pe_dn D_is_within (hr.mono (by decide)) rfl (pa_cons (pe_callB call_len_seq (by rfl) T.n_len (by decide +kernel) (pa_cons (pv 0) pa_nil)) (pa_cons (pv 1) (pa_cons (pv 2) pa_nil)))))))), ?_⟩
    refine ⟨_, rfl, (by show 2 ≤ sizeLine; decide), fun p hp => ?_⟩
    have s1 : Same H (upd H p (.tup [.ty "list", .ty "tuple"])) := same_upd hp
    obtain ⟨t, i, b, ty, _, _, _, hq⟩ := (hv.asks).same s1
    refine ⟨v, p, [.ty "list", .ty "tuple"], t, [.type "list", .type "tuple"], o.isSome, rfl, upd_same, .cons (.ty _) (.cons (.ty _) .nil), ty, hq, _, rfl, ?_⟩
    cases o with
    | none => exact iteF (k _ s1)
    | some xs =>
      refine iteT ?_
      obtain ⟨_, hz, a, rfl, hS⟩ := Seqs.same s1 hv
      refine ⟨_, rfl, a, xs, rfl, hS, _, rfl, _, rfl, .int xs.length, l, m, false, rfl, .int _, bl, bm, fun H' s2 => ?_⟩
      exact k H' (s1.trans s2)
theorem sc_are_integers : FnScope ["value", "each"] ["value"] (defScope st_are_integers) := ⟨rfl, rfl, rfl, by decide +kernel, rfl, by decide +kernel, by decide +kernel⟩
theorem all_filterMap_isI (xs : List V) : (xs.filterMap fun x => some (V.bl (isI x))) = (xs.map isI).map V.bl := by
  induction xs with
  | nil => rfl
  | cons x xs ih => simp only [List.filterMap_cons, List.map_cons, ih]
theorem all_id_map (xs : List V) : ((xs.map isI).all id) = xs.all isI := by
  induction xs with
  | nil => rfl
  | cons x xs ih => simp only [List.map_cons, List.all_cons, ih, id]
theorem ok_are_integers (F : Fun K "are_integers" "are_integers" st_are_integers f fd) (T : Nm mg) (D_is_integer : Dn P w K mg base 1 "is_integer" g2 ["value"] (spIsInt K))
    (D_is_list : Dn P w K mg base 3 "is_list" g ["value", "least", "most"] (spIsList K)) :
    FnOk P w K mg base CX0 4 f fd ["value"] (spAreInts K) := by
  refine F.ok sc_are_integers (fun vs H Q E h => ?_) (fun cdv A outer s H vs Q E hr h => ?_)
  · obtain ⟨v, o, rfl, _⟩ := h
    rfl
  · obtain ⟨v, o, rfl, hv, hi, k⟩ := h
    have elt : ∀ {xs : List V}, o = some xs → ∀ {H1 : Hp}, Same H H1 → ∀ x ∈ xs, ∀ y, (fun x => some (V.bl (isI x))) x = some y → ∀ H2, Same H1 H2 → ∀ R : VK, (∀ H', Same H2 H' → R y H') →
        tDn (spIsInt K) (tCons (tVar 1) tNil) ((wipe [some v, none] [1]).set 1 (some x)) H2 R := by
      intro xs e H1 s1 x hx y hy H2 s2 R hR
      obtain ⟨q, aq⟩ := hi xs e x hx
      cases hy
      exact ⟨x, rfl, x, q, rfl, (aq.same s1).same s2, hR⟩
    have way : ∀ (t : TE) (ht : ∀ xs, o = some xs → ∀ H1, Same H H1 → ∀ R : VK, (∀ H' D, Same H1 H' → H' D = some (.lst ((xs.map isI).map V.bl)) → R (.ref D) H') → t [some v, none] H1 R),
        tRet (tAndV (tDn (spIsList K) (tCons (tVar 0) (tCons (tC .non) (tCons (tC .non) tNil)))) (tCB (rAll K) (tCons t tNil))) { nx := fun _ H' => Q .non H', rt := Q } [some v, none] H := by
      intro t ht
      refine ⟨v, rfl, v, .non, .non, o, rfl, hv, .inl rfl, .inl rfl, fun H1 s1 => ⟨_, rfl, ?_⟩⟩
      cases o with
      | none => exact iteF (k H1 s1)
      | some xs =>
        refine iteT (ht xs rfl H1 s1 _ fun H' D s2 hD => ⟨D, _, rfl, .of hD, ?_⟩)
        rw [all_id_map]
        exact k H' (s1.trans s2)
    have fin : ∀ {xs : List V} {H1 : Hp} {D : Addr} {R : VK}, (∀ H' D, Same H1 H' → H' D = some (.lst ((xs.map isI).map V.bl)) → R (.ref D) H') → ∀ H', LcI H1 D (xs.filterMap fun x => some (V.bl (isI x))) H' → R (.ref D) H' := by
      intro xs H1 D R hR H' p
      obtain ⟨p1, p2⟩ := p
      rw [all_filterMap_isI] at p1
      exact hR H' D p2 p1
    by_cases ht : ∃ xs a, o = some xs ∧ v = .ref a ∧ SqT K H a xs
    · obtain ⟨xs0, a, e0, rfl, hT⟩ := ht
      refine ⟨_, (pss_one (ps_ret (pe_and (pe_dn D_is_list (hr.mono (by decide)) rfl (pa_cons (pv 0) (pa_cons pe_non (pa_cons pe_non pa_nil)))) (pe_one (pe_callB (cr_all rfl) (by rfl) T.n_all (by decide +kernel) (pa_cons (pe_lc (own := [("each", 1)]) (g := gName 1) (tt := tYes) rfl sc_are_integers.nd (pi_tup (pv 0)) (blkOk_by (N := ["value", "each"]) (sc := defScope st_are_integers) (by decide +kernel)) (fun _ _ _ _ _ => pg_name (i := 1) sc_are_integers.nd rfl (Or.inl rfl)) (fun _ _ _ _ _ => pts_nil) (fun _ _ _ _ _ => (pe_dn D_is_integer (hr.mono (by decide)) rfl (pa_cons (pv 1) pa_nil)))) pa_nil)))))), way _ ?_⟩
      intro xs e H1 s1 R hR
      have ee : xs0 = xs := Option.some.inj (e0.symm.trans e)
      subst ee
      have hz : xs0.length < sizeLine := by
        rw [e0] at hv
        exact hv.2.1
      refine ⟨_, rfl, a, rfl, ⟨_, same_sqT s1 hT⟩, fun D hD => lct (xs := xs0) (fun x => some (V.bl (isI x))) hD (same_sqT s1 hT) hz (fun _ => rfl) (fun x _ H2 _ R h => h H2 (Same.refl H2)) (elt e s1) (fin hR)⟩
    · refine ⟨_, (pss_one (ps_ret (pe_and (pe_dn D_is_list (hr.mono (by decide)) rfl (pa_cons (pv 0) (pa_cons pe_non (pa_cons pe_non pa_nil)))) (pe_one (pe_callB (cr_all rfl) (by rfl) T.n_all (by decide +kernel) (pa_cons (pe_lc (own := [("each", 1)]) (g := gName 1) (tt := tYes) rfl sc_are_integers.nd (pi_list (pv 0)) (blkOk_by (N := ["value", "each"]) (sc := defScope st_are_integers) (by decide +kernel)) (fun _ _ _ _ _ => pg_name (i := 1) sc_are_integers.nd rfl (Or.inl rfl)) (fun _ _ _ _ _ => pts_nil) (fun _ _ _ _ _ => (pe_dn D_is_integer (hr.mono (by decide)) rfl (pa_cons (pv 1) pa_nil)))) pa_nil)))))), way _ ?_⟩
      intro xs e H1 s1 R hR
      have hv' := hv
      rw [e] at hv'
      obtain ⟨_, hz, a, rfl, hS⟩ := hv'
      rcases hS with hS | hS
      · refine ⟨_, rfl, a, rfl, ⟨_, Same.seq s1 hS⟩, fun D hD => lcl (xs := xs) (fun x => some (V.bl (isI x))) hD (Same.seq s1 hS) hz (fun _ => rfl) (fun x _ H2 _ R h => h H2 (Same.refl H2)) (elt e s1) (fin hR)⟩
      · exact absurd ⟨xs, a, e, rfl, hS⟩ ht
theorem sc_is_point : FnScope ["value", "wide"] ["value", "wide"] (defScope st_is_point) := ⟨rfl, rfl, rfl, by decide +kernel, rfl, by decide +kernel, by decide +kernel⟩
theorem ok_is_point (F : Fun K "is_point" "is_point" st_is_point f fd) (D_are_integers : Dn P w K mg base 4 "are_integers" g2 ["value"] (spAreInts K))
    (D_is_list : Dn P w K mg base 3 "is_list" g ["value", "least", "most"] (spIsList K)) :
    FnOk P w K mg base CX0 5 f fd ["value", "wide"] (spIsPoint K) := by
  refine F.ok sc_is_point (fun vs H Q E h => ?_) (fun cdv A outer s H vs Q E hr h => ?_)
  · obtain ⟨v, n, o, rfl, _⟩ := h
    rfl
  · obtain ⟨v, n, o, rfl, hv, hi, k⟩ := h
    refine ⟨_, (pss_one (ps_ret (pe_and (pe_dn D_is_list (hr.mono (by decide)) rfl (pa_cons (pv 0) (pa_cons (pv 1) (pa_cons (pv 1) pa_nil)))) (pe_one (pe_dn D_are_integers (hr.mono (by decide)) rfl (pa_cons (pv 0) pa_nil)))))), ?_⟩
    refine ⟨v, rfl, _, rfl, _, rfl, v, .int n, .int n, o, rfl, hv, .inr ⟨n, rfl⟩, .inr ⟨n, rfl⟩, fun H1 s1 => ⟨_, rfl, ?_⟩⟩
    cases e : lenB o (.int n) (.int n) with
    | false =>
      refine iteF ?_
      have k1 := k H1 s1
      rw [e] at k1
      exact k1
    | true =>
      refine iteT ⟨v, rfl, v, o, rfl, hv.same s1, hi.same s1, fun H2 s2 => ?_⟩
      have k1 := k H2 (s1.trans s2)
      rw [e] at k1
      exact k1
end
end K0


set_option Elab.async false
set_option linter.all false
set_option maxRecDepth 100000
set_option maxHeartbeats 2000000
/-! zip of two, each a list or a tuple -/
namespace K0z
open PySem RZ
open PySem.Sem (wp)
/-- at l: a tuple (b) or a list of these items -/
def IsSq (b : Bool) (h : Heap) (l : Addr) (xs : Array Value) : Prop := match b with | true => h.IsTuple l xs | false => h.IsList l xs
def IsIt (b : Bool) (h : Heap) (it l : Addr) (i : Nat) : Prop := match b with | true => h.IsTupleIter it l i | false => h.IsListIter it l i
def itName (b : Bool) : String := match b with | true => "tuple_iterator" | false => "list_iterator"
theorem IsSq.extBut {b : Bool} {h h' : Heap} {a c items} (x : IsSq b h a items) (hs : Heap.ExtBut c h h') (hab : a ≠ c) : IsSq b h' a items := by
  cases b
  · exact Heap.IsList.extBut x hs hab
  · exact Heap.IsTuple.extBut x hs hab
theorem IsSq.push {b : Bool} {h : Heap} {a items} (x : IsSq b h a items) (o : Obj) : IsSq b (h.push o) a items := by
  cases b
  · exact Heap.IsList.push x o
  · exact Heap.IsTuple.push x o
theorem IsIt.extBut {b : Bool} {h h' : Heap} {a c l i} (x : IsIt b h a l i) (hs : Heap.ExtBut c h h') (hab : a ≠ c) : IsIt b h' a l i := by
  cases b
  · exact Heap.IsListIter.extBut x hs hab
  · exact Heap.IsTupleIter.extBut x hs hab
theorem IsIt.at {b : Bool} {h h' : Heap} {a l i} (x : IsIt b h a l i) (e : ∀ o, h.get? a = some o → h'.get? a = some o) : IsIt b h' a l i := by
  cases b
  · exact Heap.IsListIter.at x e
  · exact Heap.IsTupleIter.at x e
theorem IsIt.obj {b : Bool} {h : Heap} {a l i} (x : IsIt b h a l i) : ∃ o : Obj, h.get? a = some o ∧ o.data = .fields #[.ref l, .int i 0] := by
  cases b
  · obtain ⟨o, e, _, d⟩ := x
    exact ⟨o, e, d⟩
  · obtain ⟨o, e, _, d⟩ := x
    exact ⟨o, e, d⟩
theorem IsIt.lt {b : Bool} {h : Heap} {a l i} (x : IsIt b h a l i) : a < h.objs.size := by
  obtain ⟨o, e, _⟩ := x.obj
  exact Heap.lt_size e
theorem IsIt.mk {b : Bool} {h : Heap} {a l : Addr} (e : h.get? a = some { cls := .type (itName b), data := .fields #[.ref l, .int 0 0] }) : IsIt b h a l 0 := by
  cases b
  · exact ⟨_, e, rfl, rfl⟩
  · exact ⟨_, e, rfl, rfl⟩
section
variable {prog : Program} {w : World} {A : Around} {E : Value → Shared → Prop} {s : Shared}
theorem nextOf_item {b : Bool} {it l : Addr} {i : Nat} {items} {x : Value} {Q : Value → Shared → Prop} (hit : IsIt b s.heap it l i)
    (hl : IsSq b s.heap l items) (hx : items[i]? = some x)
    (hQ : ∀ h', IsIt b h' it l (i + 1) → Heap.SameBut it s.heap h' → Q x { s with heap := h' }) :
    wpAny (model prog w) A (Builtin.SmallTypes.nextOf (.ref it)) Q E s := by
  cases b
  · exact wpAny_nextOf_list_item hit hl hx hQ
  · exact nextOf_tuple_item hit hl hx hQ
theorem nextOf_end {b : Bool} {it l : Addr} {i : Nat} {items} {Q : Value → Shared → Prop} (hh : A.handled = none)
    (hit : IsIt b s.heap it l i) (hl : IsSq b s.heap l items) (hx : items[i]? = none)
    (hE : ∀ h' e, Heap.ExtBut it s.heap h' → (∃ o, h'.get? e = some o ∧ o.cls = .type "StopIteration") → E (.ref e) { s with heap := h' }) :
    wpAny (model prog w) A (Builtin.SmallTypes.nextOf (.ref it)) Q E s := by
  cases b
  · exact wpAny_nextOf_list_end hh hit hl hx hE
  · exact nextOf_tuple_end hh hit hl hx hE
theorem pyIter_sq {b : Bool} {l : Addr} {xs : Array Value} {Q : Value → Shared → Prop} (hl : IsSq b s.heap l xs)
    (h : Q (.ref s.heap.objs.size) { s with heap := s.heap.push { cls := .type (itName b), data := .fields #[.ref l, .int 0 0] } }) :
    wpAny (model prog w) A (pyIter (.ref l)) Q E s := by
  cases b
  · exact wpAny_pyIter_list hl h
  · exact wpAny_pyIter_tuple hl h
theorem zipM_next_item {z TI TO i1 i2 l1 l2 : Addr} {b1 b2 : Bool} {k1 k2 : Nat} {xs ys : Array Value} {x y a b : Value} {Q : Value → Shared → Prop} (D : ZipApart z TI TO i1 i2 l1 l2)
    (hz : IsZip s.heap z TI TO .none) (hTI : IsPair s.heap TI (.ref i1) (.ref i2)) (hTO : IsPair s.heap TO a b)
    (h1 : IsIt b1 s.heap i1 l1 k1) (h2 : IsIt b2 s.heap i2 l2 k2) (hl1 : IsSq b1 s.heap l1 xs) (hl2 : IsSq b2 s.heap l2 ys) (hx : xs[k1]? = some x) (hy : ys[k2]? = some y)
    (hQ : ∀ h', IsZip h' z TI TO (rawInt s.heap.objs.size) → IsPair h' TO x y → IsIt b1 h' i1 l1 (k1 + 1) → IsIt b2 h' i2 l2 (k2 + 1) → IsPair h' s.heap.objs.size x y → h'.objs.size = s.heap.objs.size + 1 →
      (∀ c o, c ≠ z → c ≠ TO → c ≠ i1 → c ≠ i2 → s.heap.get? c = some o → h'.get? c = some o) → Q (.ref s.heap.objs.size) { s with heap := h' }) :
    wpAny (model prog w) A (Builtin.«zip.__next__» ⟨[.ref z], []⟩) (fun fin s' => ∃ v, fin = .done (.ret v) ∧ Q v s') E s := by
  show wpAny _ _ (field (.ref z) 2 >>= _) _ _ _
  refine wpAny_bind (wpAny_field hz rfl (x := .bool false) rfl ?_)
  show wpAny _ _ (field (.ref z) 3 >>= _) _ _ _
  refine wpAny_bind (wpAny_field hz rfl (x := .ref TI) rfl ?_)
  refine wpAny_bind (wpAny_seqItems hTI rfl ?_)
  show wpAny _ _ (Builtin.SmallTypes.ownedTupleIsFree (.ref z) >>= _) _ _ _
  refine wpAny_bind ?_
  unfold Builtin.SmallTypes.ownedTupleIsFree
  refine wpAny_bind (wpAny_field hz rfl (x := .none) rfl (wpAny_pure ?_))
  simp only [if_true]
  refine wpAny_bind (wpAny_rule ?_)
  refine wpAny_bind (wpAny_field hz rfl (x := .ref TO) rfl ?_)
  refine wpAny_bind (wpAny_setField_rec hz (by simp) fun h₁ hz₁ hs₁ => ?_)
  replace hz₁ : IsZip h₁ z TI TO .ellipsis := hz₁
  refine wpAny_bind ?_
  simp only [List.zipIdx_cons, List.zipIdx_nil, List.forIn_cons, List.forIn_nil]

  refine wpAny_bind (wpAny_bind (wpAny_onRaise ?_))
  show wpAny _ _ (Builtin.SmallTypes.nextOf (.ref i1) >>= _) _ _ _
  refine wpAny_bind (nextOf_item (h1.extBut hs₁.extBut D.i1z) (hl1.extBut hs₁.extBut D.l1z) hx fun h₂ h1₂ hs₂ => wpAny_pure ?_)
  have hTO₂ : IsPair h₂ TO a b := hs₂.extBut _ _ D.TOi1 (hs₁.extBut _ _ D.TOz hTO)
  refine wpAny_bind (wpAny_seqItems hTO₂ rfl ?_)
  refine wpAny_bind (wpAny_updateSeq_pair hTO₂ fun h₃ hTO₃ hs₃ => ?_)
  replace hTO₃ : IsPair h₃ TO x b := hTO₃
  refine wpAny_bind (wpAny_letGo (wpAny_pure ?_))

  refine wpAny_bind (wpAny_bind (wpAny_onRaise ?_))
  show wpAny _ _ (Builtin.SmallTypes.nextOf (.ref i2) >>= _) _ _ _
  refine wpAny_bind (nextOf_item (((h2.extBut hs₁.extBut D.i2z).extBut hs₂.extBut D.i12.symm).extBut hs₃.extBut D.TOi2.symm)
    (((hl2.extBut hs₁.extBut D.l2z).extBut hs₂.extBut D.l2i1).extBut hs₃.extBut D.l2TO) hy fun h₄ h2₄ hs₄ => wpAny_pure ?_)
  have hTO₄ : IsPair h₄ TO x b := hs₄.extBut _ _ D.TOi2 hTO₃
  refine wpAny_bind (wpAny_seqItems hTO₄ rfl ?_)
  refine wpAny_bind (wpAny_updateSeq_pair hTO₄ fun h₅ hTO₅ hs₅ => ?_)
  replace hTO₅ : IsPair h₅ TO x y := hTO₅
  refine wpAny_bind (wpAny_letGo (wpAny_pure (wpAny_pure ?_)))

  refine wpAny_bind (wpAny_seqItems hTO₅ rfl ?_)
  refine wpAny_bind (wpAny_newTuple ?_)
  have hsz : h₅.objs.size = s.heap.objs.size := by rw [hs₅.1, hs₄.1, hs₃.1, hs₂.1, hs₁.1]
  have hz₅ : IsZip h₅ z TI TO .ellipsis := hs₅.extBut _ _ D.TOz.symm (hs₄.extBut _ _ D.i2z.symm (hs₃.extBut _ _ D.TOz.symm (hs₂.extBut _ _ D.i1z.symm hz₁)))
  have hk₅ : ∀ c o, c ≠ z → c ≠ TO → c ≠ i1 → c ≠ i2 → s.heap.get? c = some o → h₅.get? c = some o := fun c o c1 c2 c3 c4 e =>
    hs₅.extBut _ _ c2 (hs₄.extBut _ _ c4 (hs₃.extBut _ _ c2 (hs₂.extBut _ _ c3 (hs₁.extBut _ _ c1 e))))
  have h1₅ : IsIt b1 h₅ i1 l1 (k1 + 1) := ((h1₂.extBut hs₃.extBut D.TOi1.symm).extBut hs₄.extBut D.i12).extBut hs₅.extBut D.TOi1.symm
  have h2₅ : IsIt b2 h₅ i2 l2 (k2 + 1) := h2₄.extBut hs₅.extBut D.TOi2.symm
  have hzlt : z < h₅.objs.size := Heap.lt_size hz₅
  have hTOlt : TO < h₅.objs.size := Heap.lt_size hTO₅
  have hi1lt : i1 < h₅.objs.size := h1₅.lt
  have hi2lt : i2 < h₅.objs.size := h2₅.lt
  show wpAny _ _ (Builtin.SmallTypes.ownedTupleHandOut (.ref z) (.ref h₅.objs.size) >>= _) _ _ _
  refine wpAny_bind ?_
  unfold Builtin.SmallTypes.ownedTupleHandOut
  have hz₆ : IsZip (h₅.push { cls := .type "tuple", data := .seq #[x, y] }) z TI TO .ellipsis := Heap.get?_push_of_some _ hz₅
  refine wpAny_bind (wpAny_setField_rec hz₆ (by simp) fun h₇ hz₇ hs₇ => ?_)
  replace hz₇ : IsZip h₇ z TI TO (rawInt h₅.objs.size) := hz₇
  refine wpAny_setField_rec hz₇ (by simp) fun h₈ hz₈ hs₈ => ?_
  replace hz₈ : IsZip h₈ z TI TO (rawInt h₅.objs.size) := hz₈
  have up : ∀ c o, c ≠ z → h₅.get? c = some o → h₈.get? c = some o := fun c o c1 e => hs₈.extBut _ _ c1 (hs₇.extBut _ _ c1 (Heap.get?_push_of_some _ e))
  have hT₈ : IsPair h₈ h₅.objs.size x y := hs₈.extBut _ _ (Nat.ne_of_gt hzlt) (hs₇.extBut _ _ (Nat.ne_of_gt hzlt) (Heap.get?_push_size _ rfl))
  have hz8 : h₈.objs.size = h₅.objs.size + 1 := by rw [hs₈.1, hs₇.1, Heap.size_push]
  rw [hsz] at hz₈ hT₈ hz8
  refine wpAny_pure ⟨_, rfl, ?_⟩
  show Q (.ref h₅.objs.size) _
  rw [hsz]
  exact hQ h₈ hz₈ (up _ _ D.TOz hTO₅) (h1₅.at fun o e => up _ o D.i1z e) (h2₅.at fun o e => up _ o D.i2z e) hT₈ hz8 fun c o c1 c2 c3 c4 e => up c o c1 (hk₅ c o c1 c2 c3 c4 e)

theorem zipM_next_end {z TI TO i1 i2 l1 l2 : Addr} {b1 b2 : Bool} {k1 k2 : Nat} {xs ys : Array Value} {a b : Value} {Q : Fin → Shared → Prop} (hh : A.handled = none) (D : ZipApart z TI TO i1 i2 l1 l2)
    (hz : IsZip s.heap z TI TO .none) (hTI : IsPair s.heap TI (.ref i1) (.ref i2)) (hTO : IsPair s.heap TO a b)
    (h1 : IsIt b1 s.heap i1 l1 k1) (h2 : IsIt b2 s.heap i2 l2 k2) (hl1 : IsSq b1 s.heap l1 xs) (hl2 : IsSq b2 s.heap l2 ys) (hend : xs[k1]? = none ∨ ys[k2]? = none)
    (hE : ∀ h' e, (∀ c o, c ≠ z → c ≠ TO → c ≠ i1 → c ≠ i2 → s.heap.get? c = some o → h'.get? c = some o) → (∃ o, h'.get? e = some o ∧ o.cls = .type "StopIteration") → E (.ref e) { s with heap := h' }) :
    wpAny (model prog w) A (Builtin.«zip.__next__» ⟨[.ref z], []⟩) Q E s := by
  show wpAny _ _ (field (.ref z) 2 >>= _) _ _ _
  refine wpAny_bind (wpAny_field hz rfl (x := .bool false) rfl ?_)
  show wpAny _ _ (field (.ref z) 3 >>= _) _ _ _
  refine wpAny_bind (wpAny_field hz rfl (x := .ref TI) rfl ?_)
  refine wpAny_bind (wpAny_seqItems hTI rfl ?_)
  show wpAny _ _ (Builtin.SmallTypes.ownedTupleIsFree (.ref z) >>= _) _ _ _
  refine wpAny_bind ?_
  unfold Builtin.SmallTypes.ownedTupleIsFree
  refine wpAny_bind (wpAny_field hz rfl (x := .none) rfl (wpAny_pure ?_))
  simp only [if_true]
  refine wpAny_bind (wpAny_rule ?_)
  refine wpAny_bind (wpAny_field hz rfl (x := .ref TO) rfl ?_)
  refine wpAny_bind (wpAny_setField_rec hz (by simp) fun h₁ hz₁ hs₁ => ?_)
  replace hz₁ : IsZip h₁ z TI TO .ellipsis := hz₁
  refine wpAny_bind ?_
  simp only [List.zipIdx_cons, List.zipIdx_nil, List.forIn_cons, List.forIn_nil]
  refine wpAny_bind (wpAny_bind (wpAny_onRaise ?_))
  show wpAny _ _ (Builtin.SmallTypes.nextOf (.ref i1) >>= _) _ _ _
  cases hx : xs[k1]? with
  | none =>
    refine wpAny_bind (nextOf_end hh (h1.extBut hs₁.extBut D.i1z) (hl1.extBut hs₁.extBut D.l1z) hx fun h₂ e hs₂ he => ?_)
    obtain ⟨oe, hoe, hce⟩ := he
    have hz₂ : IsZip h₂ z TI TO .ellipsis := hs₂ _ _ D.i1z.symm hz₁
    have hez : e ≠ z := fun x => by subst x; rw [hz₂] at hoe; cases hoe; simp at hce
    refine wpAny_setField_rec hz₂ (by simp) fun h₃ _ hs₃ => hE h₃ e (fun c o c1 _ c3 _ x => hs₃.extBut _ _ c1 (hs₂ _ _ c3 (hs₁.extBut _ _ c1 x))) ⟨oe, hs₃.extBut _ _ hez hoe, hce⟩
  | some x =>
    have hy : ys[k2]? = none := by rcases hend with h | h; rw [hx] at h; cases h; exact h
    refine wpAny_bind (nextOf_item (h1.extBut hs₁.extBut D.i1z) (hl1.extBut hs₁.extBut D.l1z) hx fun h₂ h1₂ hs₂ => wpAny_pure ?_)
    have hTO₂ : IsPair h₂ TO a b := hs₂.extBut _ _ D.TOi1 (hs₁.extBut _ _ D.TOz hTO)
    refine wpAny_bind (wpAny_seqItems hTO₂ rfl ?_)
    refine wpAny_bind (wpAny_updateSeq_pair hTO₂ fun h₃ hTO₃ hs₃ => ?_)
    refine wpAny_bind (wpAny_letGo (wpAny_pure ?_))
    refine wpAny_bind (wpAny_bind (wpAny_onRaise ?_))
    show wpAny _ _ (Builtin.SmallTypes.nextOf (.ref i2) >>= _) _ _ _
    refine wpAny_bind (nextOf_end hh (((h2.extBut hs₁.extBut D.i2z).extBut hs₂.extBut D.i12.symm).extBut hs₃.extBut D.TOi2.symm)
      (((hl2.extBut hs₁.extBut D.l2z).extBut hs₂.extBut D.l2i1).extBut hs₃.extBut D.l2TO) hy fun h₄ e hs₄ he => ?_)
    obtain ⟨oe, hoe, hce⟩ := he
    have hz₄ : IsZip h₄ z TI TO .ellipsis := hs₄ _ _ D.i2z.symm (hs₃.extBut _ _ D.TOz.symm (hs₂.extBut _ _ D.i1z.symm hz₁))
    have hez : e ≠ z := fun x => by subst x; rw [hz₄] at hoe; cases hoe; simp at hce
    refine wpAny_setField_rec hz₄ (by simp) fun h₅ _ hs₅ => hE h₅ e (fun c o c1 c2 c3 c4 x => hs₅.extBut _ _ c1 (hs₄ _ _ c4 (hs₃.extBut _ _ c2 (hs₂.extBut _ _ c3 (hs₁.extBut _ _ c1 x))))) ⟨oe, hs₅.extBut _ _ hez hoe, hce⟩

theorem pyNext_zipM_item {z TI TO i1 i2 l1 l2 : Addr} {b1 b2 : Bool} {k1 k2 : Nat} {xs ys : Array Value} {x y a b : Value} {Q : Option Value → Shared → Prop} (D : ZipApart z TI TO i1 i2 l1 l2)
    (hz : IsZip s.heap z TI TO .none) (hTI : IsPair s.heap TI (.ref i1) (.ref i2)) (hTO : IsPair s.heap TO a b)
    (h1 : IsIt b1 s.heap i1 l1 k1) (h2 : IsIt b2 s.heap i2 l2 k2) (hl1 : IsSq b1 s.heap l1 xs) (hl2 : IsSq b2 s.heap l2 ys) (hx : xs[k1]? = some x) (hy : ys[k2]? = some y)
    (hQ : ∀ h', IsZip h' z TI TO (rawInt s.heap.objs.size) → IsPair h' TO x y → IsIt b1 h' i1 l1 (k1 + 1) → IsIt b2 h' i2 l2 (k2 + 1) → IsPair h' s.heap.objs.size x y → h'.objs.size = s.heap.objs.size + 1 →
      (∀ c o, c ≠ z → c ≠ TO → c ≠ i1 → c ≠ i2 → s.heap.get? c = some o → h'.get? c = some o) → Q (some (.ref s.heap.objs.size)) { s with heap := h' }) :
    wpAny (model prog w) A (pyNext (.ref z)) Q E s := by
  have hT : s.TypeIs (.ref z) "zip" := ⟨_, hz, rfl⟩
  unfold pyNext
  exact wpAny_bind (wpAny_attempt (wpAny_callSpecial?_slot (name := Str.ofString "__next__") hT F.slot_zip_next
    (wpAny_call_entry F.slot_zip_next hT F.entry_zip_next
      (zipM_next_item D hz hTI hTO h1 h2 hl1 hl2 hx hy fun h' a1 a2 a3 a4 a5 a6 a7 => wpAny_pure (hQ h' a1 a2 a3 a4 a5 a6 a7)) (F.args_zip_next_1 _))))

theorem pyNext_zipM_end {z TI TO i1 i2 l1 l2 : Addr} {b1 b2 : Bool} {k1 k2 : Nat} {xs ys : Array Value} {a b : Value} {Q : Option Value → Shared → Prop} (hh : A.handled = none) (D : ZipApart z TI TO i1 i2 l1 l2)
    (hz : IsZip s.heap z TI TO .none) (hTI : IsPair s.heap TI (.ref i1) (.ref i2)) (hTO : IsPair s.heap TO a b)
    (h1 : IsIt b1 s.heap i1 l1 k1) (h2 : IsIt b2 s.heap i2 l2 k2) (hl1 : IsSq b1 s.heap l1 xs) (hl2 : IsSq b2 s.heap l2 ys) (hend : xs[k1]? = none ∨ ys[k2]? = none)
    (hQ : ∀ h', (∀ c o, c ≠ z → c ≠ TO → c ≠ i1 → c ≠ i2 → s.heap.get? c = some o → h'.get? c = some o) → Q none { s with heap := h' }) : wpAny (model prog w) A (pyNext (.ref z)) Q E s := by
  have hT : s.TypeIs (.ref z) "zip" := ⟨_, hz, rfl⟩
  unfold pyNext
  refine wpAny_bind (wpAny_attempt (wpAny_callSpecial?_slot (name := Str.ofString "__next__") hT F.slot_zip_next
    (wpAny_call_entry F.slot_zip_next hT F.entry_zip_next (zipM_next_end hh D hz hTI hTO h1 h2 hl1 hl2 hend fun h' e hk he => ?_) (F.args_zip_next_1 _))))
  obtain ⟨o, ho, hc⟩ := he
  refine wpAny_bind (wpAny_isInstance (T := "StopIteration") (b := true) ⟨o, ho, hc⟩ isSubtype_stop ?_)
  exact wpAny_pure (hQ _ hk)
end

abbrev zipMH1 (b1 : Bool) (h : Heap) (l1 : Addr) : Heap := h.push { cls := .type (itName b1), data := .fields #[.ref l1, .int 0 0] }
abbrev zipMH2 (b1 b2 : Bool) (h : Heap) (l1 l2 : Addr) : Heap := (zipMH1 b1 h l1).push { cls := .type (itName b2), data := .fields #[.ref l2, .int 0 0] }
abbrev zipMH3 (b1 b2 : Bool) (h : Heap) (l1 l2 : Addr) : Heap := (zipMH2 b1 b2 h l1 l2).push { cls := .type "tuple", data := .seq #[.ref h.objs.size, .ref (zipMH1 b1 h l1).objs.size] }
abbrev zipMH4 (b1 b2 : Bool) (h : Heap) (l1 l2 : Addr) : Heap := (zipMH3 b1 b2 h l1 l2).push { cls := .type "tuple", data := .seq #[.none, .none] }
abbrev zipMH5 (b1 b2 : Bool) (h : Heap) (l1 l2 : Addr) : Heap := (zipMH4 b1 b2 h l1 l2).push { cls := .type "zip", data := .fields #[.none, .bool false, .bool false, .ref (zipMH2 b1 b2 h l1 l2).objs.size, .ref (zipMH3 b1 b2 h l1 l2).objs.size] }

theorem meets_zipM_new (b1 b2 : Bool) (l1 l2 : Addr) (xs ys : Array Value) :
    Meets (Builtin.«zip.__new__» ⟨[.type "zip", .ref l1, .ref l2], []⟩) (fun _ R s => IsSq b1 s.heap l1 xs ∧ IsSq b2 s.heap l2 ys ∧
      R (.ok (.ret (.ref (zipMH4 b1 b2 s.heap l1 l2).objs.size))) { s with heap := zipMH5 b1 b2 s.heap l1 l2 }) :=
  .of_wp fun prog w A R s h => by
    obtain ⟨hp, g, d, tk, os⟩ := s; obtain ⟨hl1, hl2, h⟩ := h
    have hsub := sub_zip
    have hL1 : IsSq b1 (Shared.heap ⟨hp, g, d, tk, os⟩) l1 xs := hl1
    have hL2 : IsSq b2 (Shared.heap ⟨hp.push { cls := .type (itName b1), data := .fields #[.ref l1, .int 0 0] }, g, d, tk, os⟩) l2 ys := IsSq.push hl2 _
    wp_walk using pyIter_sq hL1, pyIter_sq hL2
    exact ⟨_, rfl, h⟩

section
variable {prog : Program} {w : World} {A : Around} {E : Value → Shared → Prop} {s : Shared}

theorem call_zipM {b1 b2 : Bool} {l1 l2 : Addr} {xs ys : Array Value} {Q : Value → Shared → Prop} (hl1 : IsSq b1 s.heap l1 xs) (hl2 : IsSq b2 s.heap l2 ys)
    (h : ∀ h', IsZip h' (s.heap.objs.size + 4) (s.heap.objs.size + 2) (s.heap.objs.size + 3) .none → IsPair h' (s.heap.objs.size + 2) (.ref s.heap.objs.size) (.ref (s.heap.objs.size + 1)) →
      IsPair h' (s.heap.objs.size + 3) .none .none → IsIt b1 h' s.heap.objs.size l1 0 → IsIt b2 h' (s.heap.objs.size + 1) l2 0 → h'.objs.size = s.heap.objs.size + 5 →
      (∀ c o, s.heap.get? c = some o → h'.get? c = some o) → Q (.ref (s.heap.objs.size + 4)) { s with heap := h' }) :
    wpAny (model prog w) A (call (.type "zip") [.ref l1, .ref l2]) Q E s := by
  refine callType_new F.called_zip (by decide) (F.typeCall_zip_2 _ _) (F.newCall_zip_2 _ _) (fun obj => F.args_object_init_3 obj _ _) F.entry_zip_new
    (meets_zipM_new b1 b2 l1 l2 xs ys) ⟨hl1, hl2, ?_⟩
  have z1 : (zipMH1 b1 s.heap l1).objs.size = s.heap.objs.size + 1 := Heap.size_push ..
  have z2 : (zipMH2 b1 b2 s.heap l1 l2).objs.size = s.heap.objs.size + 2 := by rw [Heap.size_push, z1]
  have z3 : (zipMH3 b1 b2 s.heap l1 l2).objs.size = s.heap.objs.size + 3 := by rw [Heap.size_push, z2]
  have z4 : (zipMH4 b1 b2 s.heap l1 l2).objs.size = s.heap.objs.size + 4 := by rw [Heap.size_push, z3]
  have z5 : (zipMH5 b1 b2 s.heap l1 l2).objs.size = s.heap.objs.size + 5 := by rw [Heap.size_push, z4]
  have g5 : (zipMH5 b1 b2 s.heap l1 l2).get? (zipMH4 b1 b2 s.heap l1 l2).objs.size = some _ := Heap.get?_push_size _ rfl
  have g4 : (zipMH5 b1 b2 s.heap l1 l2).get? (zipMH3 b1 b2 s.heap l1 l2).objs.size = some _ := Heap.get?_push_of_some _ (Heap.get?_push_size _ rfl)
  have g3 : (zipMH5 b1 b2 s.heap l1 l2).get? (zipMH2 b1 b2 s.heap l1 l2).objs.size = some _ := Heap.get?_push_of_some _ (Heap.get?_push_of_some _ (Heap.get?_push_size _ rfl))
  have g2 : (zipMH5 b1 b2 s.heap l1 l2).get? (zipMH1 b1 s.heap l1).objs.size = some _ := Heap.get?_push_of_some _ (Heap.get?_push_of_some _ (Heap.get?_push_of_some _ (Heap.get?_push_size _ rfl)))
  have g1 : (zipMH5 b1 b2 s.heap l1 l2).get? s.heap.objs.size = some _ := Heap.get?_push_of_some _ (Heap.get?_push_of_some _ (Heap.get?_push_of_some _ (Heap.get?_push_of_some _ (Heap.get?_push_size _ rfl))))
  show _ ∧ _
  rw [z2, z3, z4] at g5
  rw [z1, z2] at g3
  rw [z3] at g4
  rw [z1] at g2
  rw [z4]
  exact ⟨⟨_, g5, rfl⟩, h _ g5 g3 g4 (IsIt.mk g1) (IsIt.mk g2) z5 fun c o x =>
    Heap.get?_push_of_some _ (Heap.get?_push_of_some _ (Heap.get?_push_of_some _ (Heap.get?_push_of_some _ (Heap.get?_push_of_some _ x))))⟩
end
end K0z


set_option Elab.async false
set_option linter.all false
set_option maxRecDepth 100000
set_option maxHeartbeats 4000000
namespace K0
open PySem PySem.Spec PyProof.Rows L2 RZ K0z

/-! ### a list or a tuple -/
def SqB (K : PySem.W.Frag) (b : Bool) (H : Hp) (a : Addr) (xs : List V) : Prop := match b with | true => SqT K H a xs | false => SqL K H a xs
theorem SqB.same {K : PySem.W.Frag} {b : Bool} {H H' : Hp} {a : Addr} {xs : List V} (s : Same H H') (h : SqB K b H a xs) : SqB K b H' a xs := by
  cases b
  · exact Same.seq s h
  · exact same_sqT s h
theorem SqB.or {K : PySem.W.Frag} {H : Hp} {a : Addr} {xs : List V} (h : SqL K H a xs ∨ SqT K H a xs) : ∃ b, SqB K b H a xs := by
  rcases h with h | h
  · exact ⟨false, h⟩
  · exact ⟨true, h⟩
theorem SqB.to {K : PySem.W.Frag} {b : Bool} {H : Hp} {a : Addr} {xs : List V} (h : SqB K b H a xs) : SqL K H a xs ∨ SqT K H a xs := by
  cases b
  · exact .inl h
  · exact .inr h
section
variable {X : Cx} {pins : List (Addr × Obj)} {σ : L2.St} {H : Hp} {s : Shared}
theorem SqB.got {b : Bool} {a : Addr} {xs : List V} (I : Inv X pins σ H s) (h : SqB X.K b H a xs) : ∃ its : List Value, Vals xs its ∧ IsSq b s.heap a its.toArray ∧ a < s.heap.objs.size := by
  cases b
  · obtain ⟨its, rv, p, _⟩ := I.list h
    exact ⟨its, rv, p.isList, p.lt⟩
  · obtain ⟨its, rv, p, _⟩ := I.tuple h
    obtain ⟨o1, ho1, _⟩ := id p
    exact ⟨its, rv, p, Heap.lt_size ho1⟩
theorem SqB.inj {b : Bool} {a : Addr} {xs ys : List V} (I : Inv X pins σ H s) (h : SqB X.K b H a xs) (h' : SqB X.K b H a ys) : xs = ys := by
  cases b
  · exact I.list_inj h h'
  · exact I.tuple_inj h h'
end
def Itb (K : PySem.W.Frag) (b : Bool) (a : Addr) : L2.It := match b with | true => Itt K a | false => Itl K a
def iSeq (K : PySem.W.Frag) (tl : TE) : TI := fun σ H R => tl σ H fun x H1 => ∃ b a, x = .ref a ∧ (∃ xs, SqB K b H1 a xs) ∧ R (Itb K b a) H1
theorem pi_seq {X : Cx} {tg l : Expr} {tl : TE} (hl : PE X l tl) : PI X tg l (iSeq X.K tl) := by
  refine ⟨fun pins s σ H R I h => ?_⟩
  refine thn (hl.run pins s σ H _ I h) fun v s1 ⟨x, H1, I1, r1, q1⟩ => ?_
  obtain ⟨b, a, e, ⟨xs, hq⟩, q⟩ := q1
  subst e
  cases r1
  cases b with
  | false =>
    obtain ⟨its, rv, p, hz⟩ := I1.list hq
    refine wpAny_pyIter_list p.isList ?_
    refine ⟨s1.heap.objs.size, [s1.heap.objs.size], _, _, H1, rfl, I1.kept (t' := s1.toks) fun b o e => Heap.get?_push_of_some _ e, turn_list a _, ⟨_, Heap.get?_push_size _ rfl, rfl, rfl⟩, fun b hb => ?_, q⟩
    have e : b = s1.heap.objs.size := by simpa using hb
    subst e
    exact I1.fpOk (Nat.le_refl _) (I1.hok.fresh (Nat.le_refl _))
  | true =>
    obtain ⟨its, rv, p, hz⟩ := I1.tuple hq
    refine wpAny_pyIter_tuple (show s1.heap.IsTuple a its.toArray from p) ?_
    refine ⟨s1.heap.objs.size, [s1.heap.objs.size], _, _, H1, rfl, I1.kept (t' := s1.toks) fun b o e => Heap.get?_push_of_some _ e, turn_tuple a _, ⟨_, Heap.get?_push_size _ rfl, rfl, rfl⟩, fun b hb => ?_, q⟩
    have e : b = s1.heap.objs.size := by simpa using hb
    subst e
    exact I1.fpOk (Nat.le_refl _) (I1.hok.fresh (Nat.le_refl _))
theorem walk_seq {K : PySem.W.Frag} {b : Bool} {a : Addr} {xs : List V} : Walk (Itb K b a) xs.length (fun H => SqB K b H a xs) (YAt xs) := by
  cases b
  · exact walk_list
  · exact walk_tup

/-! ### zip of two, each a list or a tuple -/
def ItzM (K : PySem.W.Frag) (b1 b2 : Bool) (a b : Addr) : L2.It :=
  ⟨fun i H => ∃ (xs ys : List V) (x y : V), SqB K b1 H a xs ∧ SqB K b2 H b ys ∧ xs[i]? = some x ∧ ys[i]? = some y,
    fun i H v H' => ∃ T x y, v = .ref T ∧ H T = none ∧ H' = upd H T (.tup [x, y]) ∧ (∀ xs, SqB K b1 H a xs → xs[i]? = some x) ∧ ∀ ys, SqB K b2 H b ys → ys[i]? = some y,
    fun i H => ∃ xs ys : List V, SqB K b1 H a xs ∧ SqB K b2 H b ys ∧ (xs.length ≤ i ∨ ys.length ≤ i)⟩
theorem turn_zipM {P : Program} {w : World} {K : PySem.W.Frag} {elts : List Expr} {kk : Nat} {tpos : Pos} {b1 b2 : Bool} {a b z TI TO i1 i2 : Addr} (D : ZipApart z TI TO i1 i2 a b) :
    Turn P w K (.Tuple elts kk tpos) (ItzM K b1 b2 a b) [z, TI, TO, i1, i2] z (fun i h => IsZip h z TI TO .none ∧ IsPair h TI (.ref i1) (.ref i2) ∧ (∃ x y, IsPair h TO x y) ∧ IsIt b1 h i1 a i ∧ IsIt b2 h i2 b i) where
  mem := by simp
  obj := fun i h st c hc => by
    obtain ⟨hz, hTI, ⟨x, y, hTO⟩, h1, h2⟩ := st
    obtain ⟨o1, e1, d1⟩ := h1.obj
    obtain ⟨o2, e2, d2⟩ := h2.obj
    have e' : c = z ∨ c = TI ∨ c = TO ∨ c = i1 ∨ c = i2 := by simpa using hc
    rcases e' with q | q | q | q | q
    · rw [q]; exact ⟨_, hz, fun v q => nomatch q⟩
    · rw [q]; exact ⟨_, hTI, fun v q => nomatch q⟩
    · rw [q]; exact ⟨_, hTO, fun v q => nomatch q⟩
    · rw [q]; exact ⟨o1, e1, fun v q => by rw [d1] at q; cases q⟩
    · rw [q]; exact ⟨o2, e2, fun v q => by rw [d2] at q; cases q⟩
  keep := fun i h h' st k => by
    obtain ⟨hz, hTI, ⟨x, y, hTO⟩, h1, h2⟩ := st
    exact ⟨k z (by simp) _ hz, k TI (by simp) _ hTI, ⟨x, y, k TO (by simp) _ hTO⟩, h1.at fun o q => k i1 (by simp) o q, h2.at fun o q => k i2 (by simp) o q⟩
  item := by
    intro X hP hw hK hc i pins s σ H E I hf st hg
    subst hP hw hK
    obtain ⟨hz, hTI, ⟨x0, y0, hTO⟩, h1, h2⟩ := st
    obtain ⟨xs, ys, x, y, hqx, hqy, hx, hy⟩ := hg
    obtain ⟨its, rv, p, _⟩ := SqB.got I hqx
    obtain ⟨its2, rv2, p2, _⟩ := SqB.got I hqy
    obtain ⟨u, hu, ru⟩ := rv.get hx
    obtain ⟨u2, hu2, ru2⟩ := rv2.get hy
    have hzl : z < s.heap.objs.size := Heap.lt_size hz
    refine pyNext_zipM_item D hz hTI hTO h1 h2 p p2 (x := u) (y := u2) (by simpa using hu) (by simpa using hu2) fun h' z' TO' h1' h2' hT hsz hk => ?_
    refine ⟨_, rfl, wpAny_letOwnedTupleGo_zip (s := { s with heap := h' }) z' fun h'' z'' sb => ?_⟩
    have hT2 : h''.get? s.heap.objs.size = some { cls := .type "tuple", data := .seq #[u, u2] } := (sb.2 _ (Nat.ne_of_gt hzl)).trans hT
    have new : ObjOk X.prog X.w (upd H s.heap.objs.size (.tup [x, y])) h'' s.heap.objs.size (.tup [x, y]) :=
      ⟨by show 2 ≤ sizeLine; decide, [u, u2], .cons ru (.cons ru2 .nil), ⟨_, hT2, rfl, _, rfl⟩⟩
    have I1 : Inv X pins σ (upd H s.heap.objs.size (.tup [x, y])) { s with heap := h'' } :=
      I.turnedNew (t' := s.toks) (ch := [z, TI, TO, i1, i2]) (fun c o hb q => (sb.2 c (fun q' => hb (by simp [q']))).trans (hk c o (fun q' => hb (by simp [q'])) (fun q' => hb (by simp [q'])) (fun q' => hb (by simp [q'])) (fun q' => hb (by simp [q'])) q)) hf (Nat.le_refl _) new
    refine ⟨.ref s.heap.objs.size, _, I1, rfl, ⟨_, x, y, rfl, I.hok.fresh (Nat.le_refl _), rfl, fun l hl => by rw [SqB.inj I hl hqx]; exact hx, fun l hl => by rw [SqB.inj I hl hqy]; exact hy⟩, ⟨z'', ?_, ⟨u, u2, ?_⟩, ?_, ?_⟩, fun c hcm => ?_⟩
    · exact (sb.2 _ D.TIz).trans (hk _ _ D.TIz D.TITO D.TIi1 D.TIi2 hTI)
    · exact (sb.2 _ D.TOz).trans TO'
    · exact h1'.at fun o q => (sb.2 _ D.i1z).trans q
    · exact h2'.at fun o q => (sb.2 _ D.i2z).trans q
    · have hlt : c < s.heap.objs.size := by
        have e' : c = z ∨ c = TI ∨ c = TO ∨ c = i1 ∨ c = i2 := by simpa using hcm
        rcases e' with q | q | q | q | q
        · rw [q]; exact hzl
        · rw [q]; exact Heap.lt_size hTI
        · rw [q]; exact Heap.lt_size hTO
        · rw [q]; exact h1.lt
        · rw [q]; exact h2.lt
      rw [upd_ne (Nat.ne_of_lt hlt)]
      exact (hf c hcm).1
  done := by
    intro X hP hw hK hc i pins s σ H E I hf st hg
    subst hP hw hK
    obtain ⟨hz, hTI, ⟨x0, y0, hTO⟩, h1, h2⟩ := st
    obtain ⟨xs, ys, hqx, hqy, hend⟩ := hg
    obtain ⟨its, rv, p, _⟩ := SqB.got I hqx
    obtain ⟨its2, rv2, p2, _⟩ := SqB.got I hqy
    have l1 := rv.length
    have l2 := rv2.length
    have he : its.toArray[i]? = none ∨ its2.toArray[i]? = none := by
      rcases hend with q | q
      · exact .inl (by simp; omega)
      · exact .inr (by simp; omega)
    exact pyNext_zipM_end (I.ok.hd hc) D hz hTI hTO h1 h2 p p2 he fun h' hk => ⟨rfl, I.turnedL (t' := s.toks) (ch := [z, TI, TO, i1, i2]) (fun c o hb q =>
      hk c o (fun q' => hb (by simp [q'])) (fun q' => hb (by simp [q'])) (fun q' => hb (by simp [q'])) (fun q' => hb (by simp [q'])) q) hf⟩
  self := fun A i s Q E st h => wpAny_pyIter_zip st.1 h
def iZipM (K : PySem.W.Frag) (ta : TA) : TI := fun σ H R => ta σ H fun vs H1 => ∃ b1 b2 a b xs ys, vs = [.ref a, .ref b] ∧ SqB K b1 H1 a xs ∧ SqB K b2 H1 b ys ∧ R (ItzM K b1 b2 a b) H1
theorem pi_zipM {X : Cx} {e e2 : Expr} {ta : TA} {p pos tpos : Pos} {elts : List Expr} {kk : Nat} (hg : Gl X "zip") (hm : X.mg "zip" = none) (ha : PA X [e, e2] ta)
    (hs : starEach [e, e2] X.env = (false, eval e X.env) :: starEach [e2] X.env := by rfl) (hpl : (backTo pos (starEach [e2] X.env)).any (·.1) = false := by rfl) :
    PI X (.Tuple elts kk tpos) (.Call (.Name "zip" p) [e, e2] [] pos) (iZipM X.K ta) := by
  refine ⟨fun pins s σ H R I h => ?_⟩
  refine Call_ (ld_blt I hg hm PyProof.Rows.boot_zip (PyProof.Rows.callWith_type1 (thn (ha.run pos pins s σ H _ I h) fun us s1 ⟨vs, H1, I1, r1, q1⟩ => ?_) hs hpl))
  obtain ⟨b1, b2, a, b, xs, ys, ex, hqx, hqy, q⟩ := q1
  subst ex
  obtain ⟨u1, u2, rfl, r, r'⟩ := vals2 r1
  cases r
  cases r'
  have fresh5 : ∀ c, c ∈ [s1.heap.objs.size + 4, s1.heap.objs.size + 2, s1.heap.objs.size + 3, s1.heap.objs.size, s1.heap.objs.size + 1] → FpOk X pins H1 c := fun c hcm => by
    have e' : c = s1.heap.objs.size + 4 ∨ c = s1.heap.objs.size + 2 ∨ c = s1.heap.objs.size + 3 ∨ c = s1.heap.objs.size ∨ c = s1.heap.objs.size + 1 := by simpa using hcm
    have hle : s1.heap.objs.size ≤ c := by
      rcases e' with z | z | z | z | z
      · rw [z]; exact Nat.le_add_right _ _
      · rw [z]; exact Nat.le_add_right _ _
      · rw [z]; exact Nat.le_add_right _ _
      · rw [z]; exact Nat.le_refl _
      · rw [z]; exact Nat.le_add_right _ _
    exact I1.fpOk hle (I1.hok.fresh hle)
  obtain ⟨its, rv, p1, l1⟩ := SqB.got I1 hqx
  obtain ⟨its2, rv2, p2, l2⟩ := SqB.got I1 hqy
  refine call_zipM p1 p2 fun h' hz hTI hTO h1 h2 hsz hk => wpAny_pyIter_zip hz ?_
  have I2 : Inv X pins σ H1 { s1 with heap := h' } := I1.kept (t' := s1.toks) hk
  exact ⟨s1.heap.objs.size + 4, [s1.heap.objs.size + 4, s1.heap.objs.size + 2, s1.heap.objs.size + 3, s1.heap.objs.size, s1.heap.objs.size + 1], _, _, H1, rfl, I2, turn_zipM (PySem.W.ktu_apart s1.heap.objs.size a b l1 l2), ⟨hz, hTI, ⟨_, _, hTO⟩, h1, h2⟩, fresh5, q⟩
theorem walk_zipM {K : PySem.W.Frag} {b1 b2 : Bool} {a b : Addr} {xs ys : List V} {n : Nat} (hn : n = min xs.length ys.length) : Walk (ItzM K b1 b2 a b) n (fun H => SqB K b1 H a xs ∧ SqB K b2 H b ys) (YPair (fun i => xs[i]?) (fun i => ys[i]?)) := by
  subst hn
  refine ⟨fun i _ hi q => ?_, fun _ q => ⟨xs, ys, q.1, q.2, by omega⟩, fun i H v H' _ q y => ?_⟩
  · have h1 : i < xs.length := by omega
    have h2 : i < ys.length := by omega
    exact ⟨xs, ys, xs[i], ys[i], q.1, q.2, by simp [h1], by simp [h2]⟩
  · obtain ⟨T, x, z, h1, h2, h3, h4, h5⟩ := y
    exact ⟨T, x, z, h1, h2, h3, h4 xs q.1, h5 ys q.2⟩

/-! ### the heap but for one address -/
def Off (c : Addr) (H : Hp) : Hp := fun b => if b = c then none else H b
theorem off_ne {c b : Addr} {H : Hp} (h : b ≠ c) : Off c H b = H b := if_neg h
theorem off_self {c : Addr} {H : Hp} : Off c H c = none := if_pos rfl
theorem off_same (c : Addr) (H : Hp) : Same (Off c H) H := fun b o e => by
  unfold Off at e
  split at e
  · cases e
  · exact e
theorem same_off {c : Addr} {H H' : Hp} (h : ∀ b o, b ≠ c → H b = some o → H' b = some o) : Same (Off c H) (Off c H') := fun b o e => by
  unfold Off at e ⊢
  split at e
  · cases e
  · rename_i n
    rw [if_neg n]
    exact h b o n e
theorem same_off' {c : Addr} {H H' : Hp} (h : Same H H') : Same (Off c H) (Off c H') := same_off fun b o _ e => h b o e
theorem to_off {c : Addr} {H H' : Hp} (h : Same H H') (hc : H c = none) : Same H (Off c H') := fun b o e => by
  rw [off_ne (ne_of_none e hc)]
  exact h b o e
theorem off_upd {c : Addr} {H : Hp} {o : HO} : Off c (upd H c o) = Off c H := by
  funext b
  unfold Off
  by_cases h : b = c
  · rw [if_pos h, if_pos h]
  · rw [if_neg h, if_neg h, upd_ne h]

/-! ### a comprehension without a test, over anything that is walked; what is made holds R, told off the list itself -/
def LcR (H1 : Hp) (D : Addr) (R : Nat → V → Hp → Prop) (n : Nat) (H : Hp) : Prop := ∃ acc : List V, acc.length = n ∧ H D = some (.lst acc) ∧ Same H1 H ∧ ∀ i y, acc[i]? = some y → R i y (Off D H)
section
variable {J : L2.It} {n : Nat} {G : Hp → Prop} {Y : Nat → Hp → V → Hp → Prop} {D : Addr} {te : TE} {g : TG} {vs : List Nat} {σ : L2.St} {H1 : Hp} {Qd : Hp → Prop} (R : Nat → V → Hp → Prop)
theorem lc_rel (w : Walk J n G Y) (hD : H1 D = none) (hz : n < sizeLine) (hG : ∀ H, Same H1 H → G H) (hR : ∀ i y H H', Same H H' → R i y H → R i y H')
    (hs : ∀ i x H H', i < n → Same H1 H → (∃ acc, H D = some (.lst acc)) → Y i H x H' → ∀ Rk : VK, (∀ y H4, Same H H4 → R i y (Off D H4) → Rk y H4) → g x (wipe σ vs) H' fun σ2 H2 => wipe σ2 vs = wipe σ vs ∧ te σ2 H2 Rk)
    (hd : ∀ H, LcR H1 D R n H → Qd H) :
    ∃ W : Nat → Nat → Hp → Prop, (∃ m, W 0 m (upd H1 D (.lst []))) ∧ ∀ i m H, W i m H →
      (J.stop i H ∧ Qd H) ∨ (J.go i H ∧ ∃ Nx : Hp → Prop, (∀ H', Nx H' → ∃ m', m' < m ∧ W (i + 1) m' H') ∧ ∀ x H', J.yld i H x H' → g x (wipe σ vs) H' fun σ2 H2 => wipe σ2 vs = wipe σ vs ∧ tYes σ2 H2 fun b H3 =>
        if b = true then te σ2 H3 fun y H4 => ∃ acc, H4 D = some (.lst acc) ∧ acc.length < sizeLine ∧ Nx (upd H4 D (.lst (acc ++ [y]))) else Nx H3) := by
  refine lc_it w (fun i H => LcR H1 D R i H) ⟨[], rfl, upd_same, same_upd hD, fun i y e => by cases e⟩ (fun i H _ p => hG H (by obtain ⟨_, _, _, s, _⟩ := p; exact s)) ?_ hd
  rintro i x H H' hi ⟨acc, la, hDa, s1, hr⟩ hy
  refine hs i x H H' hi s1 ⟨acc, hDa⟩ hy (fun y H4 => ∃ acc, H4 D = some (.lst acc) ∧ acc.length < sizeLine ∧ LcR H1 D R (i + 1) (upd H4 D (.lst (acc ++ [y])))) fun y H4 s4 r => ?_
  have hD4 := s4 _ _ hDa
  refine ⟨acc, hD4, by omega, acc ++ [y], by rw [List.length_append, la]; rfl, upd_same, same_at hD4 (s1.trans s4) hD, fun k z hk => ?_⟩
  rw [off_upd]
  by_cases hlt : k < acc.length
  · rw [List.getElem?_append_left hlt] at hk
    exact hR k z _ _ (same_off' s4) (hr k z hk)
  · rw [List.getElem?_append_right (by omega)] at hk
    have e0 : k - acc.length = 0 := by
      refine Nat.eq_zero_of_not_pos fun q => ?_
      rw [List.getElem?_eq_none (by show 1 ≤ k - acc.length; omega)] at hk
      cases hk
    rw [e0] at hk
    have ek : k = i := by omega
    rw [ek]
    cases hk
    exact r
/-- .. what is made is told ahead -/
theorem lc_fun (f : Nat → V) (w : Walk J n G Y) (hD : H1 D = none) (hz : n < sizeLine) (hG : ∀ H, Same H1 H → G H)
    (hs : ∀ i x H H', i < n → Same H1 H → (∃ acc, H D = some (.lst acc)) → Y i H x H' → ∀ Rk : VK, (∀ H4, Same H H4 → Rk (f i) H4) → g x (wipe σ vs) H' fun σ2 H2 => wipe σ2 vs = wipe σ vs ∧ te σ2 H2 Rk)
    (hd : ∀ H, H D = some (.lst ((List.range n).map f)) → Same H1 H → Qd H) :
    ∃ W : Nat → Nat → Hp → Prop, (∃ m, W 0 m (upd H1 D (.lst []))) ∧ ∀ i m H, W i m H →
      (J.stop i H ∧ Qd H) ∨ (J.go i H ∧ ∃ Nx : Hp → Prop, (∀ H', Nx H' → ∃ m', m' < m ∧ W (i + 1) m' H') ∧ ∀ x H', J.yld i H x H' → g x (wipe σ vs) H' fun σ2 H2 => wipe σ2 vs = wipe σ vs ∧ tYes σ2 H2 fun b H3 =>
        if b = true then te σ2 H3 fun y H4 => ∃ acc, H4 D = some (.lst acc) ∧ acc.length < sizeLine ∧ Nx (upd H4 D (.lst (acc ++ [y]))) else Nx H3) := by
  refine lc_rel (R := fun i y _ => y = f i) w hD hz hG (fun _ _ _ _ _ h => h) (fun i x H H' hi s1 ha hy Rk k => hs i x H H' hi s1 ha hy Rk fun H4 s4 => k (f i) H4 s4 rfl) fun H ⟨acc, la, hDa, s1, hr⟩ => hd H ?_ s1
  rw [hDa]
  congr 2
  refine List.ext_getElem (by simp [la]) fun k k1 k2 => ?_
  have := hr k acc[k] (List.getElem?_eq_getElem k1)
  rw [this]
  simp
end
end K0


set_option Elab.async false
set_option linter.all false
set_option maxRecDepth 100000
set_option maxHeartbeats 4000000
/-! rules with the written part told, so that they stand within comprehensions -/
namespace K0
open PySem PySem.Spec PyProof.Rows L2 RZ K0z
def rTupOf (K : PySem.W.Frag) : List V → Hp → VK → Prop := fun xs H Q => ∃ b p ys, xs = [.ref p] ∧ SqB K b H p ys ∧ (b = false → ∀ l, H l = none → Q (.ref l) (upd H l (.tup ys))) ∧ (b = true → Q (.ref p) H)
def rListOf (K : PySem.W.Frag) : List V → Hp → VK → Prop := fun xs H Q => ∃ b p ys, xs = [.ref p] ∧ SqB K b H p ys ∧ ∀ l, H l = none → Q (.ref l) (upd H l (.lst ys))
def rLen (K : PySem.W.Frag) : List V → Hp → VK → Prop := fun xs H Q => ∃ b p ys, xs = [.ref p] ∧ SqB K b H p ys ∧ Q (.int ys.length) H
def rIxB (K : PySem.W.Frag) : R2 := fun x y H Q => ∃ b p xs i v, x = .ref p ∧ y = .int i ∧ SqB K b H p xs ∧ atI xs i = some v ∧ Q v H
section
variable {X : Cx} {K : PySem.W.Frag}
theorem call_tupK (K : PySem.W.Frag) (e : X.K = K := by rfl) : CallR X (.type "tuple") (rTupOf K) := by
  subst e
  intro pins s σ H xs us Q I r h
  obtain ⟨b, p, ys, rfl, h, h1, h2⟩ := h
  refine call_tuple_of pins s σ H _ us Q I r ⟨p, ys, rfl, ?_⟩
  cases b
  · exact .inl ⟨h, h1 rfl⟩
  · exact .inr ⟨h, h2 rfl⟩
theorem call_listK (K : PySem.W.Frag) (e : X.K = K := by rfl) : CallR X (.type "list") (rListOf K) := by
  subst e
  intro pins s σ H xs us Q I r h
  obtain ⟨b, p, ys, rfl, h, h1⟩ := h
  exact call_list_of pins s σ H _ us Q I r ⟨p, ys, rfl, h.to, h1⟩
theorem call_lenK (K : PySem.W.Frag) (e : X.K = K := by rfl) : CallR X (.builtin "len") (rLen K) := by
  subst e
  intro pins s σ H xs us Q I r h
  obtain ⟨b, p, ys, rfl, h, h1⟩ := h
  exact call_len_seq pins s σ H _ us Q I r ⟨p, ys, rfl, h.to, h1⟩
theorem ix_K (K : PySem.W.Frag) (e : X.K = K := by rfl) : IxR X (rIxB K) := by
  subst e
  intro value slice pins s σ H x y v u Q I rx ry h hs
  obtain ⟨b, p, xs, i, z, e1, e2, h, e3, q⟩ := h
  cases b
  · exact ix_list _ _ pins s σ H x y v u Q I rx ry ⟨p, xs, i, z, e1, e2, h, e3, q⟩ hs
  · exact ix_tup _ _ pins s σ H x y v u Q I rx ry ⟨p, xs, i, z, e1, e2, h, e3, q⟩ hs
theorem call_isTK (K : PySem.W.Frag) (e : X.K = K := by rfl) : CallR X (.builtin "isinstance") (rIsT K) := by subst e; exact call_isT
theorem call_isAK (K : PySem.W.Frag) (e : X.K = K := by rfl) : CallR X (.builtin "isinstance") (rIsA K) := by subst e; exact call_isA
theorem pi_seqK {tg l : Expr} {tl : TE} (K : PySem.W.Frag) (hl : PE X l tl) (e : X.K = K := by rfl) : PI X tg l (iSeq K tl) := by subst e; exact pi_seq hl
theorem pi_zipMK {e e2 : Expr} {ta : TA} {p pos tpos : Pos} {elts : List Expr} {kk : Nat} (K : PySem.W.Frag) (hg : Gl X "zip") (hm : X.mg "zip" = none) (ha : PA X [e, e2] ta) (eK : X.K = K := by rfl)
    (hs : starEach [e, e2] X.env = (false, eval e X.env) :: starEach [e2] X.env := by rfl) (hpl : (backTo pos (starEach [e2] X.env)).any (·.1) = false := by rfl) :
    PI X (.Tuple elts kk tpos) (.Call (.Name "zip" p) [e, e2] [] pos) (iZipM K ta) := by subst eK; exact pi_zipM hg hm ha hs hpl
/-- xs != [], whatever the items -/
def rNeNil (K : PySem.W.Frag) : R2 := fun x y H Q => ∃ a b xs, x = .ref a ∧ y = .ref b ∧ SqL K H a xs ∧ SqL K H b [] ∧ Q (.bl (!xs.isEmpty)) H
theorem op_neNil (K : PySem.W.Frag) (hu : X.A.units + 64 < cLine) (e : X.K = K := by rfl) : OpR X (compareOp .NotEq) (rNeNil K) := by
  subst e
  intro pins s σ H x y v u Q I rx ry h
  obtain ⟨a, b, xs, rfl, rfl, hx, hy, q⟩ := h
  cases xs with
  | nil => exact op_neD hu pins s σ H _ _ _ _ Q I rx ry ⟨.list [], .list [], .lst hx .nil, .lst hy .nil, by decide, by decide, q⟩
  | cons z zs =>
    cases rx
    cases ry
    obtain ⟨its, rv, p1, _⟩ := I.list hx
    obtain ⟨its2, rv2, p2, _⟩ := I.list hy
    cases rv2
    cases rv with
    | cons r1 r2 => exact PySem.SeqAt.RcNeAt.lists_lengths p1.isList p2.isList (by simp) (by omega) X.prog X.w X.xe (EP X pins σ Q) ⟨.bl _, H, I, rfl, q⟩
end
end K0


set_option Elab.async false
set_option linter.all false
set_option maxRecDepth 100000
set_option maxHeartbeats 4000000
namespace K0
open PySem PySem.Spec PyProof.Rows L2 RZ K0z
/-- what a comprehension with a test has made: of the turns that c tells, in order -/
def LcF (H1 : Hp) (D : Addr) (R : Nat → V → Hp → Prop) (c : Nat → Bool) (n : Nat) (H : Hp) : Prop := ∃ acc : List V, acc.length = ((List.range n).filter c).length ∧ H D = some (.lst acc) ∧ Same H1 H ∧
  ∀ (k : Nat) (y : V) (i : Nat), acc[k]? = some y → ((List.range n).filter c)[k]? = some i → R i y (Off D H)
section
variable {J : L2.It} {n : Nat} {G : Hp → Prop} {Y : Nat → Hp → V → Hp → Prop} {D : Addr} {te : TE} {tt : TT} {g : TG} {vs : List Nat} {σ : L2.St} {H1 : Hp} {Qd : Hp → Prop} (R : Nat → V → Hp → Prop)
theorem lc_relF (c : Nat → Bool) (w : Walk J n G Y) (hD : H1 D = none) (hz : n < sizeLine) (hG : ∀ H, Same H1 H → G H) (hR : ∀ i y H H', Same H H' → R i y H → R i y H')
    (hs : ∀ i x H H', i < n → Same H1 H → (∃ acc, H D = some (.lst acc)) → Y i H x H' → ∀ Rt : Hp → Prop, ∀ Rk : VK, (c i = false → ∀ H3, Same H H3 → Rt H3) → (c i = true → ∀ y H4, Same H H4 → R i y (Off D H4) → Rk y H4) →
      g x (wipe σ vs) H' fun σ2 H2 => wipe σ2 vs = wipe σ vs ∧ tt σ2 H2 fun b H3 => if b = true then te σ2 H3 Rk else Rt H3)
    (hd : ∀ H, LcF H1 D R c n H → Qd H) :
    ∃ W : Nat → Nat → Hp → Prop, (∃ m, W 0 m (upd H1 D (.lst []))) ∧ ∀ i m H, W i m H →
      (J.stop i H ∧ Qd H) ∨ (J.go i H ∧ ∃ Nx : Hp → Prop, (∀ H', Nx H' → ∃ m', m' < m ∧ W (i + 1) m' H') ∧ ∀ x H', J.yld i H x H' → g x (wipe σ vs) H' fun σ2 H2 => wipe σ2 vs = wipe σ vs ∧ tt σ2 H2 fun b H3 =>
        if b = true then te σ2 H3 fun y H4 => ∃ acc, H4 D = some (.lst acc) ∧ acc.length < sizeLine ∧ Nx (upd H4 D (.lst (acc ++ [y]))) else Nx H3) := by
  refine lc_it w (fun i H => LcF H1 D R c i H) ⟨[], rfl, upd_same, same_upd hD, fun k y i e => by cases e⟩ (fun i H _ p => hG H (by obtain ⟨_, _, _, s, _⟩ := p; exact s)) ?_ hd
  rintro i x H H' hi ⟨acc, la, hDa, s1, hr⟩ hy
  have es : (List.range (i + 1)).filter c = (List.range i).filter c ++ if c i = true then [i] else [] := by
    rw [List.range_succ, List.filter_append]
    congr 1
    by_cases h : c i = true
    · simp [h]
    · simp [h]
  refine hs i x H H' hi s1 ⟨acc, hDa⟩ hy _ (fun y H4 => ∃ acc, H4 D = some (.lst acc) ∧ acc.length < sizeLine ∧ LcF H1 D R c (i + 1) (upd H4 D (.lst (acc ++ [y])))) (fun hc H3 s3 => ?_) fun hc y H4 s4 r => ?_
  · refine ⟨acc, ?_, s3 _ _ hDa, s1.trans s3, fun k y j h1 h2 => hR _ _ _ _ (same_off' s3) (hr k y j h1 ?_)⟩
    · rw [es, hc, la]; simp
    · rw [es, hc] at h2; simpa using h2
  · have hD4 := s4 _ _ hDa
    rw [hc, if_pos rfl] at es
    have lz : acc.length < sizeLine := by
      rw [la]
      exact Nat.lt_of_le_of_lt (List.length_filter_le ..) (by rw [List.length_range]; omega)
    refine ⟨acc, hD4, lz, acc ++ [y], ?_, upd_same, same_at hD4 (s1.trans s4) hD, fun k z j hk hj => ?_⟩
    · rw [es, List.length_append, List.length_append, la]; rfl
    rw [off_upd]
    by_cases hlt : k < acc.length
    · rw [List.getElem?_append_left hlt] at hk
      rw [es, List.getElem?_append_left (by rw [← la]; exact hlt)] at hj
      exact hR j z _ _ (same_off' s4) (hr k z j hk hj)
    · rw [List.getElem?_append_right (by omega)] at hk
      have e0 : k - acc.length = 0 := by
        refine Nat.eq_zero_of_not_pos fun q => ?_
        rw [List.getElem?_eq_none (by show 1 ≤ k - acc.length; omega)] at hk
        cases hk
      rw [e0] at hk
      rw [es, List.getElem?_append_right (by omega), ← la, e0] at hj
      cases hk
      cases hj
      exact r
/-- .. what is made is told ahead -/
theorem lc_funF (c : Nat → Bool) (f : Nat → V) (w : Walk J n G Y) (hD : H1 D = none) (hz : n < sizeLine) (hG : ∀ H, Same H1 H → G H)
    (hs : ∀ i x H H', i < n → Same H1 H → (∃ acc, H D = some (.lst acc)) → Y i H x H' → ∀ Rt : Hp → Prop, ∀ Rk : VK, (c i = false → ∀ H3, Same H H3 → Rt H3) → (c i = true → ∀ H4, Same H H4 → Rk (f i) H4) →
      g x (wipe σ vs) H' fun σ2 H2 => wipe σ2 vs = wipe σ vs ∧ tt σ2 H2 fun b H3 => if b = true then te σ2 H3 Rk else Rt H3)
    (hd : ∀ H, H D = some (.lst (((List.range n).filter c).map f)) → Same H1 H → Qd H) :
    ∃ W : Nat → Nat → Hp → Prop, (∃ m, W 0 m (upd H1 D (.lst []))) ∧ ∀ i m H, W i m H →
      (J.stop i H ∧ Qd H) ∨ (J.go i H ∧ ∃ Nx : Hp → Prop, (∀ H', Nx H' → ∃ m', m' < m ∧ W (i + 1) m' H') ∧ ∀ x H', J.yld i H x H' → g x (wipe σ vs) H' fun σ2 H2 => wipe σ2 vs = wipe σ vs ∧ tt σ2 H2 fun b H3 =>
        if b = true then te σ2 H3 fun y H4 => ∃ acc, H4 D = some (.lst acc) ∧ acc.length < sizeLine ∧ Nx (upd H4 D (.lst (acc ++ [y]))) else Nx H3) := by
  refine lc_relF (R := fun i y _ => y = f i) c w hD hz hG (fun _ _ _ _ _ h => h) (fun i x H H' hi s1 ha hy Rt Rk h1 h2 => hs i x H H' hi s1 ha hy Rt Rk h1 fun hc H4 s4 => h2 hc (f i) H4 s4 rfl) fun H ⟨acc, la, hDa, s1, hr⟩ => hd H ?_ s1
  rw [hDa]
  congr 2
  refine List.ext_getElem (by simp [la]) fun k k1 k2 => ?_
  have h2 : k < ((List.range n).filter c).length := by rw [← la]; exact k1
  have := hr k acc[k] _ (List.getElem?_eq_getElem k1) (List.getElem?_eq_getElem h2)
  rw [this]
  simp
end
theorem range_map_getD {α β : Type} (l : List α) (d : α) (g : α → β) : (List.range l.length).map (fun i => g (l.getD i d)) = l.map g := by
  refine List.ext_getElem (by simp) fun i h1 h2 => ?_
  simp at h2
  simp [List.getD_eq_getElem?_getD, List.getElem?_eq_getElem h2]
theorem erase_filter {α β : Type} (d : α) (f : α → β) : ∀ (l : List α) (k : Nat), (l.eraseIdx k).map f = ((List.range l.length).filter (fun i => i != k)).map (fun i => f (l.getD i d))
  | [], k => by simp
  | a :: l, 0 => by
    rw [List.length_cons, List.range_succ_eq_map, List.filter_cons_of_neg (by simp), List.filter_map, List.map_map]
    rw [List.filter_eq_self.mpr (by intro i _; simp)]
    show l.map f = _
    rw [← range_map_getD l d f]
    rfl
  | a :: l, k + 1 => by
    have ih := erase_filter d f l k
    rw [List.length_cons, List.range_succ_eq_map, List.filter_cons_of_pos (by simp), List.filter_map, List.map_cons, List.map_map]
    show f a :: (l.eraseIdx k).map f = _
    rw [ih]
    congr 1
    have e : (fun i => i != k + 1) ∘ Nat.succ = fun i => i != k := by
      funext i
      simp [Function.comp]
    rw [e]
    rfl
theorem find_filter {α : Type} (d : α) (p : α → Bool) : ∀ (l : List α), ((List.range l.length).filter (fun i => p (l.getD i d))).head? = l.findIdx? p
  | [] => rfl
  | a :: l => by
    have ih := find_filter d p l
    rw [List.length_cons, List.range_succ_eq_map]
    by_cases h : p a = true
    · rw [List.filter_cons_of_pos (by simpa using h)]
      simp [List.findIdx?_cons, h]
    · rw [List.filter_cons_of_neg (by simpa using h), List.filter_map]
      have e : (fun i => p ((a :: l).getD i d)) ∘ Nat.succ = fun i => p (l.getD i d) := by
        funext i
        simp [Function.comp]
      rw [e, List.head?_map, ih, List.findIdx?_cons]
      simp [h]
end K0


set_option Elab.async false
set_option linter.all false
set_option maxRecDepth 100000
set_option maxHeartbeats 4000000
namespace K0
open PySem PySem.Spec PyProof.Rows L2

/-! ### flat values as data -/
def toD : V → PyData
  | .bl b => .bool b
  | .int i => .int i
  | .str x => .str x
  | _ => .none
def flat : V → Bool
  | .non | .bl _ | .int _ => true
  | .str x => PyData.strOk x
  | _ => false
section
variable {K : PySem.W.Frag} {H : Hp}
theorem dpF : ∀ {v : V}, flat v = true → Dp K H v (toD v)
  | .non, _ => .non
  | .bl b, _ => .bl b
  | .int i, _ => .int i
  | .str x, _ => .str x
theorem dpAllF : ∀ {xs : List V}, xs.all flat = true → DpAll K H xs (xs.map toD)
  | [], _ => .nil
  | x :: xs, h => by
    rw [List.all_cons, Bool.and_eq_true] at h
    exact .cons (dpF h.1) (dpAllF h.2)
theorem layF : ∀ {xs : List V}, xs.all flat = true → PyData.canLayAll0 (xs.map toD) = true
  | [], _ => rfl
  | x :: xs, h => by
    rw [List.all_cons, Bool.and_eq_true] at h
    have ih := layF h.2
    cases x with
    | str z =>
      have hz : PyData.strOk z = true := h.1
      simp [toD, PyData.canLayAll0, PyData.canLay0, ih, hz]
    | _ => simp [toD, PyData.canLayAll0, PyData.canLay0, ih]
theorem depF : ∀ (xs : List V), PyData.depthAll (xs.map toD) = 0
  | [] => rfl
  | x :: xs => by
    have ih := depF xs
    cases x <;> simp [toD, PyData.depthAll, PyData.depth, ih]
theorem shapedL {xs : List V} (h : xs.all flat = true) : SeqAt.shaped (.list (xs.map toD)) = true := by
  unfold SeqAt.shaped
  rw [Bool.and_eq_true]
  refine ⟨?_, ?_⟩
  · simp only [PyData.canLay0]
    exact layF h
  · simp only [PyData.depth, depF]
    decide
theorem shapedNil : SeqAt.shaped (.list []) = true := shapedL (xs := []) rfl
theorem dpL {a : Addr} {xs : List V} (h : SqL K H a xs) (f : xs.all flat = true) : Dp K H (.ref a) (.list (xs.map toD)) := .lst h (dpAllF f)
theorem dpNil {a : Addr} (h : SqL K H a []) : Dp K H (.ref a) (.list []) := .lst h .nil
theorem eqvNil (xs : List V) : PyData.eqv (.list (xs.map toD)) (.list []) = xs.isEmpty := by
  cases xs <;> simp [PyData.eqv, PyData.eqvAll]
theorem eqv_ints : ∀ (ns ms : List Int), PyData.eqvAll ((ns.map V.int).map toD) ((ms.map V.int).map toD) = decide (ns = ms)
  | [], [] => by simp [PyData.eqvAll]
  | [], m :: ms => by simp [PyData.eqvAll]
  | n :: ns, [] => by simp [PyData.eqvAll]
  | n :: ns, m :: ms => by
    have ih := eqv_ints ns ms
    simp only [List.map_cons, toD, PyData.eqvAll, PyData.eqv, ih]
    by_cases e : n = m
    · subst e
      by_cases e2 : ns = ms
      · subst e2; simp
      · simp [e2]
    · simp [e]
theorem eqvL_ints (ns ms : List Int) : PyData.eqv (.list ((ns.map V.int).map toD)) (.list ((ms.map V.int).map toD)) = decide (ns = ms) := by
  simp only [PyData.eqv]
  exact eqv_ints ns ms
theorem flat_ints (ns : List Int) : (ns.map V.int).all flat = true := by
  induction ns with
  | nil => rfl
  | cons n ns ih => simp only [List.map_cons, List.all_cons, ih, flat, Bool.and_self]
theorem flat_bls (bs : List Bool) : (bs.map V.bl).all flat = true := by
  induction bs with
  | nil => rfl
  | cons n ns ih => simp only [List.map_cons, List.all_cons, ih, flat, Bool.and_self]
theorem eqv_same {xs : List V} (h : xs.all flat = true) : PyData.eqv (.list (xs.map toD)) (.list (xs.map toD)) = true := SeqAt.eqv_refl _ (by simp only [PyData.canLay0]; exact layF h)
end
end K0


set_option Elab.async false
set_option linter.all false
set_option maxRecDepth 100000
set_option maxHeartbeats 4000000
namespace K0
open PySem PySem.Spec PyProof.Rows L2

/-! ### the makers of the errors -/
def fs1 (f : Str) : List V → List (Str × V)
  | [v] => [(f, v)]
  | _ => []
def fs2 : List V → List (Str × V)
  | [x, y] => [("most", y), ("what", x)]
  | _ => []
section
variable {P : Program} {w : World} {K : PySem.W.Frag} {mg : Str → Option Value} {base : Heap} {f C : Addr} {fd : FuncData}
theorem sci_BadNumber : FnScope ["self", "part"] ["self", "part"] (defScope si_BadNumber) := ⟨rfl, rfl, rfl, by decide +kernel, rfl, by decide +kernel, by decide +kernel⟩
theorem oki_BadNumber (F : Fun K "__init__" "BadNumber.__init__" si_BadNumber f fd) (T : OexC K C) (no : PySem.W.findIn K (.ref C) "part" = some none) : FnOk P w K mg base CX0 1 f fd ["self", "part"] (spI C 1 (fs1 "part")) := by
  refine F.ok sci_BadNumber (fun vs H Q E h => ?_) (fun cdv A outer s H vs Q E hr h => ?_)
  · obtain ⟨a, ws, rfl, hl, _⟩ := h
    show ws.length + 1 = 2
    omega
  · obtain ⟨a, ws, rfl, hl, ha, k⟩ := h
    match ws, hl with
    | [v], _ =>
      refine ⟨_, (pss_one (ps_ost (pv 0) (pv 1))), ?_⟩
      refine ⟨_, rfl, _, rfl, a, C, rfl, T, no, .inl ⟨ha, fun d hd hda => ?_⟩⟩
      refine k d _ hd hda upd_same (by rw [upd_ne hda, upd_same]; rfl) fun b o hb e => ?_
      rw [upd_ne hb, upd_ne (ne_of_none e hd)]
      exact e
theorem sci_BadPoint : FnScope ["self", "part"] ["self", "part"] (defScope si_BadPoint) := ⟨rfl, rfl, rfl, by decide +kernel, rfl, by decide +kernel, by decide +kernel⟩
theorem oki_BadPoint (F : Fun K "__init__" "BadPoint.__init__" si_BadPoint f fd) (T : OexC K C) (no : PySem.W.findIn K (.ref C) "part" = some none) : FnOk P w K mg base CX0 1 f fd ["self", "part"] (spI C 1 (fs1 "part")) := by
  refine F.ok sci_BadPoint (fun vs H Q E h => ?_) (fun cdv A outer s H vs Q E hr h => ?_)
  · obtain ⟨a, ws, rfl, hl, _⟩ := h
    show ws.length + 1 = 2
    omega
  · obtain ⟨a, ws, rfl, hl, ha, k⟩ := h
    match ws, hl with
    | [v], _ =>
      refine ⟨_, (pss_one (ps_ost (pv 0) (pv 1))), ?_⟩
      refine ⟨_, rfl, _, rfl, a, C, rfl, T, no, .inl ⟨ha, fun d hd hda => ?_⟩⟩
      refine k d _ hd hda upd_same (by rw [upd_ne hda, upd_same]; rfl) fun b o hb e => ?_
      rw [upd_ne hb, upd_ne (ne_of_none e hd)]
      exact e
theorem sci_BadLikeness : FnScope ["self", "part"] ["self", "part"] (defScope si_BadLikeness) := ⟨rfl, rfl, rfl, by decide +kernel, rfl, by decide +kernel, by decide +kernel⟩
theorem oki_BadLikeness (F : Fun K "__init__" "BadLikeness.__init__" si_BadLikeness f fd) (T : OexC K C) (no : PySem.W.findIn K (.ref C) "part" = some none) : FnOk P w K mg base CX0 1 f fd ["self", "part"] (spI C 1 (fs1 "part")) := by
  refine F.ok sci_BadLikeness (fun vs H Q E h => ?_) (fun cdv A outer s H vs Q E hr h => ?_)
  · obtain ⟨a, ws, rfl, hl, _⟩ := h
    show ws.length + 1 = 2
    omega
  · obtain ⟨a, ws, rfl, hl, ha, k⟩ := h
    match ws, hl with
    | [v], _ =>
      refine ⟨_, (pss_one (ps_ost (pv 0) (pv 1))), ?_⟩
      refine ⟨_, rfl, _, rfl, a, C, rfl, T, no, .inl ⟨ha, fun d hd hda => ?_⟩⟩
      refine k d _ hd hda upd_same (by rw [upd_ne hda, upd_same]; rfl) fun b o hb e => ?_
      rw [upd_ne hb, upd_ne (ne_of_none e hd)]
      exact e
theorem sci_Misfit : FnScope ["self", "part"] ["self", "part"] (defScope si_Misfit) := ⟨rfl, rfl, rfl, by decide +kernel, rfl, by decide +kernel, by decide +kernel⟩
theorem oki_Misfit (F : Fun K "__init__" "Misfit.__init__" si_Misfit f fd) (T : OexC K C) (no : PySem.W.findIn K (.ref C) "part" = some none) : FnOk P w K mg base CX0 1 f fd ["self", "part"] (spI C 1 (fs1 "part")) := by
  refine F.ok sci_Misfit (fun vs H Q E h => ?_) (fun cdv A outer s H vs Q E hr h => ?_)
  · obtain ⟨a, ws, rfl, hl, _⟩ := h
    show ws.length + 1 = 2
    omega
  · obtain ⟨a, ws, rfl, hl, ha, k⟩ := h
    match ws, hl with
    | [v], _ =>
      refine ⟨_, (pss_one (ps_ost (pv 0) (pv 1))), ?_⟩
      refine ⟨_, rfl, _, rfl, a, C, rfl, T, no, .inl ⟨ha, fun d hd hda => ?_⟩⟩
      refine k d _ hd hda upd_same (by rw [upd_ne hda, upd_same]; rfl) fun b o hb e => ?_
      rw [upd_ne hb, upd_ne (ne_of_none e hd)]
      exact e
end
theorem vals_rev {xs : List V} {us : List Value} (r : Vals xs us) : Vals xs.reverse us.reverse := by
  induction r with
  | nil => exact .nil
  | cons h t ih =>
    rw [List.reverse_cons, List.reverse_cons]
    exact ih.append (.cons h .nil)
/-- the bundle of a class with one field -/
theorem ec1 {P : Program} {w : World} {K : PySem.W.Frag} {mg : Str → Option Value} {base : Heap} {x f q : Str} {st : Stmt} {C fI : Addr} {fd : FuncData} (o : OexC K C) (xf : XfC K C) (ec : ExcC K C)
    (h1 : PySem.W.findIn K (.ref C) "__init__" = some (some (.ref fI))) (h2 : PySem.W.typeIn K (.ref fI) = some (.type "function")) (F : Fun K "__init__" q st fI fd)
    (G : FnOk P w K mg base CX0 1 fI fd ["self", f] (spI C 1 (fs1 f))) (m : mg x = some (.ref C)) (no : PySem.W.findIn K (.ref C) f = some none)
    (b1 : ∀ (kV doc pm : Value) (an : Option Addr) (cdv ct : Value) (u v : Value), bindArgs (PySem.W.fnOf "__init__" q (defArgs st) (defBody st) (defScope st) .none kV doc pm an cdv ct) ⟨[u, v], []⟩ = pure [(("self" : Str), u), (f, v)])
    (b2 : ∀ (kV doc pm : Value) (an : Option Addr) (cdv ct : Value) (u v : Value), bindArgs (PySem.W.fnOf "__init__" q (defArgs st) (defBody st) (defScope st) .none kV doc pm an cdv ct) ⟨[u], [(f, v)]⟩ = pure [(("self" : Str), u), (f, v)]) :
    Ec P w K mg base x C 1 [f] List.reverse (fs1 f) := by
  obtain ⟨oc, od, kV, doc, pm, an, cdv, ct, osl, rfl, lk, hcd⟩ := F.ex
  refine ⟨o, xf, ec, ⟨fI, _, _, fun us _ => us, fun us ws => us ++ ws.reverse, h1, h2, G, ⟨fun s us ws X l1 l2 => ?_, fun r _ => r⟩, ⟨fun s us ws X l1 l2 => ?_, fun r rz => ?_⟩⟩, fun zs h => by rw [List.length_reverse]; exact h, by decide, m, fun ws hw q hq => ?_⟩
  · match us, ws, l1, l2 with
    | [u, v], [], _, _ => exact .of_eq (b1 kV doc pm an cdv ct u v)
  · match us, ws, l1, l2 with
    | [u], [v], _, _ => exact .of_eq (b2 kV doc pm an cdv ct u v)
  · refine r.append ?_
    rename_i vs us zs ws
    exact vals_rev rz
  · match ws, hw with
    | [v], _ =>
      cases List.mem_singleton.mp hq
      exact no
end K0


set_option Elab.async false
set_option linter.all false
set_option maxRecDepth 100000
set_option maxHeartbeats 4000000
/-! a caught exception, held beyond its clause -/
namespace L2
open PySem PySem.Spec PyProof.Rows
/-- at a: an exception that was raised once, of the class at C, its dict at d -/
def exq (a C d : Addr) : HO := .ext fun h => ∃ (oe : Obj) (vs : Array Value), h.get? a = some oe ∧ oe.cls = .ref C ∧ oe.dict = some d ∧ oe.data = .fields vs
theorem exq_ok {P : Program} {w : World} {H : Hp} {h : Heap} {a C d : Addr} {oe : Obj} {vs : Array Value} (he : h.get? a = some oe) (h1 : oe.cls = .ref C) (h2 : oe.dict = some d) (h3 : oe.data = .fields vs) : ObjOk P w H h a (exq a C d) :=
  ⟨⟨oe, vs, he, h1, h2, h3⟩, ⟨_, he⟩, fun hp1 hp2 z k => by
    obtain ⟨o, vs, q, r⟩ := z
    exact ⟨o, vs, k _ q, r⟩⟩
theorem exq_at {P : Program} {w : World} {H : Hp} {h : Heap} {a C d : Addr} (hok : HOk P w H h) (he : H a = some (exq a C d)) : ∃ (vs : Array Value) (sl : Array (Option Value)), h.get? a = some ({ cls := .ref C, dict := some d, data := .fields vs, slots := sl } : Obj) := by
  have x : ObjOk P w H h a (.ext fun h => ∃ (oe : Obj) (vs : Array Value), h.get? a = some oe ∧ oe.cls = .ref C ∧ oe.dict = some d ∧ oe.data = .fields vs) := hok a _ he
  obtain ⟨⟨oe, vs, q1, q2, q3, q4⟩, _, _⟩ := x
  obtain ⟨oc, od, oda, osl⟩ := oe
  dsimp only at q2 q3 q4
  subst q2 q3 q4
  exact ⟨vs, osl, q1⟩
section
variable {X : Cx} {pins : List (Addr × Obj)} {σ : L2.St} {H : Hp} {s : Shared}
/-- an object that stands already is tracked from now on -/
theorem Inv.track {a : Addr} {oe : Obj} {vs : Array Value} {o : HO} (I : Inv X pins σ H s) (ha : s.heap.get? a = some oe) (hd : oe.data = .fields vs) (nH : H a = none) (nL : a ≠ X.env.locals) (npin : ∀ p ∈ X.pn ++ pins, p.1 ≠ a) (n0 : X.s_0.heap.get? a = none)
    (ok : ObjOk X.prog X.w (upd H a o) s.heap a o) : Inv X pins σ (upd H a o) s := by
  refine ⟨I.ok, I.os, I.bare, ⟨I.base.keep, I.base.slot, fun b ob q n hx => ?_, I.base.there, fun b xs q => ?_, fun b ob u q => ?_, fun b ps q => ?_⟩, I.loc, I.cell, ?_, fun x c e => ?_, fun p hp => ?_, ?_, I.len⟩
  · have hb : b ≠ a := fun z => by rw [z, n0] at q; cases q
    rw [upd_ne hb]
    exact I.base.free b ob q n hx
  · have e := I.base.tups b xs q
    rw [upd_ne (ne_of_none e nH)]
    exact e
  · have e := I.base.frzs b ob u q
    rw [upd_ne (ne_of_none e nH)]
    exact e
  · obtain ⟨more, e⟩ := I.base.tbls b ps q
    exact ⟨more, by rw [upd_ne (ne_of_none e nH)]; exact e⟩
  · rw [upd_ne (Ne.symm nL)]
    exact I.free
  · obtain ⟨v, ob, q1, q2⟩ := I.cell x c e
    have hc : c ≠ a := fun z => by
      rw [z, ha] at q1
      cases q1
      rw [hd] at q2
      cases q2
    rw [upd_ne hc]
    exact I.freeC x c e
  · obtain ⟨e, n, r⟩ := I.pin p hp
    exact ⟨e, by rw [upd_ne (npin p hp)]; exact n, r⟩
  · exact I.hok.laidN (fun _ _ q => q) nH ok
end
/-- what 'except x as n: y = n' wishes of an exception of the body -/
def wKeep (K : PySem.W.Frag) (c : Value) (i j l : Nat) (D : Ends) : WX := fun cls d σ H =>
  ∃ C dd, cls = .ref C ∧ d = some dd ∧ PySem.W.exmOne K cls c = some true ∧ ∀ a, H a = none → σ.length = l → D.nx ((((σ.set i (some (.ref a))).set j (some (.ref a))).set i none)) (upd H a (exq a C dd))
section
variable {X : Cx} {x n y : Str} {c : Value} {i j : Nat} {body : List Stmt} {np pos pos' p1 p2 p3 : Pos} {tb : WX → TS}
theorem ps_try_keep (hs : X.stack = X.env :: X.outer) (hf : X.env.frame = some X.env.locals) (hN : X.N.Nodup) (hi : X.N[i]? = some n) (hj : X.N[j]? = some y) (hln : X.env.kindOf n = some .local) (hly : X.env.scope.names.lookup y = some .local) (hil : i < X.N.length) (hc : Names X x c)
    (hex : X.ex = [])
    (hb : ∀ (W : WX) (pn : List (Addr × Obj)) (xe : Value → Shared → Prop), Takes (X.tr pn xe) W → PassesOwn (model X.prog X.w) X.A X.env xe → PSs (X.tr pn xe) body (tb W))
    (hdb : (n == ("__debug__" : Str)) = false := by decide) (hcd : (n == ("__classdict__" : Str)) = false := by decide) :
    PS X (.Try body [.ExceptHandler (some (.Name x np)) (some n) [.Assign [.Name y p1] (.Name n p2) p3] pos'] [] [] pos) (fun D σ H => tb (wKeep X.K c i j X.N.length D) D σ H) := by
  refine ⟨fun pins s σ H D I h => ?_⟩
  have ok := I.ok
  have hfr : X.A.frames = some (X.env :: X.outer) := by rw [ok.frames, hs]
  have hloc : Loc X.env.scope n := .inl hln
  refine wpAny_Try_except ?_
  refine wpAny_mono ((hb (wKeep X.K c i j X.N.length D) (X.pn ++ pins) (fun e s₁ => wpAny (model X.prog X.w) X.A (noteFrame e X.env) (fun _ s₂ => wpAny (model X.prog X.w) X.A (setFlight e none) (fun _ s₃ =>
    wpAny (model X.prog X.w) X.A (handleBy e X.env [.ExceptHandler (some (.Name x np)) (some n) [.Assign [.Name y p1] (.Name n p2) p3] pos']) (SP X pins D) X.xe s₃) X.xe s₂) X.xe s₁) (fun u s' xx => ?_) PassesOwn.looking).run [] s σ H D (I.toTry _) h) (fun f s1 hsp => ?_) (fun e s1 he => he)
  · obtain ⟨a, B, sI, pins', σ', H', cls, d, rfl, J', nb, up, sky, na, os, ag, C, dd, rfl, rfl, hb1, hyes⟩ := xx
    have J : Inv X pins σ' H' sI := J'.ofTry ok
    have sky' : Sky B (X.env :: X.outer) a (Zc (.ref C) (some dd)) X.env.locals s'.heap := by rw [← hs]; exact sky
    show wpAny (model X.prog X.w) X.A (noteFrame (.ref a) X.env) _ _ _
    refine Sky.land Zc.steady hfr hf sky' fun h3 fl3 up3 => ?_
    have J3 : Inv X pins σ' H' { s' with heap := h3 } := J.landed nb fl3.1 (up.trans up3) os ag
    obtain ⟨oe3, vs3, he3, hz3, hd3⟩ := fl3.there
    have notFr : ∀ {h : Heap} {o : Obj} {vs : Array Value}, h.FunFrames B (X.env :: X.outer) → h.get? a = some o → o.data = .fields vs → a ∉ frs (X.env :: X.outer) := fun {h o vs} ff e dd hm => by
      obtain ⟨_, o', e', hnf⟩ := ff.mem hm
      rw [e] at e'; cases e'
      exact hnf _ dd
    have nfr := notFr fl3.2.2.1 he3 hd3
    have nL : a ≠ X.env.locals := fun z => nfr (List.mem_filterMap.mpr ⟨X.env, List.mem_cons_self, by rw [hf, z]⟩)
    have nF : a ∉ X.fs := fun hm => by
      obtain ⟨e, he, q⟩ := List.mem_filterMap.mp hm
      exact nfr (List.mem_filterMap.mpr ⟨e, List.mem_cons_of_mem _ he, q⟩)
    have gB : B.get? a = none := fl3.2.1
    have n0 : X.s_0.heap.get? a = none := by
      cases e : X.s_0.heap.get? a with
      | none => rfl
      | some o =>
        obtain ⟨o', e'⟩ := J.base.there a o e (by rw [hex]; exact List.not_mem_nil)
        have q := nb a o' e' (by rw [hs]; exact nfr)
        rw [gB] at q
        cases q
    have npin : ∀ p ∈ X.pn ++ pins, p.1 ≠ a := fun p hp z => by
      obtain ⟨e, _, nl, nf, _⟩ := J.pin p hp
      have q := nb p.1 p.2 e (by rw [hs, z]; exact nfr)
      rw [z, gB] at q
      cases q
    have S3 := J3.suite he3 hd3 na nL nF
    refine wpAny_handleBy_cons (codeAny_handlers_test ?_) (by intro q; cases q)
    have LT : PySem.W.Looks (model X.prog X.w) h3 (typeOf (.ref a)) (.ref C) := fun A Q E s k q => wpAny_typeOf_ref (k _ _ he3) (by rw [hz3.1]; exact q)
    have LM := PySem.W.exm_one (M := model X.prog X.w) (J3.kIn) LT hb1
    have test : ∀ {Q : Value → Shared → Prop} {E : Value → Shared → Prop}, Q c { s' with heap := h3 } → wpAny (model X.prog X.w) (X.A.mark (some (.ref a))) (eval (.Name x np) X.env) Q E { s' with heap := h3 } := fun {Q E} q => by
      obtain ⟨hg, hdbg, hm | ⟨hm, hv, hnn⟩⟩ := hc
      · exact ld_glob (X := X.suite a ((a, oe3) :: (X.pn ++ pins))) S3 hg hm q hdbg
      · exact ld_blt (X := X.suite a ((a, oe3) :: (X.pn ++ pins))) S3 hg hm hv q hnn hdbg
    refine test (LM.here ?_)
    refine codeAny_handlers_suite_as ?_
    refine HandSPX.lands_againZ fl3 fun h4 fl4 up4 => ?_
    have J4 : Inv X pins σ' H' { s' with heap := h4 } := J.landed nb fl4.1 ((up.trans up3).trans up4) os ag
    obtain ⟨oe4, vs4, he4, hz4, hd4⟩ := fl4.there
    have S4 := J4.suite he4 hd4 na nL nF
    refine store_ok (X := X.suite a ((a, oe4) :: (X.pn ++ pins))) (v := .ref a) S4 hN hi hloc rfl (fun s5 S5 => ?_) (.inr hln)
    have hpv : PSs (X.suite a ((a, oe4) :: (X.pn ++ pins))) [.Assign [.Name y p1] (.Name n p2) p3] (tAsg (tVar i) (gName j)) := pss_one (ps_set (X := X.suite a ((a, oe4) :: (X.pn ++ pins))) hN hj (.inl hly) (pe_var (X := X.suite a ((a, oe4) :: (X.pn ++ pins))) hi (.inl hln) hdb hcd) rfl (.inr hly))
    have hlen : i < σ'.length := by rw [J.len]; exact hil
    refine wpAny_mono (hpv.run [] s5 _ H' { nx := fun σ6 H6 => σ6 = (σ'.set i (some (.ref a))).set j (some (.ref a)) ∧ H6 = H', rt := fun _ _ => False, bk := fun _ _ => False, ct := fun _ _ => False } S5 ⟨.ref a, List.getElem?_set_self hlen, rfl, rfl⟩) (fun f s6 hsp => ?_) (fun _ _ z => False.elim z)
    cases f with
    | next =>
      obtain ⟨σ6, H6, S6, rfl, rfl⟩ := hsp
      refine gone_ok (X := X.suite a ((a, oe4) :: (X.pn ++ pins))) S6 hN hi hln fun s7 S7 => ?_
      obtain ⟨g7, _, _, _, _⟩ := S7.pin (a, oe4) (List.mem_append_left _ List.mem_cons_self)
      have J7 : Inv X pins _ H6 s7 := S7.unsuite ok
      exact ⟨_, _, J7.track g7 hd4 na nL npin n0 (exq_ok g7 hz4.1 hz4.2 hd4), hyes a na J.len⟩
    | brk =>
      obtain ⟨σ6, H6, S6, q6⟩ := hsp
      exact q6.elim
    | cont =>
      obtain ⟨σ6, H6, S6, q6⟩ := hsp
      exact q6.elim
    | ret u =>
      obtain ⟨v6, σ6, H6, S6, r6, q6⟩ := hsp
      exact q6.elim
  · cases f with
    | next =>
      obtain ⟨σ', H', J', q⟩ := hsp
      exact wpAny_execs_nil ⟨σ', H', J'.ofTry ok, q⟩
    | brk =>
      obtain ⟨σ', H', J', q⟩ := hsp
      exact ⟨σ', H', J'.ofTry ok, q⟩
    | cont =>
      obtain ⟨σ', H', J', q⟩ := hsp
      exact ⟨σ', H', J'.ofTry ok, q⟩
    | ret u =>
      obtain ⟨v, σ', H', J', r, q⟩ := hsp
      exact ⟨v, σ', H', J'.ofTry ok, r, q⟩
end
end L2


set_option Elab.async false
set_option linter.all false
set_option maxRecDepth 100000
set_option maxHeartbeats 4000000
set_option exponentiation.threshold 100000
namespace K0
open PySem PySem.Spec PyProof.Rows L2 RZ K0z

theorem pe_cint {X : Cx} {x : Str} {pos : Pos} {n : Int} (hg : Gl X x) (hm : ∃ t, X.mg x = some (.int n t)) (hd : (x == ("__debug__" : Str)) = false := by decide) : PE X (.Name x pos) (tC (.int n)) := by
  obtain ⟨t, h⟩ := hm
  exact pe_glob hg h ⟨t, rfl⟩ hd
/-- what a raise of the class x, by place, wants -/
def RaiseC (P : Program) (w : World) (K : PySem.W.Frag) (mg : Str → Option Value) (base : Heap) (x : Str) (C : Addr) (f : Str) : Prop :=
  ∃ fI fd ps, PySem.W.findIn K (.ref C) "__init__" = some (some (.ref fI)) ∧ PySem.W.typeIn K (.ref fI) = some (.type "function") ∧ FnOk P w K mg base CX0 1 fI fd ps (spI C 1 (fs1 f)) ∧ Binds K fd ps [] ∧ OexC K C ∧ mg x = some (.ref C)
section
variable {X : Cx} {C : Addr} {x f : Str} {p pos : Pos} {e : Expr} {v : V}
theorem pmk_c (D : RaiseC X.prog X.w X.K X.mg X.base x C f) (hr : Room 2 X.A) (hg : Gl X x) (ha : PA X [e] (tCons (tC v) tNil))
    (hdb : (x == ("__debug__" : Str)) = false := by decide) (hs : starEach [e] X.env = (false, eval e X.env) :: starEach [] X.env := by rfl) :
    PMk X (.Call (.Name x p) [e] [] pos) (fun _ H Q => ∀ (d : Addr) (H' : Hp), H d = none → H' d = some (.xd (fs1 f [v])) → Same H H' → Q (.ref C) (some d) H') := by
  obtain ⟨fI, fd, ps, h1, h2, F, B, T, m⟩ := D
  have h := pmk_oex (p := p) (pos := pos) T h1 h2 F hr B .nil pass0 hg m ha hdb hs (by rfl)
  intro pins s σ H1 Q I q
  refine h pins s σ H1 Q I ?_
  refine ⟨by show 1 ≤ 1000; decide, fun a ha => ⟨a, [v], rfl, rfl, upd_same, fun d H2 hd hda e1 e2 e3 => ⟨rfl, d, _, e1, e2, ?_, ?_⟩⟩⟩
  · rw [upd_ne hda] at hd
    exact hd
  · rw [upd_ne hda] at hd
    refine q d _ hd upd_same fun b o hb => ?_
    have nb : b ≠ d := ne_of_none hb hd
    have nba : b ≠ a := ne_of_none hb ha
    rw [upd_ne nb, del_ne nba]
    exact e3 b o nba (by rw [upd_ne nba]; exact hb)
end
end K0


set_option Elab.async false
set_option linter.all false
set_option maxRecDepth 100000
set_option maxHeartbeats 4000000
namespace K0
open PySem PySem.Spec PyProof.Rows L2

/-! ### what draws -/
/-- the coil at c: its cells at d, how many were begun (at most m), what is left -/
def Coil (H : Hp) (c d : Addr) (ns : List Int) (m : Nat) : Prop := ns.length ≤ 63 ∧ c ≠ d ∧ H d = some (.lst (ns.map V.int)) ∧
  ∃ a b : Int, H c = some (.lst [.ref d, .int a, .int b]) ∧ 0 ≤ a ∧ a ≤ m ∧ 0 ≤ b
def SameBut (c : Addr) (H H' : Hp) : Prop := ∀ b o, b ≠ c → H b = some o → H' b = some o
theorem SameBut.refl (c : Addr) (H : Hp) : SameBut c H H := fun _ _ _ e => e
theorem SameBut.trans {c : Addr} {H H1 H2 : Hp} (a : SameBut c H H1) (b : SameBut c H1 H2) : SameBut c H H2 := fun x o n e => b x o n (a x o n e)
theorem SameBut.of {c : Addr} {H H' : Hp} (s : Same H H') : SameBut c H H' := fun b o _ e => s b o e
theorem SameBut.to {c : Addr} {H H0 H' : Hp} (s : SameBut c H H') (h : Same H0 H) (hc : H0 c = none) : Same H0 H' := fun b o e => s b o (ne_of_none e hc) (h b o e)
def spCoil (K : PySem.W.Frag) : Sp := fun vs H Q _ => ∃ (a : Addr) (ns : List Int), vs = [.ref a] ∧ SqL K H a (ns.map V.int) ∧ ns.length ≤ 63 ∧
  ∀ (c d : Addr) (H' : Hp), H c = none → Same H H' → Coil H' c d (ns.take 61) 0 → Q (.ref c) H'
def spTurn : Sp := fun vs H Q _ => ∃ (c d : Addr) (ns : List Int) (m : Nat) (many : Int), vs = [.ref c, .int many] ∧ Coil H c d ns m ∧ m ≤ 100000 ∧ 0 < many ∧ many.natAbs < 2 ^ 9000 ∧
  ∀ (r : Int) (H' : Hp), 0 ≤ r → r < many → Coil H' c d ns (m + 1) → SameBut c H H' → Q (.int r) H'
section
variable {P : Program} {w : World} {K : PySem.W.Frag} {mg : Str → Option Value} {base : Heap} {f g g2 : Addr} {fd : FuncData}
theorem sc_coil : FnScope ["script", "cell"] ["script"] (defScope st__law_keg) := ⟨rfl, rfl, rfl, by decide +kernel, rfl, by decide +kernel, by decide +kernel⟩
theorem int_sel (ns : List Int) : (ns.map V.int).filterMap (fun x => match x with | .int n => some (V.int n) | _ => none) = ns.map V.int := by
  induction ns with
  | nil => rfl
  | cons n ns ih => simp only [List.map_cons, List.filterMap_cons, ih]
theorem ok_coil (F : Fun K "_law_keg" "_law_keg" st__law_keg f fd) (T : Nm mg) : FnOk P w K mg base CX0 1 f fd ["script"] (spCoil K) := by
  refine F.ok sc_coil (fun vs H Q E h => ?_) (fun cdv A outer s H vs Q E hr h => ?_)
  · obtain ⟨a, ns, rfl, _⟩ := h
    rfl
  · obtain ⟨a, ns, rfl, hS, hl, k⟩ := h
    refine ⟨_, (pss_one (ps_ret (pe_lst (pa_cons (pe_lc (own := [("cell", 1)]) (g := gName 1) (tt := tYes) rfl sc_coil.nd (pi_list (pe_slice sl_list (pv 0) po_none (po_some pe_int))) (blkOk_by (N := ["script", "cell"]) (sc := defScope st__law_keg) (by decide +kernel)) (fun _ _ _ _ _ => pg_name (i := 1) sc_coil.nd rfl (Or.inl rfl)) (fun _ _ _ _ _ => pts_nil) (fun _ _ _ _ _ => (pe_callTy call_int1 (by rfl) T.n_int (by decide +kernel) (pa_cons (pv 1) pa_nil)))) (pa_cons pe_int (pa_cons pe_int pa_nil)))))), ?_⟩
    have lt61' : (ns.take 61).length ≤ 61 := by rw [List.length_take]; omega
    have ec : cutV (ns.map V.int) none (some 61) = (ns.take 61).map V.int := by
      show ((ns.map V.int).drop 0).take (HT.sIx (ns.map V.int).length (ns.map V.int).length (some ((61 : Nat) : Int)) - 0) = _
      rw [HT.sIx_nat, List.drop_zero, List.map_take, List.length_map, Nat.sub_zero]
      by_cases h : 61 ≤ ns.length
      · rw [Nat.min_eq_left h]
      · rw [Nat.min_eq_right (by omega), List.take_of_length_le (by rw [List.length_map]; omega), List.take_of_length_le (by rw [List.length_map]; omega)]
    refine ⟨_, rfl, 61, rfl, a, _, rfl, hS, fun p hp => ⟨p, rfl, ⟨_, .of upd_same⟩, fun D hD => ?_⟩⟩
    rw [ec] at hD ⊢
    refine lcl (xs := (ns.take 61).map V.int) (fun x => match x with | .int n => some (V.int n) | _ => none) hD (.of upd_same) (by rw [List.length_map]; exact Nat.lt_of_le_of_lt lt61' (by decide)) (fun _ => rfl) ?_ ?_ ?_
    · intro x hx H2 _ R hR
      obtain ⟨n, _, rfl⟩ := List.mem_map.mp hx
      exact hR H2 (Same.refl H2)
    · intro x hx y hy H2 _ R hR
      obtain ⟨n, _, rfl⟩ := List.mem_map.mp hx
      cases hy
      exact ⟨_, rfl, .inl ⟨n, rfl, hR H2 (Same.refl H2)⟩⟩
    · rintro H2 ⟨h1, h2⟩
      rw [int_sel] at h1
      refine ⟨(by show 3 ≤ sizeLine; decide), fun c hc => ?_⟩
      have s0 : Same H H2 := (same_upd hp).trans h2
      have ncd : c ≠ D := fun e => by
        rw [e, h1] at hc
        cases hc
      refine k c D _ (s0.free hc) (s0.trans (same_upd hc)) ⟨by omega, ncd, ?_, 0, 0, upd_same, by decide, by decide, by decide⟩
      rw [upd_ne (Ne.symm ncd)]
      exact h1
theorem sc_turn : FnScope ["keg", "many", "left", "turn", "cell", "mixed"] ["keg", "many"] (defScope st__law_tap) := ⟨rfl, rfl, rfl, by decide +kernel, rfl, by decide +kernel, by decide +kernel⟩
theorem mod_rng {i j : Int} (h : 0 < j) : 0 ≤ i % j ∧ i % j < j := ⟨Int.emod_nonneg i (by omega), Int.emod_lt_of_pos i h⟩
theorem mix_bound {x a : Int} (h0 : 0 ≤ a) (h1 : a ≤ 100000) (hx0 : 0 ≤ x) (hx1 : x < 2147483629) : (x * (2 * a + 7043) + 64037 * a * a + 42061).natAbs < 2 ^ 64 := by
  have e1 : x * (2 * a + 7043) ≤ 2147483629 * 207043 := Int.mul_le_mul (by omega) (by omega) (by omega) (by omega)
  have e2 : 0 ≤ x * (2 * a + 7043) := Int.mul_nonneg hx0 (by omega)
  have e3 : 64037 * a * a ≤ 6403700000 * 100000 := Int.mul_le_mul (by omega) h1 h0 (by omega)
  have e4 : 0 ≤ 64037 * a * a := Int.mul_nonneg (by omega) h0
  generalize x * (2 * a + 7043) = y at e1 e2 ⊢
  generalize 64037 * a * a = z at e3 e4 ⊢
  omega
theorem ok_turn (F : Fun K "_law_tap" "_law_tap" st__law_tap f fd) (T : Nm mg) : FnOk P w K mg base CX0 1 f fd ["keg", "many"] spTurn := by
  refine F.ok sc_turn (fun vs H Q E h => ?_) (fun cdv A outer s H vs Q E hr h => ?_)
  · obtain ⟨c, d, ns, m, many, rfl, _⟩ := h
    rfl
  · obtain ⟨c, d, ns, m, many, rfl, ⟨hl, ncd, hd, a, b, hc, ha0, ha1, hb⟩, hm, hp, hw, k⟩ := h
    have hdiv : ∀ x : Int, CDivW x many := fun x => wide_div (b := 9000) hp hw (by decide) (by decide)
    have qdiv : ∀ x : Int, 0 ≤ x → 0 ≤ x / many := fun x hx => Int.ediv_nonneg hx (by omega)
    refine ⟨_, (pss_cons (ps_if (pt_cmpR op_gt (pe_ix ix_list (pv 0) pe_int (fun _ _ => rfl)) pe_int (nomark _)) (pss_cons (ps_set (i := 2) sc_turn.nd rfl (Or.inl rfl) (pe_callTy call_int1 (by rfl) T.n_int (by decide +kernel) (pa_cons (pe_ix ix_list (pv 0) pe_int (fun _ _ => rfl)) pa_nil)))
    (pss_cons (ps_asg (pe_op op_fdivW (pv 2) (pv 1)) (pg_sub (pv 0) pe_int set_list))
    (pss_one (ps_ret (pe_op op_mod (pe_callTy call_int1 (by rfl) T.n_int (by decide +kernel) (pa_cons (pv 2) pa_nil)) (pv 1)))))) pss_nil)
    (pss_cons (ps_set (i := 3) sc_turn.nd rfl (Or.inl rfl) (pe_ix ix_list (pv 0) pe_int (fun _ _ => rfl)))
    (pss_cons (ps_asg (pe_op op_add (pv 3) pe_int) (pg_sub (pv 0) pe_int set_list))
    (pss_cons (ps_set (i := 4) sc_turn.nd rfl (Or.inl rfl) (pe_op op_add (pe_op op_mul pe_int (pv 3)) pe_int))
    (pss_cons (ps_if (pt_cmpR (op_neD hr.units) (pe_ix ix_list (pv 0) pe_int (fun _ _ => rfl)) (pe_lst pa_nil) (nomark _)) (pss_one (ps_set (i := 4) sc_turn.nd rfl (Or.inl rfl) (pe_ix ix_list (pe_ix ix_list (pv 0) pe_int (fun _ _ => rfl)) (pe_op op_mod (pe_callTy call_int1 (by rfl) T.n_int (by decide +kernel) (pa_cons (pv 3) pa_nil)) (pe_callB call_len_seq (by rfl) T.n_len (by decide +kernel) (pa_cons (pe_ix ix_list (pv 0) pe_int (fun _ _ => rfl)) pa_nil))) (fun _ _ => rfl)))) pss_nil)
    (pss_cons (ps_if (PW.pt (pw_and (pt_cmpR op_lt (pv 3) (pe_callB call_len_seq (by rfl) T.n_len (by decide +kernel) (pa_cons (pe_ix ix_list (pv 0) pe_int (fun _ _ => rfl)) pa_nil)) (nomark _)) (pw_and1 (pt_cmpR op_ge (pe_callB call_abs (by rfl) T.n_abs (by decide +kernel) (pa_cons (pv 4) pa_nil)) (pe_op op_pow pe_int pe_int) (nomark _))))) (pss_cons (ps_set (i := 2) sc_turn.nd rfl (Or.inl rfl) (pe_op op_add (pe_op op_mul pe_int (pe_op op_sub (pe_callB call_abs (by rfl) T.n_abs (by decide +kernel) (pa_cons (pv 4) pa_nil)) (pe_op op_pow pe_int pe_int))) (pe_callTy call_int1 (by rfl) T.n_int (by decide +kernel) (pa_cons (pe_cmpR op_lt (pv 4) pe_int (nomark _)) pa_nil))))
    (pss_cons (ps_asg (pe_op op_fdivW (pv 2) (pv 1)) (pg_sub (pv 0) pe_int set_list))
    (pss_one (ps_ret (pe_op op_mod (pe_callTy call_int1 (by rfl) T.n_int (by decide +kernel) (pa_cons (pv 2) pa_nil)) (pv 1)))))) pss_nil)
    (pss_cons (ps_set (i := 5) sc_turn.nd rfl (Or.inl rfl) (pe_op op_mod (pe_callTy call_int1 (by rfl) T.n_int (by decide +kernel) (pa_cons (pe_op op_pow (pe_op op_add (pe_op op_add (pe_op op_mod (pe_callTy call_int1 (by rfl) T.n_int (by decide +kernel) (pa_cons (pv 4) pa_nil)) pe_int) (pe_op op_mul pe_int (pv 3))) pe_int) pe_int) pa_nil)) pe_int))
    (pss_cons (ps_set (i := 5) sc_turn.nd rfl (Or.inl rfl) (pe_op op_mod (pe_callTy call_int1 (by rfl) T.n_int (by decide +kernel) (pa_cons (pe_op op_pow (pe_op op_add (pe_op op_add (pe_op op_mul (pv 5) (pe_op op_add (pe_op op_mul pe_int (pv 3)) pe_int)) (pe_op op_mul (pe_op op_mul pe_int (pv 3)) (pv 3))) pe_int) pe_int) pa_nil)) pe_int))
    (pss_one (ps_ret (pe_op op_mod (pe_callTy call_int1 (by rfl) T.n_int (by decide +kernel) (pa_cons (pe_op op_fdivW (pv 5) pe_int) pa_nil)) (pv 1)))))))))))), ?_⟩
    -- coil[2] > 0
    refine ⟨_, rfl, c, _, 2, _, rfl, rfl, .of hc, atI_nat (j := 2) rfl, ⟨b, 0, rfl, rfl, _, rfl, ?_⟩⟩
    by_cases cb : 0 < b
    · rw [decide_eq_true cb]
      refine iteT ⟨_, rfl, c, _, 2, _, rfl, rfl, .of hc, atI_nat (j := 2) rfl, (.inl ⟨b, rfl, ?_⟩)⟩
      refine ⟨_, rfl, _, rfl, b, many, rfl, rfl, hdiv b, _, rfl, c, _, 2, 2, rfl, rfl, hc, rfl, ?_⟩
      refine ⟨_, rfl, .inl ⟨b, rfl, _, rfl, b, many, rfl, rfl, hp, ?_⟩⟩
      refine k _ _ (mod_rng hp).1 (mod_rng hp).2 ⟨hl, ncd, (by rw [upd_ne (Ne.symm ncd)]; exact hd), a, b / many, upd_same, ha0, by omega, qdiv b (by omega)⟩ fun x o n e => ?_
      rw [upd_ne n]
      exact e
    · rw [decide_eq_false cb]
      have eb : b = 0 := by omega
      subst eb
      -- at = coil[1]; coil[1] = at + 1; cell = ..
      refine iteF ⟨_, rfl, c, _, 1, _, rfl, rfl, .of hc, atI_nat (j := 1) rfl, ?_⟩
      refine ⟨_, rfl, a, 1, rfl, rfl, _, rfl, c, _, 1, 1, rfl, rfl, hc, rfl, ?_⟩
      refine ⟨_, rfl, 64037, a, rfl, rfl, .inl ⟨by decide, by decide⟩, _, 7043, rfl, rfl, ?_⟩
      have hd1 : upd H c (.lst [.ref d, .int (a + 1), .int 0]) d = some (.lst (ns.map V.int)) := by
        rw [upd_ne (Ne.symm ncd)]
        exact hd
      -- what comes behind the choice of the cell
      have tail : ∀ (x : Int) (H2 : Hp), H2 c = some (.lst [.ref d, .int (a + 1), .int 0]) → H2 d = some (.lst (ns.map V.int)) → SameBut c H H2 →
          (tSeq (tIfS (tAnd (tTest (tOp (rI0 fun i j => .bl (decide (i < j))) (tVar 3) (tCB (fun xs H Q => ∃ p ys, xs = [.ref p] ∧ (SqL K H p ys ∨ SqT K H p ys) ∧ Q (.int ys.length) H) (tCons (tOp (rIxL K) (tVar 0) (tC (.int 0))) tNil))))
              (tTest (tOp (rI0 fun i j => .bl (decide (j ≤ i))) (tCB (fun xs H Q => ∃ i, xs = [.int i] ∧ Q (.int (if i < 0 then -i else i)) H) (tCons (tVar 4) tNil)) (tOp (rI CPow fun i j => .int (i ^ j.toNat)) (tC (.int 10)) (tC (.int 18))))))
            (tSeq (tAsg (tOp (rI0 fun i j => .int (i + j)) (tOp (rI CMul fun i j => .int (i * j)) (tC (.int 2)) (tOp (rI0 fun i j => .int (i - j)) (tCB (fun xs H Q => ∃ i, xs = [.int i] ∧ Q (.int (if i < 0 then -i else i)) H) (tCons (tVar 4) tNil)) (tOp (rI CPow fun i j => .int (i ^ j.toNat)) (tC (.int 10)) (tC (.int 18)))))
                (tCB (fun xs H Q => (∃ i, xs = [.int i] ∧ Q (.int i) H) ∨ ∃ k, xs = [.bl k] ∧ Q (.int (if k then 1 else 0)) H) (tCons (tOp (rI0 fun i j => .bl (decide (i < j))) (tVar 4) (tC (.int 0))) tNil))) (gName 2))
              (tSeq (tAsg (tOp (rI CDivW fun i j => .int (i / j)) (tVar 2) (tVar 1)) (gSub (tVar 0) (tC (.int 2)) rSetL))
                (tRet (tOp (rI (fun _ j => 0 < j) fun i j => .int (i % j)) (tCB (fun xs H Q => (∃ i, xs = [.int i] ∧ Q (.int i) H) ∨ ∃ k, xs = [.bl k] ∧ Q (.int (if k then 1 else 0)) H) (tCons (tVar 2) tNil)) (tVar 1))))) tNext)
          (tSeq (tAsg (tOp (rI (fun _ j => 0 < j) fun i j => .int (i % j)) (tCB (fun xs H Q => (∃ i, xs = [.int i] ∧ Q (.int i) H) ∨ ∃ k, xs = [.bl k] ∧ Q (.int (if k then 1 else 0)) H) (tCons (tOp (rI CPow fun i j => .int (i ^ j.toNat)) (tOp (rI0 fun i j => .int (i + j)) (tOp (rI0 fun i j => .int (i + j)) (tOp (rI (fun _ j => 0 < j) fun i j => .int (i % j)) (tCB (fun xs H Q => (∃ i, xs = [.int i] ∧ Q (.int i) H) ∨ ∃ k, xs = [.bl k] ∧ Q (.int (if k then 1 else 0)) H) (tCons (tVar 4) tNil)) (tC (.int 2147483563))) (tOp (rI CMul fun i j => .int (i * j)) (tC (.int 42061)) (tVar 3))) (tC (.int 7043))) (tC (.int 5))) tNil)) (tC (.int 2147483629))) (gName 5))
          (tSeq (tAsg (tOp (rI (fun _ j => 0 < j) fun i j => .int (i % j)) (tCB (fun xs H Q => (∃ i, xs = [.int i] ∧ Q (.int i) H) ∨ ∃ k, xs = [.bl k] ∧ Q (.int (if k then 1 else 0)) H) (tCons (tOp (rI CPow fun i j => .int (i ^ j.toNat)) (tOp (rI0 fun i j => .int (i + j)) (tOp (rI0 fun i j => .int (i + j)) (tOp (rI CMul fun i j => .int (i * j)) (tVar 5) (tOp (rI0 fun i j => .int (i + j)) (tOp (rI CMul fun i j => .int (i * j)) (tC (.int 2)) (tVar 3)) (tC (.int 7043)))) (tOp (rI CMul fun i j => .int (i * j)) (tOp (rI CMul fun i j => .int (i * j)) (tC (.int 64037)) (tVar 3)) (tVar 3))) (tC (.int 42061))) (tC (.int 3))) tNil)) (tC (.int 2147483587))) (gName 5))
            (tRet (tOp (rI (fun _ j => 0 < j) fun i j => .int (i % j)) (tCB (fun xs H Q => (∃ i, xs = [.int i] ∧ Q (.int i) H) ∨ ∃ k, xs = [.bl k] ∧ Q (.int (if k then 1 else 0)) H) (tCons (tOp (rI CDivW fun i j => .int (i / j)) (tVar 5) (tC (.int 32))) tNil)) (tVar 1))))))
          { nx := fun _ H' => Q .non H', rt := Q } [some (.ref c), some (.int many), none, some (.int a), some (.int x), none] H2 := by
        intro x H2 hc2 hd2 sb
        have mixed : (tSeq (tAsg (tOp (rI (fun _ j => 0 < j) fun i j => .int (i % j)) (tCB (fun xs H Q => (∃ i, xs = [.int i] ∧ Q (.int i) H) ∨ ∃ k, xs = [.bl k] ∧ Q (.int (if k then 1 else 0)) H) (tCons (tOp (rI CPow fun i j => .int (i ^ j.toNat)) (tOp (rI0 fun i j => .int (i + j)) (tOp (rI0 fun i j => .int (i + j)) (tOp (rI (fun _ j => 0 < j) fun i j => .int (i % j)) (tCB (fun xs H Q => (∃ i, xs = [.int i] ∧ Q (.int i) H) ∨ ∃ k, xs = [.bl k] ∧ Q (.int (if k then 1 else 0)) H) (tCons (tVar 4) tNil)) (tC (.int 2147483563))) (tOp (rI CMul fun i j => .int (i * j)) (tC (.int 42061)) (tVar 3))) (tC (.int 7043))) (tC (.int 5))) tNil)) (tC (.int 2147483629))) (gName 5))
          (tSeq (tAsg (tOp (rI (fun _ j => 0 < j) fun i j => .int (i % j)) (tCB (fun xs H Q => (∃ i, xs = [.int i] ∧ Q (.int i) H) ∨ ∃ k, xs = [.bl k] ∧ Q (.int (if k then 1 else 0)) H) (tCons (tOp (rI CPow fun i j => .int (i ^ j.toNat)) (tOp (rI0 fun i j => .int (i + j)) (tOp (rI0 fun i j => .int (i + j)) (tOp (rI CMul fun i j => .int (i * j)) (tVar 5) (tOp (rI0 fun i j => .int (i + j)) (tOp (rI CMul fun i j => .int (i * j)) (tC (.int 2)) (tVar 3)) (tC (.int 7043)))) (tOp (rI CMul fun i j => .int (i * j)) (tOp (rI CMul fun i j => .int (i * j)) (tC (.int 64037)) (tVar 3)) (tVar 3))) (tC (.int 42061))) (tC (.int 3))) tNil)) (tC (.int 2147483587))) (gName 5))
            (tRet (tOp (rI (fun _ j => 0 < j) fun i j => .int (i % j)) (tCB (fun xs H Q => (∃ i, xs = [.int i] ∧ Q (.int i) H) ∨ ∃ k, xs = [.bl k] ∧ Q (.int (if k then 1 else 0)) H) (tCons (tOp (rI CDivW fun i j => .int (i / j)) (tVar 5) (tC (.int 32))) tNil)) (tVar 1)))))
          { nx := fun _ H' => Q .non H', rt := Q } [some (.ref c), some (.int many), none, some (.int a), some (.int x), none] H2 := by
          have b1 := mod_rng (i := x) (j := 2147483563) (by decide)
          refine ⟨_, rfl, .inl ⟨x, rfl, x, 2147483563, rfl, rfl, (by show (0 : Int) < 2147483563; decide), ?_⟩⟩
          refine ⟨_, rfl, 42061, a, rfl, rfl, .inl ⟨by decide, by decide⟩, _, _, rfl, rfl, _, 7043, rfl, rfl, _, 5, rfl, rfl, ⟨by decide, by decide, ?_⟩, .inl ⟨_, rfl, _, 2147483629, rfl, rfl, (by show (0 : Int) < 2147483629; decide), ?_⟩⟩
          · generalize x % 2147483563 = z at b1 ⊢
            omega
          · dsimp only
            generalize ((x % 2147483563 + 42061 * a + 7043) ^ (5 : Int).toNat) = y
            have b2 := mod_rng (i := y) (j := 2147483629) (by decide)
            generalize y % 2147483629 = z at b2 ⊢
            refine ⟨_, rfl, _, rfl, 2, a, rfl, rfl, .inl ⟨by decide, by decide⟩, _, 7043, rfl, rfl, z, _, rfl, rfl, .inl ⟨by omega, by omega⟩, ?_⟩
            refine ⟨_, rfl, 64037, a, rfl, rfl, .inl ⟨by decide, by decide⟩, _, rfl, _, a, rfl, rfl, .inr ⟨by omega, by omega⟩, _, _, rfl, rfl, _, 42061, rfl, rfl, _, 3, rfl, rfl, ⟨by decide, by decide, ?_⟩, .inl ⟨_, rfl, _, 2147483587, rfl, rfl, (by show (0 : Int) < 2147483587; decide), ?_⟩⟩
            · exact mix_bound ha0 (by omega) b2.1 b2.2
            · dsimp only
              generalize ((z * (2 * a + 7043) + 64037 * a * a + 42061) ^ (3 : Int).toNat) = y2
              refine ⟨_, rfl, _, 32, rfl, rfl, wide_div (b := 10) (by decide) (by decide) (by decide) (by decide), .inl ⟨_, rfl, _, rfl, _, many, rfl, rfl, hp, ?_⟩⟩
              exact k _ _ (mod_rng hp).1 (mod_rng hp).2 ⟨hl, ncd, hd2, a + 1, 0, hc2, by omega, by omega, by decide⟩ sb
        refine ⟨_, rfl, _, rfl, c, _, 0, _, rfl, rfl, .of hc2, atI_nat (j := 0) rfl, ⟨d, ns.map V.int, rfl, .inl (.of hd2), a, _, rfl, rfl, _, rfl, ?_⟩⟩
        by_cases c1 : a < ((ns.map V.int).length : Nat)
        · rw [decide_eq_true c1]
          refine iteT ⟨_, rfl, x, rfl, 10, 18, rfl, rfl, ⟨by decide, by decide, by decide⟩, _, _, rfl, rfl, _, rfl, ?_⟩
          generalize hP : (10 : Int) ^ (18 : Int).toNat = P
          by_cases c2 : P ≤ (if x < 0 then -x else x)
          · rw [decide_eq_true c2]
            refine iteT ⟨_, rfl, x, rfl, 10, 18, rfl, rfl, ⟨by decide, by decide, by decide⟩, _, _, rfl, rfl, 2, _, rfl, rfl, .inl ⟨by decide, by decide⟩, ?_⟩
            rw [hP]
            refine ⟨_, rfl, x, 0, rfl, rfl, .inr ⟨_, rfl, _, _, rfl, rfl, ?_⟩⟩
            dsimp only
            generalize hz : 2 * ((if x < 0 then -x else x) - P) + (if (decide (x < 0)) = true then 1 else 0) = z
            have hz0 : 0 ≤ z := by
              rw [← hz]
              split <;> omega
            refine ⟨_, rfl, _, rfl, z, many, rfl, rfl, hdiv z, _, rfl, c, _, 2, 2, rfl, rfl, hc2, rfl, ?_⟩
            refine ⟨_, rfl, .inl ⟨z, rfl, _, rfl, z, many, rfl, rfl, hp, ?_⟩⟩
            refine k _ _ (mod_rng hp).1 (mod_rng hp).2 ⟨hl, ncd, (by rw [upd_ne (Ne.symm ncd)]; exact hd2), a + 1, z / many, upd_same, by omega, by omega, qdiv z hz0⟩ fun y o n e => ?_
            rw [upd_ne n]
            exact sb y o n e
          · rw [decide_eq_false c2]
            exact iteF mixed
        · rw [decide_eq_false c1]
          exact iteF mixed
      have sb1 : SameBut c H (upd H c (.lst [.ref d, .int (a + 1), .int 0])) := fun y o n e => by
        rw [upd_ne n]
        exact e
      refine ⟨_, rfl, c, _, 0, _, rfl, rfl, .of (upd_same), atI_nat (j := 0) rfl, ⟨(by show 0 ≤ sizeLine; decide), fun p hp2 => ?_⟩⟩
      have hp2 : (upd H c (.lst [.ref d, .int (a + 1), .int 0])) p = none := hp2
      have npc : p ≠ c := fun e => by
        rw [e, upd_same] at hp2
        cases hp2
      have npd : p ≠ d := fun e => by
        rw [e, hd1] at hp2
        cases hp2
      have hc3 : (upd (upd H c (.lst [.ref d, .int (a + 1), .int 0])) p (.lst [])) c = some (.lst [.ref d, .int (a + 1), .int 0]) := by
        rw [upd_ne (Ne.symm npc), upd_same]
      have hd3 : (upd (upd H c (.lst [.ref d, .int (a + 1), .int 0])) p (.lst [])) d = some (.lst (ns.map V.int)) := by
        rw [upd_ne (Ne.symm npd)]
        exact hd1
      have sb3 : SameBut c H (upd (upd H c (.lst [.ref d, .int (a + 1), .int 0])) p (.lst [])) := fun y o n e => by
        have e1 := sb1 y o n e
        rw [upd_ne (ne_of_none e1 hp2)]
        exact e1
      refine ⟨.list ((ns.map V.int).map toD), .list [], dpL (.of hd3) (flat_ints ns), dpNil (.of upd_same), shapedL (flat_ints ns), shapedNil, _, rfl, ?_⟩
      rw [eqvNil]
      cases hns : (ns.map V.int).isEmpty with
      | true => exact iteF (tail _ _ hc3 hd3 sb3)
      | false =>
        refine iteT ?_
        have hlen : 0 < ns.length := by
          cases ns with
          | nil => cases hns
          | cons n1 nr => exact Nat.succ_pos _
        refine ⟨_, rfl, c, _, 0, _, rfl, rfl, .of hc3, atI_nat (j := 0) rfl, _, rfl, .inl ⟨a, rfl, _, rfl, c, _, 0, _, rfl, rfl, .of hc3, atI_nat (j := 0) rfl, d, ns.map V.int, rfl, .inl (.of hd3), a, _, rfl, rfl, ?_, ?_⟩⟩
        · rw [List.length_map]
          show (0 : Int) < (ns.length : Int)
          omega
        · have hb2 := mod_rng (i := a) (j := ((ns.map V.int).length : Nat)) (by rw [List.length_map]; omega)
          rw [List.length_map] at hb2 ⊢
          dsimp only
          generalize hz : a % (ns.length : Int) = z at hb2 ⊢
          obtain ⟨j, rfl⟩ : ∃ j : Nat, z = (j : Int) := ⟨z.toNat, by omega⟩
          have hj : j < ns.length := by omega
          refine ⟨d, ns.map V.int, _, .int ns[j], rfl, rfl, .of hd3, atI_nat (by simp [hj]), ?_⟩
          exact tail _ _ hc3 hd3 sb3
end
end K0


set_option Elab.async false
set_option linter.all false
set_option maxRecDepth 100000
set_option maxHeartbeats 4000000
set_option exponentiation.threshold 100000
namespace K0
open PySem PySem.Spec PyProof.Rows L2 RZ K0z

theorem Coil.but {H H' : Hp} {c d : Addr} {ns : List Int} {m : Nat} (h : Coil H c d ns m) (s : Same H H') : Coil H' c d ns m := by
  obtain ⟨h1, h2, h3, a, b, h4, r⟩ := h
  exact ⟨h1, h2, s _ _ h3, a, b, s _ _ h4, r⟩
theorem Coil.ne {H : Hp} {c d : Addr} {ns : List Int} {m : Nat} (h : Coil H c d ns m) {p : Addr} (hp : H p = none) : p ≠ c ∧ p ≠ d := by
  obtain ⟨h1, h2, h3, a, b, h4, r⟩ := h
  exact ⟨fun e => (by rw [e, h4] at hp; cases hp), fun e => (by rw [e, h3] at hp; cases hp)⟩
theorem Coil.upd {H : Hp} {p c d : Addr} {o : HO} {ns : List Int} {m : Nat} (h : Coil H c d ns m) (hc : p ≠ c) (hd : p ≠ d) : Coil (upd H p o) c d ns m := by
  obtain ⟨h1, h2, h3, a, b, h4, r⟩ := h
  exact ⟨h1, h2, by rw [upd_ne (Ne.symm hd)]; exact h3, a, b, by rw [upd_ne (Ne.symm hc)]; exact h4, r⟩
theorem Coil.more {H : Hp} {c d : Addr} {ns : List Int} {m m' : Nat} (h : Coil H c d ns m) (l : m ≤ m') : Coil H c d ns m' := by
  obtain ⟨h1, h2, h3, a, b, h4, h5, h6, h7⟩ := h
  exact ⟨h1, h2, h3, a, b, h4, h5, by omega, h7⟩
theorem SameBut.off {c : Addr} {H H' : Hp} (s : SameBut c H H') : Same (Off c H) (Off c H') := same_off s
theorem SameBut.up {c : Addr} {H H' : Hp} (s : SameBut c H H') : Same (Off c H) H' := s.off.trans (off_same c H')
theorem sameBut_of {c : Addr} {H H' : Hp} (s : Same (Off c H) H') : SameBut c H H' := fun b o n e => s b o (by rw [off_ne n]; exact e)
theorem new_but {c : Addr} {H : Hp} {p : Addr} {o : HO} (hp : H p = none) : SameBut c H (upd H p o) := SameBut.of (same_upd hp)
section
variable {P : Program} {w : World} {K : PySem.W.Frag} {mg : Str → Option Value} {base : Heap} {f g g2 g3 : Addr} {fd : FuncData}
def spOne (K : PySem.W.Frag) : Sp := fun vs H Q _ => ∃ (c d : Addr) (ns : List Int) (m : Nat) (b : Bool) (a : Addr) (xs : List V), vs = [.ref c, .ref a] ∧ Coil H c d ns m ∧ m ≤ 100000 ∧ SqB K b (Off c H) a xs ∧ 0 < xs.length ∧ xs.length ≤ 100000 ∧
  ∀ (i : Nat) (y : V) (H' : Hp), xs[i]? = some y → Coil H' c d ns (m + 1) → SameBut c H H' → Q y H'
theorem sc_one_of : FnScope ["keg", "some"] ["keg", "some"] (defScope st__law_choose) := ⟨rfl, rfl, rfl, by decide +kernel, rfl, by decide +kernel, by decide +kernel⟩
theorem natAbs_small {n k : Nat} (h : n ≤ 100000) : ((n : Nat) : Int).natAbs < 2 ^ 9000 := by
  have : (100000 : Nat) < 2 ^ 9000 := Nat.lt_of_lt_of_le (by decide : 100000 < 2 ^ 17) (Nat.pow_le_pow_right (by decide) (by decide))
  omega
theorem small9000 {n : Int} (h : n.natAbs < 2 ^ 200) : n.natAbs < 2 ^ 9000 := Nat.lt_of_lt_of_le h (Nat.pow_le_pow_right (by decide) (by decide))
theorem ok_one_of (F : Fun K "_law_choose" "_law_choose" st__law_choose f fd) (T : Nm mg) (D__law_tap : Dn P w K mg base 1 "_law_tap" g ["keg", "many"] spTurn) : FnOk P w K mg base CX0 2 f fd ["keg", "some"] (spOne K) := by
  refine F.ok sc_one_of (fun vs H Q E h => ?_) (fun cdv A outer s H vs Q E hr h => ?_)
  · obtain ⟨c, d, ns, m, b, a, xs, rfl, _⟩ := h
    rfl
  · obtain ⟨c, d, ns, m, b, a, xs, rfl, hC, hm, hx, h0, h1, k⟩ := h
    refine ⟨_, (pss_one (ps_ret (pe_ix (ix_K K) (pv 1) (pe_dn D__law_tap (hr.mono (by decide)) rfl (pa_cons (pv 0) (pa_cons (pe_callB (call_lenK K) (by rfl) T.n_len (by decide +kernel) (pa_cons (pv 1) pa_nil)) pa_nil))) (fun _ _ => rfl)))), ?_⟩
    refine ⟨_, rfl, _, rfl, _, rfl, b, a, xs, rfl, hx.same (off_same c H), c, d, ns, m, (xs.length : Nat), rfl, hC, hm, by omega, natAbs_small (k := 0) h1, fun r H1 r0 r1 hC1 sb => ?_⟩
    obtain ⟨j, rfl⟩ : ∃ j : Nat, r = (j : Int) := ⟨r.toNat, by omega⟩
    have hj : j < xs.length := by omega
    have e := List.getElem?_eq_getElem hj
    exact ⟨b, a, xs, _, _, rfl, rfl, hx.same sb.up, atI_nat e, k j _ H1 e hC1 sb⟩
/-! ### stirred -/
theorem perm_erase {α : Type} : ∀ (l : List α) (j : Nat) (h : j < l.length), ([l[j]] ++ l.eraseIdx j).Perm l
  | a :: l, 0, _ => List.Perm.refl _
  | a :: l, j + 1, h => by
    have hj : j < l.length := by simpa using h
    have ih := perm_erase l j hj
    show (l[j] :: a :: l.eraseIdx j).Perm (a :: l)
    exact (List.Perm.swap a l[j] _).trans (List.Perm.cons a ih)

def spStir (K : PySem.W.Frag) : Sp := fun vs H Q _ => ∃ (c d : Addr) (ns : List Int) (m : Nat) (b : Bool) (a : Addr) (xs : List V), vs = [.ref c, .ref a] ∧ Coil H c d ns m ∧ m + 100 ≤ 100000 ∧ SqB K b (Off c H) a xs ∧ xs.length ≤ 60 ∧
  ∀ (p : Addr) (ys : List V) (H' : Hp), ys.Perm xs → H p = none → p ≠ c → p ≠ d → H' p = some (.lst ys) → Coil H' c d ns (m + xs.length) → SameBut c H H' → Q (.ref p) H'
theorem sc_stirred : FnScope ["keg", "some", "left", "found"] ["keg", "some"] (defScope st__law_stirred) := ⟨rfl, rfl, rfl, by decide +kernel, rfl, by decide +kernel, by decide +kernel⟩
theorem ok_stirred (F : Fun K "_law_stirred" "_law_stirred" st__law_stirred f fd) (T : Nm mg) (D__law_tap : Dn P w K mg base 1 "_law_tap" g ["keg", "many"] spTurn) : FnOk P w K mg base CX0 2 f fd ["keg", "some"] (spStir K) := by
  refine F.ok sc_stirred (fun vs H Q E h => ?_) (fun cdv A outer s H vs Q E hr h => ?_)
  · obtain ⟨c, d, ns, m, b, a, xs, rfl, _⟩ := h
    rfl
  · obtain ⟨c, d, ns, m, b, a, xs, rfl, hC, hm, hx, hz, k⟩ := h
    refine ⟨_, (pss_cons (ps_par (i := 2) (j := 3) (by rfl) sc_stirred.nd rfl rfl (by decide) rfl rfl (pa_cons (pe_callTy (call_listK K) (by rfl) T.n_list (by decide +kernel) (pa_cons (pv 1) pa_nil)) (pa_cons (pe_lst pa_nil) pa_nil)) (by rfl))
    (pss_cons (ps_while PassesOwn.never (pt_cmpR (op_neNil K hr.units) (pv 2) (pe_lst pa_nil) (nomark _)) (pss_one (ps_expr (pe_bm PySem.F.plainAttrs_list PySem.F.slot_list_append PySem.F.type_list_append mt_append (pv 3) (pa_cons (pe_bm PySem.F.plainAttrs_list PySem.F.slot_list_pop PySem.F.type_list_pop mt_popAt (pv 2) (pa_cons (pe_dn D__law_tap (hr.mono (by decide)) rfl (pa_cons (pv 0) (pa_cons (pe_callB (call_lenK K) (by rfl) T.n_len (by decide +kernel) (pa_cons (pv 2) pa_nil)) pa_nil))) pa_nil)) pa_nil)))))
    (pss_one (ps_ret (pv 3))))), ?_⟩
    refine ⟨_, rfl, b, a, xs, rfl, hx.same (off_same c H), fun L hL => ⟨(by show 0 ≤ sizeLine; decide), fun Fd hF => ⟨_, _, rfl, ?_⟩⟩⟩
    have nLF : L ≠ Fd := fun e => by rw [← e, upd_same] at hF; cases hF
    obtain ⟨nLc, nLd⟩ := hC.ne hL
    have hC1 := hC.upd (o := .lst xs) nLc nLd
    obtain ⟨nFc, nFd⟩ := hC1.ne hF
    have hC2 := hC1.upd (o := .lst []) nFc nFd
    have hFH : H Fd = none := by rw [upd_ne (Ne.symm nLF)] at hF; exact hF
    refine while_by (fun σ H2 => σ = [some (.ref c), some (.ref a), some (.ref L), some (.ref Fd)] ∧ ∃ ls fs : List V, H2 L = some (.lst ls) ∧ H2 Fd = some (.lst fs) ∧ (fs ++ ls).Perm xs ∧ Coil H2 c d ns (m + fs.length) ∧ SameBut c H H2)
      (fun σ H2 => match H2 L with | some (.lst l) => l.length | _ => 0) ⟨rfl, xs, [], ?_, upd_same, by simp, hC2, ?_⟩ ?_ ?_
    · rw [upd_ne nLF, upd_same]
    · exact (new_but hL).trans (new_but hF)
    · rintro σ H2 ⟨rfl, ls, fs, h1, h2, hp, hC3, sb⟩
      refine ⟨_, rfl, (by show 0 ≤ sizeLine; decide), fun p hpn => ⟨L, p, ls, rfl, rfl, .of ?_, .of upd_same, _, rfl, ?_⟩⟩
      · rw [upd_ne (ne_of_none h1 hpn)]; exact h1
      have s2 : Same H2 (upd H2 p (.lst [])) := same_upd hpn
      have lp : fs.length + ls.length = xs.length := by rw [← List.length_append]; exact hp.length_eq
      cases ls with
      | nil =>
        refine iteF ⟨_, rfl, ?_⟩
        rw [List.append_nil] at hp
        have hf : fs.length = xs.length := hp.length_eq
        rw [hf] at hC3
        exact k Fd fs _ hp hFH nFc nFd (s2 _ _ h2) (hC3.but s2) (sb.trans (SameBut.of s2))
      | cons l0 lr =>
        refine iteT ?_
        have hlen : (l0 :: lr).length = lr.length + 1 := rfl
        refine ⟨.ref Fd, rfl, .inl ⟨rfl, _, .of (s2 _ _ h2)⟩, .ref L, rfl, .inl ⟨rfl, _, .of (s2 _ _ h1)⟩, _, rfl, _, rfl, false, L, _, rfl, .of (s2 _ _ h1), c, d, ns, _, _, rfl, hC3.but s2, by omega, by rw [hlen]; omega, natAbs_small (k := 0) (by omega), fun r H3 r0 r1 hC4 sb4 => ?_⟩
        obtain ⟨j, rfl⟩ : ∃ j : Nat, r = (j : Int) := ⟨r.toNat, by omega⟩
        have hj : j < (l0 :: lr).length := by omega
        have e := List.getElem?_eq_getElem hj
        have h31 := sb4 _ _ nLc (s2 _ _ h1)
        have h32 := sb4 _ _ nFc (s2 _ _ h2)
        refine ⟨L, l0 :: lr, (j : Nat), j, _, rfl, rfl, h31, by omega, by omega, PySem.seqIndex_of (by omega) (by omega), e, ?_⟩
        refine ⟨Fd, fs, _, rfl, rfl, by rw [upd_ne (Ne.symm nLF)]; exact h32, Nat.lt_of_le_of_lt (by omega : fs.length ≤ 60) (by decide), ?_⟩
        have nl : ((l0 :: lr).eraseIdx j).length = lr.length := by rw [List.length_eraseIdx_of_lt hj]; rfl
        refine ⟨⟨rfl, (l0 :: lr).eraseIdx j, fs ++ [(l0 :: lr)[j]], ?_, upd_same, ?_, ?_, ?_⟩, ?_⟩
        · rw [upd_ne nLF, upd_same]
        · refine List.Perm.trans ?_ hp
          rw [List.append_assoc]
          refine List.Perm.append_left fs ?_
          exact perm_erase _ j hj
        · rw [List.length_append]
          exact (hC4.upd nLc nLd).upd nFc nFd
        · intro x o n e
          rw [upd_ne (ne_of_none e hFH), upd_ne (ne_of_none e hL)]
          exact sb4 x o n (s2 x o (sb x o n e))
        · have e1 : upd (upd H3 L (.lst ((l0 :: lr).eraseIdx j))) Fd (.lst (fs ++ [(l0 :: lr)[j]])) L = some (.lst ((l0 :: lr).eraseIdx j)) := by rw [upd_ne nLF, upd_same]
          rw [e1, h1]
          show ((l0 :: lr).eraseIdx j).length < (l0 :: lr).length
          rw [nl]
          exact Nat.lt_succ_self _
    · rintro σ H2 Q1 Q2 hh ⟨v, e1, h1, z⟩
      refine ⟨v, e1, h1, fun p hp => ?_⟩
      obtain ⟨a1, b1, xs1, q1, q2, q3, q4, kk, q5, q6⟩ := z p hp
      exact ⟨a1, b1, xs1, q1, q2, q3, q4, kk, q5, hh _ _ q6⟩
end
end K0


set_option Elab.async false
set_option linter.all false
set_option maxRecDepth 100000
set_option maxHeartbeats 4000000
namespace K0
open PySem PySem.Spec PyProof.Rows L2 RZ K0z

/-! ### sorted of a list or a tuple -/
section
variable {prog : Program} {w : World} {A : Around} {E : Value → Shared → Prop} {s : Shared}
theorem collect_tup {l : Addr} {vs : List Value} {Q : List Value → Shared → Prop} (hl : s.heap.IsTuple l vs.toArray)
    (h : Q vs { s with heap := (s.heap.push (seqObj "list" #[] 0)).update s.heap.objs.size (Obj.mapSeq (· ++ vs.toArray)) }) (hsz : vs.length ≤ sizeLine) :
    wpAny (model prog w) A (collect (.ref l)) Q E s := by
  obtain ⟨o, ho, hc, n, hd⟩ := id hl
  unfold collect
  refine wpAny_bind (wpAny_runValue (codeAny_builtin entry_proto_collect' ?_))
  show wpAny _ _ (do again (.builtin "list.__iadd__" ⟨[← newList [], .ref l], []⟩)) _ _ s
  refine wpAny_bind (wpAny_newList (wpAny_pure ⟨Code.quiet_builtin _ (by decide +kernel), codeAny_builtin entry_list_iadd' ?_⟩))
  show wpAny _ _ (Builtin.List.listExtendWith (.ref s.heap.objs.size) (.ref l) (.ref s.heap.objs.size)) _ _ { s with heap := s.heap.push (seqObj "list" #[] 0) }
  unfold Builtin.List.listExtendWith
  have ho' : (s.heap.push (seqObj "list" #[] 0)).get? l = some o := Heap.get?_push_of_some _ ho
  refine wpAny_bind (wpAny_typeOf (T := "tuple") ⟨o, ho', hc⟩ ?_)
  have ht : (Value.type "tuple" == Value.type "tuple") = true := by rfl
  rw [if_pos (by rw [ht]; simp)]
  refine wpAny_bind (listItems_at ho' hd ?_)
  refine wpAny_bind (listItems_at (xs := #[]) (n := 0) (Heap.get?_push_size _ rfl) rfl ?_)
  rw [if_neg (by simp)]
  refine wpAny_bind (listUpdate_at (xs := #[]) (n := 0) (Heap.get?_push_size _ rfl) rfl ?_ (Nat.zero_le _) (by show (#[] ++ vs.toArray).size ≤ sizeLine + 1; simp only [Array.size_append, List.size_toArray, List.length_nil]; omega))
  refine wpAny_pure ?_
  show wpAny (model prog w) A (do
      let o ← load s.heap.objs.size
      match o.data with
      | .seq xs _ => pure xs.toList
      | _ => unsupported "internal:collect") Q E { s with heap := (s.heap.push (seqObj "list" #[] 0)).update s.heap.objs.size (Obj.mapSeq (· ++ vs.toArray)) }
  refine wpAny_bind (wpAny_load (get?_update_seq (Heap.get?_push_size _ rfl) _) ?_)
  show wpAny _ _ (pure ((#[] : Array Value) ++ vs.toArray).toList) Q E _
  rw [show ((#[] : Array Value) ++ vs.toArray).toList = vs by simp]
  exact wpAny_pure h
theorem sorted_tints {l : Addr} {vs : List Value} {ns : List Int} {Q : Value → Shared → Prop} (hl : s.heap.IsTuple l vs.toArray) (hI : IntsAre vs ns) (h64 : vs.length < 64)
    (h : ∀ (out : Array Value) (ns' : List Int), IntsAre out.toList ns' → ns'.Perm ns → ns'.Pairwise (· ≤ ·) → Q (.ref (s.heap.objs.size + 1)) { s with heap := sortedAll s.heap vs out }) :
    wpAny (model prog w) A (call (.builtin "sorted") [.ref l]) Q E s := by
  refine Calls.call_function_entry kind_sorted plain_sorted entry_sorted (args_sorted1 _) ?_
  unfold Builtin.«sorted»
  refine wpAny_bind (m := checkCount "sorted" 1 1 _) (wpAny_pure ?_)
  refine wpAny_bind (collect_tup hl ?_ (small64 h64))
  refine wpAny_bind (wpAny_newList ?_ (small64 h64))
  have hsz : ((s.heap.push (seqObj "list" #[] 0)).update s.heap.objs.size (Obj.mapSeq (· ++ vs.toArray))).objs.size = s.heap.objs.size + 1 := by
    rw [Heap.size_update, size_push']
  have hoL : (((s.heap.push (seqObj "list" #[] 0)).update s.heap.objs.size (Obj.mapSeq (· ++ vs.toArray))).push (seqObj "list" vs.toArray 0)).get? (s.heap.objs.size + 1) = some (seqObj "list" vs.toArray 0) := by
    rw [← hsz]; exact Heap.get?_push_size _ rfl
  show wpAny _ _ _ _ _ { s with heap := ((s.heap.push (seqObj "list" #[] 0)).update s.heap.objs.size (Obj.mapSeq (· ++ vs.toArray))).push (seqObj "list" vs.toArray 0) }
  rw [hsz]
  refine wpAny_bind (wpAny_holding (wpAny_call_entry slot_list_sort ⟨_, hoL, rfl⟩ entry_list_sort (list_sort_tree hoL hI h64 fun out ns' a1 a2 a3 => ⟨_, rfl, ?_⟩) (args_list_sort _)))
  exact wpAny_pure ⟨_, rfl, h out ns' a1 a2 a3⟩
end
def rSortB (K : PySem.W.Frag) : List V → Hp → VK → Prop := fun vs H Q => ∃ (b : Bool) (a : Addr) (ns : List Int), vs = [V.ref a] ∧ SqB K b H a (ns.map V.int) ∧ ns.length < 64 ∧
  ∀ (ns' : List Int) (p : Addr), ns'.Perm ns → ns'.Pairwise (· ≤ ·) → H p = none → Q (.ref p) (upd H p (.lst (ns'.map V.int)))
theorem cr_sortB {X : Cx} (K : PySem.W.Frag) (eK : X.K = K := by rfl) : CallR X (.builtin "sorted") (rSortB K) := by
  subst eK
  intro pins s σ H vs us Q I r h
  obtain ⟨b, a, ns, rfl, hs, h64, q⟩ := h
  cases b with
  | false => exact cr_sorted pins s σ H _ us Q I r ⟨a, ns, rfl, hs, h64, q⟩
  | true =>
    obtain ⟨its, rv, hl, _⟩ := I.tuple hs
    rw [Vals.ref1 r]
    have hi := rv.ints
    refine sorted_tints hl hi (by rw [hi.length]; exact h64) fun out ns' h1 h2 h3 => ?_
    obtain ⟨ep, he'⟩ := PyProof.Rows.sortedAll_at s.heap its out
    have hlen : (ns'.map V.int).length ≤ sizeLine := by rw [List.length_map, h2.length_eq]; exact small64 h64
    exact ⟨.ref _, upd H (s.heap.objs.size + 1) (.lst (ns'.map V.int)), I.laid (t' := s.toks) (fun _ _ => PyProof.Rows.sortedAll_old) (Nat.le_succ _) ⟨hlen, out.toList, ep, vals_of_ints h1, he'⟩, rfl, q ns' _ h2 h3 (I.hok.fresh (Nat.le_succ _))⟩

/-! ### t.index(n) -/
theorem mt_tixI {X : Cx} : MtR X "tuple.index" (fun x xs H Q => ∃ (a : Addr) (ns : List Int) (k : Int), x = .ref a ∧ xs = [.int k] ∧ SqT X.K H a (ns.map V.int) ∧ k ∈ ns ∧ Q (.int (ns.idxOf k : Nat)) H) := by
  intro pins s σ H x xs v us Q I rx rxs h
  obtain ⟨a, ns, k, rfl, rfl, hs, hk, q⟩ := h
  cases rx
  obtain ⟨u, rfl, t, rfl⟩ := vals1 rxs
  obtain ⟨its, rv, hl, _⟩ := I.tuple hs
  exact PySem.SeqAt.tuple_index_ints hl rv.ints hk ⟨.int (ns.idxOf k : Nat), H, I.tok _, ⟨_, rfl⟩, q⟩
theorem mt_lixI {X : Cx} : MtR X "list.index" (fun x xs H Q => ∃ (a : Addr) (ns : List Int) (k : Int), x = .ref a ∧ xs = [.int k] ∧ SqL X.K H a (ns.map V.int) ∧ ns.length ≤ 1000 ∧ k ∈ ns ∧ Q (.int (ns.idxOf k : Nat)) H) := by
  intro pins s σ H x xs v us Q I rx rxs h
  obtain ⟨a, ns, k, rfl, rfl, hs, hz, hk, q⟩ := h
  cases rx
  obtain ⟨u, rfl, t, rfl⟩ := vals1 rxs
  obtain ⟨its, rv, hl, _⟩ := I.list hs
  exact PySem.SeqAt.list_index_ints hl.isList rv.ints (by rw [sizeLine_eq]; omega) hk ⟨.int (ns.idxOf k : Nat), H, I.tok _, ⟨_, rfl⟩, q⟩

/-! ### methods called with keywords, static methods -/
section
variable {X : Cx} {CX : CXT} {k : Nat} {f C p g : Addr} {mc : Value} {fd : FuncData} {ps ks : List Str} {sp : Sp} {E : XK} {x m : Str} {pos apos : Pos} {e o : Expr} {es : List Expr} {kws : List Keyword} {ta : TE} {t tk : TA} {pl : Sem Bool} {gg : List Value → List Value → List Value} {gV : List V → List V → List V}
theorem run_fnn {n : Nat} {pins : List (Addr × Obj)} {σ : L2.St} {H : Hp} {s : Shared} {Q : VK} {us ws : List Value} {vs zs : List V} (F : FnOk X.prog X.w X.K X.mg X.base CX k f fd ps sp) (hr : Room k X.A) (hb : KBn X.K fd ps n ks gg gV) (hx : Passes CX X E)
    (I : Inv X pins σ H s) (r : Vals vs us) (rz : Vals zs ws) (l1 : vs.length = n) (l2 : zs.length = ks.length) (h : sp (gV vs zs) H Q E) : wpAny (model X.prog X.w) X.A (call (.ref f) us (ks.zip ws)) (EP X pins σ Q) X.xe s := by
  have r2 := hb.rel r rz
  refine wpAny_call (codeAny_mono (F.run X.A X.stack s H ⟨us, ks.zip ws⟩ (gg us ws) (gV vs zs) Q E hr I.env0 (hb.to s us ws I.kIn (r.length.symm.trans l1) (rz.length.symm.trans l2)) r2 h) fun r s' hq => ?_)
  cases r with
  | error e => exact hx pins σ H s e s' I hq
  | ok fl =>
    cases fl with
    | ret u => exact I.after hq
    | next => exact False.elim hq
    | brk => exact False.elim hq
    | cont => exact False.elim hq
/-- o.m(k = v, ..) -/
theorem pe_methN (he : PE X o ta) (c : Cls X.K C) (hm : Meth X.K C m f) (F : FnOk X.prog X.w X.K X.mg X.base CX k f fd ps sp) (hr : Room k X.A) (hb : KBn X.K fd ps 1 ks gg gV) (hx : Passes CX X E) (hkw : PK X kws tk)
    (hall : (backToKw pos (keywordEach kws X.env)).all (·.1.isSome) = true := by rfl) (hks : (backToKw pos (keywordEach kws X.env)).filterMap (·.1) = ks := by rfl)
    (hpl : ((backTo pos (starEach [] X.env)).any (·.1) || (backToKw pos (keywordEach kws X.env)).any (·.1.isNone)) = false := by rfl)
    (ht : eval (.Call (.Attribute o m apos) [] kws pos) X.env = (do
      let ov ← eval o X.env
      standAt apos.atName
      let (f, first) ← holding [ov] (getMethod ov m pl)
      callWith pos f first (backTo pos (starEach [] X.env)) (backToKw pos (keywordEach kws X.env))) := by rfl) :
    PE X (.Call (.Attribute o m apos) [] kws pos) (fun σ H Q => ta σ H fun x H1 => ∃ a dx fs, x = .ref a ∧ H1 a = some (.ins C dx fs) ∧ fs.lookup m = none ∧ tk σ H1 fun zs H2 => zs.length = ks.length ∧ sp (gV [x] zs) H2 Q E) := by
  refine ⟨fun pins s σ H Q I h => ?_⟩
  refine PySem.W.methodCall_KW (pl := pl) (thn (he.run pins s σ H _ I h) fun u s1 ⟨x, H1, I1, rx, a, dx, fs, ex, ea, l, q⟩ => ?_) ht
  subst ex
  obtain rfl : u = Value.ref a := rx
  refine getmeth_ok I1 ea c hm l ?_
  refine PySem.W.callWith_KW0 (first := [.ref a]) (h₀ := X.base) I.ok.mod.kin hm.kp hall (thn (hkw.run pos pins s1 σ H1 _ I1 q) fun ws s2 ⟨zs, H2, I2, rz, l2, q2⟩ => ⟨I2.kIn, ?_⟩) hpl
  rw [hks]
  exact run_fnn (us := [.ref a]) (vs := [.ref a]) F hr hb hx I2 (.cons rfl .nil) rz rfl l2 q2
/-- C.m is a static method: its record at p, its def at g -/
structure SMet (K : PySem.W.Frag) (C : Addr) (mc : Value) (m : Str) (p g : Addr) : Prop where
  at_ : PySem.W.findCls K (.ref C) mc m = some (.get (.builtin "staticmethod.__get__") (.ref p) .none (.ref C))
  rc : ∃ rest, PySem.W.recIn K p "staticmethod" = some (.ref g :: rest)
  kp : PySem.W.keepIn K (.ref g) = true
theorem getmethsm_ok {pins : List (Addr × Obj)} {σ : L2.St} {H : Hp} {s : Shared} {A : Around} {E : Value → Shared → Prop} {Q : Value × List Value → Shared → Prop} (I : Inv X pins σ H s) (r : ClX.CRead X.K C mc) (k : SMet X.K C mc m p g)
    (h : ∀ s', Inv X pins σ H s' → Q (.ref g, []) s') : wpAny (model X.prog X.w) A (getMethod (.ref C) m pl) Q E s := by
  refine PySem.W.method_cls I.kIn r.ga ?_
  obtain ⟨rest, hp⟩ := k.rc
  refine PySem.W.cls_bind I.kIn r.rd k.at_ ?_
  refine wpAny_call (PySem.W.sm_get (s := { s with toks := s.toks + 1 }) I.kIn hp (PySem.W.handed_on rfl ?_))
  exact h _ (I.tok _)
/-- C.m(e, ..) -/
theorem pe_static (hC : X.mg x = some (.ref C)) (hg : Gl X x) (r : ClX.CRead X.K C mc) (sm : SMet X.K C mc m p g) (F : FnOk X.prog X.w X.K X.mg X.base CX k g fd ps sp) (hr : Room k X.A) (hb : Binds X.K fd ps []) (hx : Passes CX X E) (ha : PA X (e :: es) t) {npos : Pos}
    (hdb : (x == ("__debug__" : Str)) = false := by decide)
    (hst : starEach (e :: es) X.env = (false, eval e X.env) :: starEach es X.env := by rfl) (hpl : (backTo pos (starEach es X.env)).any (·.1) = false := by rfl)
    (ht : eval (.Call (.Attribute (.Name x npos) m apos) (e :: es) [] pos) X.env = (do
      let ov ← eval (.Name x npos) X.env
      standAt apos.atName
      let (f, first) ← holding [ov] (getMethod ov m pl)
      callWith pos f first (backTo pos (starEach (e :: es) X.env)) (backToKw pos (keywordEach [] X.env))) := by rfl) :
    PE X (.Call (.Attribute (.Name x npos) m apos) (e :: es) [] pos) (fun σ H Q => t σ H fun vs H1 => sp vs H1 Q E) := by
  refine ⟨fun pins s σ H Q I h => ?_⟩
  refine PySem.W.methodCall_KW (pl := pl) (ld_glob I hg hC ?_ hdb) ht
  refine getmethsm_ok I r sm fun s1 I1 => ?_
  refine PySem.W.callWith_K (first := []) (h₀ := X.base) I.ok.mod.kin sm.kp (thn (ha.run pos pins s1 σ H _ I1 h) fun us s2 ⟨vs, H2, I2, r2, q2⟩ => ⟨I2.kIn, ?_⟩) hst hpl
  have := run_fn (us := us) (vs := vs) (dvs := []) (ds := []) F hr hb .nil hx I2 r2 (by simpa using q2)
  simpa using this
/-- C.m(k = v, ..) -/
theorem pe_staticN (hC : X.mg x = some (.ref C)) (hg : Gl X x) (r : ClX.CRead X.K C mc) (sm : SMet X.K C mc m p g) (F : FnOk X.prog X.w X.K X.mg X.base CX k g fd ps sp) (hr : Room k X.A) (hb : KBn X.K fd ps 0 ks gg gV) (hx : Passes CX X E) (hkw : PK X kws tk) {npos : Pos}
    (hdb : (x == ("__debug__" : Str)) = false := by decide)
    (hall : (backToKw pos (keywordEach kws X.env)).all (·.1.isSome) = true := by rfl) (hks : (backToKw pos (keywordEach kws X.env)).filterMap (·.1) = ks := by rfl)
    (hpl : ((backTo pos (starEach [] X.env)).any (·.1) || (backToKw pos (keywordEach kws X.env)).any (·.1.isNone)) = false := by rfl)
    (ht : eval (.Call (.Attribute (.Name x npos) m apos) [] kws pos) X.env = (do
      let ov ← eval (.Name x npos) X.env
      standAt apos.atName
      let (f, first) ← holding [ov] (getMethod ov m pl)
      callWith pos f first (backTo pos (starEach [] X.env)) (backToKw pos (keywordEach kws X.env))) := by rfl) :
    PE X (.Call (.Attribute (.Name x npos) m apos) [] kws pos) (fun σ H Q => tk σ H fun zs H1 => zs.length = ks.length ∧ sp (gV [] zs) H1 Q E) := by
  refine ⟨fun pins s σ H Q I h => ?_⟩
  refine PySem.W.methodCall_KW (pl := pl) (ld_glob I hg hC ?_ hdb) ht
  refine getmethsm_ok I r sm fun s1 I1 => ?_
  refine PySem.W.callWith_KW0 (first := []) (h₀ := X.base) I.ok.mod.kin sm.kp hall (thn (hkw.run pos pins s1 σ H _ I1 h) fun ws s2 ⟨zs, H2, I2, rz, l2, q2⟩ => ⟨I2.kIn, ?_⟩) hpl
  rw [hks]
  exact run_fnn (us := []) (vs := []) F hr hb hx I2 .nil rz rfl l2 q2
/-- C(k = v, ..), keywords alone -/
theorem pe_makeN0 (M : Mk X.K C f) (F : FnOk X.prog X.w X.K X.mg X.base CX k f fd ps sp) (hr : Room (k + 1) X.A) (hg : Gl X x) (hm : X.mg x = some (.ref C)) (hb : KBn X.K fd ps 1 ks gg gV) (hx : Passes CX X E) {npos : Pos}
    (hkw : PK X kws tk) (hall : (backToKw pos (keywordEach kws X.env)).all (·.1.isSome) = true := by rfl) (hks : (backToKw pos (keywordEach kws X.env)).filterMap (·.1) = ks := by rfl)
    (hdb : (x == ("__debug__" : Str)) = false := by decide)
    (hpl : ((backTo pos (starEach [] X.env)).any (·.1) || (backToKw pos (keywordEach kws X.env)).any (·.1.isNone)) = false := by rfl) :
    PE X (.Call (.Name x npos) [] kws pos) (fun σ H Q => tk σ H fun zs H2 => zs.length = ks.length ∧
      ∀ x dx, H2 x = none → H2 dx = none → dx ≠ x → sp (gV [.ref x] zs) (upd (upd H2 dx (.own x)) x (.ins C dx [])) (fun v H3 => v = .non ∧ Q (.ref x) H3) E) := by
  refine ⟨fun pins s σ H Q I h => ?_⟩
  refine wpAny_Call_Name_kw (ld_glob I hg hm ?_ hdb)
  refine PySem.W.callWith_KW0 (h₀ := X.base) I.ok.mod.kin M.kp hall (thn (hkw.run pos pins s σ H _ I h) fun ws s2 ⟨zs, H2, I2, rz, l2, q2⟩ => ⟨I2.kIn, ?_⟩) hpl
  rw [hks]
  exact run_makeN (us := []) (vs := []) M F hr hb hx I2 .nil rz rfl l2 q2
end
end K0


set_option Elab.async false
set_option linter.all false
set_option maxRecDepth 100000
set_option maxHeartbeats 8000000
namespace K0
open PySem PySem.Spec PyProof.Rows L2 RZ K0z

/-! ### tuples that are known to have no dict: their methods can be called -/
def TpF (H : Hp) (p : Addr) (xs : List V) : Prop := ∃ o : Obj, H p = some (.frz o (.tup xs)) ∧ o.cls = .type "tuple" ∧ o.dict = none
theorem TpF.same {H H' : Hp} {p : Addr} {xs : List V} (h : TpF H p xs) (s : Same H H') : TpF H' p xs := by
  obtain ⟨o, h1, h2⟩ := h
  exact ⟨o, s _ _ h1, h2⟩
theorem TpF.sq {K : PySem.W.Frag} {H : Hp} {p : Addr} {xs : List V} (h : TpF H p xs) : SqT K H p xs := by
  obtain ⟨o, h1, h2⟩ := h
  exact .inl (.inr ⟨o, h1⟩)
theorem TpF.ne {H : Hp} {p a C dx : Addr} {xs : List V} {fs : List (Str × V)} (h : TpF H p xs) (ha : H a = some (.ins C dx fs)) : p ≠ a := by
  obtain ⟨o, h1, h2⟩ := h
  intro e
  rw [e, ha] at h1
  cases h1
theorem TpF.updI {H : Hp} {p a C dx : Addr} {xs : List V} {fs : List (Str × V)} {o : HO} (h : TpF H p xs) (ha : H a = some (.ins C dx fs)) : TpF (upd H a o) p xs := by
  have n := h.ne ha
  obtain ⟨u, h1, h2⟩ := h
  exact ⟨u, by rw [upd_ne n]; exact h1, h2⟩
theorem Asks.tupF {K : PySem.W.Frag} {H : Hp} {a : Addr} {xs : List V} (h : TpF H a xs) : Asks K H (.ref a) true := by
  obtain ⟨o, h1, _⟩ := h
  exact ⟨.type "tuple", false, false, .base (.fTuple h1), kit_ty (by decide +kernel), kit_ty (by decide +kernel), rfl,
    any2 (kit_ty (r := false) (by decide +kernel)) (kit_ty (r := true) (by decide +kernel))⟩
def rTupF (K : PySem.W.Frag) : List V → Hp → VK → Prop := fun xs H Q => ∃ b p ys, xs = [.ref p] ∧ SqB K b H p ys ∧ (b = false → ∀ l o, H l = none → o.cls = .type "tuple" → o.dict = none → Q (.ref l) (upd H l (.frz o (.tup ys)))) ∧ (b = true → Q (.ref p) H)
theorem call_tupF {X : Cx} (K : PySem.W.Frag) (e : X.K = K := by rfl) : CallR X (.type "tuple") (rTupF K) := by
  subst e
  intro pins s σ H xs us Q I r h
  obtain ⟨b, p, ys, rfl, h, h1, h2⟩ := h
  obtain ⟨u, rfl, rx⟩ := vals1 r
  cases rx
  cases b
  · obtain ⟨its, r', pl, hz⟩ := I.list h
    have hlen := r'.length
    refine call_tuple_list pl.isList (fun h' kp => ?_) (by simp only [List.size_toArray] <;> omega)
    have I1 : Inv X pins σ H { s with heap := h' } := I.kept (t' := s.toks) kp
    have I2 : Inv X pins σ (upd H h'.objs.size (.frz { cls := .type "tuple", data := .seq its.toArray } (.tup ys))) { s with heap := h'.push { cls := .type "tuple", data := .seq its.toArray } } :=
      I1.laid (t' := s.toks) (fun b o e => Heap.get?_push_of_some _ e) (Nat.le_refl _) (show ObjOk X.prog X.w _ _ _ (.frz _ (.tup ys)) from ⟨Heap.get?_push_size _ rfl, hz, its, r', IsTup.new _ _⟩)
    exact ⟨.ref h'.objs.size, _, I2, rfl, h1 rfl _ _ (I1.hok.fresh (Nat.le_refl _)) rfl rfl⟩
  · obtain ⟨its, r', pl, hz⟩ := I.tuple h
    exact call_tuple_same pl ⟨.ref p, H, I, rfl, h2 rfl⟩
@[irreducible] def jTupOf (K : PySem.W.Frag) : List V → Hp → VK → Prop := rTupOf K
@[irreducible] def jTupF (K : PySem.W.Frag) : List V → Hp → VK → Prop := rTupF K
theorem jTupOf_eq (K : PySem.W.Frag) : jTupOf K = rTupOf K := by unfold jTupOf; rfl
theorem jTupF_eq (K : PySem.W.Frag) : jTupF K = rTupF K := by unfold jTupF; rfl
theorem call_tupJ {X : Cx} (K : PySem.W.Frag) (e : X.K = K := by rfl) : CallR X (.type "tuple") (jTupOf K) := by rw [jTupOf_eq]; exact call_tupK K e
theorem call_tupFJ {X : Cx} (K : PySem.W.Frag) (e : X.K = K := by rfl) : CallR X (.type "tuple") (jTupF K) := by rw [jTupF_eq]; exact call_tupF K e
/-- a tuple of what stands there, the same one or a new one -/
theorem tup_way {K : PySem.W.Frag} {b : Bool} {H : Hp} {p : Addr} {xs : List V} {Q : VK} (h : SqB K b H p xs)
    (k : ∀ q H', Same H H' → SqT K H' q xs → Q (.ref q) H') : jTupOf K [.ref p] H Q := by
  rw [jTupOf_eq]
  exact ⟨b, p, xs, rfl, h, fun _ l hl => k l _ (same_upd hl) (.of upd_same), fun e => by subst e; exact k p H (Same.refl _) h⟩
theorem tup_wayF {K : PySem.W.Frag} {H : Hp} {p : Addr} {xs : List V} {Q : VK} (h : SqL K H p xs ∨ TpF H p xs)
    (k : ∀ q H', Same H H' → TpF H' q xs → Q (.ref q) H') : jTupF K [.ref p] H Q := by
  rw [jTupF_eq]
  rcases h with h | h
  · exact ⟨false, p, xs, rfl, h, fun _ l o hl h1 h2 => k l _ (same_upd hl) ⟨o, upd_same, h1, h2⟩, fun e => (by cases e)⟩
  · exact ⟨true, p, xs, rfl, h.sq, fun e => (by cases e), fun _ => k p H (Same.refl _) h⟩
/-! ### the call of a tuple's method -/
def tTM (K : PySem.W.Frag) (r : V → List V → Hp → VK → Prop) (to : TE) (t : TA) : TE := fun σ H Q => to σ H fun x H1 => (∃ p xs, x = .ref p ∧ TpF H1 p xs) ∧ t σ H1 fun xs H2 => r x xs H2 Q
theorem pe_tm {X : Cx} {o e : Expr} {es : List Expr} {to : TE} {t : TA} {name : Str} {apos cpos : Pos} {id : String} {r : V → List V → Hp → VK → Prop} (K : PySem.W.Frag) (slot : Slot "tuple" name id) (hty : typeOf (.builtin id) = pure (.type "method_descriptor")) (hm : MtR X id r) (ho : PE X o to) (ha : PA X (e :: es) t)
    (hbase : attributeBase o name X.env (eval o X.env) = eval o X.env := by rfl)
    (hfew : ((backTo cpos (starEach (e :: es) X.env)).all (fun x => !x.1) && (backToKw cpos (keywordEach [] X.env)).all (fun x => x.1.isSome)
      && decide ((e :: es).length + ([] : List Keyword).length + (if ([] : List Keyword).isEmpty then 0 else 1) < 30)) = true := by rfl)
    (hline : (apos.endLine == cpos.line) = true := by rfl) (hs : starEach (e :: es) X.env = (false, eval e X.env) :: starEach es X.env := by rfl) (hplain : (backTo cpos (starEach es X.env)).any (·.1) = false := by rfl) :
    PE X (.Call (.Attribute o name apos) (e :: es) [] cpos) (tTM K r to t) := by
  refine ⟨fun pins s σ H Q I h => ?_⟩
  refine wpAny_Call_method_late hbase hfew hline rfl (thn (ho.run pins s σ H _ I h) fun v s1 ⟨x, H1, I1, r1, ⟨p, xs, ex, u, hu, hc, hd⟩, q1⟩ => ?_)
  subst ex
  cases r1
  obtain ⟨ho', _⟩ := (show ObjOk X.prog X.w H1 s1.heap p (.frz u (.tup xs)) from I1.hok p _ hu)
  refine ⟨"tuple", id, PySem.F.plainAttrs_tuple, slot, hty, ⟨u, ho', hc⟩, fun a e => by cases e; exact ⟨u, ho', hd⟩, ?_⟩
  have hA := ha.run cpos pins s1 σ H1 _ I1 q1
  rw [hs] at hA ⊢
  refine Calls.callWith_builtin (by show (false || (backTo cpos (starEach es X.env)).any (·.1)) = false; rw [hplain] <;> rfl) (Calls.evalArgs_plain ?_)
  exact thn hA fun us s2 ⟨vs, H2, I2, r2, q2⟩ => hm pins s2 σ H2 (.ref p) vs _ us Q I2 rfl r2 q2
end K0


set_option Elab.async false
set_option linter.all false
set_option maxRecDepth 100000
set_option maxHeartbeats 8000000
namespace K0
open PySem PySem.Spec PyProof.Rows L2 RZ K0z

/-! ### places -/
def toI : V → Option Int
  | .int n => some n
  | _ => none
def intsOf (xs : List V) : List Int := xs.filterMap toI
def rng (n : Nat) : List Int := (List.range n).map fun (i : Nat) => (i : Int)
theorem rng_len (n : Nat) : (rng n).length = n := by simp [rng]
theorem rng_rgV (n : Nat) : rgV 0 (n : Nat) = (rng n).map V.int := by
  unfold rgV rng
  rw [List.map_map, show ((n : Int) - 0).toNat = n by omega]
  refine List.map_congr_left fun i _ => ?_
  show V.int (0 + (i : Int)) = V.int (i : Int)
  rw [Int.zero_add]
theorem rng_sorted (n : Nat) : (rng n).Pairwise (· ≤ ·) := by
  unfold rng
  rw [List.pairwise_map]
  exact List.Pairwise.imp (fun h => by omega) List.pairwise_lt_range
theorem intsOf_map (ns : List Int) : intsOf (ns.map V.int) = ns := by
  unfold intsOf
  induction ns with
  | nil => rfl
  | cons n r ih => rw [List.map_cons, List.filterMap_cons_some (b := n) (f := toI) (a := V.int n) rfl, ih]
theorem map_intsOf {xs : List V} (h : xs.all isI = true) : xs = (intsOf xs).map V.int := by
  induction xs with
  | nil => rfl
  | cons x r ih =>
    rw [List.all_cons, Bool.and_eq_true] at h
    have e := ih h.2
    cases x with
    | int n => rw [show intsOf (V.int n :: r) = n :: intsOf r from rfl, List.map_cons, ← e]
    | _ => cases h.1
theorem sorted_eq {l1 l2 : List Int} (p : l1.Perm l2) (h1 : l1.Pairwise (· ≤ ·)) (h2 : l2.Pairwise (· ≤ ·)) : l1 = l2 := by
  exact List.Perm.eq_of_pairwise (fun a b _ _ h1 h2 => Int.le_antisymm h1 h2) h1 h2 p
theorem map_int_get {ns : List Int} {i : Nat} {x : V} (h : (ns.map V.int)[i]? = some x) : ∃ n, ns[i]? = some n ∧ x = .int n := by
  rw [List.getElem?_map] at h
  cases e : ns[i]? with
  | none => rw [e] at h; cases h
  | some z =>
    rw [e] at h
    exact ⟨z, rfl, (Option.some.inj h).symm⟩
theorem getD_of {α : Type} {l : List α} {i : Nat} (h : i < l.length) (d : α) : l.getD i d = l[i] := by
  rw [List.getD_eq_getElem?_getD, List.getElem?_eq_getElem h]
  rfl
theorem make_same {H1 H2 : Hp} {x dx C : Addr} (sb : ∀ b o, b ≠ x → upd (upd H1 dx (.own x)) x (.ins C dx []) b = some o → H2 b = some o) (hx : H1 x = none) (hdx : H1 dx = none) : Same H1 H2 := fun b o hb => by
  have nbx : b ≠ x := ne_of_none hb hx
  refine sb b o nbx ?_
  rw [upd_ne nbx, upd_ne (ne_of_none hb hdx)]
  exact hb
/-- whether these are places -/
def permB (ns : List Int) : Bool := decide (ns.Perm (rng ns.length))
def plB (o : Option (List V)) : Bool := lenB o (.int 2) (.int 6) && intsB o && permB (intsOf (o.getD []))
theorem lenB_of {xs : List V} {l m : Int} (h : lenB (some xs) (.int l) (.int m) = true) : l ≤ xs.length ∧ (xs.length : Int) ≤ m := by
  have h' : (decide (l ≤ (xs.length : Int)) && decide ((xs.length : Int) ≤ m)) = true := h
  simpa using h'
def spPlc (K : PySem.W.Frag) : Sp := fun vs H Q _ => ∃ (v : V) (o : Option (List V)), vs = [v] ∧ Seqs K H v o ∧ Items K H o ∧ ∀ H', Same H H' → Q (.bl (plB o)) H'
section
variable {P : Program} {w : World} {K : PySem.W.Frag} {mg : Str → Option Value} {base : Heap} {f g g2 : Addr} {fd : FuncData}
theorem sc_plc : FnScope ["value"] ["value"] (defScope st__are_places) := ⟨rfl, rfl, rfl, by decide +kernel, rfl, by decide +kernel, by decide +kernel⟩
theorem ok_plc (F : Fun K "_are_places" "_are_places" st__are_places f fd) (T : Nm mg) (D_is_list : Dn P w K mg base 3 "is_list" g ["value", "least", "most"] (spIsList K)) (D_are_integers : Dn P w K mg base 4 "are_integers" g2 ["value"] (spAreInts K)) :
    FnOk P w K mg base CX0 5 f fd ["value"] (spPlc K) := by
  refine F.ok sc_plc (fun vs H Q E h => ?_) (fun cdv A outer s H vs Q E hr h => ?_)
  · obtain ⟨v, o, rfl, _⟩ := h
    rfl
  · obtain ⟨v, o, rfl, hv, hi, k⟩ := h
    refine ⟨_, (pss_cons (ps_if (PW.pt (pw_or (pt_not (pt_val (pe_dn D_is_list (hr.mono (by decide)) rfl (pa_cons (pv 0) (pa_cons (pe_cint (by rfl) T.c_LEAST_WIDE) (pa_cons (pe_cint (by rfl) T.c_MOST_WIDE) pa_nil)))))) (pw_or1 (pt_not (pt_val (pe_dn D_are_integers (hr.mono (by decide)) rfl (pa_cons (pv 0) pa_nil))))))) (pss_one (ps_ret pe_bl)) pss_nil)
    (pss_one (ps_ret (pe_cmpR (op_eqD hr.units) (pe_callB (cr_sortB K) (by rfl) T.n_sorted (by decide +kernel) (pa_cons (pv 0) pa_nil)) (pe_listRg rfl (by rfl) T.n_list (prg_1 (by rfl) T.n_range (pe_callB (call_lenK K) (by rfl) T.n_len (by decide +kernel) (pa_cons (pv 0) pa_nil)))) (nomark _))))), ?_⟩
    refine ⟨_, rfl, v, .int 2, .int 6, o, rfl, hv, .inr ⟨2, rfl⟩, .inr ⟨6, rfl⟩, fun H1 s1 => ⟨_, rfl, ?_⟩⟩
    have eB : plB o = (lenB o (.int 2) (.int 6) && intsB o && permB (intsOf (o.getD []))) := rfl
    cases e1 : lenB o (.int 2) (.int 6) with
    | false =>
      rw [e1] at eB
      have := k H1 s1
      rw [eB] at this
      exact iteT this
    | true =>
      refine iteF ⟨v, rfl, v, o, rfl, Seqs.same s1 hv, Items.same s1 hi, fun H2 s2 => ⟨_, rfl, ?_⟩⟩
      cases e2 : intsB o with
      | false =>
        have := k H2 (s1.trans s2)
        rw [eB, e1, e2] at this
        exact iteT this
      | true =>
        refine iteF ?_
        cases o with
        | none => cases e2
        | some xs =>
          rw [e1, e2] at eB
          have k' := k
          rw [eB] at k'
          obtain ⟨a1, a2⟩ := lenB_of e1
          have ex := map_intsOf (xs := xs) e2
          have exl : xs.length = (intsOf xs).length := (congrArg List.length ex).trans (List.length_map _)
          have s12 := s1.trans s2
          obtain ⟨_, hz, a, rfl, hS⟩ := Seqs.same s12 hv
          obtain ⟨b, hS⟩ := SqB.or hS
          refine ⟨_, rfl, b, a, intsOf xs, rfl, by rw [← ex]; exact hS, by omega, fun ns' p hp hsrt hpn => ?_⟩
          have s3 := same_upd (o := .lst (ns'.map V.int)) hpn
          refine ⟨_, rfl, b, a, xs, rfl, hS.same s3, _, rfl, ?_⟩
          refine ⟨⟨by decide, by decide, ?_, ?_, ?_⟩, fun q hq => ?_⟩
          · omega
          · omega
          · show (((xs.length : Nat) : Int) - 0).toNat ≤ sizeLine
            exact Nat.le_trans (by omega : _ ≤ 6) (by decide)
          have s4 := same_upd (o := .lst (rgV 0 ((xs.length : Nat) : Int))) hq
          have z1 : upd (upd H2 p (.lst (ns'.map V.int))) q (.lst (rgV 0 ((xs.length : Nat) : Int))) p = some (.lst (ns'.map V.int)) := s4 _ _ upd_same
          have z2 : upd (upd H2 p (.lst (ns'.map V.int))) q (.lst (rgV 0 ((xs.length : Nat) : Int))) q = some (.lst ((rng xs.length).map V.int)) := by rw [upd_same, rng_rgV]
          refine ⟨_, _, dpL (.of z1) (flat_ints ns'), dpL (.of z2) (flat_ints _), shapedL (flat_ints _), shapedL (flat_ints _), ?_⟩
          rw [eqvL_ints]
          have ed : decide (ns' = rng xs.length) = permB (intsOf xs) := by
            unfold permB
            rw [← exl]
            refine decide_eq_decide.mpr ⟨fun e => ?_, fun e => sorted_eq (hp.trans e) hsrt (rng_sorted _)⟩
            rw [← e]
            exact hp.symm
          rw [ed]
          exact k' _ (s12.trans (s3.trans s4))
end
end K0


set_option Elab.async false
set_option linter.all false
set_option maxRecDepth 100000
set_option maxHeartbeats 8000000
namespace K0
open PySem PySem.Spec PyProof.Rows L2 RZ K0z

/-! ### errors that a def raises -/
def raisesN (CB : Addr) (nm : Str) (H : Hp) (E : XK) : Prop := ∀ (dd : Addr) (H' : Hp), H dd = none → H' dd = some (.xd (fs1 "part" [.str nm])) → Same H H' → E (.ref CB) (some dd) H'
theorem raisesN.same {CB : Addr} {nm : Str} {H H' : Hp} {E : XK} (h : raisesN CB nm H E) (s : Same H H') : raisesN CB nm H' E := fun dd H2 h1 h2 s2 => h dd H2 (s.free h1) h2 (s.trans s2)
theorem op_inK {X : Cx} (K : PySem.W.Frag) (eK : X.K = K := by rfl) : OpR X (compareOp .In) (rIn K false) := by subst eK; exact op_in_seq
theorem look_put {f g : Str} {v : V} {fs : List (Str × V)} (h : g ≠ f) : (putF f v fs).lookup g = fs.lookup g := by rw [lookup_putF, if_neg h]
theorem look_new {f : Str} {v : V} {fs : List (Str × V)} : (putF f v fs).lookup f = some v := by rw [lookup_putF, if_pos rfl]

/-! ### likenesses -/
/-- places and signs -/
structure Lik (ps ss : List Int) : Prop where
  n2 : 2 ≤ ps.length
  n6 : ps.length ≤ 6
  len : ss.length = ps.length
  perm : ps.Perm (rng ps.length)
  sg : ∀ s ∈ ss, s = 1 ∨ s = -1
structure LikC (K : PySem.W.Frag) (C : Addr) : Prop where
  cl : Cls K C
  nP : NoAttr K C "places"
  nS : NoAttr K C "signs"
  nW : NoAttr K C "wide"
/-- a likeness stands at a -/
def LikAt (K : PySem.W.Frag) (H : Hp) (a C : Addr) (ps ss : List Int) : Prop := Lik ps ss ∧ ∃ dx p s fs, H a = some (.ins C dx fs) ∧ TpF H p (ps.map V.int) ∧ SqT K H s (ss.map V.int) ∧
  fs.lookup ("places" : Str) = some (V.ref p) ∧ fs.lookup ("signs" : Str) = some (V.ref s) ∧ fs.lookup ("wide" : Str) = some (V.int ps.length) ∧ ∀ m : Str, m ≠ ("places" : Str) → m ≠ ("signs" : Str) → m ≠ ("wide" : Str) → fs.lookup m = none
theorem LikAt.same {K : PySem.W.Frag} {H H' : Hp} {a C : Addr} {ps ss : List Int} (h : LikAt K H a C ps ss) (s : Same H H') : LikAt K H' a C ps ss := by
  obtain ⟨l, dx, p, q, fs, h1, h2, h3, r⟩ := h
  exact ⟨l, dx, p, q, fs, s _ _ h1, h2.same s, same_sqT s h3, r⟩
/-- whether these are n signs -/
def sgB (s : Int) : Bool := s == 1 || s == -1
def siB (o : Option (List V)) (n : Int) : Bool := (lenB o (.int n) (.int n) && intsB o) && (intsOf (o.getD [])).all sgB
theorem lik_of {xs ys : List V} (h1 : plB (some xs) = true) (h2 : siB (some ys) xs.length = true) : Lik (intsOf xs) (intsOf ys) ∧ xs = (intsOf xs).map V.int ∧ ys = (intsOf ys).map V.int := by
  have h1' : (lenB (some xs) (.int 2) (.int 6) && intsB (some xs) && permB (intsOf xs)) = true := h1
  have h2' : ((lenB (some ys) (.int xs.length) (.int xs.length) && intsB (some ys)) && (intsOf ys).all sgB) = true := h2
  rw [Bool.and_eq_true, Bool.and_eq_true] at h1' h2'
  obtain ⟨⟨a1, a2⟩, a3⟩ := h1'
  obtain ⟨⟨b1, b2⟩, b3⟩ := h2'
  obtain ⟨l2, l6⟩ := lenB_of a1
  obtain ⟨k1, k2⟩ := lenB_of b1
  have ex := map_intsOf (xs := xs) a2
  have ey := map_intsOf (xs := ys) b2
  have exl : xs.length = (intsOf xs).length := (congrArg List.length ex).trans (List.length_map _)
  have eyl : ys.length = (intsOf ys).length := (congrArg List.length ey).trans (List.length_map _)
  refine ⟨⟨by omega, by omega, by omega, of_decide_eq_true a3, fun s hs => ?_⟩, ex, ey⟩
  have := List.all_eq_true.mp b3 s hs
  unfold sgB at this
  rw [Bool.or_eq_true] at this
  simpa using this
theorem plB_lik {ps ss : List Int} (L : Lik ps ss) : plB (some (ps.map V.int)) = true := by
  show (lenB (some (ps.map V.int)) (.int 2) (.int 6) && intsB (some (ps.map V.int)) && permB (intsOf (ps.map V.int))) = true
  rw [Bool.and_eq_true, Bool.and_eq_true]
  refine ⟨⟨?_, ?_⟩, ?_⟩
  · show (decide ((2 : Int) ≤ ((ps.map V.int).length : Int)) && decide (((ps.map V.int).length : Int) ≤ 6)) = true
    have := L.n2
    have := L.n6
    rw [List.length_map]
    simp
    omega
  · show (ps.map V.int).all isI = true
    simp [List.all_map, isI]
  · rw [intsOf_map]
    exact decide_eq_true L.perm
theorem siB_lik {ps ss : List Int} (L : Lik ps ss) : siB (some (ss.map V.int)) ((ps.map V.int).length : Nat) = true := by
  show (lenB (some (ss.map V.int)) (.int _) (.int _) && intsB (some (ss.map V.int)) && (intsOf (ss.map V.int)).all sgB) = true
  rw [Bool.and_eq_true, Bool.and_eq_true]
  refine ⟨⟨?_, ?_⟩, ?_⟩
  · show (decide ((((ps.map V.int).length : Nat) : Int) ≤ ((ss.map V.int).length : Int)) && decide (((ss.map V.int).length : Int) ≤ (((ps.map V.int).length : Nat) : Int))) = true
    have := L.len
    rw [List.length_map, List.length_map, this]
    simp
  · show (ss.map V.int).all isI = true
    simp [List.all_map, isI]
  · rw [intsOf_map, List.all_eq_true]
    intro s hs
    rcases L.sg s hs with rfl | rfl <;> rfl
theorem sqT_updI {K : PySem.W.Frag} {H : Hp} {a p C dx : Addr} {fs : List (Str × V)} {o : HO} {xs : List V} (h : SqT K H p xs) (ha : H a = some (.ins C dx fs)) : SqT K (upd H a o) p xs := by
  rcases h with (h | ⟨u, h⟩) | h
  · exact .inl (.inl (by rw [upd_ne (fun e => by rw [e, ha] at h; cases h)]; exact h))
  · exact .inl (.inr ⟨u, by rw [upd_ne (fun e => by rw [e, ha] at h; cases h)]; exact h⟩)
  · exact .inr h
theorem sqL_updI {K : PySem.W.Frag} {H : Hp} {a p C dx : Addr} {fs : List (Str × V)} {o : HO} {xs : List V} (h : SqL K H p xs) (ha : H a = some (.ins C dx fs)) : SqL K (upd H a o) p xs := by
  rcases h with (h | ⟨u, h⟩) | h
  · exact .inl (.inl (by rw [upd_ne (fun e => by rw [e, ha] at h; cases h)]; exact h))
  · exact .inl (.inr ⟨u, by rw [upd_ne (fun e => by rw [e, ha] at h; cases h)]; exact h⟩)
  · exact .inr h
theorem sqB_updI {K : PySem.W.Frag} {b : Bool} {H : Hp} {a p C dx : Addr} {fs : List (Str × V)} {o : HO} {xs : List V} (h : SqB K b H p xs) (ha : H a = some (.ins C dx fs)) : SqB K b (upd H a o) p xs := by
  cases b with
  | true => exact sqT_updI h ha
  | false => exact sqL_updI h ha
def spLkI (K : PySem.W.Frag) (CB C : Addr) : Sp := fun vs H Q E => ∃ (a dx : Addr) (v1 v2 : V) (o1 o2 : Option (List V)), vs = [.ref a, v1, v2] ∧ H a = some (.ins C dx []) ∧ Seqs K H v1 o1 ∧ Items K H o1 ∧ (∀ xs, o1 = some xs → ∃ p, v1 = .ref p ∧ (SqL K H p xs ∨ TpF H p xs)) ∧ Seqs K H v2 o2 ∧ Items K H o2 ∧
  (plB o1 = false → raisesN CB "places" H E) ∧ (∀ xs, o1 = some xs → plB o1 = true → (siB o2 xs.length = false → raisesN CB "signs" H E) ∧
    (∀ ys, o2 = some ys → siB o2 xs.length = true → ∀ H', LikAt K H' a C (intsOf xs) (intsOf ys) → (∀ b o, b ≠ a → H b = some o → H' b = some o) → Q .non H'))
theorem inV_sg (s : Int) : inV (.int s) [.int 1, .int (-1)] = sgB s := by
  unfold sgB
  have : inV (.int s) [.int 1, .int (-1)] = ((1 : Int) == s || ((-1 : Int) == s || false)) := rfl
  rw [this, Bool.or_false, Bool.eq_iff_iff]
  simp only [Bool.or_eq_true, beq_iff_eq]
  omega
section
variable {P : Program} {w : World} {K : PySem.W.Frag} {mg : Str → Option Value} {base : Heap} {f g g2 C CB : Addr} {fd : FuncData}
abbrev N_init : List Str := ["self", "places", "signs", "sign"]
theorem sc_init : FnScope N_init ["self", "places", "signs"] (defScope sm_init) := ⟨rfl, rfl, rfl, by decide +kernel, rfl, by decide +kernel, by decide +kernel⟩
theorem ok_init (F : Fun K "__init__" "Likeness.__init__" sm_init f fd) (T : Nm mg) (U : LikC K C) (D_is_point : Dn P w K mg base 5 "is_point" g ["value", "wide"] (spIsPoint K)) (D__are_places : Dn P w K mg base 5 "_are_places" g2 ["value"] (spPlc K))
    (R_BadLikeness : RaiseC P w K mg base "BadLikeness" CB "part") : FnOk P w K mg base (L2.CX P w) 6 f fd ["self", "places", "signs"] (spLkI K CB C) := by
  refine F.okX sc_init (fun vs H Q E h => ?_) (fun cdv A outer s H vs Q E hr h => ?_)
  · obtain ⟨a, dx, v1, v2, _, _, rfl, _⟩ := h
    rfl
  · obtain ⟨a, dx, v1, v2, o1, o2, rfl, ha, hv1, hi1, hF, hv2, hi2, k1, k2⟩ := h
    refine ⟨_, (pss_cons (ps_if (pt_not (pt_val (pe_dn D__are_places (hr.mono (by decide)) rfl (pa_cons (pv 1) pa_nil)))) (pss_one (ps_raise rfl (takes_of rfl rfl rfl rfl) (pmk_c R_BadLikeness (hr.mono (by decide)) rfl (pa_cons pe_str pa_nil)))) pss_nil)
    (pss_cons (ps_if (PW.pt (pw_or (pt_not (pt_val (pe_dn D_is_point (hr.mono (by decide)) rfl (pa_cons (pv 2) (pa_cons (pe_callB (call_lenK K) (by rfl) T.n_len (by decide +kernel) (pa_cons (pv 1) pa_nil)) pa_nil))))) (pw_or1 (pt_not (pt_val (pe_callB (cr_all rfl) (by rfl) T.n_all (by decide +kernel) (pa_cons (pe_lc (own := [("sign", 3)]) (g := gName 3) (tt := tYes) rfl sc_init.nd (pi_seqK K (pv 2)) (blkOk_by (N := N_init) (sc := defScope sm_init) (by decide +kernel)) (fun _ _ _ _ _ => (pg_name (i := 3) sc_init.nd rfl (Or.inl rfl))) (fun _ _ _ _ _ => pts_nil) (fun _ _ _ _ _ => (pe_cmpR (op_inK K) (pv 3) (pe_tup (pa_cons pe_int (pa_cons (pe_un un_neg pe_int) pa_nil))) (by rfl)))) pa_nil))))))) (pss_one (ps_raise rfl (takes_of rfl rfl rfl rfl) (pmk_c R_BadLikeness (hr.mono (by decide)) rfl (pa_cons pe_str pa_nil)))) pss_nil)
    (pss_cons (ps_fld (pv 0) (pe_callTy (call_tupFJ K) (by rfl) T.n_tuple (by decide +kernel) (pa_cons (pv 1) pa_nil)) rfl)
    (pss_cons (ps_fld (pv 0) (pe_callTy (call_tupJ K) (by rfl) T.n_tuple (by decide +kernel) (pa_cons (pv 2) pa_nil)) rfl)
    (pss_one (ps_fld (pv 0) (pe_callB (call_lenK K) (by rfl) T.n_len (by decide +kernel) (pa_cons (pe_fld (pv 0) rfl) pa_nil)) rfl)))))), ?_⟩
    have hl1 : ∀ xs, o1 = some xs → plB o1 = true → xs.length ≤ 6 ∧ 2 ≤ xs.length := fun xs e e1 => by
      rw [e] at e1
      have h1' : (lenB (some xs) (.int 2) (.int 6) && intsB (some xs) && permB (intsOf xs)) = true := e1
      rw [Bool.and_eq_true, Bool.and_eq_true] at h1'
      have := lenB_of h1'.1.1
      omega
    refine ⟨_, rfl, v1, o1, rfl, hv1, hi1, fun H1 s1 => ⟨_, rfl, ?_⟩⟩
    cases e1 : plB o1 with
    | false => exact iteT (fun dd H' h1 h2 s2 => (k1 e1).same s1 dd H' h1 h2 s2)
    | true =>
      refine iteF ?_
      cases o1 with
      | none => cases e1
      | some xs =>
        obtain ⟨n6, n2⟩ := hl1 xs rfl e1
        obtain ⟨k3, k4⟩ := k2 xs rfl e1
        obtain ⟨_, hz, p0, rfl, hS⟩ := Seqs.same s1 hv1
        obtain ⟨b1, hS⟩ := SqB.or hS
        have eB : siB o2 xs.length = ((lenB o2 (.int xs.length) (.int xs.length) && intsB o2) && (intsOf (o2.getD [])).all sgB) := rfl
        refine ⟨_, rfl, _, rfl, b1, p0, xs, rfl, hS, v2, _, o2, rfl, Seqs.same s1 hv2, Items.same s1 hi2, fun H2 s2 => ⟨_, rfl, ?_⟩⟩
        have s12 := s1.trans s2
        cases e2 : (lenB o2 (.int xs.length) (.int xs.length) && intsB o2) with
        | false => exact iteT (iteT (fun dd H' h1 h2 s3 => (k3 (by rw [eB, e2]; rfl)).same s12 dd H' h1 h2 s3))
        | true =>
          refine iteF ?_
          cases o2 with
          | none => cases e2
          | some ys =>
          rw [Bool.and_eq_true] at e2
          obtain ⟨l1, l2⟩ := lenB_of e2.1
          have ey := map_intsOf (xs := ys) e2.2
          obtain ⟨_, hzy, p1, rfl, hS2⟩ := Seqs.same s12 hv2
          obtain ⟨b2, hS2⟩ := SqB.or hS2
          refine ⟨_, rfl, b2, p1, rfl, ⟨_, hS2⟩, fun D hD => lc_fun (fun i => V.bl (sgB ((intsOf ys).getD i 0))) (walk_seq (b := b2) (xs := ys)) hD hzy (fun H3 s3 => hS2.same s3) ?_ ?_⟩
          · rintro i x H3 H4 hi s3 _ ⟨rfl, hx⟩ Rk kk
            rw [ey] at hx
            obtain ⟨n, hn, rfl⟩ := map_int_get hx
            refine ⟨rfl, _, rfl, _, rfl, (by show 2 ≤ sizeLine; decide), fun t ht => ⟨t, _, rfl, .inr (.of upd_same), rfl, rfl, ?_⟩⟩
            have q := kk _ (same_upd (o := .tup [.int 1, .int (-1)]) ht)
            rw [List.getD_eq_getElem?_getD, hn] at q
            dsimp only [Option.getD_some] at q
            rw [← inV_sg] at q
            exact q
          intro H3 hD3 s3
          have eD : (List.range ys.length).map (fun i => V.bl (sgB ((intsOf ys).getD i 0))) = ((intsOf ys).map sgB).map V.bl := by
            rw [show ys.length = (intsOf ys).length from (congrArg List.length ey).trans (List.length_map _), range_map_getD (intsOf ys) 0 (fun x => V.bl (sgB x)), List.map_map]
            rfl
          rw [eD] at hD3
          refine ⟨D, _, rfl, .of hD3, ⟨_, rfl, ?_⟩⟩
          rw [show (((intsOf ys).map sgB).all id) = (intsOf ys).all sgB from by rw [List.all_map]; rfl]
          have s13 := s12.trans s3
          cases e3 : (intsOf ys).all sgB with
          | false => exact iteT (fun dd H' h1 h2 s4 => (k3 (by rw [eB]; simp only [Option.getD_some]; rw [e3, Bool.and_false])).same s13 dd H' h1 h2 s4)
          | true =>
            have e5 : siB (some ys) xs.length = true := by rw [eB, e2.1, e2.2]; simp only [Option.getD_some]; rw [e3]; rfl
            obtain ⟨hLk, ex, _⟩ := lik_of e1 e5
            have k5 := k4 ys rfl e5
            refine iteF ?_
            have hS3 : SqL K H3 p0 xs ∨ TpF H3 p0 xs := by
              obtain ⟨p, e, h⟩ := hF xs rfl
              cases e
              rcases h with h | h
              · exact .inl (Same.seq s13 h)
              · exact .inr (h.same s13)
            have hS4 : SqB K b2 H3 p1 ys := hS2.same s3
            have ha3 := s13 _ _ ha
            clear k1 k2 k3 k4 hS hS2 s12 s1 s2 s3 hD3 eD eB e2 e3 e5 hD
            have step : ∀ (H2 : Hp) (fs : List (Str × V)) (nm : Str) (v : V), H2 a = some (.ins C dx fs) → (∀ b o, b ≠ a → H b = some o → H2 b = some o) →
              upd H2 a (.ins C dx (putF nm v fs)) a = some (.ins C dx (putF nm v fs)) ∧ (∀ b o, b ≠ a → H b = some o → upd H2 a (.ins C dx (putF nm v fs)) b = some o) ∧ (putF nm v fs).length ≤ fs.length + 1 :=
              fun H2 fs nm v h1 h3 => ⟨upd_same, fun b o n z => by rw [upd_ne n]; exact h3 b o n z, length_putF nm v fs⟩
            refine ⟨_, rfl, tup_wayF hS3 fun q1 H4 s4 hq1 => ⟨_, rfl, a, C, dx, [], rfl, s4 _ _ ha3, U.cl, U.nP, by decide, ?_⟩⟩
            have ha4 := s4 _ _ ha3
            have hS5 := hS4.same s4
            obtain ⟨ha5, sb5, l5⟩ := step H4 [] "places" (.ref q1) ha4 (fun b o _ z => s4 _ _ (s13 _ _ z))
            have hq5 := hq1.updI (o := .ins C dx (putF "places" (.ref q1) [])) ha4
            have hS6 := sqB_updI (o := .ins C dx (putF "places" (.ref q1) [])) hS5 ha4
            have n1 : ∀ m : Str, m ≠ ("places" : Str) → (putF ("places" : Str) (V.ref q1) []).lookup m = none := fun m h => look_put h
            have f1 : (putF ("places" : Str) (V.ref q1) []).lookup ("places" : Str) = some (V.ref q1) := look_new
            generalize upd H4 a (.ins C dx (putF "places" (.ref q1) [])) = H5 at ha5 sb5 hq5 hS6 ⊢
            generalize putF ("places" : Str) (V.ref q1) [] = fs1 at ha5 l5 f1 n1 ⊢
            clear hS5 ha4 hq1 s4 hS4 hS3 ha3
            refine ⟨_, rfl, tup_way hS6 fun q2 H6 s6 hq2 => ⟨_, rfl, a, C, dx, fs1, rfl, s6 _ _ ha5, U.cl, U.nS, Nat.lt_of_le_of_lt l5 (by decide), ?_⟩⟩
            have ha6 := s6 _ _ ha5
            obtain ⟨ha7, sb7, l7⟩ := step H6 fs1 "signs" (.ref q2) ha6 (fun b o n z => s6 _ _ (sb5 b o n z))
            have hq6 := (hq5.same s6).updI (o := .ins C dx (putF "signs" (.ref q2) fs1)) ha6
            have hq7 := sqT_updI (o := .ins C dx (putF "signs" (.ref q2) fs1)) hq2 ha6
            have n2' : ∀ m : Str, m ≠ ("places" : Str) → m ≠ ("signs" : Str) → (putF ("signs" : Str) (V.ref q2) fs1).lookup m = none := fun m h1 h2 => (look_put h2).trans (n1 m h1)
            have f2 : (putF ("signs" : Str) (V.ref q2) fs1).lookup ("places" : Str) = some (V.ref q1) := (look_put (by decide)).trans f1
            have f3 : (putF ("signs" : Str) (V.ref q2) fs1).lookup ("signs" : Str) = some (V.ref q2) := look_new
            generalize upd H6 a (.ins C dx (putF "signs" (.ref q2) fs1)) = H7 at ha7 sb7 hq6 hq7 ⊢
            generalize putF ("signs" : Str) (V.ref q2) fs1 = fs2 at ha7 l7 f2 f3 n2' ⊢
            clear ha6 hq2 s6 hq5 hS6 sb5
            refine ⟨_, rfl, a, C, dx, fs2, _, rfl, ha7, U.cl, U.nP, f2, true, q1, _, rfl, hq6.sq, _, rfl, a, C, dx, fs2, rfl, ha7, U.cl, U.nW, ?_, ?_⟩
            · have e0 : ([] : List (Str × V)).length = 0 := rfl
              omega
            obtain ⟨ha8, sb8, l8⟩ := step H7 fs2 "wide" (.int xs.length) ha7 sb7
            refine k5 _ ⟨hLk, dx, q1, q2, _, ha8, ?_, ?_, (look_put (by decide)).trans f2, (look_put (by decide)).trans f3, ?_, fun m h1 h2 h3 => (look_put h3).trans (n2' m h1 h2)⟩ sb8
            · rw [← ex]
              exact hq6.updI ha7
            · rw [← ey]
              exact sqT_updI hq7 ha7
            · rw [look_new, show xs.length = (intsOf xs).length from (congrArg List.length ex).trans (List.length_map _)]
end
end K0


set_option Elab.async false
set_option linter.all false
set_option maxRecDepth 100000
set_option maxHeartbeats 8000000
namespace K0
open PySem PySem.Spec PyProof.Rows L2 RZ K0z

/-! ### what is asked of the class -/
structure LikD (K : PySem.W.Frag) (C : Addr) : Prop extends LikC K C, KindsC K C where
  ha : PySem.W.findIn K (.ref C) "__class__" = some (some (.builtin "object.__class__"))
  hn : PySem.W.specialIn K (.builtin "object.__class__") "__get__" = some (some (.builtin "getset_descriptor.__get__"))
  htk : PySem.W.takesIn K (.builtin "object.__class__") = some true
  hm : PySem.W.mroIn K C (.type "object") = some true
  me : PySem.W.kitOne K (.ref C) (.ref C) = some true
  kN : PySem.W.kitOne K (.type "NoneType") (.ref C) = some false
  kI : PySem.W.kitOne K (.type "int") (.ref C) = some false
  kL : PySem.W.kitOne K (.type "list") (.ref C) = some false
  kT : PySem.W.kitOne K (.type "tuple") (.ref C) = some false
/-- y is no likeness -/
def NoLik (K : PySem.W.Frag) (C : Addr) (H : Hp) (y : V) : Prop := ∃ t, TyE K H y t ∧ PySem.W.kitOne K t (.ref C) = some false
section
variable {K : PySem.W.Frag} {C : Addr} {H : Hp}
theorem NoLik.same {H' : Hp} {y : V} (h : NoLik K C H y) (s : Same H H') : NoLik K C H' y := by
  obtain ⟨t, ty, e⟩ := h
  exact ⟨t, ty.same s, e⟩
theorem NoLik.non (D : LikD K C) : NoLik K C H .non := ⟨_, .base (.base .non), D.kN⟩
theorem NoLik.int (D : LikD K C) (n : Int) : NoLik K C H (.int n) := ⟨_, .base (.base (.int n)), D.kI⟩
theorem NoLik.lst (D : LikD K C) {a : Addr} {xs : List V} (h : H a = some (.lst xs)) : NoLik K C H (.ref a) := ⟨_, .base (.base (.lst h)), D.kL⟩
theorem NoLik.tup (D : LikD K C) {a : Addr} {xs : List V} (h : H a = some (.tup xs)) : NoLik K C H (.ref a) := ⟨_, .base (.base (.tup h)), D.kT⟩
theorem lik_ty (D : LikD K C) {a dx : Addr} {fs : List (Str × V)} (h : H a = some (.ins C dx fs)) : TyE K H (.ref a) (.ref C) := .base (.base (.ins h D.cl D.ha D.hn D.htk D.hm))
theorem Asks.lik (D : LikD K C) {a dx : Addr} {fs : List (Str × V)} (h : H a = some (.ins C dx fs)) : Asks K H (.ref a) false :=
  ⟨.ref C, false, false, lik_ty D h, D.ki, D.kb, rfl, any2 D.kl D.kt⟩
end

/-! ### alike -/
theorem eqvT_ints (ns ms : List Int) : PyData.eqv (.tuple ((ns.map V.int).map toD)) (.tuple ((ms.map V.int).map toD)) = decide (ns = ms) := by
  rw [← eqvL_ints]; rfl
theorem dpT {K : PySem.W.Frag} {H : Hp} {a : Addr} {xs : List V} (h : SqT K H a xs) (f : xs.all flat = true) : Dp K H (.ref a) (.tuple (xs.map toD)) := .tup h (dpAllF f)
theorem shapedT {xs : List V} (h : xs.all flat = true) : SeqAt.shaped (.tuple (xs.map toD)) = true := by
  have := shapedL h
  exact this
def likEq (ps ss ps' ss' : List Int) : Bool := decide (ps = ps') && decide (ss = ss')
def spLkEq (K : PySem.W.Frag) (C : Addr) : Sp := fun vs H Q _ => ∃ (a : Addr) (ps ss : List Int) (y : V), vs = [.ref a, y] ∧ LikAt K H a C ps ss ∧
  ((∃ (b : Addr) (ps' ss' : List Int), y = .ref b ∧ LikAt K H b C ps' ss' ∧ Q (.bl (likEq ps ss ps' ss')) H) ∨ (NoLik K C H y ∧ Q (.bl false) H))
section
variable {P : Program} {w : World} {K : PySem.W.Frag} {mg : Str → Option Value} {base : Heap} {f g C : Addr} {fd : FuncData}
theorem sc_leq : FnScope ["self", "other"] ["self", "other"] (defScope sm_eq) := ⟨rfl, rfl, rfl, by decide +kernel, rfl, by decide +kernel, by decide +kernel⟩
theorem ok_leq (F : Fun K "__eq__" "Likeness.__eq__" sm_eq f fd) (T : Nm mg) (D : LikD K C) (mC : mg "Likeness" = some (.ref C)) : FnOk P w K mg base CX0 1 f fd ["self", "other"] (spLkEq K C) := by
  refine F.ok sc_leq (fun vs H Q E h => ?_) (fun cdv A outer s H vs Q E hr h => ?_)
  · obtain ⟨a, ps, ss, y, rfl, _⟩ := h
    rfl
  · obtain ⟨a, ps, ss, y, rfl, hP, h⟩ := h
    refine ⟨_, (pss_one (ps_ret (pe_and (pe_callB (call_isAK K) (by rfl) T.n_isinstance (by decide +kernel) (pa_cons (pv 1) (pa_cons (pe_glob (v := .ref C) (by rfl) mC rfl (by decide)) pa_nil))) (pe_and (pe_cmpR (op_eqD hr.units) (pe_fld (pv 0) rfl) (pe_fld (pv 1) rfl) (nomark _)) (pe_one (pe_cmpR (op_eqD hr.units) (pe_fld (pv 0) rfl) (pe_fld (pv 1) rfl) (nomark _))))))), ?_⟩
    obtain ⟨_, dx, p, q, fs, ha, hp, hq, f1, f2, _⟩ := hP
    rcases h with ⟨b, ps', ss', rfl, hP', k⟩ | ⟨⟨t, ty, e⟩, k⟩
    · obtain ⟨_, dy, p', q', gs, hb, hp', hq', g1, g2, _⟩ := hP'
      refine ⟨_, rfl, _, .ref C, _, _, true, rfl, .own _, lik_ty D hb, D.me, _, rfl, iteT ?_⟩
      refine ⟨_, rfl, a, C, dx, fs, _, rfl, ha, D.cl, D.nP, f1, _, rfl, b, C, dy, gs, _, rfl, hb, D.cl, D.nP, g1, ?_⟩
      refine ⟨_, _, dpT hp.sq (flat_ints _), dpT hp'.sq (flat_ints _), shapedT (flat_ints _), shapedT (flat_ints _), _, rfl, ?_⟩
      rw [eqvT_ints]
      have k' := k
      unfold likEq at k'
      cases e1 : decide (ps = ps') with
      | false =>
        rw [e1] at k'
        exact iteF k'
      | true =>
        rw [e1] at k'
        refine iteT ?_
        refine ⟨_, rfl, a, C, dx, fs, _, rfl, ha, D.cl, D.nS, f2, _, rfl, b, C, dy, gs, _, rfl, hb, D.cl, D.nS, g2, ?_⟩
        refine ⟨_, _, dpT hq (flat_ints _), dpT hq' (flat_ints _), shapedT (flat_ints _), shapedT (flat_ints _), ?_⟩
        rw [eqvT_ints]
        exact k'
    · exact ⟨_, rfl, _, .ref C, _, _, false, rfl, .own _, ty, e, _, rfl, iteF k⟩
end

/-! ### == and != -/
section
variable {prog : Program} {w : World} {A : Around} {E : Value → Shared → Prop} {s : Shared} {K : PySem.W.Frag} {x C f : Addr} {ox : Obj} {od : Option Obj} {b : Value}
theorem ne_KT {Q : Value → Shared → Prop} {tb : Value} (hu : A.units + 1 < cLine) (X : K.In s.heap) (I : PySem.W.InstAt s.heap x ox C od) (hb : PySem.W.Looks (model prog w) s.heap (typeOf b) tb) (hn0 : PySem.W.notFirst K C tb = true) (hn : PySem.W.findIn K (.ref C) "__ne__" = some (some (.builtin "object.__ne__")))
    (hm : PySem.W.mroIn K C (.type "object") = some true) (hs : PySem.W.findIn K (.ref C) "__eq__" = some (some (.ref f))) (hf : PySem.W.isFn K (.ref f) = true)
    (hcall : wpAny (model prog w) A.in1 (call (.ref f) [.ref x, b]) (fun v s' => ∃ r, v = .bool r ∧ Q (.bool (!r)) s') E s) : wpAny (model prog w) A (richCompare .NotEq (.ref x) b) Q E s := by
  have one : wpAny (model prog w) A (tryCompare (.ref x) "__ne__" b) (fun r s' => ∃ v, r = some v ∧ Q v s') E s := by
    unfold tryCompare
    refine wpAny_bind (ifBound_objNe X I hn (wpAny_call (codeAny_call_builtin F.cmp_object.ne.plain F.cmpEntry_ne (PySem.W.check_slot F.cmpKind_ne F.cmpSplit_ne (I.type.andThen (PySem.W.looks_mroIn X hm)) (F.cmpArgs_ne _ _) ?_))))
    refine objNe_K (A := A.in1) hu X I hs hf (wpAny_mono hcall (fun v s' hv => ?_) fun _ _ z => z)
    obtain ⟨r, rfl, q⟩ := hv
    exact ⟨r, rfl, wpAny_pure ⟨_, rfl, q⟩⟩
  simp only [richCompare, cmpInfo_NotEq, oneThing_ref]
  refine wpAny_holding (wpAny_bind (wpAny_cRoomFor (Nat.lt_of_succ_lt hu) ?_))
  refine wpAny_bind (I.type.here (wpAny_bind (hb.here ?_)))
  split
  · rename_i q
    have e : PySem.W.subIn K tb (.ref C) = some false := by
      rcases Bool.or_eq_true_iff.mp hn0 with e | e
      · rw [beq_iff_eq.mp e] at q; simp at q
      · exact beq_iff_eq.mp e
    refine wpAny_bind ((PySem.W.looks_subIn X e).here ?_)
    simp only [Bool.false_eq_true, if_false]
    refine wpAny_bind (wpAny_mono one (fun r s' z => ?_) fun _ _ e => e)
    obtain ⟨v, rfl, hq⟩ := z
    exact wpAny_pure hq
  · refine wpAny_bind (wpAny_pure ?_)
    simp only [Bool.false_eq_true, if_false]
    refine wpAny_bind (wpAny_mono one (fun r s' z => ?_) fun _ _ e => e)
    obtain ⟨v, rfl, hq⟩ := z
    exact wpAny_pure hq
end
structure EqD (P : Program) (w : World) (K : PySem.W.Frag) (mg : Str → Option Value) (base : Heap) (C : Addr) : Prop where
  ex : ∃ f fd, FnOk P w K mg base CX0 1 f fd ["self", "other"] (spLkEq K C) ∧ PySem.W.findIn K (.ref C) "__eq__" = some (some (.ref f)) ∧ PySem.W.isFn K (.ref f) = true ∧ Binds K fd ["self", "other"] []
  ne : PySem.W.findIn K (.ref C) "__ne__" = some (some (.builtin "object.__ne__"))
  hm : PySem.W.mroIn K C (.type "object") = some true
  tup : PySem.W.subIn K (.type "tuple") (.ref C) = some false
  lst : PySem.W.subIn K (.type "list") (.ref C) = some false
/-- y is a likeness, a tuple, a list -/
inductive LkOr (K : PySem.W.Frag) (C : Addr) (H : Hp) (ps ss : List Int) : V → Bool → Prop where
  | lik {b : Addr} {ps' ss' : List Int} (h : LikAt K H b C ps' ss') : LkOr K C H ps ss (.ref b) (likEq ps ss ps' ss')
  | tup {b : Addr} {xs : List V} (h : H b = some (.tup xs)) : LkOr K C H ps ss (.ref b) false
  | lst {b : Addr} {xs : List V} (h : H b = some (.lst xs)) : LkOr K C H ps ss (.ref b) false
def rEqL (K : PySem.W.Frag) (C : Addr) : R2 := fun x y H Q => ∃ (a : Addr) (ps ss : List Int) (r : Bool), x = .ref a ∧ LikAt K H a C ps ss ∧ LkOr K C H ps ss y r ∧ Q (.bl r) H
def rNeL (K : PySem.W.Frag) (C : Addr) : R2 := fun x y H Q => ∃ (a : Addr) (ps ss : List Int) (r : Bool), x = .ref a ∧ LikAt K H a C ps ss ∧ LkOr K C H ps ss y r ∧ Q (.bl (!r)) H
section
variable {X : Cx} {C : Addr}
theorem lk_run {pins : List (Addr × Obj)} {σ : L2.St} {H : Hp} {s : Shared} {K : PySem.W.Frag} {a : Addr} {ps ss : List Int} {y : V} {r : Bool} {Q : VK} {f : Addr} {fd : FuncData} (L : LikD X.K C) (hP : LikAt X.K H a C ps ss) (h : LkOr X.K C H ps ss y r) (q : Q (.bl r) H) : spLkEq X.K C [.ref a, y] H Q E0 := by
  refine ⟨a, ps, ss, y, rfl, hP, ?_⟩
  cases h with
  | lik h => exact .inl ⟨_, _, _, rfl, h, q⟩
  | tup h => exact .inr ⟨.tup L h, q⟩
  | lst h => exact .inr ⟨.lst L h, q⟩
theorem lk_look {pins : List (Addr × Obj)} {σ : L2.St} {H : Hp} {s : Shared} {ps ss : List Int} {y : V} {u : Value} {r : Bool} (D : EqD X.prog X.w X.K X.mg X.base C) (I : Inv X pins σ H s) (ry : RelV y u) (h : LkOr X.K C H ps ss y r) :
    ∃ tb, PySem.W.Looks (model X.prog X.w) s.heap (typeOf u) tb ∧ PySem.W.notFirst X.K C tb = true := by
  cases h with
  | lik h =>
    obtain ⟨_, dx, p, q, fs, hb, _⟩ := h
    cases ry
    obtain ⟨mB, J', _⟩ := ins_get I.hok hb
    obtain ⟨od', J', _⟩ := J'.look
    exact ⟨.ref C, J'.type, by simp [PySem.W.notFirst]⟩
  | tup h =>
    cases ry
    obtain ⟨_, its, _, o, ho, hc, _⟩ := I.hok _ _ h
    refine ⟨.type "tuple", hc ▸ (PySem.W.Looks.ld ho).andThen .now, ?_⟩
    unfold PySem.W.notFirst
    rw [D.tup]
    simp
  | lst h =>
    cases ry
    obtain ⟨_, its, ep, _, ho⟩ := I.hok _ _ h
    refine ⟨.type "list", (PySem.W.Looks.ld ho).andThen .now, ?_⟩
    unfold PySem.W.notFirst
    rw [D.lst]
    simp
theorem op_eqL (D : EqD X.prog X.w X.K X.mg X.base C) (L : LikD X.K C) (hr : Room 2 X.A) (K : PySem.W.Frag) (eK : X.K = K := by rfl) : OpR X (compareOp .Eq) (rEqL K C) := by
  subst eK
  obtain ⟨f, fd, F, h1, h2, B⟩ := D.ex
  intro pins s σ H x y v u Q I rx ry h
  obtain ⟨a, ps, ss, r, rfl, hP, hy, q⟩ := h
  obtain ⟨tb, lk, nf⟩ := lk_look D I ry hy
  obtain ⟨_, dx, _, _, fs, ha, _⟩ := id hP
  cases rx
  obtain ⟨mA, J, _⟩ := ins_get I.hok ha
  obtain ⟨od, J, _⟩ := J.look
  obtain ⟨m, hF⟩ := I.fr
  have run : wpAny (model X.prog X.w) X.A (call (.ref f) [.ref a, u]) (EP X pins σ fun v H' => v = .bl r ∧ Q (.bl r) H') X.xe s := by
    have := run_fn (us := [.ref a, u]) (vs := [.ref a, y]) F (hr.mono (by decide)) B .nil pass0 I (.cons rfl (.cons ry .nil)) (by simpa using lk_run (f := f) (fd := fd) (K := X.K) (pins := pins) (σ := σ) (s := s) (Q := fun v H' => v = .bl r ∧ Q (.bl r) H') L hP hy ⟨rfl, q⟩)
    simpa using this
  show wpAny (model X.prog X.w) X.A (richCompare .Eq _ u) (EP X pins σ Q) X.xe s
  refine PySem.W.cmp_K (op := .Eq) (tb := tb) hr.units0 hF I.ok.mod.kin J lk nf h1 h2 (wpAny_mono run ?_ fun _ _ z => z)
  rintro v s' ⟨z, H', I', rz, rfl, q⟩
  cases rz
  show EP X pins σ Q (.bool r) s'
  exact ⟨.bl r, H', I', rfl, q⟩
theorem op_neL (D : EqD X.prog X.w X.K X.mg X.base C) (L : LikD X.K C) (hr : Room 2 X.A) (K : PySem.W.Frag) (eK : X.K = K := by rfl) : OpR X (compareOp .NotEq) (rNeL K C) := by
  subst eK
  obtain ⟨f, fd, F, h1, h2, B⟩ := D.ex
  intro pins s σ H x y v u Q I rx ry h
  obtain ⟨a, ps, ss, r, rfl, hP, hy, q⟩ := h
  obtain ⟨tb, lk, nf⟩ := lk_look D I ry hy
  obtain ⟨_, dx, _, _, fs, ha, _⟩ := id hP
  cases rx
  obtain ⟨mA, J, _⟩ := ins_get I.hok ha
  obtain ⟨od, J, _⟩ := J.look
  have hh := lk_run (f := f) (fd := fd) (K := X.K) (pins := pins) (σ := σ) (s := s) (Q := fun v H' => v = .bl r ∧ Q (.bl (!r)) H') L hP hy ⟨rfl, q⟩
  have hl : ([Value.ref a, u] ++ []).length = 2 := rfl
  have run : wpAny (model X.prog X.w) X.A.in1 (call (.ref f) [.ref a, u]) (EP X pins σ fun v H' => v = .bl r ∧ Q (.bl (!r)) H') X.xe s := by
    refine wpAny_call (codeAny_mono (F.run X.A.in1 X.stack s H ⟨[.ref a, u], []⟩ [.ref a, u] [.ref a, y] _ E0 (hr.mono (by decide)).in1 I.env0.in1 (by
      have := B s [.ref a, u] I.kIn hl
      simpa using this) (.cons rfl (.cons ry .nil)) hh) fun r s' hq => ?_)
    cases r with
    | error e => exact pass0 pins σ H s e s' I hq
    | ok fl =>
      cases fl with
      | ret u => exact I.after hq
      | next => exact False.elim hq
      | brk => exact False.elim hq
      | cont => exact False.elim hq
  show wpAny (model X.prog X.w) X.A (richCompare .NotEq _ u) (EP X pins σ Q) X.xe s
  refine ne_KT (by have := hr.units; omega) I.kIn J lk nf D.ne D.hm h1 h2 (wpAny_mono run ?_ fun _ _ z => z)
  rintro v s' ⟨z, H', I', rz, rfl, q⟩
  cases rz
  exact ⟨r, rfl, .bl (!r), H', I', rfl, q⟩
end
end K0


set_option Elab.async false
set_option linter.all false
set_option maxRecDepth 100000
set_option maxHeartbeats 8000000
set_option exponentiation.threshold 100000
namespace K0
open PySem PySem.Spec PyProof.Rows L2 RZ K0z

/-! ### defs that may raise -/
structure DnX (P : Program) (w : World) (K : PySem.W.Frag) (mg : Str → Option Value) (base : Heap) (k : Nat) (x : Str) (f : Addr) (ps : List Str) (sp : Sp) : Prop where
  ex : ∃ fd, FnOk P w K mg base (L2.CX P w) k f fd ps sp ∧ Binds K fd ps []
  mg : mg x = some (.ref f)
  kp : PySem.W.keepIn K (.ref f) = true
structure DnKX (P : Program) (w : World) (K : PySem.W.Frag) (mg : Str → Option Value) (base : Heap) (k : Nat) (x : Str) (f : Addr) (ps ks : List Str) (gV : List V → List V → List V) (sp : Sp) : Prop where
  ex : ∃ fd g, FnOk P w K mg base (L2.CX P w) k f fd ps sp ∧ KBn K fd ps 0 ks g gV
  mg : mg x = some (.ref f)
  kp : PySem.W.keepIn K (.ref f) = true
section
variable {X : Cx} {k : Nat} {f : Addr} {ps ks : List Str} {sp : Sp} {x : Str} {p pos : Pos} {e : Expr} {es : List Expr} {kws : List Keyword} {t tk : TA} {gV : List V → List V → List V}
theorem pe_dnx (D : DnX X.prog X.w X.K X.mg X.base k x f ps sp) (hr : Room k X.A) (hg : Gl X x) (ha : PA X (e :: es) t)
    (hdb : (x == ("__debug__" : Str)) = false := by decide)
    (he : starEach (e :: es) X.env = (false, eval e X.env) :: starEach es X.env := by rfl)
    (hpl : (backTo pos (starEach es X.env)).any (·.1) = false := by rfl) :
    PE X (.Call (.Name x p) (e :: es) [] pos) (tDn sp t) := by
  obtain ⟨⟨fd, F, B⟩, m, kp⟩ := D
  have h := pe_call (p := p) F hr hg m kp B .nil passL ha hdb he hpl
  refine ⟨fun pins s σ H Q I q => h.run pins s σ H Q I ?_⟩
  have e1 : tCall sp [] E0 t σ H Q = tDn sp t σ H Q := by
    show t σ H (fun vs H1 => sp (vs ++ []) H1 Q E0) = _
    simp only [List.append_nil]
    rfl
  rw [e1]
  exact q
theorem pe_dkx (D : DnKX X.prog X.w X.K X.mg X.base k x f ps ks gV sp) (hr : Room k X.A) (hg : Gl X x) (hkw : PK X kws tk)
    (hall : (backToKw pos (keywordEach kws X.env)).all (·.1.isSome) = true := by rfl)
    (hks : (backToKw pos (keywordEach kws X.env)).filterMap (·.1) = ks := by rfl)
    (hdb : (x == ("__debug__" : Str)) = false := by decide)
    (hpl : ((backTo pos (starEach [] X.env)).any (·.1) || (backToKw pos (keywordEach kws X.env)).any (·.1.isNone)) = false := by rfl) :
    PE X (.Call (.Name x p) [] kws pos) (fun σ H Q => tk σ H fun zs H1 => zs.length = ks.length ∧ sp (gV [] zs) H1 Q E0) := by
  obtain ⟨⟨fd, g, F, hb⟩, hm, hk⟩ := D
  refine ⟨fun pins s σ H Q I h => wpAny_Call_Name_kw (ld_glob I hg hm ?_ hdb)⟩
  refine PySem.W.callWith_KW0 (h₀ := X.base) I.ok.mod.kin hk hall
    (thn (hkw.run pos pins s σ H _ I h) ?_) hpl
  rintro ws s2 ⟨zs, H2, I2, rz, l2, q2⟩
  refine ⟨I2.kIn, ?_⟩
  rw [hks]
  exact run_fnN (us := []) (vs := []) F hr hb passL I2 .nil rz rfl l2 q2
end
/-- the def, its code object at c -/
def FunC (K : PySem.W.Frag) (x qual : Str) (st : Stmt) (f : Addr) (fd : FuncData) (c : Addr) : Prop :=
  ∃ (oc : Value) (od : Option Addr) (kV doc pm : Value) (an : Option Addr) (ct : Value) (osl : Array (Option Value)),
    fd = PySem.W.fnOf x qual (defArgs st) (defBody st) (defScope st) .none kV doc pm an (.ref c) ct ∧ K.lookup f = some ⟨oc, od, .func fd, osl⟩ ∧ PySem.W.codeIn K (.ref c) qual = true
theorem Fun_okC {P : Program} {w : World} {K : PySem.W.Frag} {mg : Str → Option Value} {base : Heap}
    {x qual : Str} {st : Stmt} {f c : Addr} {fd : FuncData} {N ps : List Str} {k : Nat} {sp : Sp}
    (F : FunC K x qual st f fd c) (S : FnScope N ps (defScope st))
    (len : ∀ vs H Q E, sp vs H Q E → vs.length = ps.length)
    (hbody : ∀ (A : Around) (outer : List Env) (s : Shared) (H : Hp) (vs : List V) (Q : VK) (E : XK),
      A.guards = some [] → Room k (A.deeper (envOfC qual (defScope st) s.heap.objs.size f (.ref c))) → sp vs H Q E →
      ∃ t, PSs (cxOf CX0 P w K mg base N qual (defScope st) f (.ref c) A outer s H E).nox (defBody st) t ∧
        t { nx := fun _ H' => Q .non H', rt := Q } (start N vs) H) :
    FnG P w K mg base (k + 1) f fd ps sp := by
  obtain ⟨oc, od, kV, doc, pm, an, ct, osl, rfl, lk, hcd⟩ := F
  refine ⟨len, ?_⟩
  intro A outer s H args us vs Q E hg hr e0 hb r hsp
  have kept : ∀ b o, base.get? b = some o → s.heap.get? b = some o := fun b o e => (e0.bs b o e).1
  have KX : K.In s.heap := e0.mod.kin.keeps kept
  have lim : s.heap.NoLimit := e0.mod.nolimit.keeps kept
  refine codeAny_call_function hr.depth (KX _ _ lk) rfl S.co S.gen rfl
    (PySem.W.codeRec_of KX hcd) (hb _ _ _ _ ?_)
  refine wpAny_newFunctionEnv_cells S.kind ?_ ?_
  · rintro ⟨n, v⟩ hy
    cases S.par n (List.of_mem_zip hy).1 with
    | inl q => exact Or.inl q
    | inr q => exact Or.inr ⟨q, PySem.W.cellsFrom_some _ _ _ (Or.inl q)⟩
  · intro env he s1 x
    subst he
    obtain ⟨t, ht', hq⟩ := hbody A outer s H vs Q E hg (hr.deeper _) hsp
    have ht := ht'.nox
    refine ⟨lim.keeps x.toInCall.keep, codeAny_func ?_⟩
    have I := inv_start (CX := CX0) (E := E) (N := N) (cd := .ref c) S hr.hd e0 (len _ _ _ _ hsp) r x
    refine wpAny_mono (ht.run [] s1 (start N vs) H _ I hq) ?_ (fun _ _ z => z)
    intro fl s' hs
    cases fl with
    | ret u =>
      obtain ⟨v, σ', H', J, rv, q⟩ := hs
      exact ⟨v, H', J.os, J.bare, J.base, J.hok, rv, q⟩
    | next =>
      obtain ⟨σ', H', J, q⟩ := hs
      exact ⟨.non, H', J.os, J.bare, J.base, J.hok, rfl, q⟩
    | brk =>
      obtain ⟨_, _, _, q⟩ := hs
      cases q
    | cont =>
      obtain ⟨_, _, _, q⟩ := hs
      cases q
def kw1 : List V → List V → List V := fun _ zs => zs
theorem tabs_upd {T : List (Addr × Str)} {H : Hp} {p : Addr} {o : HO} {xs : List V} (t : LamX.Tabs T H) (h : H p = some (.lst xs)) : LamX.Tabs T (upd H p o) := by
  intro q hq
  obtain ⟨ps, h1, h2, h3⟩ := t q hq
  refine ⟨ps, ?_, h2, fun pos cv hc => ?_⟩
  · rw [upd_ne (fun e => by rw [e, h] at h1; cases h1)]
    exact h1
  · obtain ⟨c', e1, e2⟩ := h3 pos cv hc
    refine ⟨c', e1, ?_⟩
    rw [upd_ne (fun e => by rw [e, h] at e2; cases e2)]
    exact e2
def SBN (c : Addr) (H H' : Hp) : Prop := ∀ b o, b ≠ c → H b = some o → (∀ ps, o ≠ .tbl ps) → H' b = some o
theorem SBN.of {c : Addr} {H H' : Hp} (s : SameBut c H H') : SBN c H H' := fun b o n e _ => s b o n e
theorem SBN.ext {c : Addr} {H H' : Hp} (s : LamX.ExtN H H') : SBN c H H' := fun b o _ e q => s b o e q
theorem SBN.trans {c : Addr} {H H1 H2 : Hp} (a : SBN c H H1) (b : SBN c H1 H2) : SBN c H H2 := fun x o n e q => b x o n (a x o n e q) q
theorem Coil.ext {H H' : Hp} {c d : Addr} {ns : List Int} {m : Nat} (h : Coil H c d ns m) (s : LamX.ExtN H H') : Coil H' c d ns m := by
  obtain ⟨h1, h2, h3, a, b, h4, r⟩ := h
  exact ⟨h1, h2, s _ _ h3 (by intro ps e; cases e), a, b, s _ _ h4 (by intro ps e; cases e), r⟩
theorem tabs_but {T : List (Addr × Str)} {H H' : Hp} {c d : Addr} {ns : List Int} {m : Nat} (t : LamX.Tabs T H) (hC : Coil H c d ns m) (s : SameBut c H H') : LamX.Tabs T H' := by
  obtain ⟨_, _, _, a, b, h4, _⟩ := hC
  intro p hp
  obtain ⟨ps, h1, h2, h3⟩ := t p hp
  refine ⟨ps, s _ _ (fun e => by rw [e, h4] at h1; cases h1) h1, h2, fun pos cv hc => ?_⟩
  obtain ⟨c', e1, e2⟩ := h3 pos cv hc
  exact ⟨c', e1, s _ _ (fun e => by rw [e, h4] at e2; cases e2) e2⟩
theorem Fun_okN {P : Program} {w : World} {K : PySem.W.Frag} {mg : Str → Option Value} {base : Heap}
    {x qual : Str} {st : Stmt} {f : Addr} {fd : FuncData} {N ps : List Str} {k : Nat} {sp : Sp}
    (F : Fun K x qual st f fd) (S : FnScope N ps (defScope st))
    (len : ∀ vs H Q E, sp vs H Q E → vs.length = ps.length)
    (hbody : ∀ (cdv : Value) (A : Around) (outer : List Env) (s : Shared) (H : Hp) (vs : List V) (Q : VK) (E : XK),
      A.guards = some [] → Room k (A.deeper (envOfC qual (defScope st) s.heap.objs.size f cdv)) → sp vs H Q E →
      ∃ t, PSs (cxOf CX0 P w K mg base N qual (defScope st) f cdv A outer s H E).nox (defBody st) t ∧
        t { nx := fun _ H' => Q .non H', rt := Q } (start N vs) H) :
    FnG P w K mg base (k + 1) f fd ps sp :=
  Fun_okG F S len fun cdv A outer s H vs Q E hg hr h => let ⟨t, ht, q⟩ := hbody cdv A outer s H vs Q E hg hr h; ⟨t, ht.nox, q⟩

end K0


set_option Elab.async false
set_option linter.all false
set_option maxRecDepth 100000
set_option maxHeartbeats 8000000
namespace K0
open PySem PySem.Spec PyProof.Rows L2 RZ K0z

/-! ### what a likeness leads to, by numbers -/
def ledL (ps ss pt : List Int) : List Int := (List.range ps.length).map fun k => ss.getD k 0 * pt.getD (ps.getD k 0).toNat 0
def thenP (ps ps' : List Int) : List Int := ps'.map fun k => ps.getD k.toNat 0
def backP (ps : List Int) : List Int := (List.range ps.length).map fun (k : Nat) => (ps.idxOf (k : Int) : Int)
def backS (ps ss : List Int) : List Int := (backP ps).map fun k => ss.getD k.toNat 0
theorem Lik.at {ps ss : List Int} (L : Lik ps ss) {p : Int} (h : p ∈ ps) : ∃ j : Nat, p = j ∧ j < ps.length := by
  have := (L.perm.mem_iff).mp h
  unfold rng at this
  obtain ⟨j, hj, rfl⟩ := List.mem_map.mp this
  exact ⟨j, rfl, List.mem_range.mp hj⟩
theorem ledL_len (ps ss pt : List Int) : (ledL ps ss pt).length = ps.length := by simp [ledL]

/-! ### likenesses made -/
/-- the class stands at C -/
structure LikM (P : Program) (w : World) (K : PySem.W.Frag) (mg : Str → Option Value) (base : Heap) (C CB : Addr) : Prop where
  ex : ∃ fI fd, Mk K C fI ∧ FnOk P w K mg base (L2.CX P w) 6 fI fd ["self", "places", "signs"] (spLkI K CB C) ∧ Binds K fd ["self", "places", "signs"] []
  mg : mg "Likeness" = some (.ref C)
theorem seqsL {K : PySem.W.Frag} {H : Hp} {p : Addr} {xs : List V} (h : H p = some (.lst xs)) (hz : xs.length < sizeLine) : Seqs K H (.ref p) (some xs) := ⟨.lst h, hz, p, rfl, .inl (.of h)⟩
theorem seqsT {K : PySem.W.Frag} {H : Hp} {p : Addr} {xs : List V} (h : H p = some (.tup xs)) (hz : xs.length < sizeLine) : Seqs K H (.ref p) (some xs) := ⟨.tup h, hz, p, rfl, .inr (.of h)⟩
theorem itemsI {K : PySem.W.Frag} {H : Hp} (ns : List Int) : Items K H (some (ns.map V.int)) := by
  rintro xs e x hx
  cases e
  obtain ⟨n, _, rfl⟩ := List.mem_map.mp hx
  exact ⟨_, .int n⟩
theorem six {n : Nat} (h : n ≤ 6) : n < sizeLine := Nat.lt_of_le_of_lt h (by decide)
/-- a list, or a tuple that is known to have no dict -/
def PlV (K : PySem.W.Frag) (H : Hp) (v : V) (xs : List V) : Prop := xs.length < sizeLine ∧ ∃ p, v = .ref p ∧ (H p = some (.lst xs) ∨ TpF H p xs)
theorem PlV.same {K : PySem.W.Frag} {H H' : Hp} {v : V} {xs : List V} (h : PlV K H v xs) (s : Same H H') : PlV K H' v xs := by
  obtain ⟨hz, p, e, h⟩ := h
  refine ⟨hz, p, e, ?_⟩
  rcases h with h | h
  · exact .inl (s _ _ h)
  · exact .inr (h.same s)
theorem PlV.seqs {K : PySem.W.Frag} {H : Hp} {v : V} {xs : List V} (h : PlV K H v xs) : Seqs K H v (some xs) := by
  obtain ⟨hz, p, rfl, h⟩ := h
  rcases h with h | h
  · exact ⟨.lst h, hz, p, rfl, .inl (.of h)⟩
  · exact ⟨.tupF h, hz, p, rfl, .inr h.sq⟩
theorem PlV.ask {K : PySem.W.Frag} {H : Hp} {v : V} {xs : List V} (h : PlV K H v xs) : ∀ zs, some xs = some zs → ∃ p, v = .ref p ∧ (SqL K H p zs ∨ TpF H p zs) := by
  obtain ⟨hz, p, rfl, h⟩ := h
  intro zs e
  cases e
  refine ⟨p, rfl, ?_⟩
  rcases h with h | h
  · exact .inl (.of h)
  · exact .inr h
theorem lik_good {K : PySem.W.Frag} {CB C : Addr} {H : Hp} {a dx : Addr} {v1 v2 : V} {ps ss : List Int} {Q : VK} {E : XK} (L : Lik ps ss) (ha : H a = some (.ins C dx [])) (hs1 : PlV K H v1 (ps.map V.int)) (hs2 : Seqs K H v2 (some (ss.map V.int)))
    (k : ∀ H', LikAt K H' a C ps ss → (∀ b o, b ≠ a → H b = some o → H' b = some o) → Q .non H') : spLkI K CB C [.ref a, v1, v2] H Q E := by
  refine ⟨a, dx, v1, v2, _, _, rfl, ha, hs1.seqs, itemsI ps, hs1.ask, hs2, itemsI ss, fun e => absurd e (by rw [plB_lik L]; decide), fun xs e _ => ?_⟩
  cases e
  refine ⟨fun e => absurd e (by rw [siB_lik L]; decide), fun ys e _ H' hL sb => ?_⟩
  cases e
  rw [intsOf_map, intsOf_map] at hL
  exact k H' hL sb
theorem lik_way {K : PySem.W.Frag} {CB C : Addr} {H1 : Hp} {v1 v2 : V} {ps ss : List Int} {Q : VK} {E : XK} (L : Lik ps ss) (hs1 : PlV K H1 v1 (ps.map V.int)) (hs2 : Seqs K H1 v2 (some (ss.map V.int)))
    (k : ∀ a H2, H1 a = none → LikAt K H2 a C ps ss → Same H1 H2 → Q (.ref a) H2) :
    ∀ x dx, H1 x = none → H1 dx = none → dx ≠ x → spLkI K CB C (.ref x :: ([v1, v2] ++ [])) (upd (upd H1 dx (.own x)) x (.ins C dx [])) (fun v H2 => v = .non ∧ Q (.ref x) H2) E := by
  intro x dx hx hdx ndx
  have s : Same H1 (upd (upd H1 dx (.own x)) x (.ins C dx [])) := (same_upd hdx).trans (same_upd (by rw [upd_ne (Ne.symm ndx)]; exact hx))
  exact lik_good L upd_same (hs1.same s) (Seqs.same s hs2) fun H' hL sb => ⟨rfl, k x H' hx hL (make_same sb hx hdx)⟩
theorem pe_lik {X : Cx} {C CB : Addr} {p pos : Pos} {e : Expr} {es : List Expr} {t : TA} (D : LikM X.prog X.w X.K X.mg X.base C CB) (hr : Room 7 X.A) (hg : Gl X "Likeness") (ha : PA X (e :: es) t)
    (he : starEach (e :: es) X.env = (false, eval e X.env) :: starEach es X.env := by rfl) (hpl : (backTo pos (starEach es X.env)).any (·.1) = false := by rfl) :
    PE X (.Call (.Name "Likeness" p) (e :: es) [] pos) (tMake C (spLkI X.K CB C) [] E0 t) := by
  obtain ⟨fI, fd, M, F, B⟩ := D.ex
  exact pe_make (p := p) (pos := pos) M F hr hg D.mg B .nil passL ha (by decide) he hpl

/-! ### led -/
def spLed (K : PySem.W.Frag) (CP C : Addr) : Sp := fun vs H Q E => ∃ (a : Addr) (v : V) (ps ss : List Int) (o : Option (List V)), vs = [.ref a, v] ∧ LikAt K H a C ps ss ∧ Seqs K H v o ∧ Items K H o ∧
  ((lenB o (.int ps.length) (.int ps.length) && intsB o) = false → raisesN CP "point" H E) ∧
  (∀ xs, o = some xs → (lenB o (.int ps.length) (.int ps.length) && intsB o) = true → ∀ q H', Same H H' → H q = none → H' q = some (.tup ((ledL ps ss (intsOf xs)).map V.int)) → Q (.ref q) H')
section
variable {P : Program} {w : World} {K : PySem.W.Frag} {mg : Str → Option Value} {base : Heap} {f g g2 C CB CP : Addr} {fd : FuncData}
abbrev N_led : List Str := ["self", "point", "place", "sign"]
theorem sc_led : FnScope N_led ["self", "point"] (defScope sm_led) := ⟨rfl, rfl, rfl, by decide +kernel, rfl, by decide +kernel, by decide +kernel⟩
theorem ok_led (F : Fun K "led" "Likeness.led" sm_led f fd) (T : Nm mg) (U : LikC K C) (D_is_point : Dn P w K mg base 5 "is_point" g ["value", "wide"] (spIsPoint K))
    (R_BadPoint : RaiseC P w K mg base "BadPoint" CP "part") : FnOk P w K mg base (L2.CX P w) 6 f fd ["self", "point"] (spLed K CP C) := by
  refine F.okX sc_led (fun vs H Q E h => ?_) (fun cdv A outer s H vs Q E hr h => ?_)
  · obtain ⟨a, v, _, _, _, rfl, _⟩ := h
    rfl
  · obtain ⟨a, v, ps, ss, o, rfl, hP, hv, hi, k1, k2⟩ := h
    refine ⟨_, (pss_cons (ps_if (pt_not (pt_val (pe_dn D_is_point (hr.mono (by decide)) rfl (pa_cons (pv 1) (pa_cons (pe_fld (pv 0) rfl) pa_nil))))) (pss_one (ps_raise rfl (takes_of rfl rfl rfl rfl) (pmk_c R_BadPoint (hr.mono (by decide)) rfl (pa_cons pe_str pa_nil)))) pss_nil)
    (pss_one (ps_ret (pe_callTy (call_tupK K) (by rfl) T.n_tuple (by decide +kernel) (pa_cons (pe_lc (own := [("place", 2), ("sign", 3)]) (g := gTup K 2 (gCons (gName 2) (gCons (gName 3) gNil))) (tt := tYes) rfl sc_led.nd (pi_zipMK K (by rfl) T.n_zip (pa_cons (pe_fld (pv 0) rfl) (pa_cons (pe_fld (pv 0) rfl) pa_nil))) (blkOk_by (N := N_led) (sc := defScope sm_led) (by decide +kernel)) (fun _ _ _ _ _ => (pg_tup (by rfl) (pgs_cons (pg_name (i := 2) sc_led.nd rfl (Or.inl rfl)) (pgs_cons (pg_name (i := 3) sc_led.nd rfl (Or.inl rfl)) pgs_nil)))) (fun _ _ _ _ _ => pts_nil) (fun _ _ _ _ _ => (pe_op op_mul (pv 3) (pe_ix (ix_K K) (pv 1) (pv 2) (fun _ _ => rfl))))) pa_nil))))), ?_⟩
    obtain ⟨L, dx, p, q, fs, ha, hp, hq, f1, f2, f3, _⟩ := hP
    refine ⟨_, rfl, _, rfl, a, C, dx, fs, _, rfl, ha, U.cl, U.nW, f3, v, _, o, rfl, hv, hi, fun H1 s1 => ⟨_, rfl, ?_⟩⟩
    cases e : (lenB o (.int ps.length) (.int ps.length) && intsB o) with
    | false => exact iteT (fun dd H' h1 h2 s2 => (k1 e).same s1 dd H' h1 h2 s2)
    | true =>
      refine iteF ?_
      cases o with
      | none => cases e
      | some xs =>
        have e' := e
        rw [Bool.and_eq_true] at e'
        obtain ⟨l1, l2⟩ := lenB_of e'.1
        have ex := map_intsOf (xs := xs) e'.2
        have exl : xs.length = (intsOf xs).length := (congrArg List.length ex).trans (List.length_map _)
        obtain ⟨_, hz, pp, rfl, hS⟩ := Seqs.same s1 hv
        obtain ⟨b, hS⟩ := SqB.or hS
        have k3 := k2 xs rfl e
        have n6 := L.n6
        have len := L.len
        refine ⟨_, rfl, a, C, dx, fs, _, rfl, s1 _ _ ha, U.cl, U.nP, f1, _, rfl, a, C, dx, fs, _, rfl, s1 _ _ ha, U.cl, U.nS, f2, true, true, p, q, _, _, rfl, (hp.same s1).sq, same_sqT s1 hq, fun D hD => lc_fun (fun i => V.int (ss.getD i 0 * (intsOf xs).getD (ps.getD i 0).toNat 0)) (walk_zipM rfl) hD ?_ (fun H2 s2 => ⟨(hp.same (s1.trans s2)).sq, same_sqT (s1.trans s2) hq⟩) ?_ ?_⟩
        · rw [List.length_map, List.length_map]
          exact six (by omega)
        · rintro i x H2 H3 hi2 s2 ⟨acc, hacc⟩ ⟨T', x', y', rfl, hT, rfl, e3, e4⟩ Rk kk
          obtain ⟨n1, hn1, rfl⟩ := map_int_get e3
          obtain ⟨n2, hn2, rfl⟩ := map_int_get e4
          obtain ⟨j, rfl, hj⟩ := L.at (List.mem_of_getElem? hn1)
          have sT := same_upd (o := .tup [.int (j : Nat), .int n2]) hT
          have hjx : j < (intsOf xs).length := by omega
          refine ⟨T', _, rfl, .of upd_same, rfl, _, _, rfl, _, _, rfl, rfl, rfl, _, rfl, _, rfl, _, rfl, b, pp, xs, _, .int ((intsOf xs)[j]'hjx), rfl, rfl, hS.same (s2.trans sT), atI_nat ?_, n2, _, rfl, rfl, ?_, ?_⟩
          · have eg : ((intsOf xs).map V.int)[j]? = some (V.int ((intsOf xs)[j]'hjx)) := by
              rw [List.getElem?_map, List.getElem?_eq_getElem hjx]
              rfl
            rw [← ex] at eg
            exact eg
          · rcases L.sg n2 (List.mem_of_getElem? hn2) with rfl | rfl
            · exact .inl ⟨by decide, by decide⟩
            · exact .inl ⟨by decide, by decide⟩
          · have q := kk _ sT
            rw [List.getD_eq_getElem?_getD (l := ss), hn2, List.getD_eq_getElem?_getD (l := ps), hn1] at q
            dsimp only [Option.getD_some] at q
            rw [Int.toNat_natCast, getD_of hjx] at q
            exact q
        · intro H2 hD2 s2
          rw [List.length_map, List.length_map, len, Nat.min_self] at hD2
          have eL : (List.range ps.length).map (fun i => V.int (ss.getD i 0 * (intsOf xs).getD (ps.getD i 0).toNat 0)) = (ledL ps ss (intsOf xs)).map V.int := by
            unfold ledL
            rw [List.map_map]
            rfl
          rw [eL] at hD2
          have s12 := s1.trans s2
          refine ⟨false, D, _, rfl, .of hD2, fun _ l hl => ?_, fun z => by cases z⟩
          exact k3 l _ (s12.trans (same_upd hl)) (s12.free hl) upd_same
end
end K0


set_option Elab.async false
set_option linter.all false
set_option maxRecDepth 100000
set_option maxHeartbeats 4000000
namespace K0
open PySem PySem.Spec PyProof.Rows L2 RZ K0z

/-! ### likenesses by numbers -/
theorem ext_getD {l1 l2 : List Int} (h : l1.length = l2.length) (e : ∀ i, i < l1.length → l1.getD i 0 = l2.getD i 0) : l1 = l2 := by
  refine List.ext_getElem h fun i h1 h2 => ?_
  have := e i h1
  rw [getD_of h1, getD_of h2] at this
  exact this
theorem getD_map {α : Type} {l : List α} {f : α → Int} {i : Nat} (d : α) (h : i < l.length) : (l.map f).getD i 0 = f (l.getD i d) := by
  rw [getD_of (by simpa using h), getD_of h, List.getElem_map]
theorem getD_range {n i : Nat} {f : Nat → Int} (h : i < n) : ((List.range n).map f).getD i 0 = f i := by
  rw [getD_of (by simpa using h), List.getElem_map, List.getElem_range]
theorem led_at {ps ss pt : List Int} {k : Nat} (h : k < ps.length) : (ledL ps ss pt).getD k 0 = ss.getD k 0 * pt.getD (ps.getD k 0).toNat 0 := getD_range h
theorem rng_at {n k : Nat} (h : k < n) : (rng n).getD k 0 = (k : Int) := getD_range (f := fun i => (i : Int)) h
def cnt (n : Nat) : List Int := (List.range n).map fun (i : Nat) => (i : Int) + 1
theorem cnt_at {n k : Nat} (h : k < n) : (cnt n).getD k 0 = (k : Int) + 1 := getD_range (f := fun i => (i : Int) + 1) h
theorem cnt_len (n : Nat) : (cnt n).length = n := by simp [cnt]
section
variable {ps ss ps' ss' pt : List Int}
theorem Lik.get (L : Lik ps ss) {i : Nat} (h : i < ps.length) : ∃ j : Nat, ps.getD i 0 = j ∧ j < ps.length := by
  rw [getD_of h]
  exact L.at (List.getElem_mem h)
theorem Lik.sget (L : Lik ps ss) {i : Nat} (h : i < ps.length) : ss.getD i 0 = 1 ∨ ss.getD i 0 = -1 := by
  have h2 : i < ss.length := by rw [L.len]; exact h
  rw [getD_of h2]
  exact L.sg _ (List.getElem_mem h2)
theorem rng_nodup (n : Nat) : (rng n).Nodup := by
  unfold rng
  refine List.Pairwise.map _ (fun a b (h : a ≠ b) => ?_) (List.nodup_range (n := n))
  intro e
  exact h (Int.ofNat.inj e)
theorem Lik.nodup (L : Lik ps ss) : ps.Nodup := L.perm.nodup_iff.mpr (rng_nodup _)
theorem Lik.mem (L : Lik ps ss) {k : Nat} (h : k < ps.length) : (k : Int) ∈ ps := by
  refine L.perm.mem_iff.mpr ?_
  unfold rng
  exact List.mem_map.mpr ⟨k, List.mem_range.mpr h, rfl⟩
theorem Lik.idx (L : Lik ps ss) {k : Nat} (h : k < ps.length) : ps.idxOf (k : Int) < ps.length ∧ ps.getD (ps.idxOf (k : Int)) 0 = k := by
  have h1 : ps.idxOf (k : Int) < ps.length := List.idxOf_lt_length_of_mem (L.mem h)
  refine ⟨h1, ?_⟩
  rw [getD_of h1]
  exact List.getElem_idxOf h1
theorem Lik.idx' (L : Lik ps ss) {i : Nat} (h : i < ps.length) : ps.idxOf (ps.getD i 0) = i := by
  rw [getD_of h]
  exact L.nodup.idxOf_getElem i h
theorem back_at {k : Nat} (h : k < ps.length) : (backP ps).getD k 0 = (ps.idxOf (k : Int) : Int) := getD_range (f := fun (k : Nat) => (ps.idxOf (k : Int) : Int)) h
theorem backP_len : (backP ps).length = ps.length := by simp [backP]
theorem backS_len : (backS ps ss).length = ps.length := by simp [backS, backP]
theorem backS_at {k : Nat} (h : k < ps.length) : (backS ps ss).getD k 0 = ss.getD (ps.idxOf (k : Int)) 0 := by
  unfold backS
  rw [getD_map 0 (by rw [backP_len]; exact h), back_at h, Int.toNat_natCast]
theorem Lik.back (L : Lik ps ss) : Lik (backP ps) (backS ps ss) := by
  refine ⟨by rw [backP_len]; exact L.n2, by rw [backP_len]; exact L.n6, by rw [backS_len, backP_len], ?_, fun s hs => ?_⟩
  · rw [backP_len]
    have e : ps.map (fun k => (ps.idxOf k : Int)) = rng ps.length := by
      refine ext_getD (by rw [List.length_map, rng_len]) fun i h => ?_
      rw [List.length_map] at h
      rw [getD_map 0 h, rng_at h, L.idx' h]
    have e2 : backP ps = (rng ps.length).map (fun k => (ps.idxOf k : Int)) := by
      unfold backP rng
      rw [List.map_map]
      rfl
    rw [e2]
    refine (L.perm.symm.map _).trans ?_
    rw [e]
  · obtain ⟨i, hi, rfl⟩ := List.mem_iff_getElem.mp hs
    rw [← getD_of hi 0]
    rw [backS_len] at hi
    rw [backS_at hi]
    exact L.sget (L.idx hi).1
theorem Lik.then (L : Lik ps ss) (L' : Lik ps' ss') (hn : ps'.length = ps.length) : Lik (thenP ps ps') (ledL ps' ss' ss) := by
  have l1 : (thenP ps ps').length = ps.length := by simp [thenP, hn]
  refine ⟨by rw [l1]; exact L.n2, by rw [l1]; exact L.n6, by rw [ledL_len, l1, hn], ?_, fun s hs => ?_⟩
  · rw [l1]
    have e : (rng ps.length).map (fun k => ps.getD k.toNat 0) = ps := by
      refine ext_getD (by rw [List.length_map, rng_len]) fun i h => ?_
      rw [List.length_map, rng_len] at h
      rw [getD_map 0 (by rw [rng_len]; exact h), rng_at h, Int.toNat_natCast]
    unfold thenP
    refine ((L'.perm.map _).trans ?_).trans L.perm
    rw [hn, e]
  · obtain ⟨i, hi, rfl⟩ := List.mem_iff_getElem.mp hs
    rw [← getD_of hi 0]
    rw [ledL_len] at hi
    rw [led_at hi]
    obtain ⟨j, hj, hjl⟩ := L'.get hi
    rw [hj, Int.toNat_natCast]
    rcases L'.sget hi with e1 | e1 <;> rcases L.sget (i := j) (by omega) with e2 | e2 <;> rw [e1, e2] <;> decide
theorem Lik.same {n : Nat} (h2 : 2 ≤ n) (h6 : n ≤ 6) : Lik (rng n) (List.replicate n 1) := by
  refine ⟨by rw [rng_len]; exact h2, by rw [rng_len]; exact h6, by rw [List.length_replicate, rng_len], by rw [rng_len], fun s hs => .inl ?_⟩
  exact List.eq_of_mem_replicate hs
theorem led_then (L : Lik ps ss) (L' : Lik ps' ss') (hn : ps'.length = ps.length) : ledL (thenP ps ps') (ledL ps' ss' ss) pt = ledL ps' ss' (ledL ps ss pt) := by
  have l1 : (thenP ps ps').length = ps'.length := by simp [thenP]
  refine ext_getD (by rw [ledL_len, ledL_len, l1]) fun i h => ?_
  rw [ledL_len, l1] at h
  rw [led_at (by rw [l1]; exact h), led_at h, led_at h]
  obtain ⟨j, hj, hjl⟩ := L'.get h
  have e : (thenP ps ps').getD i 0 = ps.getD j 0 := by
    unfold thenP
    rw [getD_map 0 h, hj, Int.toNat_natCast]
  rw [e, hj, Int.toNat_natCast, led_at (by omega), Int.mul_assoc]
theorem led_back (L : Lik ps ss) (hp : pt.length = ps.length) : ledL (backP ps) (backS ps ss) (ledL ps ss pt) = pt := by
  refine ext_getD (by rw [ledL_len, backP_len, hp]) fun i h => ?_
  rw [ledL_len, backP_len] at h
  obtain ⟨h1, h2⟩ := L.idx h
  rw [led_at (by rw [backP_len]; exact h), back_at h, backS_at h, Int.toNat_natCast, led_at h1, h2, Int.toNat_natCast]
  rcases L.sget h1 with e | e <;> rw [e] <;> omega
theorem led_back' (L : Lik ps ss) (hp : pt.length = ps.length) : ledL ps ss (ledL (backP ps) (backS ps ss) pt) = pt := by
  refine ext_getD (by rw [ledL_len, hp]) fun i h => ?_
  rw [ledL_len] at h
  obtain ⟨j, hj, hjl⟩ := L.get h
  rw [led_at h, hj, Int.toNat_natCast, led_at (by rw [backP_len]; exact hjl), back_at hjl, backS_at hjl, ← hj, L.idx' h, Int.toNat_natCast]
  rcases L.sget h with e | e <;> rw [e] <;> omega
/-- what tells a likeness by what 1, 2, .. are led to -/
theorem led_inj (L : Lik ps ss) (L' : Lik ps' ss') (hn : ps'.length = ps.length) (h : ledL ps ss (cnt ps.length) = ledL ps' ss' (cnt ps.length)) : ps = ps' ∧ ss = ss' := by
  have key : ∀ i, i < ps.length → ps.getD i 0 = ps'.getD i 0 ∧ ss.getD i 0 = ss'.getD i 0 := by
    intro i hi
    have e := congrArg (fun l => l.getD i 0) h
    rw [led_at hi, led_at (by omega)] at e
    obtain ⟨j, hj, hjl⟩ := L.get hi
    obtain ⟨j', hj', hjl'⟩ := L'.get (i := i) (by omega)
    rw [hj, hj', Int.toNat_natCast, Int.toNat_natCast, cnt_at hjl, cnt_at (by omega)] at e
    rw [hj, hj']
    rcases L.sget hi with e1 | e1 <;> rcases L'.sget (i := i) (by omega) with e2 | e2 <;> rw [e1, e2] at e ⊢ <;> omega
  refine ⟨ext_getD hn.symm fun i hi => (key i hi).1, ext_getD (by rw [L.len, L'.len, hn]) fun i hi => (key i (by rw [← L.len]; exact hi)).2⟩
theorem led_same {n : Nat} (hp : pt.length = n) : ledL (rng n) (List.replicate n 1) pt = pt := by
  refine ext_getD (by rw [ledL_len, rng_len, hp]) fun i h => ?_
  rw [ledL_len, rng_len] at h
  rw [led_at (by rw [rng_len]; exact h), rng_at h, Int.toNat_natCast, getD_of (by simpa using h), List.getElem_replicate, Int.one_mul]
theorem then_len : (thenP ps ps').length = ps'.length := by simp [thenP]
theorem then_back (L : Lik ps ss) : thenP ps (backP ps) = rng ps.length ∧ ledL (backP ps) (backS ps ss) ss = List.replicate ps.length 1 := by
  have hl := L.then L.back backP_len
  refine led_inj hl (Lik.same L.n2 L.n6) (by rw [rng_len, then_len, backP_len]) ?_
  rw [then_len, backP_len, led_then L L.back backP_len, led_back L (cnt_len _), led_same (cnt_len _)]
theorem back_then (L : Lik ps ss) : thenP (backP ps) ps = rng ps.length ∧ ledL ps ss (backS ps ss) = List.replicate ps.length 1 := by
  have hl := L.back.then L backP_len.symm
  refine led_inj hl (Lik.same L.n2 L.n6) (by rw [rng_len, then_len]) ?_
  rw [then_len, led_then L.back L backP_len.symm, led_back' L (cnt_len _), led_same (cnt_len _)]
theorem same_then (L : Lik ps ss) : thenP (rng ps.length) ps = ps ∧ ledL ps ss (List.replicate ps.length 1) = ss := by
  have hs := Lik.same L.n2 L.n6
  have hl := hs.then L (by rw [rng_len])
  refine led_inj hl L then_len.symm ?_
  rw [then_len, led_then hs L (by rw [rng_len]), led_same (cnt_len _)]
theorem led_left (L : Lik ps ss) {x y : List Int} (hx : x.length = ps.length) (hy : y.length = ps.length) (h : ledL ps ss x = ledL ps ss y) : x = y := by
  rw [← led_back L hx, h, led_back L hy]
theorem back_back (L : Lik ps ss) : backP (backP ps) = ps ∧ backS (backP ps) (backS ps ss) = ss := by
  refine led_inj L.back.back L (by rw [backP_len, backP_len]) ?_
  rw [backP_len, backP_len]
  refine led_left L.back (by rw [ledL_len, backP_len]) (by rw [ledL_len, backP_len]) ?_
  rw [led_back' L.back (by rw [cnt_len, backP_len]), led_back L (cnt_len _)]
theorem back_of_then (L : Lik ps ss) (L' : Lik ps' ss') (hn : ps'.length = ps.length) :
    backP (thenP ps ps') = thenP (backP ps') (backP ps) ∧ backS (thenP ps ps') (ledL ps' ss' ss) = ledL (backP ps) (backS ps ss) (backS ps' ss') := by
  have hl := L.then L' hn
  have hb : (backP ps).length = (backP ps').length := by rw [backP_len, backP_len, hn]
  refine led_inj hl.back (L'.back.then L.back hb) (by rw [then_len, backP_len, backP_len, then_len, hn]) ?_
  have e1 : (backP (thenP ps ps')).length = ps.length := by rw [backP_len, then_len, hn]
  rw [e1]
  refine led_left hl (by rw [ledL_len, backP_len]) (by rw [ledL_len, then_len, backP_len, then_len, hn]) ?_
  rw [led_back' hl (by rw [cnt_len, then_len, hn]), led_then L'.back L.back hb, led_then L L' hn, led_back' L (by rw [ledL_len, backP_len, hn]), led_back' L' (by rw [cnt_len, hn])]
/-- what is due: the places and signs by which 1, 2, .. is led -/
theorem due_of (L : Lik ps ss) : (ledL ps ss (cnt ps.length)).map (fun x => (if x < 0 then -x else x) - 1) = ps ∧ (ledL ps ss (cnt ps.length)).map (fun x => if 0 < x then (1 : Int) else -1) = ss := by
  have key : ∀ i, i < ps.length → ∃ j : Nat, ps.getD i 0 = j ∧ (ledL ps ss (cnt ps.length)).getD i 0 = ss.getD i 0 * ((j : Int) + 1) := fun i hi => by
    obtain ⟨j, hj, hjl⟩ := L.get hi
    refine ⟨j, hj, ?_⟩
    rw [led_at hi, hj, Int.toNat_natCast, cnt_at hjl]
  refine ⟨ext_getD (by rw [List.length_map, ledL_len]) fun i hi => ?_, ext_getD (by rw [List.length_map, ledL_len, L.len]) fun i hi => ?_⟩
  · rw [List.length_map, ledL_len] at hi
    obtain ⟨j, hj, e⟩ := key i hi
    rw [getD_map 0 (by rw [ledL_len]; exact hi), e, hj]
    rcases L.sget hi with e1 | e1 <;> rw [e1] <;> split <;> omega
  · rw [List.length_map, ledL_len] at hi
    obtain ⟨j, hj, e⟩ := key i hi
    rw [getD_map 0 (by rw [ledL_len]; exact hi), e]
    rcases L.sget hi with e1 | e1 <;> rw [e1] <;> split <;> omega
end
end K0


set_option Elab.async false
set_option linter.all false
set_option maxRecDepth 100000
set_option maxHeartbeats 8000000
namespace K0
open PySem PySem.Spec PyProof.Rows L2 RZ K0z

theorem mt_tixK {X : Cx} (K : PySem.W.Frag) (eK : X.K = K := by rfl) : MtR X "tuple.index" (fun x xs H Q => ∃ (a : Addr) (ns : List Int) (k : Int), x = .ref a ∧ xs = [.int k] ∧ SqT K H a (ns.map V.int) ∧ k ∈ ns ∧ Q (.int (ns.idxOf k : Nat)) H) := by
  subst eK; exact mt_tixI
def spThen2 (K : PySem.W.Frag) : Sp := fun vs H Q _ => ∃ (a b p s p' s' : Addr) (ps ss ps' ss' : List Int), vs = [.ref a, .ref b] ∧ Lik ps ss ∧ Lik ps' ss' ∧ ps'.length = ps.length ∧ SqT K H a [.ref p, .ref s] ∧ SqT K H b [.ref p', .ref s'] ∧
  SqT K H p (ps.map V.int) ∧ SqT K H s (ss.map V.int) ∧ SqT K H p' (ps'.map V.int) ∧ SqT K H s' (ss'.map V.int) ∧
  ∀ r q1 q2 H', Same H H' → H' r = some (.tup [.ref q1, .ref q2]) → TpF H' q1 ((thenP ps ps').map V.int) → H' q2 = some (.tup ((ledL ps' ss' ss).map V.int)) → Q (.ref r) H'
section
variable {P : Program} {w : World} {K : PySem.W.Frag} {mg : Str → Option Value} {base : Heap} {f g g2 C CB CP : Addr} {fd : FuncData}
abbrev N_one_then : List Str := ["one", "other", "places", "signs", "place", "sign"]
theorem sc_one_then : FnScope N_one_then ["one", "other"] (defScope st__one_then) := ⟨rfl, rfl, rfl, by decide +kernel, rfl, by decide +kernel, by decide +kernel⟩
theorem ok_one_then (F : Fun K "_one_then" "_one_then" st__one_then f fd) (T : Nm mg) : FnOk P w K mg base CX0 1 f fd ["one", "other"] (spThen2 K) := by
  refine F.ok sc_one_then (fun vs H Q E h => ?_) (fun cdv A outer s H vs Q E hr h => ?_)
  · obtain ⟨a, b, _, _, _, _, _, _, _, _, rfl, _⟩ := h
    rfl
  · obtain ⟨a, b, p, s, p', s', ps, ss, ps', ss', rfl, L, L', hn, ha, hb, hp, hs, hp', hs', k⟩ := h
    refine ⟨_, (pss_cons (ps_asg (pv 0) (pg_tup (by rfl) (pgs_cons (pg_name (i := 2) sc_one_then.nd rfl (Or.inr rfl)) (pgs_cons (pg_name (i := 3) sc_one_then.nd rfl (Or.inr rfl)) pgs_nil))))
    (pss_one (ps_ret (pe_tup (pa_cons (pe_callTy (call_tupF K) (by rfl) T.n_tuple (by decide +kernel) (pa_cons (pe_lc (own := [("place", 4)]) (g := gName 4) (tt := tYes) rfl sc_one_then.nd (pi_seqK K (pe_ix (ix_K K) (pv 1) pe_int (fun _ _ => rfl))) (blkOk_by (N := N_one_then) (sc := defScope st__one_then) (by decide +kernel)) (fun _ _ _ _ _ => (pg_name (i := 4) sc_one_then.nd rfl (Or.inl rfl))) (fun _ _ _ _ _ => pts_nil) (fun _ _ _ _ _ => (pe_ix (ix_K K) (pv 2) (pv 4) (fun _ _ => rfl)))) pa_nil)) (pa_cons (pe_callTy (call_tupK K) (by rfl) T.n_tuple (by decide +kernel) (pa_cons (pe_lc (own := [("place", 4), ("sign", 5)]) (g := gTup K 2 (gCons (gName 4) (gCons (gName 5) gNil))) (tt := tYes) rfl sc_one_then.nd (pi_zipMK K (by rfl) T.n_zip (pa_cons (pe_ix (ix_K K) (pv 1) pe_int (fun _ _ => rfl)) (pa_cons (pe_ix (ix_K K) (pv 1) pe_int (fun _ _ => rfl)) pa_nil))) (blkOk_by (N := N_one_then) (sc := defScope st__one_then) (by decide +kernel)) (fun _ _ _ _ _ => (pg_tup (by rfl) (pgs_cons (pg_name (i := 4) sc_one_then.nd rfl (Or.inl rfl)) (pgs_cons (pg_name (i := 5) sc_one_then.nd rfl (Or.inl rfl)) pgs_nil)))) (fun _ _ _ _ _ => pts_nil) (fun _ _ _ _ _ => (pe_op op_mul (pv 5) (pe_ix (ix_K K) (pv 3) (pv 4) (fun _ _ => rfl))))) pa_nil)) pa_nil)))))), ?_⟩
    have n6 := L.n6
    have len := L.len
    have len' := L'.len
    refine ⟨_, rfl, a, _, rfl, ha, rfl, _, _, rfl, _, _, rfl, rfl, ?_⟩
    refine ⟨_, rfl, true, b, _, 0, _, rfl, rfl, hb, rfl, true, p', rfl, ⟨_, hp'⟩, fun D hD => lc_fun (fun i => V.int (ps.getD (ps'.getD i 0).toNat 0)) (walk_seq (b := true) (xs := ps'.map V.int)) hD (by rw [List.length_map]; exact six (by omega)) (fun H2 s2 => same_sqT s2 hp') ?_ ?_⟩
    · rintro i x H2 H3 hi2 s2 ⟨acc, hacc⟩ ⟨rfl, hx⟩ Rk kk
      obtain ⟨n1, hn1, rfl⟩ := map_int_get hx
      obtain ⟨j, rfl, hj⟩ := L'.at (List.mem_of_getElem? hn1)
      have hjx : j < ps.length := by omega
      refine ⟨rfl, _, rfl, _, rfl, true, p, _, _, .int (ps[j]'hjx), rfl, rfl, same_sqT s2 hp, atI_nat ?_, ?_⟩
      · rw [List.getElem?_map, List.getElem?_eq_getElem hjx]
        rfl
      · have q := kk _ (Same.refl _)
        rw [List.getD_eq_getElem?_getD (l := ps'), hn1] at q
        dsimp only [Option.getD_some] at q
        rw [Int.toNat_natCast, getD_of hjx] at q
        exact q
    intro H2 hD2 s2
    have e1 : (List.range (ps'.map V.int).length).map (fun i => V.int (ps.getD (ps'.getD i 0).toNat 0)) = (thenP ps ps').map V.int := by
      rw [List.length_map, range_map_getD ps' 0 (fun x => V.int (ps.getD x.toNat 0))]
      unfold thenP
      rw [List.map_map]
      rfl
    rw [e1] at hD2
    refine ⟨false, D, _, rfl, .of hD2, fun _ l o hl ho1 ho2 => ?_, fun z => by cases z⟩
    have s3 := same_upd (o := .frz o (.tup ((thenP ps ps').map V.int))) hl
    have z3 : TpF (upd H2 l (.frz o (.tup ((thenP ps ps').map V.int)))) l ((thenP ps ps').map V.int) := ⟨o, upd_same, ho1, ho2⟩
    generalize upd H2 l (.frz o (.tup ((thenP ps ps').map V.int))) = H3 at s3 z3 ⊢
    have s13 := s2.trans s3
    refine ⟨_, rfl, true, b, _, 0, _, rfl, rfl, same_sqT s13 hb, rfl, _, rfl, true, b, _, 1, _, rfl, rfl, same_sqT s13 hb, rfl, true, true, p', s', _, _, rfl, same_sqT s13 hp', same_sqT s13 hs', fun D2 hD2 => lc_fun (fun i => V.int (ss'.getD i 0 * ss.getD (ps'.getD i 0).toNat 0)) (walk_zipM rfl) hD2 ?_ (fun H4 s4 => ⟨same_sqT (s13.trans s4) hp', same_sqT (s13.trans s4) hs'⟩) ?_ ?_⟩
    · rw [List.length_map, List.length_map]
      exact six (by omega)
    · rintro i x H4 H5 hi2 s4 ⟨acc, hacc⟩ ⟨T', x', y', rfl, hT, rfl, e3, e4⟩ Rk kk
      obtain ⟨n1, hn1, rfl⟩ := map_int_get e3
      obtain ⟨n2, hn2, rfl⟩ := map_int_get e4
      obtain ⟨j, rfl, hj⟩ := L'.at (List.mem_of_getElem? hn1)
      have sT := same_upd (o := .tup [.int (j : Nat), .int n2]) hT
      have hjx : j < ss.length := by omega
      refine ⟨T', _, rfl, .of upd_same, rfl, _, _, rfl, _, _, rfl, rfl, rfl, _, rfl, _, rfl, _, rfl, true, s, _, _, .int (ss[j]'hjx), rfl, rfl, same_sqT ((s13.trans s4).trans sT) hs, atI_nat ?_, n2, _, rfl, rfl, ?_, ?_⟩
      · rw [List.getElem?_map, List.getElem?_eq_getElem hjx]
        rfl
      · rcases L'.sg n2 (List.mem_of_getElem? hn2) with rfl | rfl
        · exact .inl ⟨by decide, by decide⟩
        · exact .inl ⟨by decide, by decide⟩
      · have q := kk _ sT
        rw [List.getD_eq_getElem?_getD (l := ss'), hn2, List.getD_eq_getElem?_getD (l := ps'), hn1] at q
        dsimp only [Option.getD_some] at q
        rw [Int.toNat_natCast, getD_of hjx] at q
        exact q
    intro H4 hD4 s4
    rw [List.length_map, List.length_map, len', Nat.min_self] at hD4
    have eL : (List.range ps'.length).map (fun i => V.int (ss'.getD i 0 * ss.getD (ps'.getD i 0).toNat 0)) = (ledL ps' ss' ss).map V.int := by
      unfold ledL
      rw [List.map_map]
      rfl
    rw [eL] at hD4
    refine ⟨false, D2, _, rfl, .of hD4, fun _ l2 hl2 => ⟨(by show 2 ≤ sizeLine; decide), fun r hr0 => ?_⟩, fun z => by cases z⟩
    have s5 := same_upd (o := .tup ((ledL ps' ss' ss).map V.int)) hl2
    have s6 := same_upd (o := .tup [.ref l, .ref l2]) hr0
    exact k r l l2 _ (s13.trans (s4.trans (s5.trans s6))) upd_same (z3.same (s4.trans (s5.trans s6))) (s6 _ _ upd_same)
end

/-! ### then, back, same -/
def spThen (K : PySem.W.Frag) (CB CM C : Addr) : Sp := fun vs H Q E => ∃ (a : Addr) (y : V) (ps ss : List Int), vs = [.ref a, y] ∧ LikAt K H a C ps ss ∧
  ((NoLik K C H y ∧ raisesN CB "other" H E) ∨ ∃ b ps' ss', y = .ref b ∧ LikAt K H b C ps' ss' ∧ (ps'.length ≠ ps.length → raisesN CM "wide" H E) ∧
    (ps'.length = ps.length → ∀ r H', H r = none → LikAt K H' r C (thenP ps ps') (ledL ps' ss' ss) → Same H H' → Q (.ref r) H'))
def spBack (K : PySem.W.Frag) (C : Addr) : Sp := fun vs H Q _ => ∃ (a : Addr) (ps ss : List Int), vs = [.ref a] ∧ LikAt K H a C ps ss ∧ ∀ r H', H r = none → LikAt K H' r C (backP ps) (backS ps ss) → Same H H' → Q (.ref r) H'
def spSame (K : PySem.W.Frag) (CN C : Addr) : Sp := fun vs H Q E => ∃ (v : V) (q : Bool), vs = [v] ∧ Asks K H v q ∧ (within v (.int 2) (.int 6) = false → raisesN CN "wide" H E) ∧
  (∀ n : Nat, v = .int n → 2 ≤ n → n ≤ 6 → ∀ r H', H r = none → LikAt K H' r C (rng n) (List.replicate n 1) → Same H H' → Q (.ref r) H')
end K0


set_option Elab.async false
set_option linter.all false
set_option maxRecDepth 100000
set_option maxHeartbeats 8000000
namespace K0
open PySem PySem.Spec PyProof.Rows L2 RZ K0z

theorem pe_fldK {X : Cx} {e : Expr} {ta : TE} {f : Str} {pos : Pos} (K : PySem.W.Frag) (he : PE X e ta) (hb : attributeBase e f X.env (eval e X.env) = eval e X.env) (eK : X.K = K := by rfl) : PE X (.Attribute e f pos) (tFld K ta f) := by
  subst eK; exact pe_fld he hb
theorem within_two {v : V} (h : within v (.int 2) (.int 6) = true) : ∃ n : Nat, v = .int n ∧ 2 ≤ n ∧ n ≤ 6 := by
  cases v with
  | int n =>
    have h' : (decide ((2 : Int) ≤ n) && decide (n ≤ 6)) = true := h
    rw [Bool.and_eq_true] at h'
    have h1 := of_decide_eq_true h'.1
    have h2 := of_decide_eq_true h'.2
    exact ⟨n.toNat, by congr 1; omega, by omega, by omega⟩
  | _ => cases h
section
variable {P : Program} {w : World} {K : PySem.W.Frag} {mg : Str → Option Value} {base : Heap} {f g g2 C CB CM CN : Addr} {fd : FuncData}
theorem sc_then : FnScope ["self", "other", "places", "signs"] ["self", "other"] (defScope sm_then) := ⟨rfl, rfl, rfl, by decide +kernel, rfl, by decide +kernel, by decide +kernel⟩
theorem ok_then (F : Fun K "then" "Likeness.then" sm_then f fd) (T : Nm mg) (U : LikD K C) (M : LikM P w K mg base C CB) (D__one_then : Dn P w K mg base 1 "_one_then" g ["one", "other"] (spThen2 K))
    (R_BadLikeness : RaiseC P w K mg base "BadLikeness" CB "part") (R_Misfit : RaiseC P w K mg base "Misfit" CM "part") : FnOk P w K mg base (L2.CX P w) 8 f fd ["self", "other"] (spThen K CB CM C) := by
  refine F.okX sc_then (fun vs H Q E h => ?_) (fun cdv A outer s H vs Q E hr h => ?_)
  · obtain ⟨a, y, _, _, rfl, _⟩ := h
    rfl
  · obtain ⟨a, y, ps, ss, rfl, hP, h⟩ := h
    refine ⟨_, (pss_cons (ps_if (pt_not (pt_val (pe_callB (call_isAK K) (by rfl) T.n_isinstance (by decide +kernel) (pa_cons (pv 1) (pa_cons (pe_glob (v := .ref C) (by rfl) M.mg rfl (by decide)) pa_nil))))) (pss_one (ps_raise rfl (takes_of rfl rfl rfl rfl) (pmk_c R_BadLikeness (hr.mono (by decide)) rfl (pa_cons pe_str pa_nil)))) pss_nil)
    (pss_cons (ps_if (pt_cmpR op_ne (pe_fld (pv 1) rfl) (pe_fld (pv 0) rfl) (nomark _)) (pss_one (ps_raise rfl (takes_of rfl rfl rfl rfl) (pmk_c R_Misfit (hr.mono (by decide)) rfl (pa_cons pe_str pa_nil)))) pss_nil)
    (pss_cons (ps_asg (pe_dn D__one_then (hr.mono (by decide)) rfl (pa_cons (pe_tup (pa_cons (pe_fld (pv 0) rfl) (pa_cons (pe_fld (pv 0) rfl) pa_nil))) (pa_cons (pe_tup (pa_cons (pe_fld (pv 1) rfl) (pa_cons (pe_fld (pv 1) rfl) pa_nil))) pa_nil))) (pg_tup (by rfl) (pgs_cons (pg_name (i := 2) sc_then.nd rfl (Or.inl rfl)) (pgs_cons (pg_name (i := 3) sc_then.nd rfl (Or.inl rfl)) pgs_nil))))
    (pss_one (ps_ret (pe_lik M (hr.mono (by decide)) rfl (pa_cons (pv 2) (pa_cons (pv 3) pa_nil)))))))), ?_⟩
    have hP0 := hP
    obtain ⟨L, dx, p, q, fs, ha, hp, hq, f1, f2, f3, _⟩ := hP
    rcases h with ⟨⟨t, ty, e⟩, k⟩ | ⟨b, ps', ss', rfl, hP', k1, k2⟩
    · exact ⟨_, rfl, _, .ref C, _, _, false, rfl, .own _, ty, e, _, rfl, iteT (fun dd H' h1 h2 s2 => k dd H' h1 h2 s2)⟩
    · obtain ⟨L', dy, p', q', gs, hb, hp', hq', g1, g2, g3, _⟩ := hP'
      refine ⟨_, rfl, _, .ref C, _, _, true, rfl, .own _, lik_ty U hb, U.me, _, rfl, iteF ?_⟩
      refine ⟨_, rfl, b, C, dy, gs, _, rfl, hb, U.cl, U.nW, g3, _, rfl, a, C, dx, fs, _, rfl, ha, U.cl, U.nW, f3, rfl, ?_⟩
      rw [dec_int]
      refine ⟨_, rfl, ?_⟩
      by_cases hn : ps'.length = ps.length
      · rw [show (((ps'.length : Nat) : Int) == ((ps.length : Nat) : Int)) = true from by rw [hn]; simp]
        refine iteF ?_
        refine ⟨_, rfl, a, C, dx, fs, _, rfl, ha, U.cl, U.nP, f1, _, rfl, a, C, dx, fs, _, rfl, ha, U.cl, U.nS, f2, (by show 2 ≤ sizeLine; decide), fun t1 ht1 => ?_⟩
        have s1 := same_upd (o := .tup [.ref p, .ref q]) ht1
        have z1 : upd H t1 (.tup [.ref p, .ref q]) t1 = some (.tup [.ref p, .ref q]) := upd_same
        generalize upd H t1 (.tup [.ref p, .ref q]) = H1 at s1 z1 ⊢
        refine ⟨_, rfl, b, C, dy, gs, _, rfl, s1 _ _ hb, U.cl, U.nP, g1, _, rfl, b, C, dy, gs, _, rfl, s1 _ _ hb, U.cl, U.nS, g2, (by show 2 ≤ sizeLine; decide), fun t2 ht2 => ?_⟩
        have s2 := same_upd (o := .tup [.ref p', .ref q']) ht2
        have z2 : upd H1 t2 (.tup [.ref p', .ref q']) t2 = some (.tup [.ref p', .ref q']) := upd_same
        generalize upd H1 t2 (.tup [.ref p', .ref q']) = H2 at s2 z2 ⊢
        have s12 := s1.trans s2
        refine ⟨t1, t2, p, q, p', q', ps, ss, ps', ss', rfl, L, L', hn, .of (s2 _ _ z1), .of z2, (hp.same s12).sq, same_sqT s12 hq, (hp'.same s12).sq, same_sqT s12 hq', fun r q1 q2 H3 s3 hr0 hq1 hq2 => ?_⟩
        refine ⟨r, _, rfl, .of hr0, rfl, _, _, rfl, _, _, rfl, rfl, ?_⟩
        have LL := L.then L' hn
        refine ⟨_, rfl, _, rfl, ?_⟩
        have s13 := s12.trans s3
        have n6 := LL.n6
        exact lik_way LL ⟨by rw [List.length_map]; exact six n6, _, rfl, .inr hq1⟩ (seqsT hq2 (by rw [List.length_map, LL.len]; exact six n6)) fun x H4 hx hL s4 => k2 hn x H4 (s13.free hx) hL (s13.trans s4)
      · rw [show (((ps'.length : Nat) : Int) == ((ps.length : Nat) : Int)) = false from by simp; omega]
        exact iteT (fun dd H' h1 h2 s2 => k1 hn dd H' h1 h2 s2)
abbrev N_back : List Str := ["self", "places", "place"]
theorem sc_back : FnScope N_back ["self"] (defScope sm_back) := ⟨rfl, rfl, rfl, by decide +kernel, rfl, by decide +kernel, by decide +kernel⟩
theorem ok_back (F : Fun K "back" "Likeness.back" sm_back f fd) (T : Nm mg) (U : LikD K C) (M : LikM P w K mg base C CB) : FnOk P w K mg base (L2.CX P w) 8 f fd ["self"] (spBack K C) := by
  refine F.okX sc_back (fun vs H Q E h => ?_) (fun cdv A outer s H vs Q E hr h => ?_)
  · obtain ⟨a, _, _, rfl, _⟩ := h
    rfl
  · obtain ⟨a, ps, ss, rfl, hP, k⟩ := h
    refine ⟨_, (pss_cons (ps_setLc (i := 1) (own := [("place", 2)]) (g := gName 2) (tt := tYes) rfl sc_back.nd rfl rfl (sw_true rfl rfl rfl (by decide +kernel)) (pi_range1 (by rfl) T.n_range (pa_cons (pe_fld (pv 0) rfl) pa_nil)) (blkOk_by (N := N_back) (sc := defScope sm_back) (by decide +kernel)) (fun _ _ _ _ _ => (pg_name (i := 2) sc_back.nd rfl (Or.inl rfl))) (fun _ _ _ _ _ => pts_nil) (fun _ _ _ _ _ => (pe_tm K PySem.F.slot_tuple_index PySem.F.type_tuple_index (mt_tixK K) (pe_fldK K (pv 0) rfl) (pa_cons (pv 2) pa_nil))))
    (pss_one (ps_ret (pe_lik M (hr.mono (by decide)) rfl (pa_cons (pv 1) (pa_cons (pe_lc (own := [("place", 2)]) (g := gName 2) (tt := tYes) rfl sc_back.nd (pi_seqK K (pv 1)) (blkOk_by (N := N_back) (sc := defScope sm_back) (by decide +kernel)) (fun _ _ _ _ _ => (pg_name (i := 2) sc_back.nd rfl (Or.inl rfl))) (fun _ _ _ _ _ => pts_nil) (fun _ _ _ _ _ => (pe_ix (ix_K K) (pe_fldK K (pv 0) rfl) (pv 2) (fun _ _ => rfl)))) pa_nil)))))), ?_⟩
    obtain ⟨L, dx, p, q, fs, ha, hp, hq, f1, f2, f3, _⟩ := hP
    have n6 := L.n6
    refine ⟨_, rfl, a, C, dx, fs, _, rfl, ha, U.cl, U.nW, f3, _, rfl, by omega, by omega, fun D hD => lc_fun (fun (i : Nat) => V.int (ps.idxOf (i : Int) : Nat)) (walk_range (lo := 0) (n := ps.length)) hD (six n6) (fun _ _ => trivial) ?_ ?_⟩
    · rintro i x H2 H3 hi s2 _ ⟨rfl, rfl⟩ Rk kk
      refine ⟨rfl, _, rfl, a, C, dx, fs, _, rfl, s2 _ _ ha, U.cl, U.nP, f1, ⟨_, _, rfl, hp.same s2⟩, _, rfl, p, ps, _, rfl, rfl, (hp.same s2).sq, ?_, ?_⟩
      · rw [Int.zero_add]
        exact L.mem hi
      · have q := kk _ (Same.refl _)
        rw [Int.zero_add]
        exact q
    intro H1 hD1 s1
    have eD : (List.range ps.length).map (fun (i : Nat) => V.int (ps.idxOf (i : Int) : Nat)) = (backP ps).map V.int := by
      unfold backP
      rw [List.map_map]
      rfl
    rw [eD] at hD1
    refine ⟨_, rfl, _, rfl, false, D, rfl, ⟨_, .of hD1⟩, fun D2 hD2 => lc_fun (fun i => V.int (ss.getD ((backP ps).getD i 0).toNat 0)) (walk_seq (b := false) (xs := (backP ps).map V.int)) hD2 (by rw [List.length_map, backP_len]; exact six n6) (fun H2 s2 => .of (s2 _ _ hD1)) ?_ ?_⟩
    · rintro i x H2 H3 hi s2 _ ⟨rfl, hx⟩ Rk kk
      obtain ⟨n1, hn1, rfl⟩ := map_int_get hx
      obtain ⟨j, rfl, hj⟩ := L.back.at (List.mem_of_getElem? hn1)
      rw [backP_len] at hj
      have hjx : j < ss.length := by rw [L.len]; exact hj
      have s12 := s1.trans s2
      refine ⟨rfl, _, rfl, a, C, dx, fs, _, rfl, s12 _ _ ha, U.cl, U.nS, f2, _, rfl, true, q, _, _, .int (ss[j]'hjx), rfl, rfl, same_sqT s12 hq, atI_nat ?_, ?_⟩
      · rw [List.getElem?_map, List.getElem?_eq_getElem hjx]
        rfl
      · have q := kk _ (Same.refl _)
        rw [List.getD_eq_getElem?_getD (l := backP ps), hn1] at q
        dsimp only [Option.getD_some] at q
        rw [Int.toNat_natCast, getD_of hjx] at q
        exact q
    intro H2 hD2' s2
    have eD2 : (List.range ((backP ps).map V.int).length).map (fun i => V.int (ss.getD ((backP ps).getD i 0).toNat 0)) = (backS ps ss).map V.int := by
      rw [List.length_map, range_map_getD (backP ps) 0 (fun x => V.int (ss.getD x.toNat 0))]
      unfold backS
      rw [List.map_map]
      rfl
    rw [eD2] at hD2'
    have s12 := s1.trans s2
    exact lik_way L.back ⟨by rw [List.length_map, backP_len]; exact six n6, _, rfl, .inl (s2 _ _ hD1)⟩ (seqsL hD2' (by rw [List.length_map, backS_len]; exact six n6)) fun x H3 hx hL s3 => k x H3 (s12.free hx) hL (s12.trans s3)
theorem sc_same : FnScope ["wide"] ["wide"] (defScope sm_same) := ⟨rfl, rfl, rfl, by decide +kernel, rfl, by decide +kernel, by decide +kernel⟩
theorem ok_same (F : Fun K "same" "Likeness.same" sm_same f fd) (T : Nm mg) (M : LikM P w K mg base C CB) (D_is_within : Dn P w K mg base 2 "is_within" g ["value", "least", "most"] (spWithin K)) (R_BadNumber : RaiseC P w K mg base "BadNumber" CN "part") :
    FnOk P w K mg base (L2.CX P w) 8 f fd ["wide"] (spSame K CN C) := by
  refine F.okX sc_same (fun vs H Q E h => ?_) (fun cdv A outer s H vs Q E hr h => ?_)
  · obtain ⟨v, _, rfl, _⟩ := h
    rfl
  · obtain ⟨v, q, rfl, hv, k1, k2⟩ := h
    refine ⟨_, (pss_cons (ps_if (pt_not (pt_val (pe_dn D_is_within (hr.mono (by decide)) rfl (pa_cons (pv 0) (pa_cons (pe_cint (by rfl) T.c_LEAST_WIDE) (pa_cons (pe_cint (by rfl) T.c_MOST_WIDE) pa_nil)))))) (pss_one (ps_raise rfl (takes_of rfl rfl rfl rfl) (pmk_c R_BadNumber (hr.mono (by decide)) rfl (pa_cons pe_str pa_nil)))) pss_nil)
    (pss_one (ps_ret (pe_lik M (hr.mono (by decide)) rfl (pa_cons (pe_listRg rfl (by rfl) T.n_list (prg_1 (by rfl) T.n_range (pv 0))) (pa_cons (pe_op op_rep (pe_lst (pa_cons pe_int pa_nil)) (pv 0)) pa_nil)))))), ?_⟩
    refine ⟨_, rfl, v, .int 2, .int 6, q, rfl, hv, .inr ⟨2, rfl⟩, .inr ⟨6, rfl⟩, fun H1 s1 => ⟨_, rfl, ?_⟩⟩
    cases e : within v (.int 2) (.int 6) with
    | false => exact iteT (fun dd H' h1 h2 s2 => (k1 e).same s1 dd H' h1 h2 s2)
    | true =>
      obtain ⟨n, rfl, n2, n6⟩ := within_two e
      have k3 := k2 n rfl n2 n6
      refine iteF ⟨_, rfl, _, rfl, ⟨by decide, by decide, by omega, by omega, ?_⟩, fun p hp => ?_⟩
      · rw [Int.sub_zero, Int.toNat_natCast]
        exact Nat.le_trans n6 (by decide)
      have s2 := same_upd (o := .lst (rgV 0 (n : Nat))) hp
      have z2 : upd H1 p (.lst (rgV 0 (n : Nat))) p = some (.lst ((rng n).map V.int)) := by rw [upd_same, rng_rgV]
      generalize upd H1 p (.lst (rgV 0 (n : Nat))) = H2 at s2 z2 ⊢
      refine ⟨(by show 1 ≤ sizeLine; decide), fun l hl => ⟨_, rfl, l, (n : Nat), _, rfl, rfl, upd_same, by omega, by omega, ?_, fun p2 hp2 => ?_⟩⟩
      · rw [Int.toNat_natCast]
        show 1 * n ≤ sizeLine
        exact Nat.le_trans (by omega : 1 * n ≤ 6) (by decide)
      have s3 := same_upd (o := .lst [.int 1]) hl
      generalize upd H2 l (.lst [.int 1]) = H3 at s3 hp2 ⊢
      rw [Int.toNat_natCast]
      have er : (List.replicate n [V.int 1]).flatten = (List.replicate n (1 : Int)).map V.int := by
        rw [List.map_replicate, List.flatten_replicate_singleton]
      rw [er]
      have s4 := same_upd (o := .lst ((List.replicate n (1 : Int)).map V.int)) hp2
      have s24 := s2.trans (s3.trans s4)
      have s14 := s1.trans s24
      exact lik_way (Lik.same n2 n6) ⟨by rw [List.length_map, rng_len]; exact six n6, _, rfl, .inl ((s3.trans s4) _ _ z2)⟩ (seqsL upd_same (by rw [List.length_map, List.length_replicate]; exact six n6)) fun x H5 hx hL s5 => k3 x H5 (s14.free hx) hL (s14.trans s5)
end
end K0


set_option Elab.async false
set_option linter.all false
set_option maxRecDepth 100000
set_option maxHeartbeats 4000000
/-! {tuple(p) for p in ..}: a set of tuples of ints, made by a comprehension -/
namespace ScT
open PySem PySem.Spec PyProof.Rows L2 PpSet
section
variable {P : Program} {w : World} {A : Around} {E : Value → Shared → Prop} {s : Shared}
theorem one_added {a x : Addr} {L : List (Addr × List Int)} {es : Array (Int × Value)} {ep : Nat} {t : SetTable} {k : List Int} {Q : Value → Shared → Prop} (R : SetTR P w s.heap a L es ep t) (hx : IsT P w s.heap k x) (hu : A.in1.units < cLine) (few : L.length + 1 < 64)
    (hQ : ∀ h' L' es' ep' t', Heap.SameBut a s.heap h' → SetTR P w h' a L' es' ep' t' → (k ∈ L.map (·.2) → L' = L) → (k ∉ L.map (·.2) → L'.Perm ((x, k) :: L)) → Q .none { s with heap := h', toks := s.toks + (k.length + 1) }) :
    wpAny (model P w) A (call (.builtin "set.add") [.ref a, .ref x]) Q E s := by
  obtain ⟨o, ho, hex, hd⟩ := id R.ob
  refine wpAny_call_entry F.slot_set_add ⟨o, ho, hex.1⟩ F.entry_set_add ?_ (F.args_set_add_2 _ _)
  unfold Builtin.«set.add» Builtin.Frozenset.oneOther Builtin.Frozenset.addrOf setAdd
  simp only [List.isEmpty_nil, bind_assoc]
  refine wpAny_bind (wpAny_pure ?_)
  try dsimp only
  refine wpAny_bind (wpAny_pure ?_)
  try dsimp only
  refine wpAny_bind (wpAny_holding (wpAny_bind (wpAny_pyHash_tuple hu hx ?_)))
  refine add_at (s := { s with toks := s.toks + (k.length + 1) }) R hx hu few fun b h' L' es' ep' t' sb R' c1 c2 => ?_
  exact wpAny_pure ⟨_, rfl, hQ h' L' es' ep' t' sb R' c1 c2⟩
end
section
variable {X : Cx} {pins : List (Addr × Obj)} {σ : L2.St} {H : Hp} {s : Shared}
/-- what the set holds when one more has come -/
def Grown (L : List (Addr × List Int)) (x : Addr) (k : List Int) (L' : List (Addr × List Int)) : Prop := (k ∈ L.map (·.2) → L' = L) ∧ (k ∉ L.map (·.2) → L'.Perm ((x, k) :: L))
theorem add_ok {E : Value → Shared → Prop} {A : Around} {D x : Addr} {L : List (Addr × List Int)} {k : List Int} {Q : Value → Shared → Prop} (I : Inv X pins σ H s) (hD : H D = some (SetTO X.prog X.w D L)) (hL : ∀ p ∈ L, SqT X.K H p.1 (p.2.map V.int)) (hx : SqT X.K H x (k.map V.int)) (hu : A.in1.units < cLine) (few : L.length + 1 < 64)
    (h : ∀ s' L', Grown L x k L' → Inv X pins σ (upd H D (SetTO X.prog X.w D L')) s' → Q .none s') : wpAny (model X.prog X.w) A (call (.builtin "set.add") [.ref D, .ref x]) Q E s := by
  obtain ⟨es, ep, t, R⟩ := SetT0.full (I.hok D _ hD).1 fun p hp => I.isT (hL p hp)
  refine one_added R (I.isT hx) hu few fun h' L' es' ep' t' sb R' c1 c2 => ?_
  have he : ∃ u, h'.get? D = some u := by
    obtain ⟨o, ho, _⟩ := R'.ob
    exact ⟨o, ho⟩
  exact h _ L' ⟨c1, c2⟩ (I.write (e := D) (t' := s.toks + (k.length + 1)) (by rw [hD]; trivial) (.inl rfl) (fun b u hb hu => (sb.2 b hb).trans hu) he (setTO_new R'.t0))
end
/-- {elt for target in iter if ..}, each elt a tuple of ints; D the new set -/
def tScT (K : PySem.W.Frag) (P : Program) (w : World) (wi : TI) (g : TG) (tt : TT) (te : TE) (vs : List Nat) : TE := fun σ H Q => wi σ H fun J H1 => ∀ D, H1 D = none → ∃ W : Nat → Nat → Hp → Prop, (∃ m, W 0 m (upd H1 D (SetTO P w D []))) ∧ ∀ i m H, W i m H →
  (J.stop i H ∧ Q (.ref D) H) ∨ (J.go i H ∧ ∃ Nx : Hp → Prop, (∀ H', Nx H' → ∃ m', m' < m ∧ W (i + 1) m' H') ∧ ∀ x H', J.yld i H x H' → g x (wipe σ vs) H' fun σ2 H2 => wipe σ2 vs = wipe σ vs ∧ tt σ2 H2 fun b H3 =>
    if b = true then te σ2 H3 fun y H4 => ∃ (c : Addr) (k : List Int) (L : List (Addr × List Int)), y = .ref c ∧ H4 D = some (SetTO P w D L) ∧ (∀ p ∈ L, SqT K H4 p.1 (p.2.map V.int)) ∧ SqT K H4 c (k.map V.int) ∧ L.length + 1 < 64 ∧ ∀ L', Grown L c k L' → Nx (upd H4 D (SetTO P w D L')) else Nx H3)
section
variable {X : Cx} {elt tg iter : Expr} {ifs : List Expr} {scope : Scope} {pos : Pos} {wi : TI} {g : TG} {tt : TT} {te : TE}
theorem pe_scT {own : List (Str × Nat)} (hc : X.calm = true) (hN : X.N.Nodup) (hu : X.A.units + 64 < cLine) (hi : PI X tg iter wi) (ok : BlkOk X.N X.env.scope scope own)
    (hg : ∀ (s : Shared) (H : Hp) (C : Addr) (cl : List (Str × Addr)) (fp : List Addr), PG (X.blk s H scope (compEnvC scope cl C X.env) fp) tg g) (ht : ∀ (s : Shared) (H : Hp) (C : Addr) (cl : List (Str × Addr)) (fp : List Addr), PTs (X.blk s H scope (compEnvC scope cl C X.env) fp) ifs tt)
    (he : ∀ (s : Shared) (H : Hp) (C : Addr) (cl : List (Str × Addr)) (fp : List Addr), PE (X.blk s H scope (compEnvC scope cl C X.env) fp) elt te) (hs : ∀ x, foldedSetIterable iter X.env x = pure x := by intro _; rfl) :
    PE X (.SetComp elt [⟨tg, iter, ifs, 0⟩] scope pos) (tScT X.K X.prog X.w wi g tt te (own.map (·.2))) := by
  refine ⟨fun pins s σ H Q I h => ?_⟩
  rw [eval_SetComp]
  have hfree : ∀ y ∈ scope.names, y.2 = .free → ∃ c, X.env.cells.lookup y.1 = some c := fun y hy e => by
    rcases ok.free y hy e with k | k
    · exact I.ok.has _ (.inl k)
    · exact I.ok.has _ (.inr k)
  refine wpAny_comprehension_free (use := none) rfl hs (closure_ok hfree) ok.kind (fun y hy e => by rw [ok.uniq y hy, e])
    (thn (hi.run pins s σ H _ I h) fun xv s1 hx => thn hx fun itv s2 h2 => ?_)
  obtain ⟨it, fp, tn, J, H2, e, I2, T, st2, f2, q⟩ := h2
  subst e
  refine newSet_ok (newEnv_comp ?_)
  generalize hD : s2.heap.objs.size = D
  have hDn : H2 D = none := I2.hok.fresh (Nat.le_of_eq hD)
  obtain ⟨W, ⟨m0, w0⟩, turn⟩ := q D hDn
  generalize hs3 : ({ s2 with heap := s2.heap.push { cls := .type "set", dict := none, data := .set #[] 0 (.fresh 0 0 (!X.w.params.followText "set-order")) } } : Shared) = s3
  have h3 : s3.heap = s2.heap.push { cls := .type "set", dict := none, data := .set #[] 0 (.fresh 0 0 (!X.w.params.followText "set-order")) } := by rw [← hs3]
  have I3 : Inv X pins σ (upd H2 D (SetTO X.prog X.w D [])) s3 := by
    have k : Inv X pins σ (upd H2 D (SetTO X.prog X.w D [])) ({ s2 with heap := s2.heap.push { cls := .type "set", dict := none, data := .set #[] 0 (.fresh 0 0 (!X.w.params.followText "set-order")) } } : Shared) := by
      refine I2.laid (t' := s2.toks) (fun b o e => Heap.get?_push_of_some _ e) (Nat.le_of_eq hD) (setTO_new (setTR_fresh (P := X.prog) (w := X.w) ?_).t0)
      rw [← hD]
      exact Heap.get?_push_size _ rfl
    rw [hs3] at k
    exact k
  have sz : ∀ b ∈ fp, b < s2.heap.objs.size := fun b hb => by
    obtain ⟨o, e, _⟩ := T.obj _ _ st2 b hb
    exact Heap.lt_size e
  generalize hH3 : upd H2 D (SetTO X.prog X.w D []) = H3 at I3 w0
  have f3 : ∀ b ∈ fp, FpOk X pins H3 b ∧ b < s3.heap.objs.size := fun b hb => by
    have hlt := sz b hb
    refine ⟨⟨?_, (f2 b hb).2⟩, by rw [h3, Heap.size_push]; exact Nat.lt_succ_of_lt hlt⟩
    rw [← hH3, upd_ne (by rw [← hD]; exact Nat.ne_of_lt hlt)]
    exact (f2 b hb).1
  have st3 : tn 0 s3.heap := T.keep _ _ _ st2 fun b _ o e => by rw [h3]; exact Heap.get?_push_of_some _ e
  have I4 := block_start I3 ok hN f3
  have pg := hg s3 H3 s3.heap.objs.size (cellsFrom (s3.heap.objs.size + 1) scope.names (cloFrom X.env.cells scope.names [])) fp
  have pt := ht s3 H3 s3.heap.objs.size (cellsFrom (s3.heap.objs.size + 1) scope.names (cloFrom X.env.cells scope.names [])) fp
  have pe := he s3 H3 s3.heap.objs.size (cellsFrom (s3.heap.objs.size + 1) scope.names (cloFrom X.env.cells scope.names [])) fp
  show codeAny _ _ (.compStart (.SetComp elt [⟨tg, iter, ifs, 0⟩] scope pos) 0 (.ref it) (.ref D) (compEnvC scope (cellsFrom (s3.heap.objs.size + 1) scope.names (cloFrom X.env.cells scope.names [])) s3.heap.objs.size X.env)) (compPost (model X.prog X.w) X.A X.xe none (EP X pins σ Q) (.ref D) s3.heap.objs.size) { s3 with heap := pushCells (s3.heap.push { cls := .type "dict", data := .dict #[] }) scope.names }
  have nfp : ∀ b ∈ fp, H3 b = none := fun b hb => (f3 b hb).1.1
  generalize hce : compEnvC scope (cellsFrom (s3.heap.objs.size + 1) scope.names (cloFrom X.env.cells scope.names [])) s3.heap.objs.size X.env = ce at I4 pg pt pe ⊢
  have cL : ce.locals = s3.heap.objs.size := by subst hce; rfl
  generalize hs4 : ({ s3 with heap := pushCells (s3.heap.push { cls := .type "dict", data := .dict #[] }) scope.names } : Shared) = s4 at I4 ⊢
  have st4 : tn 0 s4.heap := T.keep _ _ _ st3 fun b _ o e => by rw [← hs4]; exact pushCells_keeps _ _ _ _ (Heap.get?_push_of_some _ e)
  have stat : ∀ {σ' : L2.St} {H' : Hp} {s' : Shared}, Inv (X.blk s3 H3 scope ce fp) [] σ' H' s' → (∀ b ∈ fp, H' b = none) → ∀ b ∈ fp, FpOk (X.blk s3 H3 scope ce fp) [] H' b := fun {σ' H' s'} I' hn b hb =>
    ⟨hn b hb, (I'.ok.exf b hb).1, I'.ok.exfs b hb, .inl hb, fun x c e => (I'.ok.exf b hb).2 x c e, fun p hp => absurd (show p ∈ ([] : List (Addr × Obj)) ++ [] from hp) (by simp)⟩
  have I4' : Inv (X.blk s3 H3 scope ce fp) [] (wipe σ (own.map (·.2))) H3 s4 := I4
  have loop : codeAny (model X.prog X.w) X.A (.compLoop (.SetComp elt [⟨tg, iter, ifs, 0⟩] scope pos) 0 (.ref it) (.ref D) ce) (compPost (model X.prog X.w) X.A X.xe none (EP X pins σ Q) (.ref D) s3.heap.objs.size) s4 := by
    refine compLoopS_any (fun n s' => ∃ i H', Inv (X.blk s3 H3 scope ce fp) [] (wipe σ (own.map (·.2))) H' s' ∧ tn i s'.heap ∧ (∀ b ∈ fp, H' b = none) ∧ W i n H') ?_ m0 ⟨0, H3, I4', st4, nfp, w0⟩
    rintro n s5 ⟨i, H5, I5, st5, n5, w5⟩
    rcases turn i n H5 w5 with ⟨stop, qq⟩ | ⟨go, Nx, hNx, step⟩
    · have td := T.done (X.blk s3 H3 scope ce fp) rfl rfl rfl hc i [] s5 _ H5 (fun _ _ => False) I5 (stat I5 n5) st5 stop
      refine thnF td fun r s6 ⟨hr, I6⟩ => ?_
      subst hr
      have I7 : Inv X pins σ H5 s6 := I3.call' (ch := fp) I6.os I6.base I6.hok I6.bare fun b hb => ⟨(f3 b hb).1.2.2.2.1, (f3 b hb).1.2.1, (f3 b hb).1.2.2.2.2.1, (f3 b hb).1.2.2.2.2.2⟩
      have nC : H5 s3.heap.objs.size = none := by
        have z : H5 ce.locals = none := I6.free
        rw [cL] at z
        exact z
      obtain ⟨m, hn, _⟩ := I6.loc
      have hn : s6.heap.Ns ce.locals m := hn
      rw [cL] at hn
      refine ⟨m, hn, fun h'' sb => ?_⟩
      obtain ⟨f0, f1, f2, f3, f4, f5⟩ := I3.fpOk (Nat.le_refl _) nC
      exact ⟨.ref D, H5, I7.turned (t' := s6.toks) (fun b o hb e => (sb.2 b hb).trans e) f0 f1 f3 f4 f5, rfl, qq⟩
    · have ti := T.item (X.blk s3 H3 scope ce fp) rfl rfl rfl hc i [] s5 _ H5 (fun _ _ => False) I5 (stat I5 n5) st5 go
      refine thnF ti fun r s6 ⟨u, hr, h6⟩ => ?_
      subst hr
      refine thnF h6 fun _ s7 ⟨x, H7, I7, r7, y7, st7, n7⟩ => ?_
      have I7' := I7.pinned (stat I7 n7) (T.obj _ _ st7)
      refine thnF (pg.run _ s7 _ H7 x u _ I7' r7 (step x H7 y7)) fun _ s8 ⟨σ8, H8, I8, hw8, q8⟩ => ?_
      refine thnF (pt.run _ s8 σ8 H8 _ I8 q8) fun b s9 ⟨H9, I9, q9⟩ => ?_
      have fin1 : ∀ {s' : Shared} {H' : Hp}, Inv (X.blk s3 H3 scope ce fp) ([] ++ pinsAt fp s7.heap) σ8 H' s' → Nx H' → ∃ m, m < n ∧ ∃ i H', Inv (X.blk s3 H3 scope ce fp) [] (wipe σ (own.map (·.2))) H' s' ∧ tn i s'.heap ∧ (∀ b ∈ fp, H' b = none) ∧ W i m H' := fun {s' H'} I' nx => by
        obtain ⟨m', hm, w'⟩ := hNx H' nx
        have pin' : ∀ b ∈ fp, ∀ o, s7.heap.get? b = some o → s'.heap.get? b = some o ∧ H' b = none := fun b hb o e =>
          let z := I'.pin (b, o) (List.mem_append_right _ (List.mem_append_right _ (mem_pinsAt hb e)))
          ⟨z.1, z.2.1⟩
        have hl8 : (wipe σ (own.map (·.2))).length = σ8.length := by rw [← hw8, wipe_length]
        refine ⟨m', hm, i + 1, H', (I'.unpinned (pins := [])).weak hl8 (fun j v e => ?_), T.keep _ _ _ st7 fun b hb o e => (pin' b hb o e).1, fun b hb => ?_, w'⟩
        · rw [← hw8] at e
          exact (wipe_some e).1
        · obtain ⟨o, e, _⟩ := T.obj _ _ st7 b hb
          exact (pin' b hb o e).2
      cases b with
      | false =>
        simp only [Bool.false_eq_true, if_false] at q9 ⊢
        exact fin1 I9 q9
      | true =>
        simp only [if_true] at q9 ⊢
        refine thnF (pe.run _ s9 σ8 H9 _ I9 q9) fun z s10 ⟨yv, H10, I10, r10, c, k, L, ey, hD10, hL, hk, few, nx⟩ => ?_
        subst ey
        cases r10
        exact add_ok (X := X.blk s3 H3 scope ce fp) I10 hD10 hL hk (Nat.lt_of_le_of_lt (by show X.A.units + _ ≤ X.A.units + 64; omega) hu) few fun s11 L' gr I11 => fin1 I11 (nx L' gr)
  exact codeAny_compStart_set loop (T.self X.A 0 _ _ _ st4 loop)
end
end ScT


set_option Elab.async false
set_option linter.all false
set_option maxRecDepth 100000
set_option maxHeartbeats 4000000
/-! how many a set of tuples holds -/
namespace ScT
open PySem PySem.Spec PyProof.Rows L2 PpSet
theorem call_lenT {X : Cx} (P : Program) (w : World) (e1 : X.prog = P := by rfl) (e2 : X.w = w := by rfl) : CallR X (.builtin "len") (fun xs H Q => ∃ (a : Addr) (L : List (Addr × List Int)), xs = [V.ref a] ∧ H a = some (SetTO P w a L) ∧ Q (.int L.length) H) := by
  subst e1 e2
  intro pins s σ H xs us Q I r h
  obtain ⟨a, L, rfl, ha, q⟩ := h
  rw [Vals.ref1 r]
  obtain ⟨es, ep, t, ⟨o, ho, hex, hd⟩, hr, tb, nd, pl, ld, rm, few⟩ := (SetT0.ex (I.hok a _ ha).1)
  have hsz : es.size = L.length := by
    have h := congrArg List.length hr
    unfold rowsOf at h
    rw [Array.length_toList, List.length_map] at h
    exact h
  have hf : t.fits es.size = true := by
    have h1 := tb.sz
    rw [List.length_map] at h1
    unfold SetTable.fits SetTable.fill
    rw [tb.dm, Bool.and_eq_true, beq_iff_eq, decide_eq_true_eq]
    show t.place.size = es.size ∧ t.place.size + 0 ≤ t.mask
    omega
  refine call_len_set ho hex hd hf (by omega) ⟨.int L.length, H, I.tok _, ⟨_, by rw [hsz]⟩, q⟩
/-- the set holds just these -/
structure SetOf (L : List (Addr × List Int)) (ks : List (List Int)) : Prop where
  nd : (L.map (·.2)).Nodup
  mem : ∀ k, k ∈ L.map (·.2) ↔ k ∈ ks
theorem SetOf.nil : SetOf [] [] := ⟨List.nodup_nil, fun k => Iff.rfl⟩
theorem SetOf.grow {L L' : List (Addr × List Int)} {ks : List (List Int)} {x : Addr} {k : List Int} (h : SetOf L ks) (g : Grown L x k L') : SetOf L' (ks ++ [k]) := by
  by_cases hk : k ∈ L.map (·.2)
  · rw [g.1 hk]
    refine ⟨h.nd, fun j => ?_⟩
    rw [h.mem j, List.mem_append, List.mem_singleton]
    exact ⟨.inl, fun z => z.elim id fun e => by rw [e]; exact (h.mem k).mp hk⟩
  · have pm := (g.2 hk).map (·.2)
    refine ⟨pm.nodup_iff.mpr (List.nodup_cons.mpr ⟨hk, h.nd⟩), fun j => ?_⟩
    rw [pm.mem_iff, List.map_cons, List.mem_cons, h.mem j, List.mem_append, List.mem_singleton]
    exact ⟨fun z => z.symm, fun z => z.symm⟩
theorem sub_len {α : Type} [DecidableEq α] : ∀ (m l : List α), l.Nodup → (∀ x ∈ l, x ∈ m) → l.length ≤ m.length ∧ (¬ m.Nodup → l.length < m.length)
  | [], l, _, h => by
    cases l with
    | nil => exact ⟨Nat.le_refl _, fun z => absurd List.nodup_nil z⟩
    | cons x l => exact absurd (h x List.mem_cons_self) List.not_mem_nil
  | a :: m, l, nd, h => by
    have le1 : (∀ x ∈ l, x ∈ m) → l.length ≤ (a :: m).length ∧ (¬ (a :: m).Nodup → l.length < (a :: m).length) := fun hm => by
      have ih := sub_len m l nd hm
      exact ⟨Nat.le_succ_of_le ih.1, fun _ => Nat.lt_succ_of_le ih.1⟩
    by_cases ha : a ∈ m
    · refine le1 fun x hx => ?_
      rcases List.mem_cons.mp (h x hx) with e | e
      · rw [e]; exact ha
      · exact e
    · by_cases hl : a ∈ l
      · have ih := sub_len m (l.erase a) (nd.erase a) fun x hx => by
          have hx2 := (nd.mem_erase_iff.mp hx)
          rcases List.mem_cons.mp (h x hx2.2) with e | e
          · exact absurd e hx2.1
          · exact e
        have e := List.length_erase_of_mem hl
        have p : 0 < l.length := List.length_pos_of_mem hl
        refine ⟨by rw [List.length_cons]; omega, fun z => ?_⟩
        have := ih.2 fun nm => z (List.nodup_cons.mpr ⟨ha, nm⟩)
        rw [List.length_cons]
        omega
      · refine le1 fun x hx => ?_
        rcases List.mem_cons.mp (h x hx) with e | e
        · exact absurd (e ▸ hx) hl
        · exact e
theorem SetOf.len {L : List (Addr × List Int)} {ks : List (List Int)} (h : SetOf L ks) : decide ((L.length : Int) < (ks.length : Int)) = !decide ks.Nodup := by
  have h1 := sub_len ks (L.map (·.2)) h.nd fun x hx => (h.mem x).mp hx
  rw [List.length_map] at h1
  by_cases n : ks.Nodup
  · have h2 := sub_len (L.map (·.2)) ks n fun x hx => (h.mem x).mpr hx
    rw [List.length_map] at h2
    rw [decide_eq_true n, decide_eq_false (by omega)]
    rfl
  · rw [decide_eq_false n, decide_eq_true (by have := h1.2 n; omega)]
    rfl
end ScT


set_option Elab.async false
set_option linter.all false
set_option maxRecDepth 100000
set_option maxHeartbeats 4000000
/-! what is reached from one by some steps: two ways to find it find the same -/
namespace Rc
section
variable {α β : Type} [DecidableEq α] [DecidableEq β]
/-- x is reached from x0 by the steps of fs -/
inductive Rch (x0 : α) (fs : List (α → α)) : α → Prop
  | base : Rch x0 fs x0
  | step {x : α} {f : α → α} : Rch x0 fs x → f ∈ fs → Rch x0 fs (f x)
variable {x0 : α} {fs : List (α → α)}
/-- A holds x0 and what its items lead to -/
def Closed (x0 : α) (fs : List (α → α)) (A : List α) : Prop := x0 ∈ A ∧ ∀ x ∈ A, ∀ f ∈ fs, f x ∈ A
theorem Closed.all {A : List α} (h : Closed x0 fs A) : ∀ {x : α}, Rch x0 fs x → x ∈ A := fun {x} r => by
  induction r with
  | base => exact h.1
  | step r hf ih => exact h.2 _ ih _ hf
/-- A holds nothing else, and nothing twice -/
structure Part (x0 : α) (fs : List (α → α)) (A : List α) : Prop where
  nd : A.Nodup
  sub : ∀ x ∈ A, Rch x0 fs x
theorem Part.le {A B : List α} (p : Part x0 fs B) (h : Closed x0 fs A) : B.length ≤ A.length := (ScT.sub_len A B p.nd fun x hx => h.all (p.sub x hx)).1
theorem Part.perm {A B : List α} (p : Part x0 fs A) (q : Part x0 fs B) (h : Closed x0 fs A) (k : Closed x0 fs B) : A.Perm B :=
  (List.perm_ext_iff_of_nodup p.nd q.nd).mpr fun x => ⟨fun hx => k.all (p.sub x hx), fun hx => h.all (q.sub x hx)⟩
theorem Part.one : Part x0 fs [x0] := ⟨List.nodup_cons.mpr ⟨List.not_mem_nil, List.nodup_nil⟩, fun x hx => by rw [List.mem_singleton.mp hx]; exact .base⟩
theorem Part.more {A : List α} {x : α} {f : α → α} (p : Part x0 fs A) (hx : x ∈ A) (hf : f ∈ fs) (n : f x ∉ A) : Part x0 fs (A ++ [f x]) := by
  refine ⟨List.nodup_append.mpr ⟨p.nd, List.nodup_cons.mpr ⟨List.not_mem_nil, List.nodup_nil⟩, fun a ha b hb e => ?_⟩, fun y hy => ?_⟩
  · rw [List.mem_singleton.mp hb] at e
    rw [e] at ha
    exact n ha
  · rcases List.mem_append.mp hy with h | h
    · exact p.sub y h
    · rw [List.mem_singleton.mp h]
      exact .step (p.sub x hx) hf
/-! ### one layer behind another -/
/-- the new ones of a row, in their order -/
def fresh : List α → List α → List α
  | _, [] => []
  | M, x :: r => if x ∈ M then fresh M r else x :: fresh (M ++ [x]) r
/-- M with the new ones is M and they -/
theorem fresh_nd : ∀ (r M : List α), M.Nodup → (M ++ fresh M r).Nodup
  | [], M, h => by unfold fresh; rw [List.append_nil]; exact h
  | x :: r, M, h => by
    unfold fresh
    by_cases hx : x ∈ M
    · rw [if_pos hx]; exact fresh_nd r M h
    · rw [if_neg hx]
      have ih := fresh_nd r (M ++ [x]) (List.nodup_append.mpr ⟨h, List.nodup_cons.mpr ⟨List.not_mem_nil, List.nodup_nil⟩, fun a ha b hb e => by rw [List.mem_singleton.mp hb] at e; rw [e] at ha; exact hx ha⟩)
      rw [List.append_assoc] at ih
      exact ih
theorem fresh_sub : ∀ (r M : List α), ∀ x ∈ fresh M r, x ∈ r
  | [], M, x, h => by unfold fresh at h; exact h
  | y :: r, M, x, h => by
    unfold fresh at h
    by_cases hx : y ∈ M
    · rw [if_pos hx] at h; exact List.mem_cons_of_mem _ (fresh_sub r M x h)
    · rw [if_neg hx] at h
      rcases List.mem_cons.mp h with e | h
      · rw [e]; exact List.mem_cons_self
      · exact List.mem_cons_of_mem _ (fresh_sub r _ x h)
theorem fresh_all : ∀ (r M : List α), ∀ x ∈ r, x ∈ M ++ fresh M r
  | [], M, x, h => absurd h List.not_mem_nil
  | y :: r, M, x, h => by
    unfold fresh
    by_cases hy : y ∈ M
    · rw [if_pos hy]
      rcases List.mem_cons.mp h with e | h
      · rw [e]; exact List.mem_append_left _ hy
      · exact fresh_all r M x h
    · rw [if_neg hy]
      have ih : ∀ x ∈ r, x ∈ M ++ [y] ++ fresh (M ++ [y]) r := fresh_all r (M ++ [y])
      rcases List.mem_cons.mp h with e | h
      · rw [e]; exact List.mem_append_right _ List.mem_cons_self
      · have := ih x h
        rw [List.append_assoc] at this
        exact this
theorem fresh_snoc : ∀ (r M : List α) (x : α), fresh M (r ++ [x]) = if x ∈ M ++ fresh M r then fresh M r else fresh M r ++ [x]
  | [], M, x => by
    by_cases hx : x ∈ M
    · have : x ∈ M ++ fresh M [] := List.mem_append_left _ hx
      rw [if_pos this]
      show fresh M [x] = fresh M []
      unfold fresh
      rw [if_pos hx]
      unfold fresh
      rfl
    · have : ¬ x ∈ M ++ fresh M [] := fun h => by
        unfold fresh at h
        rw [List.append_nil] at h
        exact hx h
      rw [if_neg this]
      show fresh M [x] = fresh M [] ++ [x]
      unfold fresh
      rw [if_neg hx]
      unfold fresh
      rfl
  | y :: r, M, x => by
    rw [List.cons_append]
    by_cases hy : y ∈ M
    · have e1 : fresh M (y :: (r ++ [x])) = fresh M (r ++ [x]) := by rw [fresh, if_pos hy]
      have e2 : fresh M (y :: r) = fresh M r := by rw [fresh, if_pos hy]
      rw [e1, e2]
      exact fresh_snoc r M x
    · have e1 : fresh M (y :: (r ++ [x])) = y :: fresh (M ++ [y]) (r ++ [x]) := by rw [fresh, if_neg hy]
      have e2 : fresh M (y :: r) = y :: fresh (M ++ [y]) r := by rw [fresh, if_neg hy]
      rw [e1, e2, fresh_snoc r (M ++ [y]) x, List.append_assoc]
      by_cases hx : x ∈ M ++ ([y] ++ fresh (M ++ [y]) r)
      · rw [if_pos hx, if_pos (show x ∈ M ++ y :: fresh (M ++ [y]) r from hx)]
      · rw [if_neg hx, if_neg (show ¬ x ∈ M ++ y :: fresh (M ++ [y]) r from hx)]
        rfl
/-- where the front leads, front by front, step by step -/
def beyond (fs : List (α → α)) (F : List α) : List α := F.flatMap fun x => fs.map fun f => f x
theorem mem_beyond {F : List α} {y : α} : y ∈ beyond fs F ↔ ∃ x ∈ F, ∃ f ∈ fs, f x = y := by
  unfold beyond
  rw [List.mem_flatMap]
  constructor
  · rintro ⟨x, hx, h⟩
    obtain ⟨f, hf, e⟩ := List.mem_map.mp h
    exact ⟨x, hx, f, hf, e⟩
  · rintro ⟨x, hx, f, hf, e⟩
    exact ⟨x, hx, List.mem_map.mpr ⟨f, hf, e⟩⟩
/-- M: what is found; F, the last of it: what is not asked yet -/
structure Lay (x0 : α) (fs : List (α → α)) (M F : List α) : Prop where
  p : Part x0 fs M
  x : x0 ∈ M
  s : ∀ y ∈ F, y ∈ M
  c : ∀ y ∈ M, y ∉ F → ∀ f ∈ fs, f y ∈ M
theorem Lay.start : Lay x0 fs [x0] [x0] := ⟨.one, List.mem_cons_self, fun _ h => h, fun y h n => absurd h n⟩
theorem Lay.next {M F : List α} (h : Lay x0 fs M F) : Lay x0 fs (M ++ fresh M (beyond fs F)) (fresh M (beyond fs F)) := by
  refine ⟨⟨fresh_nd _ _ h.p.nd, fun y hy => ?_⟩, List.mem_append_left _ h.x, fun y hy => List.mem_append_right _ hy, fun y hy n f hf => ?_⟩
  · rcases List.mem_append.mp hy with hy | hy
    · exact h.p.sub y hy
    · obtain ⟨x, hx, f, hf, e⟩ := mem_beyond.mp (fresh_sub _ _ y hy)
      rw [← e]
      exact .step (h.p.sub x (h.s x hx)) hf
  · rcases List.mem_append.mp hy with hy | hy
    · by_cases hF : y ∈ F
      · exact fresh_all _ _ _ (mem_beyond.mpr ⟨y, hF, f, hf, rfl⟩)
      · exact List.mem_append_left _ (h.c y hy hF f hf)
    · exact absurd hy n
theorem Lay.done {M : List α} (h : Lay x0 fs M []) : Closed x0 fs M := ⟨h.x, fun y hy f hf => h.c y hy List.not_mem_nil f hf⟩
/-! ### one behind another -/
/-- L: what is found; the first i of it are asked; of the next one the first j steps -/
structure Row (x0 : α) (fs : List (α → α)) (L : List α) (i : Nat) : Prop where
  p : Part x0 fs L
  x : x0 ∈ L
  c : ∀ (k : Nat) (y : α), k < i → L[k]? = some y → ∀ f ∈ fs, f y ∈ L
theorem Row.start : Row x0 fs [x0] 0 := ⟨.one, List.mem_cons_self, fun k y h => absurd h (Nat.not_lt_zero _)⟩
theorem Row.next {L : List α} {i : Nat} {y : α} (h : Row x0 fs L i) (hy : L[i]? = some y) : Row x0 fs (L ++ fresh L (fs.map fun f => f y)) (i + 1) := by
  have hm := List.mem_of_getElem? hy
  refine ⟨⟨fresh_nd _ _ h.p.nd, fun z hz => ?_⟩, List.mem_append_left _ h.x, fun k z hk hz f hf => ?_⟩
  · rcases List.mem_append.mp hz with hz | hz
    · exact h.p.sub z hz
    · obtain ⟨f, hf, e⟩ := List.mem_map.mp (fresh_sub _ _ z hz)
      rw [← e]
      exact .step (h.p.sub y hm) hf
  · have hk2 : k < L.length := by
      have := (List.getElem?_eq_some_iff.mp hy).1
      omega
    rw [List.getElem?_append_left hk2] at hz
    by_cases e : k = i
    · subst e
      rw [hy] at hz
      cases hz
      exact fresh_all _ _ _ (List.mem_map.mpr ⟨f, hf, rfl⟩)
    · exact List.mem_append_left _ (h.c k z (by omega) hz f hf)
theorem Row.done {L : List α} (h : Row x0 fs L L.length) : Closed x0 fs L := ⟨h.x, fun y hy f hf => by
  obtain ⟨k, hk⟩ := List.mem_iff_getElem?.mp hy
  exact h.c k y (List.getElem?_eq_some_iff.mp hk).1 hk f hf⟩
/-! ### both are alike, where the one is led to the other -/
variable {y0 : β} {gs : List (β → β)} {h : α → β}
/-- h leads x0 to y0 and each step to its step -/
structure Led (h : α → β) (x0 : α) (fs : List (α → α)) (y0 : β) (gs : List (β → β)) : Prop where
  b : h x0 = y0
  l : fs.length = gs.length
  s : ∀ (k : Nat) (f : α → α) (g : β → β), fs[k]? = some f → gs[k]? = some g → ∀ x, Rch x0 fs x → h (f x) = g (h x)
  inj : ∀ x y, Rch x0 fs x → Rch x0 fs y → h x = h y → x = y
theorem Led.to (d : Led h x0 fs y0 gs) {x : α} (r : Rch x0 fs x) : Rch y0 gs (h x) := by
  induction r with
  | base => rw [d.b]; exact .base
  | step r hf ih =>
    obtain ⟨k, hk⟩ := List.mem_iff_getElem?.mp hf
    have hlt := (List.getElem?_eq_some_iff.mp hk).1
    have hg := List.getElem?_eq_getElem (l := gs) (i := k) (by rw [← d.l]; exact hlt)
    rw [d.s k _ _ hk hg _ r]
    exact .step ih (List.mem_of_getElem? hg)
theorem Led.part (d : Led h x0 fs y0 gs) {A : List α} (p : Part x0 fs A) : Part y0 gs (A.map h) := by
  refine ⟨?_, fun y hy => ?_⟩
  · have key : ∀ {B : List α}, B.Nodup → (∀ x ∈ B, Rch x0 fs x) → (B.map h).Nodup := fun {B} => by
      induction B with
      | nil => exact fun _ _ => List.nodup_nil
      | cons x B ih =>
        intro nd hs
        obtain ⟨n1, n2⟩ := List.nodup_cons.mp nd
        refine List.nodup_cons.mpr ⟨fun hm => ?_, ih n2 fun y hy => hs y (List.mem_cons_of_mem _ hy)⟩
        obtain ⟨y, hy, e⟩ := List.mem_map.mp hm
        rw [d.inj y x (hs y (List.mem_cons_of_mem _ hy)) (hs x List.mem_cons_self) e] at hy
        exact n1 hy
    exact key p.nd p.sub
  · obtain ⟨x, hx, e⟩ := List.mem_map.mp hy
    rw [← e]
    exact d.to (p.sub x hx)
theorem Led.closed (d : Led h x0 fs y0 gs) {A : List α} (p : Part x0 fs A) (c : Closed x0 fs A) : Closed y0 gs (A.map h) := by
  refine ⟨by rw [← d.b]; exact List.mem_map.mpr ⟨x0, c.1, rfl⟩, fun y hy g hg => ?_⟩
  obtain ⟨x, hx, e⟩ := List.mem_map.mp hy
  obtain ⟨k, hk⟩ := List.mem_iff_getElem?.mp hg
  have hlt := (List.getElem?_eq_some_iff.mp hk).1
  have hf := List.getElem?_eq_getElem (l := fs) (i := k) (by rw [d.l]; exact hlt)
  rw [← e, ← d.s k _ _ hf hk x (p.sub x hx)]
  exact List.mem_map.mpr ⟨_, c.2 x hx _ (List.mem_of_getElem? hf), rfl⟩
end
end Rc


set_option Elab.async false
set_option linter.all false
set_option maxRecDepth 100000
set_option maxHeartbeats 4000000
/-! likenesses made one behind another, and where they lead (1, 2, ..) -/
namespace K0
open PySem PySem.Spec PyProof.Rows L2
abbrev Q2 : Type := List Int × List Int
def oneT (g q : Q2) : Q2 := (thenP q.1 g.1, ledL g.1 g.2 q.2)
def same0 (n : Nat) : Q2 := (rng n, List.replicate n 1)
def GsOk (n : Nat) (gs : List Q2) : Prop := 2 ≤ n ∧ n ≤ 6 ∧ ∀ g ∈ gs, Lik g.1 g.2 ∧ g.1.length = n
theorem rch_lik {n : Nat} {gs : List Q2} (G : GsOk n gs) {q : Q2} (r : Rc.Rch (same0 n) (gs.map oneT) q) : Lik q.1 q.2 ∧ q.1.length = n := by
  induction r with
  | base => exact ⟨Lik.same G.1 G.2.1, rng_len n⟩
  | @step q f r hf ih =>
    obtain ⟨g, hg, rfl⟩ := List.mem_map.mp hf
    obtain ⟨L, l⟩ := G.2.2 g hg
    obtain ⟨L1, l1⟩ := ih
    exact ⟨L1.then L (l.trans l1.symm), by show (thenP q.1 g.1).length = n; rw [then_len]; exact l⟩
/-- where a pair leads (1, .., n) -/
def ptQ (n : Nat) (q : Q2) : List Int := ledL q.1 q.2 (cnt n)
theorem pt_led {n : Nat} {gs : List Q2} (G : GsOk n gs) (hb : ptQ n (same0 n) = cnt n) : Rc.Led (ptQ n) (same0 n) (gs.map oneT) (cnt n) (gs.map fun g p => ledL g.1 g.2 p) := by
  refine ⟨hb, by rw [List.length_map, List.length_map], fun k f g hf hg q r => ?_, fun x y rx ry e => ?_⟩
  · rw [List.getElem?_map] at hf hg
    obtain ⟨a, ha, rfl⟩ := Option.map_eq_some_iff.mp hf
    rw [ha] at hg
    cases hg
    obtain ⟨L, l⟩ := G.2.2 a (List.mem_of_getElem? ha)
    obtain ⟨L1, l1⟩ := rch_lik G r
    exact led_then L1 L (l.trans l1.symm)
  · obtain ⟨L1, l1⟩ := rch_lik G rx
    obtain ⟨L2, l2⟩ := rch_lik G ry
    unfold ptQ at e
    rw [← l1] at e
    obtain ⟨e1, e2⟩ := led_inj L1 L2 (l2.trans l1.symm) e
    exact Prod.ext e1 e2
/-- the same likeness leads (1, .., n) to itself -/
theorem pt_same (n : Nat) : ptQ n (same0 n) = cnt n := led_same (cnt_len n)
/-- the parts that the law reaches by points are the parts made -/
theorem pt_led' {n : Nat} {gs : List Q2} (G : GsOk n gs) : Rc.Led (ptQ n) (same0 n) (gs.map oneT) (cnt n) (gs.map fun g p => ledL g.1 g.2 p) := pt_led G (pt_same n)
end K0


set_option Elab.async false
set_option linter.all false
set_option maxRecDepth 100000
set_option maxHeartbeats 4000000
/-! a comprehension whose items are drawn -/
namespace K0
open PySem PySem.Spec PyProof.Rows L2
section
variable {J : L2.It} {n : Nat} {G : Hp → Prop} {Y : Nat → Hp → V → Hp → Prop} {D : Addr} {te : TE} {g : TG} {vs : List Nat} {σ : L2.St} {H1 : Hp} {Qd : Hp → Prop}
theorem lc_drawW (w : Walk J n G Y) (Rr : Nat → V → Hp → Prop) {k : Nat} {c d : Addr} {ns : List Int} {m : Nat} (hn : n ≤ 1000) (hD : H1 D = none) (hC : Coil H1 c d ns m) (hG : ∀ H, SameBut c H1 H → G H)
    (hS : ∀ i y H H', SameBut c H H' → Rr i y H → Rr i y H') (hU : ∀ i y H acc o, H D = some (.lst acc) → Rr i y H → Rr i y (upd H D o))
    (he : ∀ i x H H' m', i < n → m' ≤ m + k * n → Coil H c d ns m' → SameBut c H1 H → (∃ acc, H D = some (.lst acc)) → Y i H x H' → ∀ R : VK, (∀ y H'', Rr i y H'' → Coil H'' c d ns (m' + k) → SameBut c H H'' → R y H'') → g x (wipe σ vs) H' fun σ2 H2 => wipe σ2 vs = wipe σ vs ∧ te σ2 H2 R)
    (hd : ∀ H (acc : List V), acc.length = n → (∀ j y, acc[j]? = some y → Rr j y H) → H D = some (.lst acc) → Coil H c d ns (m + k * n) → SameBut c H1 H → Qd H) :
    ∃ W : Nat → Nat → Hp → Prop, (∃ m, W 0 m (upd H1 D (.lst []))) ∧ ∀ i m H, W i m H →
      (J.stop i H ∧ Qd H) ∨ (J.go i H ∧ ∃ Nx : Hp → Prop, (∀ H', Nx H' → ∃ m', m' < m ∧ W (i + 1) m' H') ∧ ∀ x H', J.yld i H x H' → g x (wipe σ vs) H' fun σ2 H2 => wipe σ2 vs = wipe σ vs ∧ tYes σ2 H2 fun b H3 =>
        if b = true then te σ2 H3 fun y H4 => ∃ acc, H4 D = some (.lst acc) ∧ acc.length < sizeLine ∧ Nx (upd H4 D (.lst (acc ++ [y]))) else Nx H3) := by
  obtain ⟨nDc, nDd⟩ := hC.ne hD
  refine lc_it w (fun i H => ∃ acc : List V, acc.length = i ∧ (∀ j y, acc[j]? = some y → Rr j y H) ∧ H D = some (.lst acc) ∧ Coil H c d ns (m + k * i) ∧ SameBut c H1 H)
    ⟨[], rfl, fun j y h => (by cases h), upd_same, hC.upd nDc nDd, new_but hD⟩ (fun i H _ ⟨_, _, _, _, _, s⟩ => hG H s) ?_ ?_
  · rintro i x H H' hi ⟨acc, l, hr, hx, hC2, sb⟩ hy
    refine he i x H H' _ hi (by have := Nat.mul_le_mul_left k (Nat.le_of_lt hi); omega) hC2 sb ⟨acc, hx⟩ hy _ fun y H2 hr2 hC3 sb2 => ⟨_, sb2 _ _ nDc hx, ?_, acc ++ [y], by rw [List.length_append, l]; rfl, fun j z hz => ?_, upd_same, ?_, fun b o e h => ?_⟩
    · rw [l]
      exact Nat.lt_of_lt_of_le hi (Nat.le_trans hn (by decide))
    · have hx2 := sb2 _ _ nDc hx
      by_cases hj : j < acc.length
      · rw [List.getElem?_append_left hj] at hz
        exact hU _ _ _ _ _ hx2 (hS _ _ _ _ sb2 (hr j z hz))
      · rw [List.getElem?_append_right (by omega)] at hz
        have ej : j = i := by
          have := (List.getElem?_eq_some_iff.mp hz).1
          simp only [List.length_cons, List.length_nil] at this
          omega
        subst ej
        rw [l, Nat.sub_self] at hz
        cases hz
        exact hU _ _ _ _ _ hx2 hr2
    · rw [Nat.mul_succ, ← Nat.add_assoc]
      exact hC3.upd nDc nDd
    · rw [upd_ne (ne_of_none h hD)]
      exact sb2 _ _ e (sb _ _ e h)
  · rintro H ⟨acc, l, hr, hx, hC2, sb⟩
    exact hd H acc l hr hx hC2 sb
end
theorem SameBut.free {c : Addr} {H H' : Hp} (s : SameBut c H H') {x : Addr} (n : x ≠ c) (h : H' x = none) : H x = none := by
  cases e : H x with
  | none => rfl
  | some o => rw [s _ _ n e] at h; cases h
/-- values that are ints are ints -/
theorem ints_acc {Pr : Int → Prop} : ∀ {acc : List V}, (∀ (j : Nat) y, acc[j]? = some y → ∃ x, y = .int x ∧ Pr x) → ∃ xs : List Int, acc = xs.map V.int ∧ xs.length = acc.length ∧ ∀ x ∈ xs, Pr x
  | [], _ => ⟨[], rfl, rfl, fun x h => absurd h List.not_mem_nil⟩
  | y :: acc, h => by
    obtain ⟨x, rfl, hx⟩ := h 0 y rfl
    obtain ⟨xs, e, l, hp⟩ := ints_acc (acc := acc) fun j y hy => h (j + 1) y hy
    refine ⟨x :: xs, by rw [e]; rfl, by rw [List.length_cons, List.length_cons, l], fun z hz => ?_⟩
    rcases List.mem_cons.mp hz with e | hz
    · rw [e]; exact hx
    · exact hp z hz
theorem perm_ints {ys : List V} {ns : List Int} (h : ys.Perm (ns.map V.int)) : ∃ ms : List Int, ys = ms.map V.int ∧ ms.Perm ns := by
  have e : ys = (intsOf ys).map V.int := map_intsOf (by
    show ys.all isI = true
    rw [List.all_eq_true]
    intro x hx
    obtain ⟨n, _, rfl⟩ := List.mem_map.mp (h.mem_iff.mp hx)
    rfl)
  refine ⟨intsOf ys, e, ?_⟩
  have := h.filterMap toI
  rw [show List.filterMap toI (ns.map V.int) = ns from intsOf_map ns] at this
  exact this
end K0


set_option Elab.async false
set_option linter.all false
set_option maxRecDepth 100000
set_option maxHeartbeats 4000000
/-! dicts whose keys are tuples of ints, and pairs of such -/
namespace KdN
open PySem PySem.Spec PyProof.Rows L2
/-- an entry: its key, where the key stands, what is kept -/
abbrev En : Type := NestedKey × Addr × V
def RelE (x : En) (y : NestedKey × Addr × Value) : Prop := x.1 = y.1 ∧ x.2.1 = y.2.1 ∧ RelV x.2.2 y.2.2
structure Dk0 (P : Program) (w : World) (h : Heap) (d : Addr) (xs : List En) : Prop where
  ns : (d == sysModules) = false
  few : xs.length ≤ 100000
  ex : ∃ (ys : List (NestedKey × Addr × Value)) (o : Obj) (es : Array DictEntry) (ep : Nat), Paired RelE xs ys ∧ h.get? d = some o ∧ o.ExactDict ∧ o.data = .dict es ep ∧ es.toList = ys.map (entryOfKey (nestedKind P w)) ∧ (ys.map (·.1)).Nodup
def DkO (P : Program) (w : World) (d : Addr) (xs : List En) : HO := .ext fun h => Dk0 P w h d xs
theorem dkO_new {P : Program} {w : World} {H : Hp} {h : Heap} {d : Addr} {xs : List En} (R : Dk0 P w h d xs) : ObjOk P w H h d (DkO P w d xs) := by
  have ⟨ys, o, es, ep, pr, ho, r⟩ := R.ex
  refine ⟨R, ⟨o, ho⟩, fun h1 h2 p k => ?_⟩
  have ⟨ys', o', es', ep', pr', ho', r'⟩ := Dk0.ex p
  exact ⟨Dk0.ns p, Dk0.few p, ys', o', es', ep', pr', k o' ho', r'⟩
def keyI (ns : List Int) : NestedKey := .tup (ns.map .num)
def keyP (a b : List Int) : NestedKey := .tup [keyI a, keyI b]
theorem keyI_inj {a b : List Int} (h : keyI a = keyI b) : a = b := by
  unfold keyI at h
  have e := NestedKey.tup.inj h
  induction a generalizing b with
  | nil =>
    cases b with
    | nil => rfl
    | cons y b => cases e
  | cons x a ih =>
    cases b with
    | nil => cases e
    | cons y b =>
      rw [List.map_cons, List.map_cons] at e
      obtain ⟨e1, e2⟩ := List.cons.inj e
      rw [NestedKey.num.inj e1, ih (congrArg NestedKey.tup e2) e2]
theorem keyP_inj {a b c d : List Int} (h : keyP a b = keyP c d) : a = c ∧ b = d := by
  unfold keyP at h
  have e := NestedKey.tup.inj h
  obtain ⟨e1, e2⟩ := List.cons.inj e
  exact ⟨keyI_inj e1, keyI_inj (List.cons.inj e2).1⟩
/-- the key k stands at a -/
inductive NkV (K : PySem.W.Frag) (H : Hp) : NestedKey → Addr → Prop
  | ofI {a : Addr} {ns : List Int} (h : SqT K H a (ns.map V.int)) : NkV K H (keyI ns) a
  | ofP {a p q : Addr} {ms ns : List Int} (h : SqT K H a [.ref p, .ref q]) (h1 : SqT K H p (ms.map V.int)) (h2 : SqT K H q (ns.map V.int)) : NkV K H (keyP ms ns) a
section
variable {X : Cx} {pins : List (Addr × Obj)} {σ : L2.St} {H : Hp} {s : Shared}
theorem all_ints {h : Heap} : ∀ {ns : List Int} {us : List Value}, Vals (ns.map V.int) us → NestedAll h (ns.map .num) us
  | [], _, .nil => .nil
  | n :: ns, _, .cons r t => by
    obtain ⟨tk, rfl⟩ := r
    exact .cons (.int n tk) (all_ints t)
theorem is_ints (I : Inv X pins σ H s) {a : Addr} {ns : List Int} (h : SqT X.K H a (ns.map V.int)) : NestedIs s.heap (keyI ns) (.ref a) := by
  obtain ⟨its, r, ⟨o, ho, hc, n, hd⟩, _⟩ := I.tuple h
  exact .tup ho hc hd (by simpa using all_ints r)
theorem depth_ints : ∀ ns : List Int, NestedKey.depthAll (ns.map .num) ≤ 1
  | [] => by simp [NestedKey.depthAll]
  | n :: ns => by
    have := depth_ints ns
    simp only [List.map_cons, NestedKey.depthAll, NestedKey.depth]
    omega
theorem is_nk (I : Inv X pins σ H s) {k : NestedKey} {a : Addr} (h : NkV X.K H k a) : (nestedKind X.prog X.w).is s.heap k a := by
  cases h with
  | ofI h =>
    rename_i ns
    refine ⟨is_ints I h, ?_⟩
    have := depth_ints ns
    simp only [keyI, NestedKey.depth]
    omega
  | ofP h h1 h2 =>
    rename_i p q ms ns
    refine ⟨?_, ?_⟩
    · obtain ⟨its, r, ⟨o, ho, hc, n, hd⟩, _⟩ := I.tuple h
      refine .tup ho hc hd ?_
      have e : its = [.ref p, .ref q] := by
        cases r with
        | cons r1 r =>
          cases r with
          | cons r2 r =>
            cases r
            cases r1
            cases r2
            rfl
      subst e
      exact .cons (is_ints I h1) (.cons (is_ints I h2) .nil)
    · have := depth_ints ms
      have := depth_ints ns
      simp only [keyP, keyI, NestedKey.depth, NestedKey.depthAll]
      omega
/-- where a key stands -/
def atN (xs : List En) (k : NestedKey) : Option V := (xs.find? fun x => decide (x.1 = k)).map (·.2.2)
theorem at_pair {xs : List En} {ys : List (NestedKey × Addr × Value)} {k : NestedKey} (p : Paired RelE xs ys) : (atN xs k = none ∧ atKey ys k = none) ∨ ∃ v a r, atN xs k = some v ∧ atKey ys k = some (a, r) ∧ RelV v r := by
  unfold atN atKey
  induction p with
  | nil => exact .inl ⟨rfl, rfl⟩
  | @cons x y xs ys h p ih =>
    obtain ⟨h1, h2, h3⟩ := h
    by_cases e : x.1 = k
    · right
      refine ⟨x.2.2, y.2.1, y.2.2, ?_, ?_, h3⟩
      · rw [List.find?_cons_of_pos (by rw [decide_eq_true e])]
        rfl
      · rw [List.find?_cons_of_pos (by rw [← h1, decide_eq_true e])]
        rfl
    · rw [List.find?_cons_of_neg (by rw [decide_eq_false e]; decide), List.find?_cons_of_neg (by rw [← h1, decide_eq_false e]; decide)]
      exact ih
theorem dkH (I : Inv X pins σ H s) {d : Addr} {xs : List En} (hd : H d = some (DkO X.prog X.w d xs)) (hk : ∀ x ∈ xs, NkV X.K H x.1 x.2.1) : (d == sysModules) = false ∧ xs.length ≤ 100000 ∧ ∃ ys, Paired RelE xs ys ∧ s.heap.DictOfH (nestedKind X.prog X.w) d ys := by
  have R : Dk0 X.prog X.w s.heap d xs := (I.hok d _ hd).1
  obtain ⟨ys, o, es, ep, pr, ho, hx, hdt, he, nd⟩ := R.ex
  refine ⟨R.ns, R.few, ys, pr, o, es, ep, ho, hx, hdt, he, fun y hy => ?_, nd⟩
  have key : ∀ {xs ys}, Paired RelE xs ys → (∀ x ∈ xs, NkV X.K H x.1 x.2.1) → ∀ y ∈ ys, (nestedKind X.prog X.w).is s.heap y.1 y.2.1 := fun {xs ys} p => by
    induction p with
    | nil => exact fun _ y hy => absurd hy List.not_mem_nil
    | @cons x y xs ys h p ih =>
      intro hk z hz
      rcases List.mem_cons.mp hz with e | hz
      · subst e
        rw [← h.1, ← h.2.1]
        exact is_nk I (hk x List.mem_cons_self)
      · exact ih (fun x hx => hk x (List.mem_cons_of_mem _ hx)) z hz
  exact key pr hk y hy
/-- one more entry, its key being new -/
theorem put_new (I : Inv X pins σ H s) {d : Addr} {xs : List En} {ys : List (NestedKey × Addr × Value)} {k : NestedKey} {a : Addr} {v : V} {r : Value} {h' : Heap} {tk : Nat} (hd : H d = some (DkO X.prog X.w d xs)) (ns : (d == sysModules) = false) (few : xs.length < 100000) (pr : Paired RelE xs ys) (rv : RelV v r) (hn : atN xs k = none)
    (dd : h'.DictOfH (nestedKind X.prog X.w) d (storedH ys k a r)) (sb : Heap.SameBut d s.heap h') : Inv X pins σ (upd H d (DkO X.prog X.w d (xs ++ [(k, a, v)]))) { s with heap := h', toks := tk } := by
  have hn2 : atKey ys k = none := by
    rcases at_pair (k := k) pr with ⟨_, e⟩ | ⟨_, _, _, e, _⟩
    · exact e
    · rw [hn] at e; cases e
  rw [storedH_new hn2] at dd
  obtain ⟨o, es, ep, ho, hx, hdt, he, his, nd⟩ := dd
  refine I.write (x := d) (e := d) (t' := tk) (by rw [hd]; trivial) (.inl rfl) (fun b u hb hu => (sb.2 b hb).trans hu) ⟨o, ho⟩ (dkO_new ⟨ns, by rw [List.length_append]; show xs.length + 1 ≤ 100000; omega, ys ++ [(k, a, r)], o, es, ep, pr.snoc ⟨rfl, rfl, rv⟩, ho, hx, hdt, he, nd⟩)
theorem paired_len {xs : List En} {ys : List (NestedKey × Addr × Value)} (p : Paired RelE xs ys) : xs.length = ys.length := by
  induction p with
  | nil => rfl
  | cons h p ih => rw [List.length_cons, List.length_cons, ih]
/-- d[k] = v in a comprehension, k being new -/
theorem dictSet_new {E : Value → Shared → Prop} {A : Around} {d a : Addr} {xs : List En} {k : NestedKey} {v : V} {r : Value} {Q : Unit → Shared → Prop} (hu : A.units + 8 < cLine) (I : Inv X pins σ H s) (hd : H d = some (DkO X.prog X.w d xs)) (hk : ∀ x ∈ xs, NkV X.K H x.1 x.2.1) (ha : NkV X.K H k a) (rv : RelV v r) (hn : atN xs k = none) (few : xs.length < 100000)
    (h : ∀ s', Inv X pins σ (upd H d (DkO X.prog X.w d (xs ++ [(k, a, v)]))) s' → Q () s') : wpAny (model X.prog X.w) A (dictSet d (.ref a) r) Q E s := by
  obtain ⟨ns, _, ys, pr, dd⟩ := dkH I hd hk
  refine wpAny_dictSet_heap (hsz := by rw [← paired_len pr, sizeLine_eq]; omega) hu (is_nk I ha) dd fun h' dd' sb => h _ (put_new I hd ns few pr rv hn dd' sb)
/-- d[k] = v, k being new -/
theorem setItem_new {E : Value → Shared → Prop} {A : Around} {d a : Addr} {xs : List En} {k : NestedKey} {v : V} {r : Value} {Q : Unit → Shared → Prop} (hu : A.in1.units + 8 < cLine) (I : Inv X pins σ H s) (hd : H d = some (DkO X.prog X.w d xs)) (hk : ∀ x ∈ xs, NkV X.K H x.1 x.2.1) (ha : NkV X.K H k a) (rv : RelV v r) (hn : atN xs k = none) (few : xs.length < 100000)
    (h : ∀ s', Inv X pins σ (upd H d (DkO X.prog X.w d (xs ++ [(k, a, v)]))) s' → Q () s') : wpAny (model X.prog X.w) A (setItem (.ref d) (.ref a) r) Q E s := by
  obtain ⟨ns, _, ys, pr, dd⟩ := dkH I hd hk
  refine wpAny_setItem_heap (hsz := by rw [← paired_len pr, sizeLine_eq]; omega) hu (is_nk I ha) dd fun h' dd' sb => h _ (put_new I hd ns few pr rv hn dd' sb)
/-- k not in d -/
theorem notIn_is {E : Value → Shared → Prop} {A : Around} {d a : Addr} {xs : List En} {k : NestedKey} {Q : Value → Shared → Prop} (hu : A.in1.units + 8 < cLine) (I : Inv X pins σ H s) (hd : H d = some (DkO X.prog X.w d xs)) (hk : ∀ x ∈ xs, NkV X.K H x.1 x.2.1) (ha : NkV X.K H k a)
    (h : ∀ s', Inv X pins σ H s' → Q (.bool (!(atN xs k).isSome)) s') : wpAny (model X.prog X.w) A (compareOp .NotIn (.ref a) (.ref d)) Q E s := by
  obtain ⟨ns, _, ys, pr, dd⟩ := dkH I hd hk
  refine notIn_keyed hu (is_nk I ha) ns ⟨ys, dd, rfl⟩ ?_
  rw [valueAt_pairsH, Option.isSome_map]
  have e : (atKey ys k).isSome = (atN xs k).isSome := by
    rcases at_pair (k := k) pr with ⟨e1, e2⟩ | ⟨_, _, _, e1, e2, _⟩
    · rw [e1, e2]; rfl
    · rw [e1, e2]; rfl
  rw [e]
  exact h _ (I.tok _)
/-- d.get(k) -/
theorem get_is {E : Value → Shared → Prop} {A : Around} {d a : Addr} {xs : List En} {k : NestedKey} {Q : Value → Shared → Prop} (hu : A.in1.units + 8 < cLine) (I : Inv X pins σ H s) (hd : H d = some (DkO X.prog X.w d xs)) (hk : ∀ x ∈ xs, NkV X.K H x.1 x.2.1) (ha : NkV X.K H k a)
    (h : ∀ s' r, Inv X pins σ H s' → RelV ((atN xs k).getD .non) r → Q r s') : wpAny (model X.prog X.w) A (call (.builtin "dict.get") [.ref d, .ref a]) Q E s := by
  obtain ⟨ns, _, ys, pr, dd⟩ := dkH I hd hk
  refine get_keyed hu (is_nk I ha) ns ⟨ys, dd, rfl⟩ (h _ _ (I.tok _) ?_)
  rw [valueAt_pairsH]
  rcases at_pair (k := k) pr with ⟨e1, e2⟩ | ⟨_, _, _, e1, e2, e3⟩
  · rw [e1, e2]; rfl
  · rw [e1, e2]; exact e3
end
end KdN


set_option Elab.async false
set_option linter.all false
set_option maxRecDepth 100000
set_option maxHeartbeats 4000000
/-! rules for such dicts -/
namespace KdN
open PySem PySem.Spec PyProof.Rows L2
theorem dkO_fresh {P : Program} {w : World} {H : Hp} (h : Heap) (hb : sysModules < h.objs.size) : ObjOk P w H (h.push { cls := .type "dict", data := .dict #[] }) h.objs.size (DkO P w h.objs.size []) :=
  dkO_new ⟨beq_eq_false_iff_ne.mpr (Ne.symm (Nat.ne_of_lt hb)), Nat.zero_le _, [], _, #[], 0, .nil, Heap.get?_push_size _ rfl, ⟨rfl, rfl, rfl⟩, rfl, rfl, List.nodup_nil⟩
/-- y not in d -/
def rNotInN (K : PySem.W.Frag) (P : Program) (w : World) : R2 := fun x y H Q => ∃ (d a : Addr) (xs : List En) (k : NestedKey), x = .ref a ∧ y = .ref d ∧ H d = some (DkO P w d xs) ∧ (∀ e ∈ xs, NkV K H e.1 e.2.1) ∧ NkV K H k a ∧ Q (.bl (!(atN xs k).isSome)) H
section
variable {X : Cx}
theorem in1_room {A : Around} (hu : A.units + 64 < cLine) : A.in1.units + 8 < cLine := by
  have e : A.in1.units ≤ A.units + 16 := by
    show A.units + _ ≤ A.units + 16
    omega
  omega
theorem op_notInN (K : PySem.W.Frag) (P : Program) (w : World) (hu : X.A.units + 64 < cLine) (e : X.K = K := by rfl) (e1 : X.prog = P := by rfl) (e2 : X.w = w := by rfl) : OpR X (compareOp .NotIn) (rNotInN K P w) := by
  subst e e1 e2
  intro pins s σ H x y v u Q I rx ry h
  obtain ⟨d, a, xs, k, rfl, rfl, hd, hk, ha, q⟩ := h
  cases rx
  cases ry
  exact notIn_is (in1_room hu) I hd hk ha fun s' I' => ⟨.bl _, H, I', rfl, q⟩
/-- d[y] = v, y being new -/
def rSetN (K : PySem.W.Frag) (P : Program) (w : World) : V → V → V → Hp → (Hp → Prop) → Prop := fun o i v H Q => ∃ (d a : Addr) (xs : List En) (k : NestedKey), o = .ref d ∧ i = .ref a ∧ H d = some (DkO P w d xs) ∧ (∀ e ∈ xs, NkV K H e.1 e.2.1) ∧ NkV K H k a ∧ atN xs k = none ∧ xs.length < 100000 ∧ Q (upd H d (DkO P w d (xs ++ [(k, a, v)])))
theorem set_N (K : PySem.W.Frag) (P : Program) (w : World) (hu : X.A.units + 64 < cLine) (e : X.K = K := by rfl) (e1 : X.prog = P := by rfl) (e2 : X.w = w := by rfl) : PSet X (rSetN K P w) := by
  subst e e1 e2
  intro pins s σ H o i v ov iv u Q I ro ri rv h
  obtain ⟨d, a, xs, k, rfl, rfl, hd, hk, ha, hn, few, q⟩ := h
  cases ro
  cases ri
  exact setItem_new (in1_room hu) I hd hk ha rv hn few fun s' I' => ⟨_, I', q⟩
theorem call_lenN (K : PySem.W.Frag) (P : Program) (w : World) (e : X.K = K := by rfl) (e1 : X.prog = P := by rfl) (e2 : X.w = w := by rfl) : CallR X (.builtin "len") (fun vs H Q => ∃ (d : Addr) (xs : List En), vs = [V.ref d] ∧ H d = some (DkO P w d xs) ∧ (∀ e ∈ xs, NkV K H e.1 e.2.1) ∧ Q (.int xs.length) H) := by
  subst e e1 e2
  intro pins s σ H vs us Q I r h
  obtain ⟨d, xs, rfl, hd, hk, q⟩ := h
  rw [Vals.ref1 r]
  obtain ⟨ns, few, ys, pr, dd⟩ := dkH I hd hk
  have hl := paired_len pr
  refine call_len_dictH ns dd (by omega) ?_
  rw [← hl]
  exact ⟨.int ((xs.length : Nat) : Int), H, I.tok _, ⟨_, rfl⟩, q⟩
/-- d.get(y) -/
def tGetN (K : PySem.W.Frag) (P : Program) (w : World) (td ty : TE) : TE := fun σ H Q => td σ H fun x H1 => ∃ d, x = .ref d ∧ (∃ xs, H1 d = some (DkO P w d xs)) ∧ ty σ H1 fun y H2 => ∃ (a : Addr) (xs : List En) (k : NestedKey), y = .ref a ∧ H2 d = some (DkO P w d xs) ∧ (∀ e ∈ xs, NkV K H2 e.1 e.2.1) ∧ NkV K H2 k a ∧ Q ((atN xs k).getD .non) H2
theorem pe_getN {o e : Expr} {apos cpos : Pos} {td ty : TE} (K : PySem.W.Frag) (P : Program) (w : World) (hu : X.A.units + 64 < cLine) (ho : PE X o td) (he : PE X e ty) (m : M1 X o "get" apos e cpos) (eK : X.K = K := by rfl) (e1 : X.prog = P := by rfl) (e2 : X.w = w := by rfl) : PE X (.Call (.Attribute o "get" apos) [e] [] cpos) (tGetN K P w td ty) := by
  subst eK e1 e2
  refine ⟨fun pins s σ H Q I h => ?_⟩
  refine wpAny_Call_method m.base m.few m.line PySem.F.plainAttrs_dict PySem.F.slot_dict_get PySem.F.type_dict_get (thn (ho.run pins s σ H _ I h) fun u s1 ⟨x, H1, I1, rx, d, ex, ⟨xs, hd⟩, q1⟩ => ?_)
  subst ex
  obtain rfl : u = Value.ref d := rx
  have R : Dk0 X.prog X.w s1.heap d xs := (I1.hok d _ hd).1
  obtain ⟨ys, ob, es, ep, pr, hob, hx, hdt, _⟩ := R.ex
  refine ⟨⟨ob, hob, hx.1⟩, fun b q => ?_, ?_⟩
  · cases q
    exact ⟨ob, hob, hx.2.1⟩
  · rw [m.trees]
    refine Calls.callWith_builtin rfl (Calls.evalArgs_plain (Calls.spliced_cons (thn (he.run pins s1 σ H1 _ I1 q1) fun iv s2 ⟨y, H2, I2, ry, a, xs', k, ey, hd2, hk, ha, q2⟩ => Calls.spliced_nil ?_)))
    subst ey
    cases ry
    exact get_is (in1_room hu) I2 hd2 hk ha fun s3 r I3 rr => ⟨_, H2, I3, rr, q2⟩
/-- {k: v} -/
theorem pe_dis1N {k v : Expr} {pos : Pos} {tk tv : TE} (K : PySem.W.Frag) (P : Program) (w : World) (hu : X.A.units + 64 < cLine) (hk : PE X k tk) (hv : PE X v tv) (eK : X.K = K := by rfl) (e1 : X.prog = P := by rfl) (e2 : X.w = w := by rfl) :
    PE X (.Dict [some k] [v] pos) (fun σ H Q => ∀ D, H D = none → tk σ (upd H D (DkO P w D [])) fun y H1 => tv σ H1 fun z H2 => ∃ (a : Addr) (n : NestedKey), y = .ref a ∧ H2 D = some (DkO P w D []) ∧ NkV K H2 n a ∧ Q (.ref D) (upd H2 D (DkO P w D [(n, a, z)]))) := by
  subst eK e1 e2
  refine ⟨fun pins s σ H Q I q => ?_⟩
  have hn := I.hok.fresh (Nat.le_refl s.heap.objs.size)
  have I1 := I.laid (a := s.heap.objs.size) (o := DkO X.prog X.w s.heap.objs.size []) (h' := s.heap.push { cls := .type "dict", data := .dict #[] }) (t' := s.toks) (fun _ _ q => Heap.get?_push_of_some _ q) (Nat.le_refl _) (dkO_fresh s.heap I.big)
  refine wpAny_Dict_any rfl rfl (by simp) (by show 1 ≤ 15; decide) (thn ((pps_cons hk hv pps_nil).run pins _ σ _ (fun ps H2 => match ps with
    | [(y, z)] => ∃ (a : Addr) (n : NestedKey), y = .ref a ∧ H2 s.heap.objs.size = some (DkO X.prog X.w s.heap.objs.size []) ∧ NkV X.K H2 n a ∧ Q (.ref s.heap.objs.size) (upd H2 s.heap.objs.size (DkO X.prog X.w s.heap.objs.size [(n, a, z)]))
    | _ => False) I1 (q _ hn)) fun ws s2 h2 => ?_)
  obtain ⟨ps, H2, I2, rel, q2⟩ := h2
  match ps, rel, q2 with
  | [(y, z)], .cons (b := wv) r rel, q2 =>
    cases rel
    obtain ⟨a, n, rfl, hd, ha, q2⟩ := q2
    obtain ⟨w1, w2⟩ := wv
    obtain ⟨r1, r2⟩ := r
    have r1 : RelV (V.ref a) w1 := r1
    cases r1
    unfold storeAll
    simp only [List.forIn_cons, List.forIn_nil, bind_assoc]
    refine wpAny_bind (dictSet_new (by omega) I2 hd (fun x h => absurd h List.not_mem_nil) ha r2 rfl (by decide) fun s3 I3 => ?_)
    exact wpAny_pure ⟨.ref _, _, I3, rfl, q2⟩
/-- {kx: vx for target in iter if ..}, each kx a tuple that is new; D the new dict -/
def tDcN (K : PySem.W.Frag) (P : Program) (w : World) (wi : TI) (g : TG) (tt : TT) (tk te : TE) (vs : List Nat) : TE := fun σ H Q => wi σ H fun J H1 => ∀ D, H1 D = none → ∃ W : Nat → Nat → Hp → Prop, (∃ m, W 0 m (upd H1 D (DkO P w D []))) ∧ ∀ i m H, W i m H →
  (J.stop i H ∧ Q (.ref D) H) ∨ (J.go i H ∧ ∃ Nx : Hp → Prop, (∀ H', Nx H' → ∃ m', m' < m ∧ W (i + 1) m' H') ∧ ∀ x H', J.yld i H x H' → g x (wipe σ vs) H' fun σ2 H2 => wipe σ2 vs = wipe σ vs ∧ tt σ2 H2 fun b H3 =>
    if b = true then tk σ2 H3 fun y H4 => te σ2 H4 fun z H5 => ∃ (c : Addr) (k : NestedKey) (xs : List En), y = .ref c ∧ H5 D = some (DkO P w D xs) ∧ (∀ e ∈ xs, NkV K H5 e.1 e.2.1) ∧ NkV K H5 k c ∧ atN xs k = none ∧ xs.length < 100000 ∧ Nx (upd H5 D (DkO P w D (xs ++ [(k, c, z)]))) else Nx H3)
variable {kx vx tg iter : Expr} {ifs : List Expr} {scope : Scope} {pos : Pos} {wi : TI} {g : TG} {tt : TT} {tk te : TE}
theorem pe_dcN {own : List (Str × Nat)} (hc : X.calm = true) (hN : X.N.Nodup) (hu : X.A.units + 64 < cLine) (hi : PI X tg iter wi) (ok : BlkOk X.N X.env.scope scope own)
    (hg : ∀ (s : Shared) (H : Hp) (C : Addr) (cl : List (Str × Addr)) (fp : List Addr), PG (X.blk s H scope (compEnvC scope cl C X.env) fp) tg g) (ht : ∀ (s : Shared) (H : Hp) (C : Addr) (cl : List (Str × Addr)) (fp : List Addr), PTs (X.blk s H scope (compEnvC scope cl C X.env) fp) ifs tt)
    (hk : ∀ (s : Shared) (H : Hp) (C : Addr) (cl : List (Str × Addr)) (fp : List Addr), PE (X.blk s H scope (compEnvC scope cl C X.env) fp) kx tk)
    (he : ∀ (s : Shared) (H : Hp) (C : Addr) (cl : List (Str × Addr)) (fp : List Addr), PE (X.blk s H scope (compEnvC scope cl C X.env) fp) vx te) (hs : ∀ x, foldedSetIterable iter X.env x = pure x := by intro _; rfl) :
    PE X (.DictComp kx vx [⟨tg, iter, ifs, 0⟩] scope pos) (tDcN X.K X.prog X.w wi g tt tk te (own.map (·.2))) := by
  refine ⟨fun pins s σ H Q I h => ?_⟩
  rw [arm_eval_DictComp]
  have hfree : ∀ y ∈ scope.names, y.2 = .free → ∃ c, X.env.cells.lookup y.1 = some c := fun y hy e => by
    rcases ok.free y hy e with k | k
    · exact I.ok.has _ (.inl k)
    · exact I.ok.has _ (.inr k)
  refine wpAny_comprehension_free (use := none) rfl hs (closure_ok hfree) ok.kind (fun y hy e => by rw [ok.uniq y hy, e])
    (thn (hi.run pins s σ H _ I h) fun xv s1 hx => thn hx fun itv s2 h2 => ?_)
  obtain ⟨it, fp, tn, J, H2, e, I2, T, st2, f2, q⟩ := h2
  subst e
  refine wpAny_newObj_type (newEnv_comp ?_)
  generalize hD : s2.heap.objs.size = D
  have hDn : H2 D = none := I2.hok.fresh (Nat.le_of_eq hD)
  obtain ⟨W, ⟨m0, w0⟩, turn⟩ := q D hDn
  generalize hs3 : ({ s2 with heap := s2.heap.push { cls := .type "dict", data := .dict #[] } } : Shared) = s3
  have h3 : s3.heap = s2.heap.push { cls := .type "dict", data := .dict #[] } := by rw [← hs3]
  have I3 : Inv X pins σ (upd H2 D (DkO X.prog X.w D [])) s3 := by
    have k : Inv X pins σ (upd H2 D (DkO X.prog X.w D [])) ({ s2 with heap := s2.heap.push { cls := .type "dict", data := .dict #[] } } : Shared) := by
      refine I2.laid (t' := s2.toks) (fun b o e => Heap.get?_push_of_some _ e) (Nat.le_of_eq hD) ?_
      rw [← hD]
      exact dkO_fresh s2.heap I2.big
    rw [hs3] at k
    exact k
  have sz : ∀ b ∈ fp, b < s2.heap.objs.size := fun b hb => by
    obtain ⟨o, e, _⟩ := T.obj _ _ st2 b hb
    exact Heap.lt_size e
  generalize hH3 : upd H2 D (DkO X.prog X.w D []) = H3 at I3 w0
  have f3 : ∀ b ∈ fp, FpOk X pins H3 b ∧ b < s3.heap.objs.size := fun b hb => by
    have hlt := sz b hb
    refine ⟨⟨?_, (f2 b hb).2⟩, by rw [h3, Heap.size_push]; exact Nat.lt_succ_of_lt hlt⟩
    rw [← hH3, upd_ne (by rw [← hD]; exact Nat.ne_of_lt hlt)]
    exact (f2 b hb).1
  have st3 : tn 0 s3.heap := T.keep _ _ _ st2 fun b _ o e => by rw [h3]; exact Heap.get?_push_of_some _ e
  have I4 := block_start I3 ok hN f3
  have pg := hg s3 H3 s3.heap.objs.size (cellsFrom (s3.heap.objs.size + 1) scope.names (cloFrom X.env.cells scope.names [])) fp
  have pt := ht s3 H3 s3.heap.objs.size (cellsFrom (s3.heap.objs.size + 1) scope.names (cloFrom X.env.cells scope.names [])) fp
  have pk := hk s3 H3 s3.heap.objs.size (cellsFrom (s3.heap.objs.size + 1) scope.names (cloFrom X.env.cells scope.names [])) fp
  have pe := he s3 H3 s3.heap.objs.size (cellsFrom (s3.heap.objs.size + 1) scope.names (cloFrom X.env.cells scope.names [])) fp
  show codeAny _ _ (.compStart (.DictComp kx vx [⟨tg, iter, ifs, 0⟩] scope pos) 0 (.ref it) (.ref D) (compEnvC scope (cellsFrom (s3.heap.objs.size + 1) scope.names (cloFrom X.env.cells scope.names [])) s3.heap.objs.size X.env)) (compPost (model X.prog X.w) X.A X.xe none (EP X pins σ Q) (.ref D) s3.heap.objs.size) { s3 with heap := pushCells (s3.heap.push { cls := .type "dict", data := .dict #[] }) scope.names }
  have nfp : ∀ b ∈ fp, H3 b = none := fun b hb => (f3 b hb).1.1
  generalize hce : compEnvC scope (cellsFrom (s3.heap.objs.size + 1) scope.names (cloFrom X.env.cells scope.names [])) s3.heap.objs.size X.env = ce at I4 pg pt pk pe ⊢
  have cL : ce.locals = s3.heap.objs.size := by subst hce; rfl
  generalize hs4 : ({ s3 with heap := pushCells (s3.heap.push { cls := .type "dict", data := .dict #[] }) scope.names } : Shared) = s4 at I4 ⊢
  have st4 : tn 0 s4.heap := T.keep _ _ _ st3 fun b _ o e => by rw [← hs4]; exact pushCells_keeps _ _ _ _ (Heap.get?_push_of_some _ e)
  have stat : ∀ {σ' : L2.St} {H' : Hp} {s' : Shared}, Inv (X.blk s3 H3 scope ce fp) [] σ' H' s' → (∀ b ∈ fp, H' b = none) → ∀ b ∈ fp, FpOk (X.blk s3 H3 scope ce fp) [] H' b := fun {σ' H' s'} I' hn b hb =>
    ⟨hn b hb, (I'.ok.exf b hb).1, I'.ok.exfs b hb, .inl hb, fun x c e => (I'.ok.exf b hb).2 x c e, fun p hp => absurd (show p ∈ ([] : List (Addr × Obj)) ++ [] from hp) (by simp)⟩
  have I4' : Inv (X.blk s3 H3 scope ce fp) [] (wipe σ (own.map (·.2))) H3 s4 := I4
  have loop : codeAny (model X.prog X.w) X.A (.compLoop (.DictComp kx vx [⟨tg, iter, ifs, 0⟩] scope pos) 0 (.ref it) (.ref D) ce) (compPost (model X.prog X.w) X.A X.xe none (EP X pins σ Q) (.ref D) s3.heap.objs.size) s4 := by
    refine compLoop_anyD (fun n s' => ∃ i H', Inv (X.blk s3 H3 scope ce fp) [] (wipe σ (own.map (·.2))) H' s' ∧ tn i s'.heap ∧ (∀ b ∈ fp, H' b = none) ∧ W i n H') ?_ m0 ⟨0, H3, I4', st4, nfp, w0⟩
    rintro n s5 ⟨i, H5, I5, st5, n5, w5⟩
    rcases turn i n H5 w5 with ⟨stop, qq⟩ | ⟨go, Nx, hNx, step⟩
    · have td := T.done (X.blk s3 H3 scope ce fp) rfl rfl rfl hc i [] s5 _ H5 (fun _ _ => False) I5 (stat I5 n5) st5 stop
      refine thnF td fun r s6 ⟨hr, I6⟩ => ?_
      subst hr
      have I7 : Inv X pins σ H5 s6 := I3.call' (ch := fp) I6.os I6.base I6.hok I6.bare fun b hb => ⟨(f3 b hb).1.2.2.2.1, (f3 b hb).1.2.1, (f3 b hb).1.2.2.2.2.1, (f3 b hb).1.2.2.2.2.2⟩
      have nC : H5 s3.heap.objs.size = none := by
        have z : H5 ce.locals = none := I6.free
        rw [cL] at z
        exact z
      obtain ⟨m, hn, _⟩ := I6.loc
      have hn : s6.heap.Ns ce.locals m := hn
      rw [cL] at hn
      refine ⟨m, hn, fun h'' sb => ?_⟩
      obtain ⟨f0, f1, f2, f3, f4, f5⟩ := I3.fpOk (Nat.le_refl _) nC
      exact ⟨.ref D, H5, I7.turned (t' := s6.toks) (fun b o hb e => (sb.2 b hb).trans e) f0 f1 f3 f4 f5, rfl, qq⟩
    · have ti := T.item (X.blk s3 H3 scope ce fp) rfl rfl rfl hc i [] s5 _ H5 (fun _ _ => False) I5 (stat I5 n5) st5 go
      refine thnF ti fun r s6 ⟨u, hr, h6⟩ => ?_
      subst hr
      refine thnF h6 fun _ s7 ⟨x, H7, I7, r7, y7, st7, n7⟩ => ?_
      have I7' := I7.pinned (stat I7 n7) (T.obj _ _ st7)
      refine thnF (pg.run _ s7 _ H7 x u _ I7' r7 (step x H7 y7)) fun _ s8 ⟨σ8, H8, I8, hw8, q8⟩ => ?_
      refine thnF (pt.run _ s8 σ8 H8 _ I8 q8) fun b s9 ⟨H9, I9, q9⟩ => ?_
      have fin1 : ∀ {s' : Shared} {H' : Hp}, Inv (X.blk s3 H3 scope ce fp) ([] ++ pinsAt fp s7.heap) σ8 H' s' → Nx H' → ∃ m, m < n ∧ ∃ i H', Inv (X.blk s3 H3 scope ce fp) [] (wipe σ (own.map (·.2))) H' s' ∧ tn i s'.heap ∧ (∀ b ∈ fp, H' b = none) ∧ W i m H' := fun {s' H'} I' nx => by
        obtain ⟨m', hm, w'⟩ := hNx H' nx
        have pin' : ∀ b ∈ fp, ∀ o, s7.heap.get? b = some o → s'.heap.get? b = some o ∧ H' b = none := fun b hb o e =>
          let z := I'.pin (b, o) (List.mem_append_right _ (List.mem_append_right _ (mem_pinsAt hb e)))
          ⟨z.1, z.2.1⟩
        have hl8 : (wipe σ (own.map (·.2))).length = σ8.length := by rw [← hw8, wipe_length]
        refine ⟨m', hm, i + 1, H', (I'.unpinned (pins := [])).weak hl8 (fun j v e => ?_), T.keep _ _ _ st7 fun b hb o e => (pin' b hb o e).1, fun b hb => ?_, w'⟩
        · rw [← hw8] at e
          exact (wipe_some e).1
        · obtain ⟨o, e, _⟩ := T.obj _ _ st7 b hb
          exact (pin' b hb o e).2
      cases b with
      | false =>
        simp only [Bool.false_eq_true, if_false] at q9 ⊢
        exact fin1 I9 q9
      | true =>
        simp only [if_true] at q9 ⊢
        refine thnF (pk.run _ s9 σ8 H9 _ I9 q9) fun z s10 ⟨yk, H10, I10, r10, q10⟩ => ?_
        refine thnF (pe.run _ s10 σ8 H10 _ I10 q10) fun z2 s11 ⟨yv, H11, I11, r11, c, k, xs, ek, hD11, hx, hc, hn, few, nx⟩ => ?_
        subst ek
        cases r10
        exact dictSet_new (X := X.blk s3 H3 scope ce fp) (Nat.lt_of_le_of_lt (by show X.A.units + _ ≤ X.A.units + 64; omega) hu) I11 hD11 hx hc r11 hn few fun s12 I12 => fin1 I12 nx
  exact codeAny_compStart_dict loop (T.self X.A 0 _ _ _ st4 loop)
end
end KdN


set_option Elab.async false
set_option linter.all false
set_option maxRecDepth 100000
set_option maxHeartbeats 4000000
/-! sorted of a list of tuples of ints, any number, any lengths but 0 -/
namespace SrtT
open PySem PySem.Spec PyProof.Rows SrtO Srt

section
variable {prog : Program} {w : World} {A : Around} {E : Value → Shared → Prop} {s : Shared}
theorem kat_lex {fin : Bool} {Q : Bool → Shared → Prop} : ∀ {vs us : List Value} {ns ms : List Int} (b : Bool) (i : Nat), IntsAre vs ns → IntsAre us ms → (vs.length < us.length) = (ns.length < ms.length) →
    (fin = decide (ns.length < ms.length)) → Q (HT.lexLt ns ms) s → PySem.W.KatLex prog w A b fin Q (vs.zip us) i s
  | _, _, _, _, b, i, .nil, hu, hl, hf, q => by
    rw [List.zip_nil_left]
    cases hu with
    | nil => exact PySem.W.kat_nil (by rw [hf]; exact q)
    | cons c t hu => exact PySem.W.kat_nil (by rw [hf]; exact q)
  | _, _, _, _, b, i, .cons a t hv, .nil, hl, hf, q => by
    rw [List.zip_nil_right]
    exact PySem.W.kat_nil (by rw [hf]; exact q)
  | _, _, _, _, b, i, .cons (ns := ns) a t hv, .cons (ns := ms) c u hu, hl, hf, q => by
    rw [List.zip_cons_cons]
    rw [HT.lexLt_cons] at q
    refine PySem.W.kat_cons (SeqAt.EqAt.int_int a t c u prog w _ _ ?_)
    refine PySem.W.kat_go (fun e1 => ?_) (fun e1 => ?_)
    · have ex : a = c := by simpa using e1
      rw [if_pos ex] at q
      refine PySem.W.kat_yes (kat_lex b (i + 1) hv hu ?_ ?_ q)
      · rw [hv.length, hu.length]
      · rw [hf]
        simp
    · have ex : ¬ a = c := by simpa using e1
      rw [if_neg ex] at q
      cases hb : (b && i == 0) with
      | true => exact PySem.W.kat_no (by rw [hb]; exact oneLt_int q)
      | false => exact PySem.W.kat_no (by rw [hb]; exact PySem.W.kat_one _ _ (PyProof.Rows.lt_int q))
/-- v is a tuple of these ints -/
def IsTup (h : Heap) (v : Value) (ns : List Int) : Prop := ∃ (a : Addr) (o : Obj) (its : Array Value) (n : Nat), v = .ref a ∧ h.get? a = some o ∧ o.cls = .type "tuple" ∧ o.data = .seq its n ∧ IntsAre its.toList ns
theorem IsTup.keeps {h h' : Heap} {v : Value} {ns : List Int} (x : IsTup h v ns) (k : ∀ b o, h.get? b = some o → o.cls = .type "tuple" → h'.get? b = some o) : IsTup h' v ns := by
  obtain ⟨a, o, its, n, e, ho, hc, hd, hi⟩ := x
  exact ⟨a, o, its, n, e, k a o ho hc, hc, hd, hi⟩
theorem tup_cmp {vs : List Value} {k : Value → List Int} (hp : ∀ v ∈ vs, IsTup s.heap v (k v)) : Cmp prog w A s (tuples' true) (fun p => p.1 ∈ vs) (lt2 fun v u => HT.lexLt (k v) (k u)) := by
  intro p q hm hm'
  obtain ⟨a, o, its, n, e, ho, hc, hd, hi⟩ := hp _ hm
  obtain ⟨a', o', its', n', e', ho', hc', hd', hi'⟩ := hp _ hm'
  show wpAny (model prog w) A (keyLt' (tuples' true) p.1 q.1) (fun r s' => s' = s ∧ r = HT.lexLt (k p.1) (k q.1)) (fun _ _ => False) s
  generalize k p.1 = ns at hi ⊢
  generalize k q.1 = ms at hi' ⊢
  rw [e, e']
  refine PySem.W.kat_lt ho hd ho' hd' ?_
  have l1 := hi.length
  have l2 := hi'.length
  rw [Array.length_toList] at l1 l2
  exact kat_lex true 0 hi hi' (by rw [hi.length, hi'.length]) (by rw [l1, l2]) ⟨rfl, rfl⟩
theorem firsts_tup {h : Heap} : ∀ {vs : List Value}, (∀ v ∈ vs, ∃ ns, IsTup h v ns ∧ 1 ≤ ns.length) → ∃ fs : List Value, PySem.W.KatTups h vs fs ∧ fs.length = vs.length ∧ ∀ f ∈ fs, ∃ x t, f = Value.int x t
  | [], _ => ⟨[], .nil, rfl, fun f hf => absurd hf (by simp)⟩
  | v :: vs, hp => by
    obtain ⟨ns, ⟨a, o, its, n, e, ho, hc, hd, hi⟩, h1⟩ := hp v List.mem_cons_self
    obtain ⟨fs, h3, h4, h5⟩ := firsts_tup fun u hu => hp u (List.mem_cons_of_mem _ hu)
    obtain ⟨its⟩ := its
    have hi : IntsAre its ns := hi
    cases hi with
    | nil => exact absurd h1 (by simp)
    | @cons c t its ns hi =>
      subst e
      refine ⟨.int c t :: fs, .cons ho hc hd rfl h3, by simp [h4], fun f hf => ?_⟩
      rcases List.mem_cons.mp hf with e | hf
      · exact ⟨_, _, e⟩
      · exact h5 f hf
theorem tups_sortableO {a : Addr} {vs : List Value} {k : Value → List Int} (h0 : 0 < vs.length) (hp : ∀ v ∈ vs, IsTup s.heap v (k v) ∧ 1 ≤ (k v).length) (ha : ∀ o, s.heap.get? a = some o → o.cls ≠ .type "tuple") : SortableO prog w A s a vs fun v u => HT.lexLt (k v) (k u) := by
  intro h' keep
  have hp' : ∀ v ∈ vs, IsTup h' v (k v) := fun v hm => (hp v hm).1.keeps fun b o e c => keep b o (fun z => by subst z; exact ha o e c) e
  obtain ⟨fs, h1, h2, h3⟩ := firsts_tup fun v hm => ⟨_, hp' v hm, (hp v hm).2⟩
  refine ⟨tuples' true, fun Q E hq => ?_, tup_cmp hp'⟩
  refine PySem.W.kat_kind (T := .type "int") h1 (by omega) (fun f hm => ?_) (by rfl) ?_
  · obtain ⟨x, t, rfl⟩ := h3 f hm
    exact PySem.W.Looks.now
  · have e : (Value.type "int" != Value.type "tuple") = true := by first | decide +kernel | rfl | decide
    rw [e]
    exact hq
theorem sorted_tupsO {l : Addr} {vs : List Value} {k : Value → List Int} {Q : Value → Shared → Prop} (hl : s.heap.IsList l vs.toArray) (hz : vs.length ≤ sizeLine) (hp : ∀ v ∈ vs, IsTup s.heap v (k v) ∧ 1 ≤ (k v).length)
    (h : ∀ (h' : Heap) (d : Addr) (out : List Value), Srtd (fun v u => HT.lexLt (k v) (k u)) out → Stb (fun v u => HT.lexLt (k v) (k u)) out vs → (∀ b o, s.heap.get? b = some o → h'.get? b = some o) → s.heap.objs.size ≤ d → (∃ n, h'.get? d = some (seqObj "list" out.toArray n)) → Q (.ref d) { s with heap := h' }) :
    wpAny (model prog w) A (call (.builtin "sorted") [.ref l]) Q E s := by
  refine sorted_ord (NtL.swo_lexL k) hl hz (fun h2 h₁ a ha kk => ?_) fun out hs hb => ?_
  · refine tups_sortableO (s := { s with heap := h₁ }) (by omega) (fun v hm => ⟨(hp v hm).1.keeps fun b o e _ => (kk b o e).2, (hp v hm).2⟩) fun o e => ?_
    have e' : some o = some (seqObj "list" vs.toArray 0) := e.symm.trans ha
    cases e'
    intro c
    exact absurd (Value.type.inj c) (by decide)
  · exact h _ _ out hs hb (fun b o e => sortedAll_old e) (Nat.le_succ _) (sortedAll_at s.heap vs out.toArray)
end
end SrtT
namespace L2
open PySem PySem.Spec PyProof.Rows
/-- sorted(xs), xs a list of tuples of ints (k says which, none empty), of any length: a new list of the same, ascending -/
def rSortTO (K : PySem.W.Frag) : List V → Hp → VK → Prop := fun vs H Q => ∃ (a : Addr) (xs : List V) (k : V → List Int), vs = [V.ref a] ∧ SqL K H a xs ∧ (∀ x ∈ xs, ∃ t, x = V.ref t ∧ SqT K H t ((k x).map V.int) ∧ 1 ≤ (k x).length) ∧
  ∀ ys p, SrtO.Srtd (fun x y => HT.lexLt (k x) (k y)) ys → SrtO.Stb (fun x y => HT.lexLt (k x) (k y)) ys xs → H p = none → Q (.ref p) (upd H p (.lst ys))
section
variable {X : Cx}
theorem cr_sortedTO (K : PySem.W.Frag) (eK : X.K = K := by rfl) : CallR X (.builtin "sorted") (rSortTO K) := by
  subst eK
  intro pins s σ H vs us Q I r h
  obtain ⟨a, xs, k, rfl, hs, hx, q⟩ := h
  obtain ⟨its, rv, hl, hz⟩ := I.list hs
  obtain ⟨u, rfl, ru⟩ := vals1 r
  obtain rfl : u = Value.ref a := ru
  obtain ⟨e1, e2⟩ := refs_back rv fun x m => by
    obtain ⟨t, e, _⟩ := hx x m
    exact ⟨t, e⟩
  refine SrtT.sorted_tupsO (k := fun u => k (backV u)) hl.isList (by rw [← rv.length]; exact hz) (fun v hv => ?_) fun h' d out h1 h2 kp hd hn => ?_
  · obtain ⟨t, rfl⟩ := e2 v hv
    have hm : V.ref t ∈ xs := by rw [e1]; exact List.mem_map.mpr ⟨_, hv, rfl⟩
    obtain ⟨t', e, ht, h1⟩ := hx _ hm
    cases e
    refine ⟨?_, h1⟩
    obtain ⟨its2, r2, p2, _⟩ := I.tuple ht
    obtain ⟨o, ho, hc, n, hd⟩ := p2
    have r3 : IntsAre its2 (k (V.ref t)) := by simpa using r2.ints
    exact ⟨t, o, _, n, rfl, ho, hc, hd, r3⟩
  · have h3 : ∀ u ∈ out, ∃ a, u = Value.ref a := fun u hu => e2 u (h2.perm.mem_iff.mp hu)
    obtain ⟨n, hn⟩ := hn
    have hb : SrtO.Stb (fun x y => HT.lexLt (k x) (k y)) (out.map backV) xs := by
      rw [e1]
      exact SrtO.Stb.map (NtL.swo_lexL k) backV h2
    refine ⟨.ref d, upd H d (.lst (out.map backV)), I.laid (t' := s.toks) kp hd ⟨?_, out, n, vals_back h3, hn⟩, rfl, q _ d (SrtO.srtd_map h1) hb (I.hok.fresh hd)⟩
    rw [hb.len]
    exact hz
end
end L2


set_option Elab.async false
set_option linter.all false
set_option maxRecDepth 100000
set_option maxHeartbeats 2000000
/-! sorted of pairs of two tuples of ints, all of one length -/
namespace SrtT
open PySem PySem.Spec PyProof.Rows SrtO Srt K0
theorem lex_app2 (xs ys : List Int) : ∀ ns ms : List Int, ns.length = ms.length → HT.lexLt (ns ++ xs) (ms ++ ys) = if ns = ms then HT.lexLt xs ys else HT.lexLt ns ms
  | [], [], _ => by simp
  | [], _ :: _, h => by cases h
  | _ :: _, [], h => by cases h
  | n :: ns, k :: ms, h => by
    have ih := lex_app2 xs ys ns ms (by simpa using h)
    rw [List.cons_append, List.cons_append, HT.lexLt_cons, ih]
    by_cases e : n = k
    · subst e
      rw [if_pos rfl]
      by_cases h2 : ns = ms
      · rw [if_pos h2, if_pos (by rw [h2])]
      · rw [if_neg h2, if_neg (fun z => h2 (List.cons.inj z).2), HT.lexLt_cons, if_pos rfl]
    · rw [if_neg e, if_neg (fun z => e (List.cons.inj z).1), HT.lexLt_cons, if_neg e]
theorem lex_irr : ∀ ns : List Int, HT.lexLt ns ns = false
  | [] => rfl
  | n :: ns => by rw [HT.lexLt_cons, if_pos rfl]; exact lex_irr ns
theorem ints_at {vs : List Value} {ns : List Int} (h : IntsAre vs ns) : ∀ (j : Nat) (hj : j < vs.length), ∃ t, vs[j] = .int (ns.getD j 0) t := by
  induction h with
  | nil => exact fun j hj => absurd hj (Nat.not_lt_zero _)
  | cons a t hv ih =>
    intro j hj
    cases j with
    | zero => exact ⟨t, rfl⟩
    | succ j => exact ih j (Nat.lt_of_succ_lt_succ hj)
theorem all_eq_ints (ns ms : List Int) : ((List.range (min ns.length ms.length)).all (fun j => ns.getD j 0 == ms.getD j 0) && ns.length == ms.length) = decide (ns = ms) := by
  rw [Bool.eq_iff_iff, Bool.and_eq_true, List.all_eq_true, decide_eq_true_eq, beq_iff_eq]
  constructor
  · rintro ⟨h1, h2⟩
    refine List.ext_getElem h2 fun i a b => ?_
    have := h1 i (List.mem_range.mpr (by omega))
    rw [beq_iff_eq, List.getD_eq_getElem?_getD, List.getD_eq_getElem?_getD, List.getElem?_eq_getElem a, List.getElem?_eq_getElem b] at this
    exact this
  · rintro rfl
    exact ⟨fun j _ => beq_self_eq_true _, rfl⟩
theorem ints_eq {vs : List Value} {ns ms : List Int} (h : IntsAre vs ns) (h' : IntsAre vs ms) : ns = ms := by
  induction h generalizing ms with
  | nil => cases h'; rfl
  | cons a t hv ih => cases h' with
    | cons _ _ hv' => rw [ih hv']
section
variable {prog : Program} {w : World} {A : Around} {E : Value → Shared → Prop} {s : Shared}
theorem eqAt_tup {v u : Value} {ns ms : List Int} (hu : A.units < cLine) (hv : IsTup s.heap v ns) (hw : IsTup s.heap u ms) : SeqAt.EqAt A s v u (decide (ns = ms)) := by
  obtain ⟨a, o, its, n, rfl, ho, hc, hd, hi⟩ := hv
  obtain ⟨b, o', its', n', rfl, ho', hc', hd', hi'⟩ := hw
  by_cases e : a = b
  · subst e
    rw [ho] at ho'
    cases ho'
    rw [hd] at hd'
    cases hd'
    rw [ints_eq hi hi', decide_eq_true rfl]
    exact SeqAt.EqAt.same _
  · have l1 := hi.length
    have l2 := hi'.length
    rw [Array.length_toList] at l1 l2
    have key := SeqAt.RcAt.tuples (A := A) (s := s) (e := fun j => ns.getD j 0 == ms.getD j 0) ⟨o, ho, hc, n, hd⟩ ⟨o', ho', hc', n', hd'⟩ hu (fun j h1 h2 => by
      obtain ⟨t, e1⟩ := ints_at hi j (by rw [Array.length_toList]; exact h1)
      obtain ⟨t', e2⟩ := ints_at hi' j (by rw [Array.length_toList]; exact h2)
      rw [Array.getElem_toList] at e1 e2
      rw [e1, e2]
      exact SeqAt.EqAt.int_int _ _ _ _)
    rw [l1, l2, all_eq_ints] at key
    exact SeqAt.EqAt.of_refs e key
/-- v is a pair of tuples of these ints -/
def IsPp (h : Heap) (v : Value) (q : List Int × List Int) : Prop := ∃ (a b c : Addr) (o : Obj) (its : Array Value) (n : Nat), v = .ref a ∧ h.get? a = some o ∧ o.cls = .type "tuple" ∧ o.data = .seq its n ∧ its.toList = [.ref b, .ref c] ∧ IsTup h (.ref b) q.1 ∧ IsTup h (.ref c) q.2
theorem IsPp.keeps {h h' : Heap} {v : Value} {q : List Int × List Int} (x : IsPp h v q) (k : ∀ b o, h.get? b = some o → o.cls = .type "tuple" → h'.get? b = some o) : IsPp h' v q := by
  obtain ⟨a, b, c, o, its, n, e, ho, hc, hd, hi, hb, hb2⟩ := x
  exact ⟨a, b, c, o, its, n, e, k a o ho hc, hc, hd, hi, hb.keeps k, hb2.keeps k⟩
/-- how such pairs are ordered -/
def keyQ (q : List Int × List Int) : List Int := q.1 ++ q.2
theorem pp_cmp {vs : List Value} {k : Value → List Int × List Int} {m : Nat} (hu : A.units < cLine) (hp : ∀ v ∈ vs, IsPp s.heap v (k v) ∧ (k v).1.length = m ∧ (k v).2.length = m) : Cmp prog w A s (tuples' false) (fun p => p.1 ∈ vs) (lt2 fun v u => HT.lexLt (keyQ (k v)) (keyQ (k u))) := by
  intro p q hm hm'
  obtain ⟨⟨a, b, c, o, its, n, e, ho, hc, hd, hi, hb, hb2⟩, hl, hl2⟩ := hp _ hm
  obtain ⟨⟨a', b', c', o', its', n', e', ho', hc', hd', hi', hb', hb2'⟩, hl', hl2'⟩ := hp _ hm'
  show wpAny (model prog w) A (keyLt' (tuples' false) p.1 q.1) (fun r s' => s' = s ∧ r = HT.lexLt (keyQ (k p.1)) (keyQ (k q.1))) (fun _ _ => False) s
  generalize k p.1 = x at hi hb hl hl2 hb2 ⊢
  generalize k q.1 = y at hi' hb' hl' hl2' hb2' ⊢
  obtain ⟨ns, is⟩ := x
  obtain ⟨ms, js⟩ := y
  have hl : ns.length = m := hl
  have hl' : ms.length = m := hl'
  have hlex : HT.lexLt (keyQ (ns, is)) (keyQ (ms, js)) = if ns = ms then HT.lexLt is js else HT.lexLt ns ms := lex_app2 is js ns ms (hl.trans hl'.symm)
  rw [e, e', hlex]
  have l1 : its.size = 2 := by rw [← Array.length_toList, hi]; rfl
  have l2 : its'.size = 2 := by rw [← Array.length_toList, hi']; rfl
  refine PySem.W.kat_lt ho hd ho' hd' ?_
  rw [hi, hi', l1, l2]
  refine PySem.W.kat_cons (eqAt_tup hu hb hb' prog w _ _ ?_)
  refine PySem.W.kat_go (fun e1 => ?_) (fun e1 => ?_)
  · have ex : ns = ms := of_decide_eq_true e1
    rw [if_pos ex]
    refine PySem.W.kat_yes (PySem.W.kat_cons (eqAt_tup hu hb2 hb2' prog w _ _ ?_))
    refine PySem.W.kat_go (fun e2 => ?_) (fun e2 => ?_)
    · have ej : is = js := of_decide_eq_true e2
      refine PySem.W.kat_yes (PySem.W.kat_nil ⟨rfl, ?_⟩)
      rw [ej, lex_irr]
      rfl
    · obtain ⟨d, o3, it3, n3, ec, ho3, hc3, hd3, hi3⟩ := hb2
      obtain ⟨d', o4, it4, n4, ec', ho4, hc4, hd4, hi4⟩ := hb2'
      cases ec
      cases ec'
      exact PySem.W.kat_no (PySem.W.kat_one _ _ (HT.lt_tupInts ⟨o3, ho3, hc3, n3, hd3⟩ ⟨o4, ho4, hc4, n4, hd4⟩ hi3 hi4 hu ⟨rfl, rfl⟩))
  · have ex : ¬ ns = ms := of_decide_eq_false e1
    rw [if_neg ex]
    obtain ⟨d, o3, it3, n3, ec, ho3, hc3, hd3, hi3⟩ := hb
    obtain ⟨d', o4, it4, n4, ec', ho4, hc4, hd4, hi4⟩ := hb'
    cases ec
    cases ec'
    exact PySem.W.kat_no (PySem.W.kat_one _ _ (HT.lt_tupInts ⟨o3, ho3, hc3, n3, hd3⟩ ⟨o4, ho4, hc4, n4, hd4⟩ hi3 hi4 hu ⟨rfl, rfl⟩))
theorem firsts_pp {h : Heap} {k : Value → List Int × List Int} : ∀ {vs : List Value}, (∀ v ∈ vs, IsPp h v (k v)) → ∃ fs : List Value, PySem.W.KatTups h vs fs ∧ fs.length = vs.length ∧ ∀ f ∈ fs, ∃ ns, IsTup h f ns
  | [], _ => ⟨[], .nil, rfl, fun f hf => absurd hf (by simp)⟩
  | v :: vs, hp => by
    obtain ⟨a, b, c, o, its, n, e, ho, hc, hd, hi, hb, _⟩ := hp v List.mem_cons_self
    obtain ⟨fs, h3, h4, h5⟩ := firsts_pp fun u hu => hp u (List.mem_cons_of_mem _ hu)
    obtain ⟨its⟩ := its
    have hi : its = [.ref b, .ref c] := hi
    subst hi
    subst e
    refine ⟨.ref b :: fs, .cons ho hc hd rfl h3, by simp [h4], fun f hf => ?_⟩
    rcases List.mem_cons.mp hf with e | hf
    · rw [e]; exact ⟨_, hb⟩
    · exact h5 f hf
theorem pps_sortable {a : Addr} {vs : List Value} {k : Value → List Int × List Int} {m : Nat} (hu : A.units < cLine) (h0 : 0 < vs.length) (hp : ∀ v ∈ vs, IsPp s.heap v (k v) ∧ (k v).1.length = m ∧ (k v).2.length = m) (ha : ∀ o, s.heap.get? a = some o → o.cls ≠ .type "tuple") : SortableO prog w A s a vs fun v u => HT.lexLt (keyQ (k v)) (keyQ (k u)) := by
  intro h' keep
  have hp' : ∀ v ∈ vs, IsPp h' v (k v) ∧ (k v).1.length = m ∧ (k v).2.length = m := fun v hm => ⟨(hp v hm).1.keeps fun b o e c => keep b o (fun z => by subst z; exact ha o e c) e, (hp v hm).2⟩
  obtain ⟨fs, h1, h2, h3⟩ := firsts_pp fun v hm => (hp' v hm).1
  refine ⟨tuples' false, fun Q E hq => ?_, pp_cmp hu hp'⟩
  refine PySem.W.kat_kind (T := .type "tuple") h1 (by omega) (fun f hm => ?_) (by rfl) ?_
  · obtain ⟨ns, c, o, its, n, e, ho, hc, hd, hi⟩ := h3 f hm
    subst e
    exact hc ▸ (PySem.W.Looks.ld ho).andThen .now
  · have e : (Value.type "tuple" != Value.type "tuple") = false := by first | decide +kernel | rfl | decide
    rw [e]
    exact hq
theorem sorted_pps {l : Addr} {vs : List Value} {k : Value → List Int × List Int} {m : Nat} {Q : Value → Shared → Prop} (hu : A.in1.in1.units < cLine) (hl : s.heap.IsList l vs.toArray) (hz : vs.length ≤ sizeLine) (hp : ∀ v ∈ vs, IsPp s.heap v (k v) ∧ (k v).1.length = m ∧ (k v).2.length = m)
    (h : ∀ (h' : Heap) (d : Addr) (out : List Value), Srtd (fun v u => HT.lexLt (keyQ (k v)) (keyQ (k u))) out → Stb (fun v u => HT.lexLt (keyQ (k v)) (keyQ (k u))) out vs → (∀ b o, s.heap.get? b = some o → h'.get? b = some o) → s.heap.objs.size ≤ d → (∃ n, h'.get? d = some (seqObj "list" out.toArray n)) → Q (.ref d) { s with heap := h' }) :
    wpAny (model prog w) A (call (.builtin "sorted") [.ref l]) Q E s := by
  refine sorted_ord (NtL.swo_lexL fun v => keyQ (k v)) hl hz (fun h2 h₁ a ha kk => ?_) fun out hs hb => ?_
  · refine pps_sortable (m := m) (s := { s with heap := h₁ }) hu (by omega) (fun v hm => ⟨(hp v hm).1.keeps fun b o e _ => (kk b o e).2, (hp v hm).2⟩) fun o e => ?_
    have e' : some o = some (seqObj "list" vs.toArray 0) := e.symm.trans ha
    cases e'
    intro c
    exact absurd (Value.type.inj c) (by decide)
  · exact h _ _ out hs hb (fun b o e => sortedAll_old e) (Nat.le_succ _) (sortedAll_at s.heap vs out.toArray)
end
end SrtT


set_option Elab.async false
set_option linter.all false
set_option maxRecDepth 100000
set_option maxHeartbeats 4000000
/-! sorted of a list, of a dict, of pairs of tuples of ints: as rules -/
namespace SrtT
open PySem PySem.Spec PyProof.Rows SrtO Srt
section
variable {prog : Program} {w : World} {A : Around} {E : Value → Shared → Prop} {s : Shared}
/-- sorted of a dict, whatever orders its keys -/
theorem sorted_dictG {d : Addr} {o : Obj} {es : Array DictEntry} {ep : Nat} {ltv : Value → Value → Bool} {Q : Value → Shared → Prop} (O : Swo ltv) (hh : A.handled = none) (lo : (d == sysModules) = false) (ho : s.heap.get? d = some o) (hx : o.ExactDict) (hd : o.data = .dict es ep) (hz : es.size ≤ sizeLine)
    (hS : 2 ≤ es.size → ∀ (h1 : Heap) (tk : Nat) (a : Addr), (∀ b o, s.heap.get? b = some o → h1.get? b = some o) → h1.get? a = some (seqObj "list" (es.toList.map (·.key)).toArray 0) → SortableO prog w A.in1.in1 { s with heap := h1, toks := tk } a (es.toList.map (·.key)) ltv)
    (h : ∀ (h1 : Heap) (tk : Nat) (h2 : Heap) (a : Addr) (out : List Value), (∀ b o, s.heap.get? b = some o → h1.get? b = some o) → Srtd ltv out → Stb ltv out (es.toList.map (·.key)) →
      (∀ b o, h1.get? b = some o → h2.get? b = some o) → h1.objs.size ≤ a → (∃ n, h2.get? a = some (seqObj "list" out.toArray n)) → Q (.ref a) { s with heap := h2, toks := tk }) :
    wpAny (model prog w) A (call (.builtin "sorted") [.ref d]) Q E s := by
  refine Calls.call_function_entry kind_sorted plain_sorted entry_sorted (args_sorted1 _) ?_
  unfold Builtin.«sorted»
  refine wpAny_bind (m := checkCount "sorted" 1 1 _) (wpAny_pure ?_)
  refine wpAny_bind (PySem.W.kdu_collect (A := A.in1) (L2.kdl_raw lo hx hd) hh ho hz fun h' tk acc hk hacc => ?_)
  have hal : acc.toList = es.toList.map (·.key) := by
    apply List.ext_getElem?
    intro j
    rw [List.getElem?_map]
    have hl : acc.toList.length = es.toList.length := by rw [Array.length_toList, Array.length_toList]; exact hacc.1
    cases hj : acc.toList[j]? with
    | none =>
      have h1 := List.getElem?_eq_none_iff.mp hj
      rw [List.getElem?_eq_none (by omega)]
      rfl
    | some v =>
      obtain ⟨en, hen, hv⟩ := hacc.2 j v (by rw [← Array.getElem?_toList]; exact hj)
      rw [Array.getElem?_toList, hen, hv]
      rfl
  have hl2 : acc.toList.length = es.size := by rw [hal, List.length_map, Array.length_toList]
  have hz2 : acc.toList.length ≤ sizeLine := by rw [hl2]; exact hz
  rw [← hal] at h hS
  refine wpAny_bind (wpAny_newList ?_ hz2)
  have hoL : (h'.push (seqObj "list" acc.toList.toArray 0)).get? h'.objs.size = some (seqObj "list" acc.toList.toArray 0) := Heap.get?_push_size _ rfl
  show wpAny _ _ _ _ _ { s with heap := h'.push (seqObj "list" acc.toList.toArray 0), toks := tk }
  refine wpAny_bind (wpAny_holding (wpAny_call_entry slot_list_sort ⟨_, hoL, rfl⟩ entry_list_sort (SrtO.list_sort_ord (s := { s with heap := h'.push (seqObj "list" acc.toList.toArray 0), toks := tk }) O hoL hz2 (fun h2 => ?_) fun out hs hb => ⟨_, rfl, ?_⟩) (args_list_sort _)))
  · exact hS (by omega) _ tk _ (fun b o e => Heap.get?_push_of_some _ (hk b o e)) hoL
  · obtain ⟨e', he'⟩ := sortedHeap_at (vs := acc.toList) (out := out.toArray) hoL
    refine wpAny_pure ⟨_, rfl, h h' tk _ h'.objs.size out hk hs hb (fun b u e => ?_) (Nat.le_refl _) ⟨e', he'⟩⟩
    have hb : b < h'.objs.size := Heap.lt_size e
    rw [sortedHeap_old (Nat.ne_of_lt hb) (by rw [size_push']; exact Nat.lt_succ_of_lt hb)]
    exact Heap.get?_push_of_some _ e
end
end SrtT


set_option Elab.async false
set_option linter.all false
set_option maxRecDepth 100000
set_option maxHeartbeats 4000000
namespace K0
open PySem PySem.Spec PyProof.Rows L2 RZ K0z

theorem nw {H : Hp} {p : Addr} {o : HO} (h : H p = none) : Same H (upd H p o) ∧ upd H p o p = some o := ⟨same_upd h, upd_same⟩
/-! ### lists that stand for lists -/
def Rep {α : Type} (R : Hp → V → α → Prop) (H : Hp) (xs : List V) (as : List α) : Prop := xs.length = as.length ∧ ∀ (i : Nat) (x : V) (a : α), xs[i]? = some x → as[i]? = some a → R H x a
section
variable {α : Type} {R : Hp → V → α → Prop} {H H' : Hp} {xs ys : List V} {as bs : List α}
theorem Rep.nil : Rep R H [] ([] : List α) := ⟨rfl, fun i x a h => by cases h⟩
theorem Rep.app (h1 : Rep R H xs as) (h2 : Rep R H ys bs) : Rep R H (xs ++ ys) (as ++ bs) := by
  refine ⟨by rw [List.length_append, List.length_append, h1.1, h2.1], fun i x a hx ha => ?_⟩
  by_cases h : i < xs.length
  · rw [List.getElem?_append_left h] at hx
    rw [List.getElem?_append_left (by rw [← h1.1]; exact h)] at ha
    exact h1.2 i x a hx ha
  · rw [List.getElem?_append_right (by omega)] at hx
    rw [List.getElem?_append_right (by rw [← h1.1]; omega), ← h1.1] at ha
    exact h2.2 _ x a hx ha
theorem Rep.mono (hR : ∀ x a, R H x a → R H' x a) (h : Rep R H xs as) : Rep R H' xs as := ⟨h.1, fun i x a hx ha => hR _ _ (h.2 i x a hx ha)⟩
theorem Rep.one {x : V} {a : α} (h : R H x a) : Rep R H [x] [a] := ⟨rfl, fun i y b hy hb => by
  cases i with
  | zero => cases hy; cases hb; exact h
  | succ i => cases hy⟩
theorem Rep.cons {x : V} {a : α} (h : R H x a) (t : Rep R H xs as) : Rep R H (x :: xs) (a :: as) := by
  have := (Rep.one h).app t
  exact this
theorem Rep.at {i : Nat} {a : α} (h : Rep R H xs as) (ha : as[i]? = some a) : ∃ x, xs[i]? = some x ∧ R H x a := by
  obtain ⟨hi, e⟩ := List.getElem?_eq_some_iff.mp ha
  have hx : i < xs.length := by rw [h.1]; exact hi
  exact ⟨xs[i], List.getElem?_eq_getElem hx, h.2 i _ a (List.getElem?_eq_getElem hx) ha⟩
theorem Rep.at' {i : Nat} {x : V} (h : Rep R H xs as) (hx : xs[i]? = some x) : ∃ a, as[i]? = some a ∧ R H x a := by
  obtain ⟨hi, e⟩ := List.getElem?_eq_some_iff.mp hx
  have ha : i < as.length := by rw [← h.1]; exact hi
  exact ⟨as[i], List.getElem?_eq_getElem ha, h.2 i x _ hx (List.getElem?_eq_getElem ha)⟩
end
end K0


set_option Elab.async false
set_option linter.all false
set_option maxRecDepth 100000
set_option maxHeartbeats 4000000
/-! sorted of pairs of tuples of ints, told by rows -/
namespace K0
open PySem PySem.Spec PyProof.Rows L2 RZ K0z KdN
/-- x is a pair of these two tuples of ints -/
def Rp (K : PySem.W.Frag) (H : Hp) (x : V) (q : List Int × List Int) : Prop := ∃ t p r, x = .ref t ∧ SqT K H t [.ref p, .ref r] ∧ SqT K H p (q.1.map V.int) ∧ SqT K H r (q.2.map V.int)
theorem Rp.same {K : PySem.W.Frag} {H H' : Hp} {x : V} {q : List Int × List Int} (s : Same H H') (h : Rp K H x q) : Rp K H' x q := by
  obtain ⟨t, p, r, e, h1, h2, h3⟩ := h
  exact ⟨t, p, r, e, same_sqT s h1, same_sqT s h2, same_sqT s h3⟩
theorem ints_inj2 {a b : List Int} (h : a.map V.int = b.map V.int) : a = b := (List.map_inj_right (fun x y e => V.int.inj e)).mp h
def ltQ (x y : List Int × List Int) : Bool := HT.lexLt (SrtT.keyQ x) (SrtT.keyQ y)
section
variable {X : Cx} {pins : List (Addr × Obj)} {σ : L2.St} {H : Hp} {s : Shared}
theorem Rp.inj (I : Inv X pins σ H s) {x : V} {a b : List Int × List Int} (h : Rp X.K H x a) (h' : Rp X.K H x b) : a = b := by
  obtain ⟨t, p, r, e, h1, h2, h3⟩ := h
  obtain ⟨t', p', r', e', h1', h2', h3'⟩ := h'
  rw [e] at e'
  cases e'
  have e3 := I.tuple_inj h1 h1'
  have e4 : p = p' := by injection e3 with e3 _; exact V.ref.inj e3
  have e5 : r = r' := by injection e3 with _ e3; injection e3 with e3 _; exact V.ref.inj e3
  subst e4 e5
  exact Prod.ext (ints_inj2 (I.tuple_inj h2 h2')) (ints_inj2 (I.tuple_inj h3 h3'))
/-- which pair stands at x -/
theorem rows_fn (I : Inv X pins σ H s) {xs : List V} {ks : List (List Int × List Int)} (hx : Rep (Rp X.K) H xs ks) : ∃ k : V → List Int × List Int, xs.map k = ks ∧ ∀ x ∈ xs, Rp X.K H x (k x) ∧ k x ∈ ks := by
  refine ⟨fun x => (((xs.zip ks).find? fun q => decide (q.1 = x)).map (·.2)).getD ([], []), ?_⟩
  have hk : ∀ (i : Nat) x n, xs[i]? = some x → ks[i]? = some n → (((xs.zip ks).find? fun q => decide (q.1 = x)).map (·.2)).getD ([], []) = n := fun i x n e1 e2 => by
    have hm : (x, n) ∈ xs.zip ks := List.mem_of_getElem? (i := i) (by rw [List.getElem?_zip_eq_some]; exact ⟨e1, e2⟩)
    cases hf : (xs.zip ks).find? fun q => decide (q.1 = x) with
    | none =>
      have := List.find?_eq_none.mp hf _ hm
      simp at this
    | some q =>
      have h2 := List.find?_some hf
      have h2 : q.1 = x := by simpa using h2
      obtain ⟨j, hj⟩ := List.mem_iff_getElem?.mp (List.mem_of_find?_eq_some hf)
      obtain ⟨y, z⟩ := q
      have h2 : y = x := h2
      subst h2
      rw [List.getElem?_zip_eq_some] at hj
      exact (hx.2 j _ _ hj.1 hj.2).inj I (hx.2 i _ _ e1 e2)
  refine ⟨?_, fun x hm => ?_⟩
  · refine List.ext_getElem? fun i => ?_
    rw [List.getElem?_map]
    cases hi : xs[i]? with
    | none =>
      have := List.getElem?_eq_none_iff.mp hi
      rw [hx.1] at this
      exact (List.getElem?_eq_none this).symm
    | some x =>
      obtain ⟨n, hn, _⟩ := hx.at' hi
      rw [Option.map_some, hk i x n hi hn, hn]
  · obtain ⟨i, hi⟩ := List.mem_iff_getElem?.mp hm
    obtain ⟨n, hn, hr⟩ := hx.at' hi
    have e := hk i x n hi hn
    dsimp only
    rw [e]
    exact ⟨hr, List.mem_of_getElem? hn⟩
/-- .. in the heap -/
theorem rp_is (I : Inv X pins σ H s) {t : Addr} {q : List Int × List Int} (h : Rp X.K H (.ref t) q) : SrtT.IsPp s.heap (.ref t) q := by
  obtain ⟨t', p, r, e, h1, h2, h3⟩ := h
  cases e
  obtain ⟨its, rv, ⟨o, ho, hc, n, hd⟩, _⟩ := I.tuple h1
  obtain ⟨its2, r2, ⟨o2, ho2, hc2, n2, hd2⟩, _⟩ := I.tuple h2
  obtain ⟨its3, r3, ⟨o3, ho3, hc3, n3, hd3⟩, _⟩ := I.tuple h3
  have i2 : IntsAre its2 q.1 := by simpa using r2.ints
  have i3 : IntsAre its3 q.2 := by simpa using r3.ints
  match its, rv with
  | [w1, w2], .cons q1 (.cons q2 .nil) =>
    cases q1
    cases q2
    exact ⟨t, p, r, o, _, n, rfl, ho, hc, hd, rfl, ⟨p, o2, _, n2, rfl, ho2, hc2, hd2, i2⟩, r, o3, _, n3, rfl, ho3, hc3, hd3, i3⟩
end
/-- sorted(xs), xs a list of pairs of tuples of m ints -/
def rSortPp (K : PySem.W.Frag) : List V → Hp → VK → Prop := fun vs H Q => ∃ (a : Addr) (xs : List V) (ks : List (List Int × List Int)) (m : Nat), vs = [.ref a] ∧ SqL K H a xs ∧ Rep (Rp K) H xs ks ∧ (∀ k ∈ ks, k.1.length = m ∧ k.2.length = m) ∧
  ∀ ys js p, Rep (Rp K) H ys js → js.Perm ks → SrtO.Srtd ltQ js → H p = none → Q (.ref p) (upd H p (.lst ys))
theorem cr_sortPp {X : Cx} (K : PySem.W.Frag) (hu : X.A.units + 64 < cLine) (eK : X.K = K := by rfl) : CallR X (.builtin "sorted") (rSortPp K) := by
  subst eK
  intro pins s σ H vs us Q I r h
  obtain ⟨a, xs, ks, m, rfl, hs, hx, h1, q⟩ := h
  obtain ⟨k, hk, hall⟩ := rows_fn I hx
  obtain ⟨its, rv, hl, hz⟩ := I.list hs
  obtain ⟨u, rfl, ru⟩ := vals1 r
  obtain rfl : u = Value.ref a := ru
  obtain ⟨e1, e2⟩ := refs_back rv fun x m => by
    obtain ⟨⟨t, p, r, e, _⟩, _⟩ := hall x m
    exact ⟨t, e⟩
  refine SrtT.sorted_pps (m := m) (k := fun u => k (backV u)) (by show X.A.units + 1 + 1 < cLine; omega) hl.isList (by rw [← rv.length]; exact hz) (fun v hv => ?_) fun h' d out h1 h2 kp hd hn => ?_
  · obtain ⟨t, rfl⟩ := e2 v hv
    have hm : V.ref t ∈ xs := by rw [e1]; exact List.mem_map.mpr ⟨_, hv, rfl⟩
    obtain ⟨g1, g2⟩ := hall _ hm
    exact ⟨rp_is I g1, h1 _ g2⟩
  · have h3 : ∀ u ∈ out, ∃ a, u = Value.ref a := fun u hu => e2 u (h2.perm.mem_iff.mp hu)
    obtain ⟨n, hn⟩ := hn
    have hb : SrtO.Stb (fun x y => ltQ (k x) (k y)) (out.map backV) xs := by
      rw [e1]
      exact SrtO.Stb.map (NtL.swo_lexL fun x => SrtT.keyQ (k x)) backV h2
    refine ⟨.ref d, upd H d (.lst (out.map backV)), I.laid (t' := s.toks) kp hd ⟨?_, out, n, vals_back h3, hn⟩, rfl, q _ ((out.map backV).map k) d ⟨(List.length_map _).symm, fun i y n hy hn => ?_⟩ ?_ (SrtO.srtd_map (SrtO.srtd_map h1)) (I.hok.fresh hd)⟩
    · rw [hb.len]
      exact hz
    · rw [List.getElem?_map, hy] at hn
      have en : k y = n := Option.some.inj hn
      rw [← en]
      exact (hall y (hb.perm.mem_iff.mp (List.mem_of_getElem? hy))).1
    · rw [← hk]
      exact hb.perm.map k
/-- sorted(d), d a dict whose keys are pairs of tuples of m ints -/
def rSortDPp (K : PySem.W.Frag) (P : Program) (w : World) : List V → Hp → VK → Prop := fun vs H Q => ∃ (d : Addr) (es : List En) (ks : List (List Int × List Int)) (m : Nat), vs = [.ref d] ∧ H d = some (DkO P w d es) ∧ (∀ e ∈ es, NkV K H e.1 e.2.1) ∧ es.map (·.1) = ks.map (fun q => KdN.keyP q.1 q.2) ∧ (∀ k ∈ ks, k.1.length = m ∧ k.2.length = m) ∧
  ∀ ys js p, Rep (Rp K) H ys js → (∀ (i : Nat) y n, ys[i]? = some y → js[i]? = some n → ∃ e ∈ es, y = .ref e.2.1 ∧ e.1 = KdN.keyP n.1 n.2) → js.Perm ks → SrtO.Srtd ltQ js → H p = none → Q (.ref p) (upd H p (.lst ys))
theorem nk_rp {K : PySem.W.Frag} {H : Hp} {a : Addr} {q : List Int × List Int} (h : NkV K H (KdN.keyP q.1 q.2) a) : Rp K H (.ref a) q := by
  generalize e : KdN.keyP q.1 q.2 = k at h
  cases h with
  | ofI h =>
    rename_i ns
    unfold KdN.keyP KdN.keyI at e
    have e := NestedKey.tup.inj e
    cases ns with
    | nil => cases e
    | cons n ns => rw [List.map_cons] at e; cases (List.cons.inj e).1
  | ofP h h1 h2 =>
    rename_i p r ms ns
    obtain ⟨e1, e2⟩ := KdN.keyP_inj e
    rw [← e1] at h1
    rw [← e2] at h2
    exact ⟨a, p, r, rfl, h, h1, h2⟩
theorem en_rows {K : PySem.W.Frag} {H : Hp} {es : List En} {ks : List (List Int × List Int)} (hk : ∀ e ∈ es, NkV K H e.1 e.2.1) (he : es.map (·.1) = ks.map (fun q => KdN.keyP q.1 q.2)) : Rep (Rp K) H (es.map fun e => V.ref e.2.1) ks := by
  have hl : es.length = ks.length := by have := congrArg List.length he; rwa [List.length_map, List.length_map] at this
  refine ⟨by rw [List.length_map]; exact hl, fun i x q hx hq => ?_⟩
  rw [List.getElem?_map] at hx
  obtain ⟨e, hi, rfl⟩ := Option.map_eq_some_iff.mp hx
  have h2 : (es.map (·.1))[i]? = some (KdN.keyP q.1 q.2) := by rw [he, List.getElem?_map, hq]; rfl
  rw [List.getElem?_map, hi] at h2
  have h2 : e.1 = KdN.keyP q.1 q.2 := Option.some.inj h2
  have := hk e (List.mem_of_getElem? hi)
  rw [h2] at this
  exact nk_rp this
theorem cr_sortDPp {X : Cx} (K : PySem.W.Frag) (P : Program) (w : World) (hc : X.calm = true) (hu : X.A.units + 64 < cLine) (eK : X.K = K := by rfl) (e1 : X.prog = P := by rfl) (e2 : X.w = w := by rfl) : CallR X (.builtin "sorted") (rSortDPp K P w) := by
  subst eK e1 e2
  intro pins s σ H vs us Q I r h
  obtain ⟨d, es, ks, m, rfl, hd, hk, hks, h1, q⟩ := h
  obtain ⟨k, hkk, hall⟩ := rows_fn I (en_rows hk hks)
  obtain ⟨u, rfl, ru⟩ := vals1 r
  obtain rfl : u = Value.ref d := ru
  have R : Dk0 X.prog X.w s.heap d es := (I.hok d _ hd).1
  obtain ⟨rs, o, des, ep, pr, ho, hx, hdt, he, nd⟩ := R.ex
  have lr := paired_len pr
  have ls : des.size = rs.length := by rw [← Array.length_toList, he, List.length_map]
  have keys : des.toList.map (·.key) = es.map fun e => Value.ref e.2.1 := by
    rw [he, List.map_map]
    have : ∀ {es : List En} {rs}, Paired RelE es rs → rs.map ((fun x : DictEntry => x.key) ∘ entryOfKey (nestedKind X.prog X.w)) = es.map fun e => Value.ref e.2.1 := fun {es rs} p => by
      induction p with
      | nil => rfl
      | cons h p ih => rw [List.map_cons, List.map_cons, ih, h.2.1]; rfl
    exact this pr
  have few := R.few
  have hv : ∀ v ∈ des.toList.map (·.key), ∃ t, v = Value.ref t ∧ V.ref t ∈ es.map fun e => V.ref e.2.1 := fun v hv => by
    rw [keys] at hv
    obtain ⟨e, he, rfl⟩ := List.mem_map.mp hv
    exact ⟨e.2.1, rfl, List.mem_map.mpr ⟨e, he, rfl⟩⟩
  have eb : (des.toList.map (·.key)).map backV = es.map fun e => V.ref e.2.1 := by
    rw [keys, List.map_map]
    rfl
  refine SrtT.sorted_dictG (ltv := fun v u => HT.lexLt (SrtT.keyQ (k (backV v))) (SrtT.keyQ (k (backV u)))) (NtL.swo_lexL fun v => SrtT.keyQ (k (backV v))) (I.ok.hd hc) R.ns ho hx hdt (by rw [ls, ← lr, sizeLine_eq]; omega) (fun h2 h1' tk a hkeep ha => ?_) fun h' tk hp2 a out hkeep hs hb hk2 hsz hn2 => ?_
  · refine SrtT.pps_sortable (m := m) (s := { s with heap := h1', toks := tk }) (k := fun u => k (backV u)) (by show X.A.units + 1 + 1 < cLine; omega) (by rw [List.length_map, Array.length_toList]; omega) (fun v hm => ?_) fun o e => ?_
    · obtain ⟨t, rfl, ht⟩ := hv v hm
      obtain ⟨g1, g2⟩ := hall _ ht
      exact ⟨(rp_is I g1).keeps fun b o e _ => hkeep b o e, h1 _ g2⟩
    · have e' : some o = some (seqObj "list" (des.toList.map (·.key)).toArray 0) := e.symm.trans ha
      cases e'
      intro c
      exact absurd (Value.type.inj c) (by decide)
  · have h3 : ∀ u ∈ out, ∃ t, u = Value.ref t := fun u hu => by
      obtain ⟨t, e, _⟩ := hv u (hb.perm.mem_iff.mp hu)
      exact ⟨t, e⟩
    obtain ⟨n, hn2⟩ := hn2
    have I1 : Inv X pins σ H { s with heap := h', toks := tk } := I.kept hkeep
    have pm : (out.map backV).Perm (es.map fun e => V.ref e.2.1) := by rw [← eb]; exact hb.perm.map backV
    refine ⟨.ref a, upd H a (.lst (out.map backV)), I1.laid (t' := tk) hk2 hsz ⟨?_, out, n, vals_back h3, hn2⟩, rfl, q _ ((out.map backV).map k) a ⟨(List.length_map _).symm, fun i y n hy hn => ?_⟩ (fun i y n hy hn => ?_) ?_ (SrtO.srtd_map (SrtO.srtd_map hs)) (I1.hok.fresh hsz)⟩
    · rw [pm.length_eq, List.length_map, sizeLine_eq]
      omega
    · rw [List.getElem?_map, hy] at hn
      have en : k y = n := Option.some.inj hn
      rw [← en]
      exact (hall y (pm.mem_iff.mp (List.mem_of_getElem? hy))).1
    · rw [List.getElem?_map, hy] at hn
      have en : k y = n := Option.some.inj hn
      have hm := pm.mem_iff.mp (List.mem_of_getElem? hy)
      obtain ⟨e, he, rfl⟩ := List.mem_map.mp hm
      have hke : e.1 ∈ ks.map (fun q => KdN.keyP q.1 q.2) := by rw [← hks]; exact List.mem_map.mpr ⟨e, he, rfl⟩
      obtain ⟨q', _, e2⟩ := List.mem_map.mp hke
      have r1 := hk e he
      rw [← e2] at r1
      have := (nk_rp r1).inj I (hall _ hm).1
      rw [en] at this
      subst this
      exact ⟨e, he, rfl, e2.symm⟩
    · rw [← hkk]
      exact pm.map k
end K0


set_option Elab.async false
set_option linter.all false
set_option maxRecDepth 100000
set_option maxHeartbeats 4000000
set_option exponentiation.threshold 100000
namespace K0
open PySem PySem.Spec PyProof.Rows L2 RZ K0z
/-! ### any value as rows -/
/-- v: no list or tuple; or one of items, each of which is none, or one of these items -/
def ValAt (K : PySem.W.Frag) (H : Hp) (v : V) : Option (List (Option (List V))) → Prop
  | none => Seqs K H v none
  | some os => ∃ vs : List V, Seqs K H v (some vs) ∧ vs.length = os.length ∧ ∀ (i : Nat) (u : V) (o : Option (List V)), vs[i]? = some u → os[i]? = some o → Seqs K H u o ∧ Items K H o
theorem ValAt.same {K : PySem.W.Frag} {H H' : Hp} {v : V} {o : Option (List (Option (List V)))} (s : Same H H') (h : ValAt K H v o) : ValAt K H' v o := by
  cases o with
  | none =>
    have h' : Seqs K H v none := h
    exact Seqs.same s h'
  | some os =>
    obtain ⟨vs, h1, h2, h3⟩ := h
    exact ⟨vs, h1.same s, h2, fun i u o a b => ⟨(h3 i u o a b).1.same s, (h3 i u o a b).2.same s⟩⟩
theorem Seqs.sqB {K : PySem.W.Frag} {H : Hp} {v : V} {xs : List V} (h : Seqs K H v (some xs)) : ∃ b a, v = .ref a ∧ SqB K b H a xs ∧ xs.length < sizeLine := by
  obtain ⟨_, hz, a, e, h2⟩ := h
  obtain ⟨b, q⟩ := SqB.or h2
  exact ⟨b, a, e, q, hz⟩
def ptsB (os : List (Option (List V))) (l m : V) : Bool := match os with
  | [] => false
  | o :: r => lenB o l m && (o :: r).all fun q => lenB q (.int (o.getD []).length) (.int (o.getD []).length) && intsB q
def spPts (K : PySem.W.Frag) : Sp := fun vs H Q _ => ∃ (v : V) (l m : Int) (os : List (Option (List V))), vs = [v, .int l, .int m] ∧ ValAt K H v (some os) ∧ os ≠ [] ∧ ∀ H', Same H H' → Q (.bl (ptsB os (.int l) (.int m))) H'
section
variable {P : Program} {w : World} {K : PySem.W.Frag} {mg : Str → Option Value} {base : Heap} {f g g2 g3 C : Addr} {fd : FuncData}
theorem ValAt.get {K : PySem.W.Frag} {H : Hp} {vs : List V} {os : List (Option (List V))} (l : vs.length = os.length) (z : ∀ (i : Nat) (u : V) (o : Option (List V)), vs[i]? = some u → os[i]? = some o → Seqs K H u o ∧ Items K H o) {i : Nat} (hi : i < os.length) :
    ∃ u, vs[i]? = some u ∧ os[i]? = some os[i] ∧ Seqs K H u os[i] ∧ Items K H os[i] := by
  have h1 : vs[i]? = some (vs[i]'(by omega)) := List.getElem?_eq_getElem (by omega)
  have h2 : os[i]? = some os[i] := List.getElem?_eq_getElem hi
  exact ⟨_, h1, h2, z i _ _ h1 h2⟩
theorem sc_are_points : FnScope ["value", "least_wide", "most_wide", "point"] ["value", "least_wide", "most_wide"] (defScope st_are_points) := ⟨rfl, rfl, rfl, by decide +kernel, rfl, by decide +kernel, by decide +kernel⟩
theorem ok_are_points (F : Fun K "are_points" "are_points" st_are_points f fd) (T : Nm mg) (D_is_list : Dn P w K mg base 3 "is_list" g ["value", "least", "most"] (spIsList K)) (D_is_point : Dn P w K mg base 5 "is_point" g2 ["value", "wide"] (spIsPoint K)) :
    FnOk P w K mg base CX0 6 f fd ["value", "least_wide", "most_wide"] (spPts K) := by
  refine F.ok sc_are_points (fun vs H Q E h => ?_) (fun cdv A outer s H vs Q E hr h => ?_)
  · obtain ⟨v, l, m, os, rfl, _⟩ := h
    rfl
  · obtain ⟨v, l, m, os, rfl, hv, hne, k⟩ := h
    refine ⟨_, (pss_cons (ps_if (pt_not (pt_val (pe_dn D_is_list (hr.mono (by decide)) rfl (pa_cons (pe_ix (ix_K K) (pv 0) pe_int (fun _ _ => rfl)) (pa_cons (pv 1) (pa_cons (pv 2) pa_nil)))))) (pss_one (ps_ret pe_bl)) pss_nil)
    (pss_one (ps_ret (pe_callB (cr_all rfl) (by rfl) T.n_all (by decide +kernel) (pa_cons (pe_lc (own := [("point", 3)]) (g := gName 3) (tt := tYes) rfl sc_are_points.nd (pi_seqK K (pv 0)) (blkOk_by (N := ["value", "least_wide", "most_wide", "point"]) (sc := defScope st_are_points) (by decide +kernel)) (fun _ _ _ _ _ => (pg_name (i := 3) sc_are_points.nd rfl (Or.inl rfl))) (fun _ _ _ _ _ => pts_nil) (fun _ _ _ _ _ => (pe_dn D_is_point (hr.mono (by decide)) rfl (pa_cons (pv 3) (pa_cons (pe_callB (call_lenK K) (by rfl) T.n_len (by decide +kernel) (pa_cons (pe_ix (ix_K K) (pv 0) pe_int (fun _ _ => rfl)) pa_nil)) pa_nil))))) pa_nil))))), ?_⟩
    obtain ⟨vs, hS, hl, hz⟩ := id hv
    obtain ⟨b, a, rfl, hB, hz2⟩ := hS.sqB
    cases os with
    | nil => exact absurd rfl hne
    | cons o r =>
      obtain ⟨u0, e0, _, hs0, hi0⟩ := ValAt.get hl hz (i := 0) (by simp)
      have at0 : atI vs 0 = some u0 := atI_nat (j := 0) e0
      refine ⟨_, rfl, b, a, vs, 0, u0, rfl, rfl, hB, at0, _, rfl, _, rfl, u0, .int l, .int m, o, rfl, hs0, .inr ⟨l, rfl⟩, .inr ⟨m, rfl⟩, fun H1 s1 => ⟨_, rfl, ?_⟩⟩
      cases c : lenB o (.int l) (.int m) with
      | false =>
        refine iteT ?_
        have q := k H1 s1
        have e : ptsB (o :: r) (.int l) (.int m) = (lenB o (.int l) (.int m) && (o :: r).all fun q => lenB q (.int (o.getD []).length) (.int (o.getD []).length) && intsB q) := rfl
        rw [e, c] at q
        exact q
      | true =>
        refine iteF ?_
        cases o with
        | none => cases c
        | some ys =>
          have hs0' : Seqs K H u0 (some ys) := hs0
          obtain ⟨b0, a0, eu, hB0, _⟩ := hs0'.sqB
          subst eu
          refine ⟨_, rfl, b, a, rfl, ⟨_, hB.same s1⟩, fun D hD => lc_fun (fun i => V.bl (lenB (((some ys) :: r).getD i none) (.int (ys.length : Nat)) (.int (ys.length : Nat)) && intsB (((some ys) :: r).getD i none))) walk_seq hD hz2 (fun H2 s2 => hB.same (s1.trans s2)) ?_ ?_⟩
          · rintro i x H2 H3 hi s2 _ ⟨rfl, hx⟩ Rk kk
            have hi2 : i < ((some ys) :: r).length := by omega
            obtain ⟨u, e1, e2, hs, hit⟩ := ValAt.get hl hz hi2
            rw [e1] at hx
            cases hx
            have s12 := s1.trans s2
            refine ⟨rfl, _, rfl, _, rfl, b, a, vs, 0, _, rfl, rfl, hB.same s12, at0, b0, a0, ys, rfl, hB0.same s12, _, (ys.length : Nat), _, rfl, hs.same s12, hit.same s12, fun H4 s4 => ?_⟩
            have e := kk H4 s4
            rw [getD_of hi2] at e
            exact e
          · intro H2 hD2 s2
            refine ⟨D, (List.range vs.length).map (fun i => lenB (((some ys) :: r).getD i none) (.int (ys.length : Nat)) (.int (ys.length : Nat)) && intsB (((some ys) :: r).getD i none)), rfl, .of ?_, ?_⟩
            · rw [hD2, List.map_map]
              rfl
            · have q := k H2 (s1.trans s2)
              have e : ptsB (some ys :: r) (.int l) (.int m) = (lenB (some ys) (.int l) (.int m) && (some ys :: r).all fun q => lenB q (.int (ys.length : Nat)) (.int (ys.length : Nat)) && intsB q) := rfl
              rw [e, c, Bool.true_and] at q
              rw [hl, range_map_getD ((some ys) :: r) none (fun q => lenB q (.int (ys.length : Nat)) (.int (ys.length : Nat)) && intsB q), List.all_map]
              exact q
end
end K0


set_option Elab.async false
set_option linter.all false
set_option maxRecDepth 100000
set_option maxHeartbeats 4000000
/-! the call of a likeness's method; points as rows; walks of the new comprehensions -/
namespace K0
open PySem PySem.Spec PyProof.Rows L2 RZ K0z
def tLk (K : PySem.W.Frag) (C : Addr) (sp : Sp) (E : XK) (ta : TE) (t : L2.TA) : TE := fun σ H Q => ta σ H fun x H1 => (∃ a ps ss, x = .ref a ∧ LikAt K H1 a C ps ss) ∧ t σ H1 fun vs H2 => sp (x :: vs) H2 Q E
section
variable {X : Cx} {CX : CXT} {k : Nat} {f C p g : Addr} {mc : Value} {fd : FuncData} {ps ks : List Str} {sp : Sp} {E : XK} {x m : Str} {pos apos : Pos} {e o : Expr} {es : List Expr} {kws : List Keyword} {ta : TE} {t tk : L2.TA} {pl : Sem Bool} {gg : List Value → List Value → List Value}
theorem likAt_ins {K : PySem.W.Frag} {H : Hp} {a C : Addr} {ps ss : List Int} (h : LikAt K H a C ps ss) (n1 : m ≠ ("places" : Str)) (n2 : m ≠ ("signs" : Str)) (n3 : m ≠ ("wide" : Str)) : ∃ dx fs, H a = some (.ins C dx fs) ∧ fs.lookup m = none := by
  obtain ⟨_, dx, _, _, fs, ha, _, _, _, _, _, h⟩ := h
  exact ⟨dx, fs, ha, h m n1 n2 n3⟩
theorem pe_lkM (he : PE X o ta) (c : Cls X.K C) (hm : Meth X.K C m f) (F : FnOk X.prog X.w X.K X.mg X.base CX k f fd ps sp) (hr : Room k X.A) (hb : Binds X.K fd ps []) (hx : Passes CX X E) (ha : PA X (e :: es) t)
    (n1 : m ≠ ("places" : Str)) (n2 : m ≠ ("signs" : Str)) (n3 : m ≠ ("wide" : Str))
    (hst : starEach (e :: es) X.env = (false, eval e X.env) :: starEach es X.env) (hpl : (backTo pos (starEach es X.env)).any (·.1) = false)
    (ht : eval (.Call (.Attribute o m apos) (e :: es) [] pos) X.env = (do
      let ov ← eval o X.env
      standAt apos.atName
      let (f, first) ← holding [ov] (getMethod ov m pl)
      callWith pos f first (backTo pos (starEach (e :: es) X.env)) (backToKw pos (keywordEach [] X.env)))) :
    PE X (.Call (.Attribute o m apos) (e :: es) [] pos) (tLk X.K C sp E ta t) := by
  refine ⟨fun pins s σ H Q I h => ?_⟩
  refine PySem.W.methodCall_KW (pl := pl) (thn (he.run pins s σ H _ I h) fun u s1 ⟨x, H1, I1, rx, ⟨a, qs, ss, ex, hL⟩, q⟩ => ?_) ht
  subst ex
  obtain rfl : u = Value.ref a := rx
  obtain ⟨dx, fs, ea, l⟩ := likAt_ins hL n1 n2 n3
  refine getmeth_ok I1 ea c hm l ?_
  refine PySem.W.callWith_K (first := [.ref a]) (h₀ := X.base) I.ok.mod.kin hm.kp (thn (ha.run pos pins s1 σ H1 _ I1 q) fun us s2 ⟨vs, H2, I2, r, q2⟩ => ⟨I2.kIn, ?_⟩) hst hpl
  have := run_fn (us := .ref a :: us) (vs := .ref a :: vs) (dvs := []) (ds := []) F hr hb .nil hx I2 (.cons rfl r) (by simpa using q2)
  simpa using this
end
structure LedX (P : Program) (w : World) (K : PySem.W.Frag) (mg : Str → Option Value) (base : Heap) (C CP : Addr) : Prop where
  led : ∃ f fd, Meth K C "led" f ∧ FnOk P w K mg base (L2.CX P w) 6 f fd ["self", "point"] (spLed K CP C) ∧ Binds K fd ["self", "point"] []
theorem pe_led {X : Cx} {C CP : Addr} {o e : Expr} {es : List Expr} {apos pos : Pos} {ta : TE} {t : L2.TA} {pl : Sem Bool} (D : LedX X.prog X.w X.K X.mg X.base C CP) (c : Cls X.K C) (hr : Room 6 X.A) (he : PE X o ta) (ha : PA X (e :: es) t)
    (hst : starEach (e :: es) X.env = (false, eval e X.env) :: starEach es X.env := by rfl) (hpl : (backTo pos (starEach es X.env)).any (·.1) = false := by rfl)
    (ht : eval (.Call (.Attribute o "led" apos) (e :: es) [] pos) X.env = (do
      let ov ← eval o X.env
      standAt apos.atName
      let (f, first) ← holding [ov] (getMethod ov "led" pl)
      callWith pos f first (backTo pos (starEach (e :: es) X.env)) (backToKw pos (keywordEach [] X.env))) := by rfl) :
    PE X (.Call (.Attribute o "led" apos) (e :: es) [] pos) (tLk X.K C (spLed X.K CP C) E0 ta t) := by
  obtain ⟨f, fd, M, F, B⟩ := D.led
  exact pe_lkM he c M F hr B passL ha (by decide) (by decide) (by decide) hst hpl ht
theorem pe_ledK {X : Cx} {C CP : Addr} (P : Program) (w : World) (K : PySem.W.Frag) (mg : Str → Option Value) (base : Heap) {o e : Expr} {es : List Expr} {apos pos : Pos} {ta : TE} {t : L2.TA} {pl : Sem Bool} (D : LedX P w K mg base C CP) (c : Cls K C) (hr : Room 6 X.A) (he : PE X o ta) (ha : PA X (e :: es) t)
    (hst : starEach (e :: es) X.env = (false, eval e X.env) :: starEach es X.env := by rfl) (hpl : (backTo pos (starEach es X.env)).any (·.1) = false := by rfl)
    (ht : eval (.Call (.Attribute o "led" apos) (e :: es) [] pos) X.env = (do
      let ov ← eval o X.env
      standAt apos.atName
      let (f, first) ← holding [ov] (getMethod ov "led" pl)
      callWith pos f first (backTo pos (starEach (e :: es) X.env)) (backToKw pos (keywordEach [] X.env))) := by rfl)
    (e1 : X.prog = P := by rfl) (e2 : X.w = w := by rfl) (e3 : X.K = K := by rfl) (e4 : X.mg = mg := by rfl) (e5 : X.base = base := by rfl) :
    PE X (.Call (.Attribute o "led" apos) (e :: es) [] pos) (tLk K C (spLed K CP C) E0 ta t) := by
  subst e1 e2 e3 e4 e5
  exact pe_led D c hr he ha hst hpl ht
end K0
namespace KdN
open PySem PySem.Spec PyProof.Rows L2
section
variable {J : L2.It} {n : Nat} {G : Hp → Prop} {Y : Nat → Hp → V → Hp → Prop} {K : PySem.W.Frag} {P : Program} {w0 : World} {D : Addr} {tk te : TE} {g : TG} {tt : TT} {vs : List Nat} {σ : L2.St} {H1 : Hp} {Qd : Hp → Prop}
/-- a dict comprehension over anything that is walked -/
theorem dcN_it (w : Walk J n G Y) (Pv : Nat → Hp → Prop) (h0 : Pv 0 (upd H1 D (DkO P w0 D []))) (hG : ∀ i H, i ≤ n → Pv i H → G H)
    (hs : ∀ i x H H', i < n → Pv i H → Y i H x H' → g x (wipe σ vs) H' fun σ2 H2 => wipe σ2 vs = wipe σ vs ∧ tt σ2 H2 fun b H3 =>
      if b = true then tk σ2 H3 fun y H4 => te σ2 H4 fun z H5 => ∃ (c : Addr) (k : NestedKey) (xs : List En), y = .ref c ∧ H5 D = some (DkO P w0 D xs) ∧ (∀ e ∈ xs, NkV K H5 e.1 e.2.1) ∧ NkV K H5 k c ∧ atN xs k = none ∧ xs.length < 100000 ∧ Pv (i + 1) (upd H5 D (DkO P w0 D (xs ++ [(k, c, z)]))) else Pv (i + 1) H3)
    (hd : ∀ H, Pv n H → Qd H) :
    ∃ W : Nat → Nat → Hp → Prop, (∃ m, W 0 m (upd H1 D (DkO P w0 D []))) ∧ ∀ i m H, W i m H →
      (J.stop i H ∧ Qd H) ∨ (J.go i H ∧ ∃ Nx : Hp → Prop, (∀ H', Nx H' → ∃ m', m' < m ∧ W (i + 1) m' H') ∧ ∀ x H', J.yld i H x H' → g x (wipe σ vs) H' fun σ2 H2 => wipe σ2 vs = wipe σ vs ∧ tt σ2 H2 fun b H3 =>
        if b = true then tk σ2 H3 fun y H4 => te σ2 H4 fun z H5 => ∃ (c : Addr) (k : NestedKey) (xs : List En), y = .ref c ∧ H5 D = some (DkO P w0 D xs) ∧ (∀ e ∈ xs, NkV K H5 e.1 e.2.1) ∧ NkV K H5 k c ∧ atN xs k = none ∧ xs.length < 100000 ∧ Nx (upd H5 D (DkO P w0 D (xs ++ [(k, c, z)]))) else Nx H3) := by
  refine ⟨fun i m H => m = n - i ∧ i ≤ n ∧ Pv i H, ⟨n, by simp, Nat.zero_le _, h0⟩, ?_⟩
  rintro i m H ⟨rfl, hi, p⟩
  have q := hG i H hi p
  by_cases hlt : i < n
  · exact .inr ⟨w.goes i H hlt q, Pv (i + 1), fun H' p' => ⟨n - (i + 1), by omega, rfl, hlt, p'⟩, fun x H' y => hs i x H H' hlt p (w.yields i H x H' hlt q y)⟩
  · have e : i = n := by omega
    subst e
    exact .inl ⟨w.stops H q, hd H p⟩
end
section
variable {J : L2.It} {n : Nat} {G : Hp → Prop} {Y : Nat → Hp → V → Hp → Prop} {K : PySem.W.Frag} {P : Program} {w0 : World} {D : Addr} {te : TE} {g : TG} {tt : TT} {vs : List Nat} {σ : L2.St} {H1 : Hp} {Qd : Hp → Prop}
/-- a set comprehension over anything that is walked -/
theorem scT_it (w : Walk J n G Y) (Pv : Nat → Hp → Prop) (h0 : Pv 0 (upd H1 D (SetTO P w0 D []))) (hG : ∀ i H, i ≤ n → Pv i H → G H)
    (hs : ∀ i x H H', i < n → Pv i H → Y i H x H' → g x (wipe σ vs) H' fun σ2 H2 => wipe σ2 vs = wipe σ vs ∧ tt σ2 H2 fun b H3 =>
      if b = true then te σ2 H3 fun y H4 => ∃ (c : Addr) (k : List Int) (L : List (Addr × List Int)), y = .ref c ∧ H4 D = some (SetTO P w0 D L) ∧ (∀ p ∈ L, SqT K H4 p.1 (p.2.map V.int)) ∧ SqT K H4 c (k.map V.int) ∧ L.length + 1 < 64 ∧ ∀ L', ScT.Grown L c k L' → Pv (i + 1) (upd H4 D (SetTO P w0 D L')) else Pv (i + 1) H3)
    (hd : ∀ H, Pv n H → Qd H) :
    ∃ W : Nat → Nat → Hp → Prop, (∃ m, W 0 m (upd H1 D (SetTO P w0 D []))) ∧ ∀ i m H, W i m H →
      (J.stop i H ∧ Qd H) ∨ (J.go i H ∧ ∃ Nx : Hp → Prop, (∀ H', Nx H' → ∃ m', m' < m ∧ W (i + 1) m' H') ∧ ∀ x H', J.yld i H x H' → g x (wipe σ vs) H' fun σ2 H2 => wipe σ2 vs = wipe σ vs ∧ tt σ2 H2 fun b H3 =>
        if b = true then te σ2 H3 fun y H4 => ∃ (c : Addr) (k : List Int) (L : List (Addr × List Int)), y = .ref c ∧ H4 D = some (SetTO P w0 D L) ∧ (∀ p ∈ L, SqT K H4 p.1 (p.2.map V.int)) ∧ SqT K H4 c (k.map V.int) ∧ L.length + 1 < 64 ∧ ∀ L', ScT.Grown L c k L' → Nx (upd H4 D (SetTO P w0 D L')) else Nx H3) := by
  refine ⟨fun i m H => m = n - i ∧ i ≤ n ∧ Pv i H, ⟨n, by simp, Nat.zero_le _, h0⟩, ?_⟩
  rintro i m H ⟨rfl, hi, p⟩
  have q := hG i H hi p
  by_cases hlt : i < n
  · exact .inr ⟨w.goes i H hlt q, Pv (i + 1), fun H' p' => ⟨n - (i + 1), by omega, rfl, hlt, p'⟩, fun x H' y => hs i x H H' hlt p (w.yields i H x H' hlt q y)⟩
  · have e : i = n := by omega
    subst e
    exact .inl ⟨w.stops H q, hd H p⟩
end
end KdN


set_option Elab.async false
set_option linter.all false
set_option maxRecDepth 100000
set_option maxHeartbeats 8000000
/-! led_indexes -/
namespace K0
open PySem PySem.Spec PyProof.Rows L2 RZ K0z KdN
/-- x is a list or a tuple of these ints -/
def RI (K : PySem.W.Frag) (H : Hp) (x : V) (ns : List Int) : Prop := Seqs K H x (some (ns.map V.int))
theorem RI.same {K : PySem.W.Frag} {H H' : Hp} {x : V} {ns : List Int} (s : Same H H') (h : RI K H x ns) : RI K H' x ns := Seqs.same s h
/-- v is a list or a tuple of points -/
def PtsAt (K : PySem.W.Frag) (H : Hp) (v : V) (ks : List (List Int)) (n : Nat) : Prop := ∃ b a vs, v = .ref a ∧ SqB K b H a vs ∧ Rep (RI K) H vs ks ∧ (∀ k ∈ ks, k.length = n) ∧ ks.length ≤ 48
theorem PtsAt.same {K : PySem.W.Frag} {H H' : Hp} {v : V} {ks : List (List Int)} {n : Nat} (s : Same H H') (h : PtsAt K H v ks n) : PtsAt K H' v ks n := by
  obtain ⟨b, a, vs, e, h1, h2, h3⟩ := h
  exact ⟨b, a, vs, e, h1.same s, h2.mono fun _ _ => RI.same s, h3⟩
/-- the index of a point among the points, or None -/
def ixV (ks : List (List Int)) (n : List Int) : V := match ks.findIdx? (fun k => decide (k = n)) with
  | some j => .int (j : Nat)
  | none => .non
def spLx (K : PySem.W.Frag) (C : Addr) : Sp := fun vs H Q _ => ∃ (v : V) (a : Addr) (ks : List (List Int)) (ps ss : List Int), vs = [v, .ref a] ∧ PtsAt K H v ks ps.length ∧ ks.Nodup ∧ LikAt K H a C ps ss ∧
  ∀ l H', Same H H' → H l = none → H' l = some (.lst (ks.map fun k => ixV ks (ledL ps ss k))) → Q (.ref l) H'
theorem lenB_self {xs : List V} {n : Nat} (h : xs.length = n) : lenB (some xs) (.int n) (.int n) = true := by
  show (decide ((n : Int) ≤ (xs.length : Int)) && decide ((xs.length : Int) ≤ (n : Int))) = true
  rw [h]
  simp
theorem intsB_map (ns : List Int) : intsB (some (ns.map V.int)) = true := by
  show (ns.map V.int).all isI = true
  simp [List.all_map, isI]
theorem sqT_ext {K : PySem.W.Frag} {H : Hp} {D a : Addr} {φ : Heap → Prop} {o : HO} {xs : List V} (hD : H D = some (.ext φ)) (h : SqT K H a xs) : SqT K (upd H D o) a xs := by
  rcases h with (h | ⟨u, h⟩) | h
  · exact .inl (.inl (by rw [upd_ne (fun z => by rw [z, hD] at h; cases h)]; exact h))
  · exact .inl (.inr ⟨u, by rw [upd_ne (fun z => by rw [z, hD] at h; cases h)]; exact h⟩)
  · exact .inr h
theorem _root_.KdN.NkV.ext {K : PySem.W.Frag} {H : Hp} {D a : Addr} {φ : Heap → Prop} {o : HO} {k : NestedKey} (hD : H D = some (.ext φ)) (h : NkV K H k a) : NkV K (upd H D o) k a := by
  cases h with
  | ofI h => exact .ofI (sqT_ext hD h)
  | ofP h h1 h2 => exact .ofP (sqT_ext hD h) (sqT_ext hD h1) (sqT_ext hD h2)
theorem _root_.KdN.NkV.same {K : PySem.W.Frag} {H H' : Hp} {a : Addr} {k : NestedKey} (s : Same H H') (h : NkV K H k a) : NkV K H' k a := by
  cases h with
  | ofI h => exact .ofI (same_sqT s h)
  | ofP h h1 h2 => exact .ofP (same_sqT s h) (same_sqT s h1) (same_sqT s h2)
theorem atN_none {xs : List En} {k : NestedKey} (h : ∀ e ∈ xs, e.1 ≠ k) : atN xs k = none := by
  unfold atN
  rw [List.find?_eq_none.mpr fun e he => by rw [decide_eq_true_eq]; exact h e he]
  rfl
theorem at_ix {n : List Int} : ∀ (m : Nat) {xs : List En} {ks : List (List Int)}, xs.length = ks.length → (∀ (j : Nat) e, xs[j]? = some e → ∃ ns, ks[j]? = some ns ∧ e.1 = keyI ns ∧ e.2.2 = .int ((m + j : Nat) : Int)) → (atN xs (keyI n)).getD .non = match ks.findIdx? (fun k => decide (k = n)) with | some j => .int ((m + j : Nat) : Int) | none => .non
  | _, [], [], _, _ => rfl
  | _, [], _ :: _, h, _ => by cases h
  | _, _ :: _, [], h, _ => by cases h
  | m, e :: xs, k :: ks, hl, h => by
    obtain ⟨ns, e1, e2, e3⟩ := h 0 e rfl
    cases e1
    have ih := at_ix (n := n) (m + 1) (xs := xs) (ks := ks) (by simpa using hl) fun j e he => by
      obtain ⟨ns, g1, g2, g3⟩ := h (j + 1) e he
      exact ⟨ns, g1, g2, by rw [g3]; congr 2; omega⟩
    unfold atN at ih ⊢
    by_cases c : k = n
    · rw [List.find?_cons_of_pos (by rw [e2, c, decide_eq_true rfl]), List.findIdx?_cons, decide_eq_true c]
      simp [e3]
    · have c2 : e.1 ≠ keyI n := fun z => c (keyI_inj (e2.symm.trans z))
      rw [List.find?_cons_of_neg (by rw [decide_eq_false c2]; decide), List.findIdx?_cons, decide_eq_false c, ih]
      cases ks.findIdx? (fun k => decide (k = n)) with
      | none => rfl
      | some j => simp; omega
section
variable {P : Program} {w : World} {K : PySem.W.Frag} {mg : Str → Option Value} {base : Heap} {f g g2 C CP : Addr} {fd : FuncData}
abbrev N_led_indexes : List Str := ["points", "likeness", "index_of", "at", "point"]
theorem sc_led_indexes : FnScope N_led_indexes ["points", "likeness"] (defScope st_led_indexes) := ⟨rfl, rfl, rfl, by decide +kernel, rfl, by decide +kernel, by decide +kernel⟩
theorem ok_led_indexes (F : Fun K "led_indexes" "led_indexes" st_led_indexes f fd) (T : Nm mg) (cl : Cls K C) (DL : LedX P w K mg base C CP) : FnOk P w K mg base CX0 7 f fd ["points", "likeness"] (spLx K C) := by
  refine F.ok sc_led_indexes (fun vs H Q E h => ?_) (fun cdv A outer s H vs Q E hr h => ?_)
  · obtain ⟨v, a, _, _, _, rfl, _⟩ := h
    rfl
  · obtain ⟨v, a, ks, ps, ss, rfl, hp, nd, hL, k⟩ := h
    refine ⟨_, (pss_cons (ps_set (i := 2) sc_led_indexes.nd rfl (Or.inr rfl) (pe_dcN (own := [("at", 3)]) (g := gName 3) (tt := tYes) rfl sc_led_indexes.nd hr.units (pi_range1 (by rfl) T.n_range (pa_cons (pe_callB (call_lenK K) (by rfl) T.n_len (by decide +kernel) (pa_cons (pv 0) pa_nil)) pa_nil)) (blkOk_by (N := ["points", "likeness", "index_of", "at", "point"]) (sc := defScope st_led_indexes) (by decide +kernel)) (fun _ _ _ _ _ => (pg_name (i := 3) sc_led_indexes.nd rfl (Or.inl rfl))) (fun _ _ _ _ _ => pts_nil) (fun _ _ _ _ _ => (pe_callTy (call_tupK K) (by rfl) T.n_tuple (by decide +kernel) (pa_cons (pe_ix (ix_K K) (pv 0) (pv 3) (fun _ _ => rfl)) pa_nil))) (fun _ _ _ _ _ => (pv 3))))
    (pss_one (ps_ret (pe_lc (own := [("point", 4)]) (g := gName 4) (tt := tYes) rfl sc_led_indexes.nd (pi_seqK K (pv 0)) (blkOk_by (N := ["points", "likeness", "index_of", "at", "point"]) (sc := defScope st_led_indexes) (by decide +kernel)) (fun _ _ _ _ _ => (pg_name (i := 4) sc_led_indexes.nd rfl (Or.inl rfl))) (fun _ _ _ _ _ => pts_nil) (fun _ _ _ _ _ => (pe_getN K P w hr.units (pv 2) (pe_ledK P w K mg base DL cl (hr.mono (by decide)) (pv 1) (pa_cons (pv 4) pa_nil)) ⟨rfl, rfl, rfl, rfl⟩)))))), ?_⟩
    obtain ⟨b, p, vs, rfl, hB, hR, hw, few⟩ := id hp
    have hlv := hR.1
    have items : ∀ {i : Nat}, i < vs.length → ∃ x ns b' a', vs[i]? = some x ∧ ks[i]? = some ns ∧ x = .ref a' ∧ SqB K b' H a' (ns.map V.int) ∧ Seqs K H x (some (ns.map V.int)) := fun {i} hi => by
      have e1 := List.getElem?_eq_getElem hi
      obtain ⟨ns, e2, h⟩ := hR.at' e1
      have h : Seqs K H _ (some (ns.map V.int)) := h
      obtain ⟨b', a', e3, h4, _⟩ := h.sqB
      exact ⟨_, ns, b', a', e1, e2, e3, h4, h⟩
    refine ⟨_, rfl, b, p, vs, rfl, hB, vs.length, rfl, by omega, by omega, fun D hD => ?_⟩
    refine dcN_it (walk_range (lo := 0) (n := vs.length)) (fun i H' => ∃ xs : List En, xs.length = i ∧ Same H H' ∧ H' D = some (DkO P w D xs) ∧ (∀ e ∈ xs, NkV K H' e.1 e.2.1) ∧ ∀ (j : Nat) e, xs[j]? = some e → ∃ ns, ks[j]? = some ns ∧ e.1 = keyI ns ∧ e.2.2 = .int ((0 + j : Nat) : Int)) ⟨[], rfl, same_upd hD, upd_same, fun e h => absurd h List.not_mem_nil, fun j e h => by simp at h⟩ (fun _ _ _ _ => trivial) ?_ ?_
    · rintro i x H1 H1' hi ⟨xs, lx, s1, hD1, hk1, hv1⟩ ⟨rfl, rfl⟩
      obtain ⟨x, ns, b', a', e1, e2, rfl, hs, _⟩ := items hi
      have hn : atN xs (keyI ns) = none := atN_none fun e he z => by
        obtain ⟨j, hj⟩ := List.mem_iff_getElem?.mp he
        obtain ⟨ms, g1, g2, _⟩ := hv1 j e hj
        have e3 := keyI_inj (g2.symm.trans z)
        subst e3
        have lj := (List.getElem?_eq_some_iff.mp hj).1
        have d1 := List.getElem?_eq_some_iff.mp g1
        have d2 := List.getElem?_eq_some_iff.mp e2
        have := (List.getElem_inj nd).mp (d1.2.trans d2.2.symm)
        omega
      have fin : ∀ {c : Addr} {H2 : Hp}, Same H1' H2 → SqT K H2 c (ns.map V.int) → ∃ (c' : Addr) (k : NestedKey) (ys : List En), V.ref c = .ref c' ∧ H2 D = some (DkO P w D ys) ∧ (∀ e ∈ ys, NkV K H2 e.1 e.2.1) ∧ NkV K H2 k c' ∧ atN ys k = none ∧ ys.length < 100000 ∧ ∃ zs : List En, zs.length = i + 1 ∧ Same H (upd H2 D (DkO P w D (ys ++ [(k, c', V.int (0 + (i : Int)))]))) ∧ (upd H2 D (DkO P w D (ys ++ [(k, c', V.int (0 + (i : Int)))]))) D = some (DkO P w D zs) ∧ (∀ e ∈ zs, NkV K (upd H2 D (DkO P w D (ys ++ [(k, c', V.int (0 + (i : Int)))]))) e.1 e.2.1) ∧ ∀ (j : Nat) e, zs[j]? = some e → ∃ ns, ks[j]? = some ns ∧ e.1 = keyI ns ∧ e.2.2 = .int ((0 + j : Nat) : Int) := fun {c H2} s2 hc => by
        have hD2 := s2 _ _ hD1
        refine ⟨c, keyI ns, xs, rfl, hD2, fun e he => (hk1 e he).same s2, .ofI hc, hn, by omega, xs ++ [(keyI ns, c, V.int (0 + (i : Int)))], by rw [List.length_append, lx]; rfl, ?_, upd_same, fun e he => ?_, fun j e hj => ?_⟩
        · exact same_at hD2 (s1.trans s2) hD
        · rcases List.mem_append.mp he with h | h
          · exact NkV.ext (φ := fun h => Dk0 P w h D xs) hD2 ((hk1 e h).same s2)
          · rw [List.mem_singleton.mp h]
            exact NkV.ext (φ := fun h => Dk0 P w h D xs) hD2 (.ofI hc)
        · by_cases hj2 : j < xs.length
          · rw [List.getElem?_append_left hj2] at hj
            exact hv1 j e hj
          · rw [List.getElem?_append_right (by omega)] at hj
            have ej : j = i := by
              have := (List.getElem?_eq_some_iff.mp hj).1
              simp only [List.length_cons, List.length_nil] at this
              omega
            subst ej
            rw [lx, Nat.sub_self] at hj
            cases hj
            exact ⟨ns, e2, rfl, by show V.int (0 + (j : Int)) = .int ((0 + j : Nat) : Int); simp⟩
      refine ⟨rfl, ?_⟩
      refine ⟨_, rfl, _, rfl, b, p, vs, (0 + (i : Int)), .ref a', rfl, rfl, hB.same s1, by rw [Int.zero_add]; exact atI_nat e1, b', a', ns.map V.int, rfl, hs.same s1, fun hb l hl => ?_, fun hb => ?_⟩
      · exact ⟨_, rfl, fin (same_upd hl) (.of upd_same)⟩
      · subst hb
        exact ⟨_, rfl, fin (Same.refl _) (hs.same s1)⟩
    · rintro H1 ⟨xs, lx, s1, hD1, hk1, hv1⟩
      refine ⟨_, rfl, b, p, rfl, ⟨_, hB.same s1⟩, fun D2 hD2 => lc_fun (fun i => ixV ks (ledL ps ss (ks.getD i []))) (walk_seq (b := b) (xs := vs)) hD2 (Nat.lt_of_le_of_lt (m := 48) (by omega) (by decide)) (fun H2 s2 => hB.same (s1.trans s2)) ?_ ?_⟩
      · rintro i x H2 H3 hi s2 _ ⟨rfl, hx⟩ Rk kk
        obtain ⟨x', ns, b', a', e1, e2, rfl, hs, hq⟩ := items hi
        rw [e1] at hx
        cases hx
        have s12 := s1.trans s2
        have hl : ns.length = ps.length := hw ns (List.mem_of_getElem? e2)
        refine ⟨rfl, _, rfl, D, rfl, ⟨xs, s2 _ _ hD1⟩, _, rfl, ⟨a, ps, ss, rfl, hL.same s12⟩, _, rfl, a, _, ps, ss, _, rfl, hL.same s12, hq.same s12, (fun ys e y hy => ?_), (fun z => ?_), fun ys e _ q H4 s4 hq0 hq1 => ?_⟩
        · cases e
          obtain ⟨n, _, rfl⟩ := List.mem_map.mp hy
          exact ⟨_, Asks.int n⟩
        · rw [lenB_self (by rw [List.length_map]; exact hl), intsB_map] at z
          cases z
        · cases e
          rw [intsOf_map] at hq1
          refine ⟨q, xs, keyI (ledL ps ss ns), rfl, s4 _ _ (s2 _ _ hD1), fun e he => (hk1 e he).same (s2.trans s4), .ofI (.of hq1), ?_⟩
          rw [at_ix 0 (lx.trans hlv) hv1]
          have := kk H4 s4
          have eg : ks.getD i [] = ns := by rw [List.getD_eq_getElem?_getD, e2]; rfl
          rw [eg] at this
          unfold ixV at this
          simp only [Nat.zero_add]
          exact this
      · intro H2 hD3 s2
        refine k D2 H2 (s1.trans s2) (s1.free hD2) ?_
        rw [hD3]
        congr 2
        rw [hlv, range_map_getD ks [] (fun k => ixV ks (ledL ps ss k))]
end
end K0


set_option Elab.async false
set_option linter.all false
set_option maxRecDepth 100000
set_option maxHeartbeats 8000000
/-! _leads_of -/
namespace K0
open PySem PySem.Spec PyProof.Rows L2 RZ K0z KdN
theorem op_notInK {X : Cx} (K : PySem.W.Frag) (eK : X.K = K := by rfl) : OpR X (compareOp .NotIn) (rIn K true) := by subst eK; exact op_notIn_seq
/-- x is a likeness of these places and signs -/
def RL (C : Addr) (K : PySem.W.Frag) (H : Hp) (x : V) (q : List Int × List Int) : Prop := ∃ a, x = .ref a ∧ LikAt K H a C q.1 q.2
theorem RL.same {C : Addr} {K : PySem.W.Frag} {H H' : Hp} {x : V} {q : List Int × List Int} (s : Same H H') (h : RL C K H x q) : RL C K H' x q := by
  obtain ⟨a, e, h⟩ := h
  exact ⟨a, e, h.same s⟩
/-- v is a list or a tuple of likenesses -/
def GivAt (K : PySem.W.Frag) (C : Addr) (H : Hp) (v : V) (gs : List (List Int × List Int)) (n : Nat) : Prop := ∃ b a vs, v = .ref a ∧ SqB K b H a vs ∧ Rep (RL C K) H vs gs ∧ (∀ q ∈ gs, q.1.length = n) ∧ gs.length ≤ 10
theorem GivAt.same {K : PySem.W.Frag} {C : Addr} {H H' : Hp} {v : V} {gs : List (List Int × List Int)} {n : Nat} (s : Same H H') (h : GivAt K C H v gs n) : GivAt K C H' v gs n := by
  obtain ⟨b, a, vs, e, h1, h2, h3⟩ := h
  exact ⟨b, a, vs, e, h1.same s, h2.mono fun _ _ => RL.same s, h3⟩
/-- whether this one leads points to points; whether all do -/
def ldsB (ks : List (List Int)) (q : List Int × List Int) : Bool := ks.all fun k => ks.any fun n => decide (n = ledL q.1 q.2 k)
theorem ix_non (ks : List (List Int)) (n : List Int) : eqV (ixV ks n) .non = !(ks.any fun k => decide (k = n)) := by
  unfold ixV
  rw [← List.findIdx?_isSome]
  cases ks.findIdx? (fun k => decide (k = n)) with
  | none => rfl
  | some j => rfl
theorem lead_in (ks : List (List Int)) (q : List Int × List Int) : (!inV .non (ks.map fun k => ixV ks (ledL q.1 q.2 k))) = ldsB ks q := by
  unfold inV ldsB
  rw [List.any_map, Bool.eq_iff_iff, Bool.not_eq_true', List.any_eq_false, List.all_eq_true]
  refine ⟨fun h k hk => ?_, fun h k hk => ?_⟩
  · have := h k hk
    rw [Function.comp_apply, ix_non] at this
    simpa using this
  · have := h k hk
    rw [Function.comp_apply, ix_non, this]
    decide
theorem ix_flat (ks : List (List Int)) (h : List Int → List Int) : (ks.map fun k => ixV ks (h k)).all flatV = true := by
  rw [List.all_map, List.all_eq_true]
  intro k _
  rw [Function.comp_apply]
  unfold ixV
  cases ks.findIdx? (fun j => decide (j = h k)) with
  | none => rfl
  | some j => rfl
def spLds (K : PySem.W.Frag) (CM C : Addr) : Sp := fun vs H Q E => ∃ (v1 v2 : V) (ks : List (List Int)) (gs : List (List Int × List Int)) (n : Nat), vs = [v1, v2] ∧ PtsAt K H v1 ks n ∧ ks.Nodup ∧ GivAt K C H v2 gs n ∧
  (gs.all (ldsB ks) = false → raisesN CM "points" H E) ∧ (gs.all (ldsB ks) = true → ∀ x H', Same H H' → Q x H')
section
variable {P : Program} {w : World} {K : PySem.W.Frag} {mg : Str → Option Value} {base : Heap} {f g g2 C CP CM : Addr} {fd : FuncData}
abbrev N__leads_of : List Str := ["points", "given", "leads", "each", "lead"]
theorem sc_leads_of : FnScope N__leads_of ["points", "given"] (defScope st__leads_of) := ⟨rfl, rfl, rfl, by decide +kernel, rfl, by decide +kernel, by decide +kernel⟩
theorem ok_leads_of (F : Fun K "_leads_of" "_leads_of" st__leads_of f fd) (T : Nm mg) (D_led_indexes : Dn P w K mg base 7 "led_indexes" g ["points", "likeness"] (spLx K C)) (R_Misfit : RaiseC P w K mg base "Misfit" CM "part") : FnOk P w K mg base (L2.CX P w) 8 f fd ["points", "given"] (spLds K CM C) := by
  refine F.okX sc_leads_of (fun vs H Q E h => ?_) (fun cdv A outer s H vs Q E hr h => ?_)
  · obtain ⟨v1, v2, _, _, _, rfl, _⟩ := h
    rfl
  · obtain ⟨v1, v2, ks, gs, n, rfl, hp, nd, hg, kr, kq⟩ := h
    refine ⟨_, (pss_cons (ps_setLc (i := 2) (own := [("each", 3)]) (g := gName 3) (tt := tYes) rfl sc_leads_of.nd rfl rfl (sw_true rfl rfl rfl (by decide +kernel)) (pi_seqK K (pv 1)) (blkOk_by (N := ["points", "given", "leads", "each", "lead"]) (sc := defScope st__leads_of) (by decide +kernel)) (fun _ _ _ _ _ => (pg_name (i := 3) sc_leads_of.nd rfl (Or.inl rfl))) (fun _ _ _ _ _ => pts_nil) (fun _ _ _ _ _ => (pe_dn D_led_indexes (hr.mono (by decide)) rfl (pa_cons (pv 0) (pa_cons (pv 3) pa_nil)))))
    (pss_cons (ps_if (pt_not (pt_val (pe_callB (cr_all rfl) (by rfl) T.n_all (by decide +kernel) (pa_cons (pe_lc (own := [("lead", 4)]) (g := gName 4) (tt := tYes) rfl sc_leads_of.nd (pi_seqK K (pv 2)) (blkOk_by (N := ["points", "given", "leads", "each", "lead"]) (sc := defScope st__leads_of) (by decide +kernel)) (fun _ _ _ _ _ => (pg_name (i := 4) sc_leads_of.nd rfl (Or.inl rfl))) (fun _ _ _ _ _ => pts_nil) (fun _ _ _ _ _ => (pe_cmpR (op_notInK K) pe_non (pv 4) (by rfl)))) pa_nil)))) (pss_one (ps_raise rfl (takes_of rfl rfl rfl rfl) (pmk_c R_Misfit (hr.mono (by decide)) rfl (pa_cons pe_str pa_nil)))) pss_nil)
    (pss_one (ps_ret (pv 2))))), ?_⟩
    obtain ⟨b, p, vs, rfl, hB, hR, hw, few⟩ := id hg
    have hlv := hR.1
    refine ⟨_, rfl, b, p, rfl, ⟨_, hB⟩, fun D hD => lc_rel (fun i y H' => ∀ q, gs[i]? = some q → ∃ l, y = .ref l ∧ H' l = some (.lst (ks.map fun k => ixV ks (ledL q.1 q.2 k)))) (walk_seq (b := b) (xs := vs)) hD (Nat.lt_of_le_of_lt (m := 10) (by omega) (by decide)) (fun H s => hB.same s) (fun i y H2 H3 s h q e => by obtain ⟨l, e1, e2⟩ := h q e; exact ⟨l, e1, s _ _ e2⟩) ?_ ?_⟩
    · rintro i x H1 H2 hi s1 ⟨acc, hacc⟩ ⟨rfl, hx⟩ Rk kk
      obtain ⟨q, hq, a, rfl, hL⟩ := hR.at' hx
      have hl := hw q (List.mem_of_getElem? hq)
      refine ⟨rfl, _, rfl, _, rfl, v1, a, ks, q.1, q.2, rfl, by rw [hl]; exact hp.same s1, nd, hL.same s1, fun l H3 s3 hl0 hl1 => kk _ _ s3 fun q' e' => ⟨l, rfl, ?_⟩⟩
      rw [hq] at e'
      cases e'
      rw [off_ne (fun z => by rw [z, hacc] at hl0; cases hl0)]
      exact hl1
    rintro H1 ⟨acc, la, hDa, s1, hac⟩
    have lag : acc.length = gs.length := la.trans hlv
    refine ⟨_, rfl, false, D, rfl, ⟨_, .of hDa⟩, fun D3 hD3 => lc_fun (fun i => V.bl (ldsB ks (gs.getD i ([], [])))) (walk_seq (b := false) (xs := acc)) hD3 (Nat.lt_of_le_of_lt (m := 10) (by omega) (by decide)) (fun H s => .of (s _ _ hDa)) ?_ ?_⟩
    · rintro i x H2 H3 hi s2 _ ⟨rfl, hx⟩ Rk kk
      have hq : gs[i]? = some (gs[i]'(by omega)) := List.getElem?_eq_getElem (by omega)
      obtain ⟨l, rfl, hl⟩ := hac i x hx _ hq
      have hl := s2 _ _ (off_same D H1 _ _ hl)
      refine ⟨rfl, _, rfl, l, _, rfl, .inl (.of hl), rfl, ix_flat ks _, ?_⟩
      have e := kk _ (Same.refl _)
      rw [List.getD_eq_getElem?_getD, hq] at e
      dsimp only [Option.getD_some] at e
      rw [← lead_in] at e
      exact e
    · intro H2 hD4 s2
      have s12 := s1.trans s2
      have eD : (List.range acc.length).map (fun i => V.bl (ldsB ks (gs.getD i ([], [])))) = (gs.map (ldsB ks)).map V.bl := by
        rw [lag, range_map_getD gs ([], []) (fun q => V.bl (ldsB ks q)), List.map_map]
        rfl
      rw [eD] at hD4
      refine ⟨D3, _, rfl, .of hD4, ⟨_, rfl, ?_⟩⟩
      rw [show ((gs.map (ldsB ks)).all id) = gs.all (ldsB ks) from by rw [List.all_map]; rfl]
      cases e : gs.all (ldsB ks) with
      | false => exact iteT (fun dd H' h1 h2 s4 => (kr e).same s12 dd H' h1 h2 s4)
      | true =>
        refine iteF ?_
        exact ⟨_, rfl, kq e _ _ s12⟩
end
end K0


set_option Elab.async false
set_option linter.all false
set_option maxRecDepth 100000
set_option maxHeartbeats 8000000
/-! _law_led -/
namespace K0
open PySem PySem.Spec PyProof.Rows L2 RZ K0z
/-- a pair, as the law draws it: of a list or a tuple each -/
def Pr (K : PySem.W.Frag) (H : Hp) (x : V) (q : List Int × List Int) : Prop := ∃ t p r b1 b2, x = .ref t ∧ SqT K H t [.ref p, .ref r] ∧ SqB K b1 H p (q.1.map V.int) ∧ SqB K b2 H r (q.2.map V.int)
theorem Pr.same {K : PySem.W.Frag} {H H' : Hp} {x : V} {q : List Int × List Int} (s : Same H H') (h : Pr K H x q) : Pr K H' x q := by
  obtain ⟨t, p, r, b1, b2, e, h1, h2, h3⟩ := h
  exact ⟨t, p, r, b1, b2, e, same_sqT s h1, h2.same s, h3.same s⟩
def spLw (K : PySem.W.Frag) : Sp := fun vs H Q _ => ∃ (x : V) (q : List Int × List Int) (b : Bool) (pp : Addr) (pt : List Int), vs = [x, .ref pp] ∧ Pr K H x q ∧ Lik q.1 q.2 ∧ SqB K b H pp (pt.map V.int) ∧ pt.length = q.1.length ∧
  ∀ l H', Same H H' → H l = none → H' l = some (.tup ((ledL q.1 q.2 pt).map V.int)) → Q (.ref l) H'
section
variable {P : Program} {w : World} {K : PySem.W.Frag} {mg : Str → Option Value} {base : Heap} {f : Addr} {fd : FuncData}
theorem sc_lled : FnScope ["one", "point", "place", "sign"] ["one", "point"] (defScope st__law_led) := ⟨rfl, rfl, rfl, by decide +kernel, rfl, by decide +kernel, by decide +kernel⟩
theorem ok_lled (F : Fun K "_law_led" "_law_led" st__law_led f fd) (T : Nm mg) : FnOk P w K mg base CX0 1 f fd ["one", "point"] (spLw K) := by
  refine F.ok sc_lled (fun vs H Q E h => ?_) (fun cdv A outer s H vs Q E hr h => ?_)
  · obtain ⟨x, _, _, pp, _, rfl, _⟩ := h
    rfl
  · obtain ⟨x, ⟨ps, ss⟩, b, pp, pt, rfl, ⟨t, p, q, b1, b2, rfl, ht, hp, hq⟩, L, hS, hl, k⟩ := h
    refine ⟨_, (pss_one (ps_ret (pe_callTy (call_tupK K) (by rfl) T.n_tuple (by decide +kernel) (pa_cons (pe_lc (own := [("place", 2), ("sign", 3)]) (g := gTup K 2 (gCons (gName 2) (gCons (gName 3) gNil))) (tt := tYes) rfl sc_lled.nd (pi_zipMK K (by rfl) T.n_zip (pa_cons (pe_ix (ix_K K) (pv 0) pe_int (fun _ _ => rfl)) (pa_cons (pe_ix (ix_K K) (pv 0) pe_int (fun _ _ => rfl)) pa_nil))) (blkOk_by (N := ["one", "point", "place", "sign"]) (sc := defScope st__law_led) (by decide +kernel)) (fun _ _ _ _ _ => (pg_tup (by rfl) (pgs_cons (pg_name (i := 2) sc_lled.nd rfl (Or.inl rfl)) (pgs_cons (pg_name (i := 3) sc_lled.nd rfl (Or.inl rfl)) pgs_nil)))) (fun _ _ _ _ _ => pts_nil) (fun _ _ _ _ _ => (pe_op op_mul (pv 3) (pe_ix (ix_K K) (pv 1) (pv 2) (fun _ _ => rfl))))) pa_nil)))), ?_⟩
    have hl : pt.length = ps.length := hl
    have n6 : ps.length ≤ 6 := L.n6
    have len : ss.length = ps.length := L.len
    have hp : SqB K b1 H p (ps.map V.int) := hp
    have hq : SqB K b2 H q (ss.map V.int) := hq
    refine ⟨_, rfl, true, t, _, 0, .ref p, rfl, rfl, ht, rfl, _, rfl, true, t, _, 1, .ref q, rfl, rfl, ht, rfl, b1, b2, p, q, _, _, rfl, hp, hq, fun D hD => lc_fun (fun i => V.int (ss.getD i 0 * pt.getD (ps.getD i 0).toNat 0)) (walk_zipM rfl) hD ?_ (fun H2 s2 => ⟨hp.same s2, hq.same s2⟩) ?_ ?_⟩
    · rw [List.length_map, List.length_map]
      exact six (by omega)
    · rintro i x H2 H3 hi2 s2 ⟨acc, hacc⟩ ⟨T', x', y', rfl, hT, rfl, e3, e4⟩ Rk kk
      obtain ⟨n1, hn1, rfl⟩ := map_int_get e3
      obtain ⟨n2, hn2, rfl⟩ := map_int_get e4
      obtain ⟨j, rfl, hj⟩ := L.at (List.mem_of_getElem? hn1)
      have sT := same_upd (o := .tup [.int (j : Nat), .int n2]) hT
      have hjx : j < pt.length := by omega
      refine ⟨T', _, rfl, .of upd_same, rfl, _, _, rfl, _, _, rfl, rfl, rfl, _, rfl, _, rfl, _, rfl, b, pp, pt.map V.int, _, .int (pt[j]'hjx), rfl, rfl, hS.same (s2.trans sT), atI_nat ?_, n2, _, rfl, rfl, ?_, ?_⟩
      · rw [List.getElem?_map, List.getElem?_eq_getElem hjx]
        rfl
      · rcases L.sg n2 (List.mem_of_getElem? hn2) with rfl | rfl
        · exact .inl ⟨by decide, by decide⟩
        · exact .inl ⟨by decide, by decide⟩
      · have q := kk _ sT
        rw [List.getD_eq_getElem?_getD (l := ss), hn2, List.getD_eq_getElem?_getD (l := ps), hn1] at q
        dsimp only [Option.getD_some] at q
        rw [Int.toNat_natCast, getD_of hjx] at q
        exact q
    · intro H2 hD2 s2
      refine ⟨false, D, _, rfl, .of hD2, fun _ l hl2 => ?_, fun z => (by cases z)⟩
      refine k l _ (s2.trans (same_upd hl2)) (s2.free hl2) ?_
      rw [upd_same]
      congr 2
      unfold ledL
      rw [List.map_map]
      rw [show min (ps.map V.int).length (ss.map V.int).length = ps.length from by rw [List.length_map, List.length_map]; omega]
      rfl
end
end K0


set_option Elab.async false
set_option linter.all false
set_option maxRecDepth 100000
set_option maxHeartbeats 4000000
set_option exponentiation.threshold 100000
/-! _law_one -/
namespace K0
open PySem PySem.Spec PyProof.Rows L2 RZ K0z KdN
theorem ixN_nat {n j : Nat} (hj : j < n) : ixN n (j : Int) = some j := by
  unfold ixN
  rw [if_pos (by omega), if_pos (by omega)]
  simp
theorem Lik.of {ps ss : List Int} {n : Nat} (h2 : 2 ≤ n) (h6 : n ≤ 6) (hp : ps.Perm (rng n)) (hl : ss.length = n) (hs : ∀ s ∈ ss, s = 1 ∨ s = -1) : Lik ps ss := by
  have l : ps.length = n := hp.length_eq.trans (rng_len n)
  exact ⟨by omega, by omega, by omega, by rw [l]; exact hp, hs⟩
theorem swap_ok : ((List.range 7).all fun n => (List.range n).all fun a => (List.range n).all fun b => (((rng n).set a ((rng n).getD b 0)).set b ((rng n).getD a 0)).isPerm (rng n)) = true := by decide +kernel
theorem swap_perm {n a b : Nat} (h6 : n ≤ 6) (ha : a < n) (hb : b < n) : (((rng n).set a ((rng n).getD b 0)).set b ((rng n).getD a 0)).Perm (rng n) := by
  have h1 := List.all_eq_true.mp swap_ok n (List.mem_range.mpr (by omega))
  have h2 := List.all_eq_true.mp h1 a (List.mem_range.mpr ha)
  exact List.isPerm_iff.mp (List.all_eq_true.mp h2 b (List.mem_range.mpr hb))
theorem rot_perm {n : Nat} : ((rng n).drop 1 ++ (rng n).take 1).Perm (rng n) := by
  have := List.perm_append_comm (l₁ := (rng n).drop 1) (l₂ := (rng n).take 1)
  rwa [List.take_append_drop] at this
theorem rot_cut {n : Nat} (h2 : 2 ≤ n) (h6 : n ≤ 6) : cutV ((rng n).map V.int) (some 1) none = ((rng n).drop 1).map V.int ∧ cutV ((rng n).map V.int) none (some 1) = ((rng n).take 1).map V.int := by
  have : n = 2 ∨ n = 3 ∨ n = 4 ∨ n = 5 ∨ n = 6 := by omega
  rcases this with rfl | rfl | rfl | rfl | rfl <;> exact ⟨rfl, rfl⟩
theorem set_ints (xs : List Int) (j : Nat) (x : Int) : (xs.map V.int).set j (V.int x) = (xs.set j x).map V.int := by rw [List.map_set]
theorem set_sg {n j : Nat} {x : Int} (hx : x = 1 ∨ x = -1) : ∀ s ∈ (List.replicate n (1 : Int)).set j x, s = 1 ∨ s = -1 := fun s hs => by
  rcases List.mem_or_eq_of_mem_set hs with h | h
  · exact .inl (List.eq_of_mem_replicate h)
  · rw [h]; exact hx
/-- a pair drawn: of two new lists -/
def spOnL : Sp := fun vs H Q _ => ∃ (c d : Addr) (ns : List Int) (m n : Nat), vs = [.ref c, .int n] ∧ Coil H c d ns m ∧ m ≤ 90000 ∧ 2 ≤ n ∧ n ≤ 6 ∧
  ∀ (t p q : Addr) (ps ss : List Int) (H' : Hp), Lik ps ss → ps.length = n → H t = none → H p = none → H q = none → t ≠ c → p ≠ c → q ≠ c → H' t = some (.tup [.ref p, .ref q]) → H' p = some (.lst (ps.map V.int)) → H' q = some (.lst (ss.map V.int)) → Coil H' c d ns (m + 20) → SameBut c H H' → Q (.ref t) H'
section
variable {P : Program} {w : World} {K : PySem.W.Frag} {mg : Str → Option Value} {base : Heap} {f g1 g2 g3 : Addr} {fd : FuncData}
abbrev N__law_one : List Str := ["keg", "wide", "way", "here", "there", "places", "signs", "place"]
theorem sc_one : FnScope N__law_one ["keg", "wide"] (defScope st__law_one) := ⟨rfl, rfl, rfl, by decide +kernel, rfl, by decide +kernel, by decide +kernel⟩
theorem ok_law_one (F : Fun K "_law_one" "_law_one" st__law_one f fd) (T : Nm mg) (D__law_tap : Dn P w K mg base 1 "_law_tap" g1 ["keg", "many"] spTurn) (D__law_choose : Dn P w K mg base 2 "_law_choose" g2 ["keg", "some"] (spOne K)) (D__law_stirred : Dn P w K mg base 2 "_law_stirred" g3 ["keg", "some"] (spStir K)) : FnOk P w K mg base CX0 3 f fd ["keg", "wide"] spOnL := by
  refine F.ok sc_one (fun vs H Q E h => ?_) (fun cdv A outer s H vs Q E hr h => ?_)
  · obtain ⟨c, d, _, _, _, rfl, _⟩ := h
    rfl
  · obtain ⟨c, d, ns, m, n, rfl, hC, hm, n2, n6, k⟩ := h
    refine ⟨_, (pss_cons (ps_par3 (i := 2) (j := 3) (l := 4) (by rfl) sc_one.nd rfl rfl rfl (by decide) (by decide) (by decide) rfl rfl rfl (pa_cons (pe_dn D__law_tap (hr.mono (by decide)) rfl (pa_cons (pv 0) (pa_cons pe_int pa_nil))) (pa_cons (pe_dn D__law_tap (hr.mono (by decide)) rfl (pa_cons (pv 0) (pa_cons (pv 1) pa_nil))) (pa_cons (pe_dn D__law_tap (hr.mono (by decide)) rfl (pa_cons (pv 0) (pa_cons (pv 1) pa_nil))) pa_nil))) (by rfl))
    (pss_cons (ps_par (i := 5) (j := 6) (by rfl) sc_one.nd rfl rfl (by decide) rfl rfl (pa_cons (pe_listRg rfl (by rfl) T.n_list (prg_1 (by rfl) T.n_range (pv 1))) (pa_cons (pe_op op_rep (pe_lst (pa_cons pe_int pa_nil)) (pv 1)) pa_nil)) (by rfl))
    (pss_cons (ps_if (pt_cmpR op_eq (pv 2) pe_int (nomark _)) (pss_one (ps_asg (pe_un un_neg pe_int) (pg_sub (pv 6) (pv 3) set_list))) (pss_one (ps_if (pt_cmpR op_eq (pv 2) pe_int (nomark _)) (pss_one (ps_asg (pe_tup (pa_cons (pe_ix (ix_K K) (pv 5) (pv 4) (fun _ _ => rfl)) (pa_cons (pe_ix (ix_K K) (pv 5) (pv 3) (fun _ _ => rfl)) pa_nil))) (pg_tup (by rfl) (pgs_cons (pg_sub (pv 5) (pv 3) set_list) (pgs_cons (pg_sub (pv 5) (pv 4) set_list) pgs_nil))))) (pss_one (ps_if (pt_cmpR op_eq (pv 2) pe_int (nomark _)) (pss_cons (ps_set (i := 5) sc_one.nd rfl (Or.inl rfl) (pe_op op_cat (pe_slice sl_list (pv 5) (po_some pe_int) po_none) (pe_slice sl_list (pv 5) po_none (po_some pe_int))))
    (pss_one (ps_asg (pe_dn D__law_choose (hr.mono (by decide)) rfl (pa_cons (pv 0) (pa_cons (pe_lst (pa_cons pe_int (pa_cons (pe_un un_neg pe_int) pa_nil))) pa_nil))) (pg_sub (pv 6) (pv 3) set_list)))) (pss_one (ps_if (PW.pt (pw_and (pt_cmpR op_eq (pv 2) pe_int (nomark _)) (pw_and1 (PW.pt (pw_or (pt_cmpR op_lt (pv 1) pe_int (nomark _)) (pw_or1 (pt_cmpR op_eq (pe_dn D__law_tap (hr.mono (by decide)) rfl (pa_cons (pv 0) (pa_cons pe_int pa_nil))) pe_int (nomark _)))))))) (pss_one (ps_par (i := 5) (j := 6) (by rfl) sc_one.nd rfl rfl (by decide) rfl rfl (pa_cons (pe_dn D__law_stirred (hr.mono (by decide)) rfl (pa_cons (pv 0) (pa_cons (pv 5) pa_nil))) (pa_cons (pe_lc (own := [("place", 7)]) (g := gName 7) (tt := tYes) rfl sc_one.nd (pi_seqK K (pv 5)) (blkOk_by (N := ["keg", "wide", "way", "here", "there", "places", "signs", "place"]) (sc := defScope st__law_one) (by decide +kernel)) (fun _ _ _ _ _ => (pg_name (i := 7) sc_one.nd rfl (Or.inl rfl))) (fun _ _ _ _ _ => pts_nil) (fun _ _ _ _ _ => (pe_dn D__law_choose (hr.mono (by decide)) rfl (pa_cons (pv 0) (pa_cons (pe_lst (pa_cons pe_int (pa_cons (pe_un un_neg pe_int) pa_nil))) pa_nil))))) pa_nil)) (by rfl))) (pss_one (ps_set (i := 6) sc_one.nd rfl (Or.inl rfl) (pe_op op_rep (pe_lst (pa_cons (pe_un un_neg pe_int) pa_nil)) (pv 1)))))))))))
    (pss_one (ps_ret (pe_tup (pa_cons (pv 5) (pa_cons (pv 6) pa_nil)))))))), ?_⟩
    refine ⟨_, rfl, c, d, ns, m, 5, rfl, hC, by omega, by decide, small9000 (by decide), fun way H1 w0 w1 hC1 sb1 => ?_⟩
    refine ⟨_, rfl, _, rfl, c, d, ns, m + 1, (n : Nat), rfl, hC1, by omega, by omega, natAbs_small (k := 0) (by omega), fun r1 H2 a0 a1 hC2 sb2 => ?_⟩
    refine ⟨_, rfl, _, rfl, c, d, ns, m + 1 + 1, (n : Nat), rfl, hC2, by omega, by omega, natAbs_small (k := 0) (by omega), fun r2 H3 b0 b1 hC3 sb3 => ?_⟩
    obtain ⟨ia, rfl⟩ : ∃ j : Nat, r1 = (j : Int) := ⟨r1.toNat, by omega⟩
    obtain ⟨ib, rfl⟩ : ∃ j : Nat, r2 = (j : Int) := ⟨r2.toNat, by omega⟩
    have ha : ia < n := by omega
    have hb : ib < n := by omega
    have sb13 := sb1.trans (sb2.trans sb3)
    have sb4 := sb13
    have hC4 := hC3
    generalize H3 = H4 at hC4 sb4 ⊢
    refine ⟨_, _, _, rfl, ?_⟩
    refine ⟨_, rfl, _, rfl, ⟨by decide, by decide, by omega, by omega, ?_⟩, fun p hp => ?_⟩
    · rw [Int.sub_zero, Int.toNat_natCast]
      exact Nat.le_trans n6 (by decide)
    obtain ⟨npc, npd⟩ := hC4.ne hp
    have s5 := same_upd (o := .lst (rgV 0 (n : Nat))) hp
    have z5 : upd H4 p (.lst (rgV 0 (n : Nat))) p = some (.lst ((rng n).map V.int)) := by rw [upd_same, rng_rgV]
    have hC5 := hC4.but s5
    have hpH := sb4.free npc hp
    have sb5 := sb4.trans (SameBut.of s5)
    generalize upd H4 p (.lst (rgV 0 (n : Nat))) = H5 at z5 hC5 sb5 ⊢
    clear s5 hC4 sb4 hp
    refine ⟨(by show 1 ≤ sizeLine; decide), fun l hl => ⟨_, rfl, l, (n : Nat), _, rfl, rfl, upd_same, by omega, by omega, ?_, fun q hq => ?_⟩⟩
    · rw [Int.toNat_natCast]
      show 1 * n ≤ sizeLine
      exact Nat.le_trans (by omega : 1 * n ≤ 6) (by decide)
    have s6 := (same_upd (o := .lst [.int 1]) hl)
    have hC6 := hC5.but s6
    have sb6 := sb5.trans (SameBut.of s6)
    have z6 := s6 _ _ z5
    generalize upd H5 l (.lst [.int 1]) = H6 at hC6 sb6 z6 hq ⊢
    rw [Int.toNat_natCast]
    have er : (List.replicate n [V.int 1]).flatten = (List.replicate n (1 : Int)).map V.int := by
      rw [List.map_replicate, List.flatten_replicate_singleton]
    rw [er]
    obtain ⟨nqc, nqd⟩ := hC6.ne hq
    have s7 := same_upd (o := .lst ((List.replicate n (1 : Int)).map V.int)) hq
    have hC7 := hC6.but s7
    have hqH := sb6.free nqc hq
    have sb7 := sb6.trans (SameBut.of s7)
    have zp := s7 _ _ z6
    have zq : upd H6 q (.lst ((List.replicate n (1 : Int)).map V.int)) q = some (.lst ((List.replicate n (1 : Int)).map V.int)) := upd_same
    have npq : p ≠ q := fun e => by rw [← e, z6] at hq; cases hq
    generalize upd H6 q (.lst ((List.replicate n (1 : Int)).map V.int)) = H7 at hC7 sb7 zp zq ⊢
    clear s7 er hq hC6 sb6 z6 s6 hl hC5 sb5 z5
    have l1 : (List.replicate n (1 : Int)).length = n := List.length_replicate
    -- the end, however they were made
    have fin : ∀ (p q : Addr) (ps ss : List Int) (H' : Hp) (t : Addr), Lik ps ss → ps.length = n → H p = none → H q = none → p ≠ c → q ≠ c → H' p = some (.lst (ps.map V.int)) → H' q = some (.lst (ss.map V.int)) → Coil H' c d ns (m + 20) → SameBut c H H' → H' t = none → Q (.ref t) (upd H' t (.tup [.ref p, .ref q])) := fun p q ps ss H' t L hl h1 h2 n1 n2 z1 z2 hC' sb' ht => by
      obtain ⟨ntc, ntd⟩ := hC'.ne ht
      have s := same_upd (o := .tup [.ref p, .ref q]) ht
      exact k t p q ps ss _ L hl (sb'.free ntc ht) h1 h2 ntc n1 n2 upd_same (s _ _ z1) (s _ _ z2) (hC'.but s) (sb'.trans (SameBut.of s))
    refine ⟨_, _, rfl, ?_⟩
    refine ⟨_, rfl, rfl, ?_⟩
    rw [dec_int]
    refine ⟨_, rfl, ?_⟩
    by_cases c0 : way = 0
    · rw [show (way == 0) = true from by rw [c0]; rfl]
      refine iteT ?_
      refine ⟨1, rfl, _, rfl, _, rfl, q, _, (ia : Nat), ia, rfl, rfl, zq, ixN_nat (by rw [List.length_map, l1]; exact ha), ?_⟩
      rw [set_ints]
      refine ⟨_, rfl, _, rfl, (by show 2 ≤ sizeLine; decide), fun t ht => ?_⟩
      refine fin p q (rng n) _ _ t (.of n2 n6 (List.Perm.refl _) (by rw [List.length_set]; exact l1) (set_sg (.inr rfl))) (rng_len n) hpH hqH npc nqc (by rw [upd_ne npq]; exact zp) upd_same ((hC7.upd nqc nqd).more (by omega)) (fun b o e h => ?_) ht
      have := sb7 b o e h
      rw [upd_ne (ne_of_none h hqH)]
      exact this
    rw [show (way == 0) = false from by rw [beq_eq_false_iff_ne]; exact c0]
    refine iteF ?_
    refine ⟨_, rfl, rfl, ?_⟩
    rw [dec_int]
    refine ⟨_, rfl, ?_⟩
    by_cases c1 : way = 1
    · rw [show (way == 1) = true from by rw [c1]; rfl]
      refine iteT ?_
      have gb : (rng n)[ib]? = some ((rng n).getD ib 0) := by rw [List.getD_eq_getElem?_getD, List.getElem?_eq_getElem (by rw [rng_len]; exact hb)]; rfl
      have ga : (rng n)[ia]? = some ((rng n).getD ia 0) := by rw [List.getD_eq_getElem?_getD, List.getElem?_eq_getElem (by rw [rng_len]; exact ha)]; rfl
      refine ⟨_, rfl, _, rfl, false, p, _, _, .int ((rng n).getD ib 0), rfl, rfl, .of zp, atI_nat (by rw [List.getElem?_map, gb]; rfl), ?_⟩
      refine ⟨_, rfl, _, rfl, false, p, _, _, .int ((rng n).getD ia 0), rfl, rfl, .of zp, atI_nat (by rw [List.getElem?_map, ga]; rfl), ?_⟩
      refine ⟨(by show 2 ≤ sizeLine; decide), fun t1 ht1 => ?_⟩
      obtain ⟨n1c, n1d⟩ := hC7.ne ht1
      have n1p : t1 ≠ p := fun e => by rw [e, zp] at ht1; cases ht1
      have s8 := same_upd (o := .tup [.int ((rng n).getD ib 0), .int ((rng n).getD ia 0)]) ht1
      have hC8 := hC7.but s8
      have sb8 := sb7.trans (SameBut.of s8)
      have zp8 := s8 _ _ zp
      have zq8 := s8 _ _ zq
      have zt8 : upd H7 t1 (.tup [.int ((rng n).getD ib 0), .int ((rng n).getD ia 0)]) t1 = some (.tup [.int ((rng n).getD ib 0), .int ((rng n).getD ia 0)]) := upd_same
      generalize upd H7 t1 (.tup [.int ((rng n).getD ib 0), .int ((rng n).getD ia 0)]) = H8 at hC8 sb8 zp8 zq8 zt8 ⊢
      refine ⟨t1, _, rfl, .of zt8, rfl, _, _, rfl, _, rfl, _, rfl, p, _, (ia : Nat), ia, rfl, rfl, zp8, ixN_nat (by rw [List.length_map, rng_len]; exact ha), ?_⟩
      rw [set_ints]
      refine ⟨_, _, rfl, _, rfl, _, rfl, p, _, (ib : Nat), ib, rfl, rfl, upd_same, ixN_nat (by rw [List.length_map, List.length_set, rng_len]; exact hb), rfl, ?_⟩
      rw [set_ints]
      refine ⟨_, rfl, _, rfl, (by show 2 ≤ sizeLine; decide), fun t ht => ?_⟩
      refine fin p q _ (List.replicate n 1) _ t (.of n2 n6 (swap_perm n6 ha hb) l1 (fun s hs => .inl (List.eq_of_mem_replicate hs))) (by rw [List.length_set, List.length_set, rng_len]) hpH hqH npc nqc upd_same (by rw [upd_ne (Ne.symm npq), upd_ne (Ne.symm npq)]; exact zq8) (((hC8.upd npc npd).upd npc npd).more (by omega)) (fun b o e h => ?_) ht
      have := sb8 b o e h
      rw [upd_ne (ne_of_none h hpH), upd_ne (ne_of_none h hpH)]
      exact this
    rw [show (way == 1) = false from by rw [beq_eq_false_iff_ne]; exact c1]
    refine iteF ?_
    refine ⟨_, rfl, rfl, ?_⟩
    rw [dec_int]
    refine ⟨_, rfl, ?_⟩
    by_cases c2 : way = 2
    · rw [show (way == 2) = true from by rw [c2]; rfl]
      refine iteT ?_
      obtain ⟨rc1, rc2⟩ := rot_cut n2 n6
      refine ⟨_, rfl, 1, rfl, p, _, rfl, .of zp, fun x1 hx1 => ?_⟩
      rw [rc1]
      have s8 := same_upd (o := .lst (((rng n).drop 1).map V.int)) hx1
      have hC8 := hC7.but s8
      have sb8 := sb7.trans (SameBut.of s8)
      have zp8 := s8 _ _ zp
      have zq8 := s8 _ _ zq
      have zx8 : upd H7 x1 (.lst (((rng n).drop 1).map V.int)) x1 = some (.lst (((rng n).drop 1).map V.int)) := upd_same
      generalize upd H7 x1 (.lst (((rng n).drop 1).map V.int)) = H8 at hC8 sb8 zp8 zq8 zx8 ⊢
      refine ⟨_, rfl, 1, rfl, p, _, rfl, .of zp8, fun x2 hx2 => ?_⟩
      rw [rc2]
      have s9 := same_upd (o := .lst (((rng n).take 1).map V.int)) hx2
      have hC9 := hC8.but s9
      have sb9 := sb8.trans (SameBut.of s9)
      have zq9 := s9 _ _ zq8
      have zx9 := s9 _ _ zx8
      have zy9 : upd H8 x2 (.lst (((rng n).take 1).map V.int)) x2 = some (.lst (((rng n).take 1).map V.int)) := upd_same
      generalize upd H8 x2 (.lst (((rng n).take 1).map V.int)) = H9 at hC9 sb9 zq9 zx9 zy9 ⊢
      have lr : ((rng n).drop 1 ++ (rng n).take 1).length = n := rot_perm.length_eq.trans (rng_len n)
      refine ⟨x1, x2, _, _, rfl, rfl, zx9, zy9, ?_, fun p' hp' => ?_⟩
      · rw [List.length_map, List.length_map, ← List.length_append, lr]
        exact Nat.le_trans n6 (by decide)
      rw [← List.map_append]
      obtain ⟨np'c, np'd⟩ := hC9.ne hp'
      have s10 := same_upd (o := .lst (((rng n).drop 1 ++ (rng n).take 1).map V.int)) hp'
      have hp'H := sb9.free np'c hp'
      have hC10 := hC9.but s10
      have sb10 := sb9.trans (SameBut.of s10)
      have zq10 := s10 _ _ zq9
      have zp10 : upd H9 p' (.lst (((rng n).drop 1 ++ (rng n).take 1).map V.int)) p' = some (.lst (((rng n).drop 1 ++ (rng n).take 1).map V.int)) := upd_same
      have np'q : p' ≠ q := fun e => by rw [e, zq9] at hp'; cases hp'
      generalize upd H9 p' (.lst (((rng n).drop 1 ++ (rng n).take 1).map V.int)) = H10 at hC10 sb10 zq10 zp10 ⊢
      clear s10 hp' zy9 zx9 zq9 sb9 hC9 s9 hx2 zx8 zq8 zp8 sb8 hC8 s8 hx1
      refine ⟨_, rfl, _, rfl, (by show 2 ≤ sizeLine; decide), fun L3 hL3 => ?_⟩
      obtain ⟨n3c, n3d⟩ := hC10.ne hL3
      have s3 := same_upd (o := .lst [.int 1, .int (-1)]) hL3
      refine ⟨c, d, ns, _, false, L3, [.int 1, .int (-1)], rfl, hC10.but s3, by omega, .of (by rw [off_ne n3c]; exact upd_same), by decide, by decide, fun i y H11 hy hC11 sb11 => ?_⟩
      have hh : ∃ x : Int, y = .int x ∧ (x = 1 ∨ x = -1) := by
        have := List.mem_of_getElem? hy
        have : y = .int 1 ∨ y = .int (-1) := by simpa using this
        rcases this with rfl | rfl
        · exact ⟨1, rfl, .inl rfl⟩
        · exact ⟨-1, rfl, .inr rfl⟩
      obtain ⟨x, rfl, hx⟩ := hh
      have sb10' := (SameBut.of (c := c) s3).trans sb11
      have zq11 := sb10' _ _ nqc zq10
      have zp11 := sb10' _ _ np'c zp10
      refine ⟨_, rfl, _, rfl, q, _, (ia : Nat), ia, rfl, rfl, zq11, ixN_nat (by rw [List.length_map, l1]; exact ha), ?_⟩
      rw [set_ints]
      refine ⟨_, rfl, _, rfl, (by show 2 ≤ sizeLine; decide), fun t ht => ?_⟩
      refine fin p' q _ _ _ t (.of n2 n6 rot_perm (by rw [List.length_set]; exact l1) (set_sg hx)) lr hp'H hqH np'c nqc (by rw [upd_ne np'q]; exact zp11) upd_same ((hC11.upd nqc nqd).more (by omega)) (fun b o e h => ?_) ht
      have := sb10' b o e (sb10 b o e h)
      rw [upd_ne (ne_of_none h hqH)]
      exact this
    rw [show (way == 2) = false from by rw [beq_eq_false_iff_ne]; exact c2]
    refine iteF ?_
    refine ⟨_, rfl, rfl, ?_⟩
    rw [dec_int]
    refine ⟨_, rfl, ?_⟩
    by_cases c3 : way = 3
    · rw [show (way == 3) = true from by rw [c3]; rfl]
      refine iteT ?_
      refine ⟨_, rfl, (n : Nat), 4, rfl, rfl, _, rfl, ?_⟩
      by_cases c4 : ((n : Nat) : Int) < 4
      · rw [decide_eq_true c4]
        refine iteT ?_
        refine iteT ?_
        refine ⟨_, rfl, _, rfl, c, d, ns, _, false, p, (rng n).map V.int, rfl, hC7, by omega, .of (by rw [off_ne npc]; exact zp), by rw [List.length_map, rng_len]; omega, fun p' ys H8 hperm hp' np'c np'd zp8 hC8 sb8 => ?_⟩
        obtain ⟨ms, rfl, hms⟩ := perm_ints hperm
        have hp'H := sb7.free np'c hp'
        rw [List.length_map, rng_len] at hC8
        have sbH8 := sb7.trans sb8
        have zpo := sb8 _ _ npc zp
        refine ⟨_, rfl, false, p, rfl, ⟨_, .of zpo⟩, fun D hD => lc_drawW (walk_seq (b := false) (xs := (rng n).map V.int)) (fun _ y _ => ∃ x, y = .int x ∧ (x = 1 ∨ x = -1)) (k := 1) (by rw [List.length_map, rng_len]; omega) hD hC8 (fun H s => .of (s _ _ npc zpo)) (fun _ _ _ _ _ h => h) (fun _ _ _ _ _ _ h => h) ?_ ?_⟩
        · rintro i x H9 H9' m' hi hm' hC9 sb9 _ ⟨rfl, hx⟩ R hR
          rw [List.length_map, rng_len] at hm'
          refine ⟨rfl, ?_⟩
          refine ⟨_, rfl, _, rfl, (by show 2 ≤ sizeLine; decide), fun L3 hL3 => ?_⟩
          obtain ⟨n3c, n3d⟩ := hC9.ne hL3
          have s3 := same_upd (o := .lst [.int 1, .int (-1)]) hL3
          refine ⟨c, d, ns, m', false, L3, [.int 1, .int (-1)], rfl, hC9.but s3, by omega, .of (by rw [off_ne n3c]; exact upd_same), by decide, by decide, fun i y H4 hy hC4 sb4 => ?_⟩
          have : y = .int 1 ∨ y = .int (-1) := by
            have := List.mem_of_getElem? hy
            simpa using this
          rcases this with rfl | rfl
          · exact hR _ _ ⟨1, rfl, .inl rfl⟩ hC4 ((SameBut.of s3).trans sb4)
          · exact hR _ _ ⟨-1, rfl, .inr rfl⟩ hC4 ((SameBut.of s3).trans sb4)
        · intro H9 acc la hacc hD9 hC9 sb9
          obtain ⟨xs, rfl, lx, hxs⟩ := ints_acc hacc
          rw [List.length_map, List.length_map, rng_len] at la
          rw [List.length_map, rng_len] at hC9
          obtain ⟨nDc, nDd⟩ := hC8.ne hD
          refine ⟨_, _, rfl, ?_⟩
          refine ⟨_, rfl, _, rfl, (by show 2 ≤ sizeLine; decide), fun t ht => ?_⟩
          exact fin p' D ms xs _ t (.of n2 n6 hms la hxs) (hms.length_eq.trans (rng_len n)) hp'H (sbH8.free nDc hD) np'c nDc (sb9 _ _ np'c zp8) hD9 (hC9.more (by omega)) (sbH8.trans sb9) ht
      · rw [decide_eq_false c4]
        refine iteF ?_
        refine ⟨_, rfl, c, d, ns, _, 3, rfl, hC7, by omega, by decide, small9000 (by decide), fun r3 Hq r30 r31 hCq sbq => ?_⟩
        have sbq' := sb7.trans sbq
        have zpq := sbq _ _ npc zp
        refine ⟨rfl, ?_⟩
        rw [dec_int]
        refine ⟨_, rfl, ?_⟩
        by_cases c5 : r3 = 0
        · rw [show (r3 == 0) = true from by rw [c5]; rfl]
          refine iteT ?_
          refine ⟨_, rfl, _, rfl, c, d, ns, _, false, p, (rng n).map V.int, rfl, hCq, by omega, .of (by rw [off_ne npc]; exact zpq), by rw [List.length_map, rng_len]; omega, fun p' ys H8 hperm hp' np'c np'd zp8 hC8 sb8 => ?_⟩
          obtain ⟨ms, rfl, hms⟩ := perm_ints hperm
          have hp'H := sbq'.free np'c hp'
          rw [List.length_map, rng_len] at hC8
          have sbH8 := sbq'.trans sb8
          have zpo := sb8 _ _ npc zpq
          refine ⟨_, rfl, false, p, rfl, ⟨_, .of zpo⟩, fun D hD => lc_drawW (walk_seq (b := false) (xs := (rng n).map V.int)) (fun _ y _ => ∃ x, y = .int x ∧ (x = 1 ∨ x = -1)) (k := 1) (by rw [List.length_map, rng_len]; omega) hD hC8 (fun H s => .of (s _ _ npc zpo)) (fun _ _ _ _ _ h => h) (fun _ _ _ _ _ _ h => h) ?_ ?_⟩
          · rintro i x H9 H9' m' hi hm' hC9 sb9 _ ⟨rfl, hx⟩ R hR
            rw [List.length_map, rng_len] at hm'
            refine ⟨rfl, ?_⟩
            refine ⟨_, rfl, _, rfl, (by show 2 ≤ sizeLine; decide), fun L3 hL3 => ?_⟩
            obtain ⟨n3c, n3d⟩ := hC9.ne hL3
            have s3 := same_upd (o := .lst [.int 1, .int (-1)]) hL3
            refine ⟨c, d, ns, m', false, L3, [.int 1, .int (-1)], rfl, hC9.but s3, by omega, .of (by rw [off_ne n3c]; exact upd_same), by decide, by decide, fun i y H4 hy hC4 sb4 => ?_⟩
            have : y = .int 1 ∨ y = .int (-1) := by
              have := List.mem_of_getElem? hy
              simpa using this
            rcases this with rfl | rfl
            · exact hR _ _ ⟨1, rfl, .inl rfl⟩ hC4 ((SameBut.of s3).trans sb4)
            · exact hR _ _ ⟨-1, rfl, .inr rfl⟩ hC4 ((SameBut.of s3).trans sb4)
          · intro H9 acc la hacc hD9 hC9 sb9
            obtain ⟨xs, rfl, lx, hxs⟩ := ints_acc hacc
            rw [List.length_map, List.length_map, rng_len] at la
            rw [List.length_map, rng_len] at hC9
            obtain ⟨nDc, nDd⟩ := hC8.ne hD
            refine ⟨_, _, rfl, ?_⟩
            refine ⟨_, rfl, _, rfl, (by show 2 ≤ sizeLine; decide), fun t ht => ?_⟩
            exact fin p' D ms xs _ t (.of n2 n6 hms la hxs) (hms.length_eq.trans (rng_len n)) hp'H (sbH8.free nDc hD) np'c nDc (sb9 _ _ np'c zp8) hD9 (hC9.more (by omega)) (sbH8.trans sb9) ht
        · rw [show (r3 == 0) = false from by rw [beq_eq_false_iff_ne]; exact c5]
          refine iteF ?_
          refine ⟨1, rfl, (by show 1 ≤ sizeLine; decide), fun l hl => ⟨_, rfl, l, (n : Nat), _, rfl, rfl, upd_same, by omega, by omega, ?_, fun q' hq' => ?_⟩⟩
          · rw [Int.toNat_natCast]
            show 1 * n ≤ sizeLine
            exact Nat.le_trans (by omega : 1 * n ≤ 6) (by decide)
          have s6 := (same_upd (o := .lst [.int (-1)]) hl)
          have hC6 := hCq.but s6
          have sb6 := sbq'.trans (SameBut.of s6)
          have z6 := s6 _ _ zpq
          obtain ⟨nqc', nqd'⟩ := hC6.ne hq'
          rw [Int.toNat_natCast, show (List.replicate n [V.int (-1)]).flatten = (List.replicate n (-1 : Int)).map V.int from by rw [List.map_replicate, List.flatten_replicate_singleton]]
          have s7 := same_upd (o := .lst ((List.replicate n (-1 : Int)).map V.int)) hq'
          refine ⟨_, rfl, _, rfl, (by show 2 ≤ sizeLine; decide), fun t ht => ?_⟩
          exact fin p q' (rng n) (List.replicate n (-1)) _ t (.of n2 n6 (List.Perm.refl _) List.length_replicate (fun s hs => .inr (List.eq_of_mem_replicate hs))) (rng_len n) hpH (sb6.free nqc' hq') npc nqc' (s7 _ _ z6) upd_same ((hC6.but s7).more (by omega)) (sb6.trans (SameBut.of s7)) ht
    · rw [show (way == 3) = false from by rw [beq_eq_false_iff_ne]; exact c3]
      refine iteF ?_
      refine iteF ?_
      refine ⟨1, rfl, (by show 1 ≤ sizeLine; decide), fun l hl => ⟨_, rfl, l, (n : Nat), _, rfl, rfl, upd_same, by omega, by omega, ?_, fun q' hq' => ?_⟩⟩
      · rw [Int.toNat_natCast]
        show 1 * n ≤ sizeLine
        exact Nat.le_trans (by omega : 1 * n ≤ 6) (by decide)
      have s6 := (same_upd (o := .lst [.int (-1)]) hl)
      have hC6 := hC7.but s6
      have sb6 := sb7.trans (SameBut.of s6)
      have z6 := s6 _ _ zp
      obtain ⟨nqc', nqd'⟩ := hC6.ne hq'
      rw [Int.toNat_natCast, show (List.replicate n [V.int (-1)]).flatten = (List.replicate n (-1 : Int)).map V.int from by rw [List.map_replicate, List.flatten_replicate_singleton]]
      have s7 := same_upd (o := .lst ((List.replicate n (-1 : Int)).map V.int)) hq'
      refine ⟨_, rfl, _, rfl, (by show 2 ≤ sizeLine; decide), fun t ht => ?_⟩
      exact fin p q' (rng n) (List.replicate n (-1)) _ t (.of n2 n6 (List.Perm.refl _) List.length_replicate (fun s hs => .inr (List.eq_of_mem_replicate hs))) (rng_len n) hpH (sb6.free nqc' hq') npc nqc' (s7 _ _ z6) upd_same ((hC6.but s7).more (by omega)) (sb6.trans (SameBut.of s7)) ht
end
end K0


set_option Elab.async false
set_option linter.all false
set_option maxRecDepth 100000
set_option maxHeartbeats 4000000
/-! TooMany, of two fields -/
namespace K0
open PySem PySem.Spec PyProof.Rows L2 RZ K0z
section
variable {P : Program} {w : World} {K : PySem.W.Frag} {mg : Str → Option Value} {base : Heap} {f C : Addr} {fd : FuncData}
theorem sci_TooMany : FnScope ["self", "what", "most"] ["self", "what", "most"] (defScope si_TooMany) := ⟨rfl, rfl, rfl, by decide +kernel, rfl, by decide +kernel, by decide +kernel⟩
theorem oki_TooMany (F : Fun K "__init__" "TooMany.__init__" si_TooMany f fd) (T : OexC K C) (no : PySem.W.findIn K (.ref C) "what" = some none) (no2 : PySem.W.findIn K (.ref C) "most" = some none) :
    FnOk P w K mg base CX0 1 f fd ["self", "what", "most"] (spI C 2 fs2) := by
  refine F.ok sci_TooMany (fun vs H Q E h => ?_) (fun cdv A outer s H vs Q E hr h => ?_)
  · obtain ⟨a, ws, rfl, hl, _⟩ := h
    show ws.length + 1 = 3
    omega
  · obtain ⟨a, ws, rfl, hl, ha, k⟩ := h
    match ws, hl with
    | [x, y], _ =>
      refine ⟨_, (pss_cons (ps_ost (pv 0) (pv 1)) (pss_one (ps_ost (pv 0) (pv 2)))), ?_⟩
      refine ⟨_, rfl, _, rfl, a, C, rfl, T, no, .inl ⟨ha, fun d hd hda => ?_⟩⟩
      refine ⟨_, rfl, _, rfl, a, C, rfl, T, no2, .inr ⟨d, _, upd_same, (by rw [upd_ne hda, upd_same]), (by show 1 ≤ 900; decide), ?_⟩⟩
      refine k d _ hd hda (by rw [upd_ne (Ne.symm hda), upd_same]) (by rw [upd_same]; rfl) fun b o hb e => ?_
      have hbd : b ≠ d := ne_of_none e hd
      rw [upd_ne hbd, upd_ne hb, upd_ne hbd]
      exact e
abbrev si_Impossible : Stmt := inClass (topS 17) 0
end
/-- what a raise of it, by place, wants -/
def RaiseC2 (P : Program) (w : World) (K : PySem.W.Frag) (mg : Str → Option Value) (base : Heap) (x : Str) (C : Addr) : Prop :=
  ∃ fI fd ps, PySem.W.findIn K (.ref C) "__init__" = some (some (.ref fI)) ∧ PySem.W.typeIn K (.ref fI) = some (.type "function") ∧ FnOk P w K mg base CX0 1 fI fd ps (spI C 2 fs2) ∧ Binds K fd ps [] ∧ OexC K C ∧ mg x = some (.ref C)
section
variable {X : Cx} {C : Addr} {x : Str} {p pos : Pos} {e e' : Expr} {v v' : V}
theorem pmk_c2 (D : RaiseC2 X.prog X.w X.K X.mg X.base x C) (hr : Room 2 X.A) (hg : Gl X x) (ha : PA X [e, e'] (tCons (tC v) (tCons (tC v') tNil)))
    (hdb : (x == ("__debug__" : Str)) = false := by decide) (hs : starEach [e, e'] X.env = (false, eval e X.env) :: starEach [e'] X.env := by rfl) (hpl : ((backTo pos (starEach [e'] X.env)).any fun x => x.1) = false := by rfl) :
    PMk X (.Call (.Name x p) [e, e'] [] pos) (fun _ H Q => ∀ (d : Addr) (H' : Hp), H d = none → H' d = some (.xd (fs2 [v, v'])) → Same H H' → Q (.ref C) (some d) H') := by
  obtain ⟨fI, fd, ps, h1, h2, F, B, T, m⟩ := D
  have h := pmk_oex (p := p) (pos := pos) T h1 h2 F hr B .nil pass0 hg m ha hdb hs hpl
  intro pins s σ H1 Q I q
  refine h pins s σ H1 Q I ?_
  refine ⟨by show 2 ≤ 1000; decide, fun a ha => ⟨a, [v, v'], rfl, rfl, upd_same, fun d H2 hd hda e1 e2 e3 => ⟨rfl, d, _, e1, e2, ?_, ?_⟩⟩⟩
  · rw [upd_ne hda] at hd
    exact hd
  · rw [upd_ne hda] at hd
    refine q d _ hd upd_same fun b o hb => ?_
    have nb : b ≠ d := ne_of_none hb hd
    have nba : b ≠ a := ne_of_none hb ha
    rw [upd_ne nb, del_ne nba]
    exact e3 b o nba (by rw [upd_ne nba]; exact hb)
end
end K0


set_option Elab.async false
set_option linter.all false
set_option maxRecDepth 100000
set_option maxHeartbeats 8000000
/-! _check_points_and_given -/
namespace K0
open PySem PySem.Spec PyProof.Rows L2 RZ K0z KdN ScT
/-- v: no list or tuple; or one whose items are likenesses or not -/
def GvAt (K : PySem.W.Frag) (C : Addr) (H : Hp) (v : V) : Option (List (Option (List Int × List Int))) → Prop
  | none => Seqs K H v none
  | some gs => ∃ vs : List V, Seqs K H v (some vs) ∧ vs.length = gs.length ∧ ∀ (i : Nat) (u : V) (o : Option (List Int × List Int)), vs[i]? = some u → gs[i]? = some o → match o with
    | some q => ∃ a, u = .ref a ∧ LikAt K H a C q.1 q.2
    | none => NoLik K C H u
theorem GvAt.same {K : PySem.W.Frag} {C : Addr} {H H' : Hp} {v : V} {o : Option (List (Option (List Int × List Int)))} (s : Same H H') (h : GvAt K C H v o) : GvAt K C H' v o := by
  cases o with
  | none =>
    have h' : Seqs K H v none := h
    exact Seqs.same s h'
  | some gs =>
    obtain ⟨vs, h1, h2, h3⟩ := h
    refine ⟨vs, h1.same s, h2, fun i u o a b => ?_⟩
    have z := h3 i u o a b
    cases o with
    | none => exact NoLik.same z s
    | some q =>
      obtain ⟨a, e, z⟩ := z
      exact ⟨a, e, z.same s⟩
def okP : Option (List (Option (List V))) → Bool
  | none => false
  | some os => within (.int os.length) (.int 1) (.int 48) && ptsB os (.int 2) (.int 6)
def ksOf (os : List (Option (List V))) : List (List Int) := os.map fun o => intsOf (o.getD [])
def okG (n : Nat) : Option (List (Option (List Int × List Int))) → Bool
  | none => false
  | some gs => within (.int gs.length) (.int 0) (.int 10) && (gs.all Option.isSome && gs.all fun o => decide ((o.getD ([], [])).1.length = n))
def spChk (K : PySem.W.Frag) (CP CB C : Addr) : Sp := fun vs H Q E => ∃ (v1 v2 : V) (o1 : Option (List (Option (List V)))) (o2 : Option (List (Option (List Int × List Int)))), vs = [v1, v2] ∧ ValAt K H v1 o1 ∧ GvAt K C H v2 o2 ∧
  (okP o1 = false → raisesN CP "points" H E) ∧ ∀ os, o1 = some os → okP o1 = true → (¬ (ksOf os).Nodup → raisesN CP "points" H E) ∧ ((ksOf os).Nodup → (okG ((ksOf os).headD []).length o2 = false → raisesN CB "given" H E) ∧ (okG ((ksOf os).headD []).length o2 = true → ∀ H', Same H H' → Q .non H'))
section
variable {P : Program} {w : World} {K : PySem.W.Frag} {mg : Str → Option Value} {base : Heap} {f g g2 C CP CB : Addr} {fd : FuncData}
abbrev N__check_points_and_given : List Str := ["points", "given", "point", "each"]
theorem sc_check : FnScope N__check_points_and_given ["points", "given"] (defScope st__check_points_and_given) := ⟨rfl, rfl, rfl, by decide +kernel, rfl, by decide +kernel, by decide +kernel⟩
theorem ok_check (F : Fun K "_check_points_and_given" "_check_points_and_given" st__check_points_and_given f fd) (T : Nm mg) (U : LikD K C) (mC : mg "Likeness" = some (.ref C)) (D_is_list : Dn P w K mg base 3 "is_list" g ["value", "least", "most"] (spIsList K)) (D_are_points : Dn P w K mg base 6 "are_points" g2 ["value", "least_wide", "most_wide"] (spPts K))
    (R_BadPoint : RaiseC P w K mg base "BadPoint" CP "part") (R_BadLikeness : RaiseC P w K mg base "BadLikeness" CB "part") : FnOk P w K mg base (L2.CX P w) 7 f fd ["points", "given"] (spChk K CP CB C) := by
  refine F.okX sc_check (fun vs H Q E h => ?_) (fun cdv A outer s H vs Q E hr h => ?_)
  · obtain ⟨v1, v2, _, _, rfl, _⟩ := h
    rfl
  · obtain ⟨v1, v2, o1, o2, rfl, hv1, hv2, k1, k2⟩ := h
    refine ⟨_, (pss_cons (ps_if (PW.pt (pw_or (pt_not (pt_val (pe_dn D_is_list (hr.mono (by decide)) rfl (pa_cons (pv 0) (pa_cons pe_int (pa_cons (pe_cint (by rfl) T.c_MOST_POINTS) pa_nil)))))) (pw_or1 (pt_not (pt_val (pe_dn D_are_points (hr.mono (by decide)) rfl (pa_cons (pv 0) (pa_cons (pe_cint (by rfl) T.c_LEAST_WIDE) (pa_cons (pe_cint (by rfl) T.c_MOST_WIDE) pa_nil))))))))) (pss_one (ps_raise rfl (takes_of rfl rfl rfl rfl) (pmk_c R_BadPoint (hr.mono (by decide)) rfl (pa_cons pe_str pa_nil)))) pss_nil)
    (pss_cons (ps_if (pt_cmpR op_lt (pe_callB (call_lenT P w) (by rfl) T.n_len (by decide +kernel) (pa_cons (pe_scT (own := [("point", 2)]) (g := gName 2) (tt := tYes) rfl sc_check.nd hr.units (pi_seqK K (pv 0)) (blkOk_by (N := ["points", "given", "point", "each"]) (sc := defScope st__check_points_and_given) (by decide +kernel)) (fun _ _ _ _ _ => (pg_name (i := 2) sc_check.nd rfl (Or.inl rfl))) (fun _ _ _ _ _ => pts_nil) (fun _ _ _ _ _ => (pe_callTy (call_tupK K) (by rfl) T.n_tuple (by decide +kernel) (pa_cons (pv 2) pa_nil)))) pa_nil)) (pe_callB (call_lenK K) (by rfl) T.n_len (by decide +kernel) (pa_cons (pv 0) pa_nil)) (nomark _)) (pss_one (ps_raise rfl (takes_of rfl rfl rfl rfl) (pmk_c R_BadPoint (hr.mono (by decide)) rfl (pa_cons pe_str pa_nil)))) pss_nil)
    (pss_cons (ps_if (PW.pt (pw_or (pt_not (pt_val (pe_dn D_is_list (hr.mono (by decide)) rfl (pa_cons (pv 1) (pa_cons pe_int (pa_cons (pe_cint (by rfl) T.c_MOST_GIVEN) pa_nil)))))) (pw_or1 (pt_not (pt_val (pe_callB (cr_all rfl) (by rfl) T.n_all (by decide +kernel) (pa_cons (pe_lc (own := [("each", 3)]) (g := gName 3) (tt := tYes) rfl sc_check.nd (pi_seqK K (pv 1)) (blkOk_by (N := ["points", "given", "point", "each"]) (sc := defScope st__check_points_and_given) (by decide +kernel)) (fun _ _ _ _ _ => (pg_name (i := 3) sc_check.nd rfl (Or.inl rfl))) (fun _ _ _ _ _ => pts_nil) (fun _ _ _ _ _ => (pe_callB (call_isAK K) (by rfl) T.n_isinstance (by decide +kernel) (pa_cons (pv 3) (pa_cons (pe_glob (v := .ref C) (by rfl) mC rfl (by decide)) pa_nil))))) pa_nil))))))) (pss_one (ps_raise rfl (takes_of rfl rfl rfl rfl) (pmk_c R_BadLikeness (hr.mono (by decide)) rfl (pa_cons pe_str pa_nil)))) pss_nil)
    (pss_one (ps_if (pt_not (pt_val (pe_callB (cr_all rfl) (by rfl) T.n_all (by decide +kernel) (pa_cons (pe_lc (own := [("each", 3)]) (g := gName 3) (tt := tYes) rfl sc_check.nd (pi_seqK K (pv 1)) (blkOk_by (N := ["points", "given", "point", "each"]) (sc := defScope st__check_points_and_given) (by decide +kernel)) (fun _ _ _ _ _ => (pg_name (i := 3) sc_check.nd rfl (Or.inl rfl))) (fun _ _ _ _ _ => pts_nil) (fun _ _ _ _ _ => (pe_cmpR op_eq (pe_fldK K (pv 3) rfl) (pe_callB (call_lenK K) (by rfl) T.n_len (by decide +kernel) (pa_cons (pe_ix (ix_K K) (pv 0) pe_int (fun _ _ => rfl)) pa_nil)) (nomark _)))) pa_nil)))) (pss_one (ps_raise rfl (takes_of rfl rfl rfl rfl) (pmk_c R_BadLikeness (hr.mono (by decide)) rfl (pa_cons pe_str pa_nil)))) pss_nil))))), ?_⟩
    have hs : ∃ o, Seqs K H v1 o ∧ (o = none → o1 = none) ∧ ∀ vs, o = some vs → ∃ os, o1 = some os ∧ vs.length = os.length := by
      cases o1 with
      | none => exact ⟨none, hv1, fun _ => rfl, fun vs e => by cases e⟩
      | some os =>
        obtain ⟨vs, h1, h2, _⟩ := id hv1
        exact ⟨some vs, h1, (fun e => by cases e), fun vs' e => by cases e; exact ⟨os, rfl, h2⟩⟩
    obtain ⟨ol, hsl, hn1, hs1⟩ := hs
    refine ⟨_, rfl, v1, .int 1, .int 48, ol, rfl, hsl, .inr ⟨_, rfl⟩, .inr ⟨_, rfl⟩, fun H1 s1 => ⟨_, rfl, ?_⟩⟩
    cases e1 : lenB ol (.int 1) (.int 48) with
    | false =>
      have eo : okP o1 = false := by
        cases ol with
        | none => rw [hn1 rfl]; rfl
        | some vs =>
          obtain ⟨os, rfl, hl⟩ := hs1 vs rfl
          have e1 : within (.int vs.length) (.int 1) (.int 48) = false := e1
          show (within (.int os.length) (.int 1) (.int 48) && ptsB os (.int 2) (.int 6)) = false
          rw [← hl, e1]
          rfl
      exact iteT (iteT (fun dd H' h1 h2 s3 => (k1 eo).same s1 dd H' h1 h2 s3))
    | true =>
      refine iteF ?_
      cases ol with
      | none => cases e1
      | some vs0 =>
      obtain ⟨os, rfl, hl0⟩ := hs1 vs0 rfl
      have e1 : within (.int vs0.length) (.int 1) (.int 48) = true := e1
      have lb : 1 ≤ vs0.length ∧ vs0.length ≤ 48 := by
        have := lenB_of (xs := vs0) (l := 1) (m := 48) e1
        omega
      have ne : os ≠ [] := fun z => by rw [z] at hl0; have : vs0.length = 0 := hl0; omega
      refine ⟨_, rfl, v1, 2, 6, os, rfl, hv1.same s1, ne, fun H2 s2 => ⟨_, rfl, ?_⟩⟩
      have s12 := s1.trans s2
      have eoP : okP (some os) = ptsB os (.int 2) (.int 6) := by
        show (within (.int os.length) (.int 1) (.int 48) && ptsB os (.int 2) (.int 6)) = _
        rw [← hl0, e1]
        rfl
      cases e2 : ptsB os (.int 2) (.int 6) with
      | false => exact iteT (fun dd H' h1 h2 s3 => (k1 (eoP.trans e2)).same s12 dd H' h1 h2 s3)
      | true =>
      refine iteF ?_
      obtain ⟨k3, k4⟩ := k2 os rfl (eoP.trans e2)
      obtain ⟨vs, hS, hl, hz⟩ := (hv1.same s12 : ValAt K H2 v1 (some os))
      obtain ⟨b, p, rfl, hB, hz2⟩ := hS.sqB
      have hl48 : os.length ≤ 48 := by omega
      have rows : ∀ (i : Nat) u, vs[i]? = some u → ∃ ys b' a', os[i]? = some (some ys) ∧ ys = (intsOf ys).map V.int ∧ u = .ref a' ∧ SqB K b' H2 a' ys := fun i u hu => by
        have hi := (List.getElem?_eq_some_iff.mp hu).1
        obtain ⟨u', g1, g2, g3, _⟩ := ValAt.get hl hz (i := i) (by omega)
        rw [hu] at g1
        cases g1
        have hb : ∀ o ∈ os, ∃ ys, o = some ys ∧ intsB (some ys) = true := by
          intro o ho
          cases os with
          | nil => exact absurd rfl ne
          | cons o0 r =>
            have e3 : (lenB o0 (.int 2) (.int 6) && (o0 :: r).all fun q => lenB q (.int (o0.getD []).length) (.int (o0.getD []).length) && intsB q) = true := e2
            rw [Bool.and_eq_true] at e3
            have e4 := List.all_eq_true.mp e3.2 o ho
            rw [Bool.and_eq_true] at e4
            cases o with
            | none => cases e4.2
            | some ys => exact ⟨ys, rfl, e4.2⟩
        obtain ⟨ys, e3, e4⟩ := hb _ (List.mem_of_getElem? g2)
        rw [e3] at g2 g3
        obtain ⟨b', a', e5, h5, _⟩ := Seqs.sqB g3
        exact ⟨ys, b', a', g2, map_intsOf e4, e5, h5⟩
      have hkl : (ksOf os).length = vs.length := by unfold ksOf; rw [List.length_map, hl]
      refine ⟨_, rfl, b, p, rfl, ⟨_, hB⟩, fun D hD => ?_⟩
      refine scT_it (walk_seq (b := b) (xs := vs)) (fun i H' => ∃ L, SetOf L ((ksOf os).take i) ∧ L.length ≤ i ∧ Same H2 H' ∧ H' D = some (SetTO P w D L) ∧ ∀ q ∈ L, SqT K H' q.1 (q.2.map V.int)) ⟨[], SetOf.nil, Nat.le_refl _, same_upd hD, upd_same, fun q h => absurd h List.not_mem_nil⟩ (fun i H' _ ⟨_, _, _, s, _⟩ => hB.same s) ?_ ?_
      · rintro i x H3 H3' hi ⟨L, hL, hLl, s3, hD3, hT⟩ ⟨rfl, hx⟩
        obtain ⟨ys, b', a', g1, g2, rfl, g3⟩ := rows i x hx
        have gk : (ksOf os)[i]? = some (intsOf ys) := by unfold ksOf; rw [List.getElem?_map, g1]; rfl
        have tk : (ksOf os).take (i + 1) = (ksOf os).take i ++ [intsOf ys] := by rw [List.take_succ, gk]; rfl
        have fin : ∀ {c : Addr} {H4 : Hp}, Same H3' H4 → SqT K H4 c ys → ∃ (c' : Addr) (k : List Int) (L : List (Addr × List Int)), V.ref c = .ref c' ∧ H4 D = some (SetTO P w D L) ∧ (∀ q ∈ L, SqT K H4 q.1 (q.2.map V.int)) ∧ SqT K H4 c' (k.map V.int) ∧ L.length + 1 < 64 ∧ ∀ L', Grown L c' k L' → ∃ L2, SetOf L2 ((ksOf os).take (i + 1)) ∧ L2.length ≤ i + 1 ∧ Same H2 (upd H4 D (SetTO P w D L')) ∧ (upd H4 D (SetTO P w D L')) D = some (SetTO P w D L2) ∧ ∀ q ∈ L2, SqT K (upd H4 D (SetTO P w D L')) q.1 (q.2.map V.int) := fun {c H4} s4 hc => by
          have hD4 := s4 _ _ hD3
          rw [g2] at hc
          refine ⟨c, intsOf ys, L, rfl, hD4, fun q hq => same_sqT s4 (hT q hq), hc, by omega, fun L' gr => ⟨L', by rw [tk]; exact hL.grow gr, ?_, same_at hD4 (s3.trans s4) hD, upd_same, fun q hq => ?_⟩⟩
          · by_cases hm : intsOf ys ∈ L.map (·.2)
            · rw [gr.1 hm]; omega
            · rw [(gr.2 hm).length_eq, List.length_cons]; omega
          · refine sqT_ext (φ := fun h => SetT0 P w h D L) hD4 ?_
            by_cases hm : intsOf ys ∈ L.map (·.2)
            · rw [gr.1 hm] at hq
              exact same_sqT s4 (hT q hq)
            · rcases List.mem_cons.mp ((gr.2 hm).mem_iff.mp hq) with e | hq
              · rw [e]; exact hc
              · exact same_sqT s4 (hT q hq)
        refine ⟨rfl, ?_⟩
        refine ⟨_, rfl, b', a', ys, rfl, g3.same s3, fun hb l hl => ?_, fun hb => ?_⟩
        · exact fin (same_upd hl) (.of upd_same)
        · subst hb
          exact fin (Same.refl _) (g3.same s3)
      · rintro H3 ⟨L, hL, _, s3, hD3, hT⟩
        rw [← hkl, List.take_length] at hL
        refine ⟨D, L, rfl, hD3, _, rfl, b, p, vs, rfl, hB.same s3, _, _, rfl, rfl, _, rfl, ?_⟩
        rw [← hkl, hL.len]
        have s13 := s12.trans s3
        by_cases nd : (ksOf os).Nodup
        · rw [decide_eq_true nd]
          refine iteF ?_
          obtain ⟨k5, k6⟩ := k4 nd
          have hg : ∃ o, Seqs K H3 v2 o ∧ (o = none → o2 = none) ∧ ∀ us, o = some us → ∃ gs, o2 = some gs ∧ us.length = gs.length ∧ ∀ (i : Nat) (u : V) (q : Option (List Int × List Int)), us[i]? = some u → gs[i]? = some q → match q with
              | some q => ∃ a, u = .ref a ∧ LikAt K H3 a C q.1 q.2
              | none => NoLik K C H3 u := by
            have hv := hv2.same s13
            cases o2 with
            | none => exact ⟨none, hv, fun _ => rfl, fun us e => by cases e⟩
            | some gs =>
              obtain ⟨us, h1, h2, h3⟩ := id hv
              exact ⟨some us, h1, (fun e => by cases e), fun us' e => by cases e; exact ⟨gs, rfl, h2, h3⟩⟩
          obtain ⟨og, hog, hn2, hs2⟩ := hg
          refine ⟨_, rfl, v2, .int 0, .int 10, og, rfl, hog, .inr ⟨_, rfl⟩, .inr ⟨_, rfl⟩, fun H4 s4 => ⟨_, rfl, ?_⟩⟩
          have s14 := s13.trans s4
          cases e3 : lenB og (.int 0) (.int 10) with
          | false =>
            have eo : okG ((ksOf os).headD []).length o2 = false := by
              cases og with
              | none => rw [hn2 rfl]; rfl
              | some us =>
                obtain ⟨gs, rfl, hl, _⟩ := hs2 us rfl
                have e3 : within (.int us.length) (.int 0) (.int 10) = false := e3
                show (within (.int gs.length) (.int 0) (.int 10) && (gs.all Option.isSome && gs.all fun o => decide ((o.getD ([], [])).1.length = ((ksOf os).headD []).length))) = false
                rw [← hl, e3]
                rfl
            exact iteT (iteT (fun dd H' h1 h2 s5 => (k5 eo).same s14 dd H' h1 h2 s5))
          | true =>
          refine iteF ?_
          cases og with
          | none => cases e3
          | some us =>
          obtain ⟨gs, rfl, hgl, hgz⟩ := hs2 us rfl
          have e3 : within (.int us.length) (.int 0) (.int 10) = true := e3
          have lg : us.length ≤ 10 := by
            have := lenB_of (xs := us) (l := 0) (m := 10) e3
            omega
          have eoG : okG ((ksOf os).headD []).length (some gs) = (gs.all Option.isSome && gs.all fun o => decide ((o.getD ([], [])).1.length = ((ksOf os).headD []).length)) := by
            show (within (.int gs.length) (.int 0) (.int 10) && (gs.all Option.isSome && gs.all fun o => decide ((o.getD ([], [])).1.length = ((ksOf os).headD []).length))) = _
            rw [← hgl, e3]
            rfl
          obtain ⟨bg, pg, rfl, hBg, _⟩ := Seqs.sqB (Seqs.same s4 hog)
          refine ⟨_, rfl, bg, pg, rfl, ⟨_, hBg⟩, fun D2 hD2 => lc_fun (fun i => V.bl (gs.getD i none).isSome) (walk_seq (b := bg) (xs := us)) hD2 (Nat.lt_of_le_of_lt (m := 10) lg (by decide)) (fun H s => hBg.same s) ?_ ?_⟩
          · rintro i x H5 H5' hi s5 _ ⟨rfl, hx⟩ Rk kk
            have s45 := s4.trans s5
            have gi : gs[i]? = some (gs[i]'(by omega)) := List.getElem?_eq_getElem (by omega)
            have z := hgz i x _ hx gi
            have e := kk _ (Same.refl _)
            rw [List.getD_eq_getElem?_getD, gi] at e
            dsimp only [Option.getD_some] at e
            generalize gs[i]'(by omega) = q at z e
            cases q with
            | none =>
              obtain ⟨t, ty, ek⟩ := NoLik.same z s45
              exact ⟨rfl, _, rfl, _, .ref C, _, _, false, rfl, .own _, ty, ek, e⟩
            | some q =>
              obtain ⟨a, rfl, hL⟩ := z
              obtain ⟨_, dx, _, _, fs, ha, _⟩ := hL.same s45
              exact ⟨rfl, _, rfl, _, .ref C, _, _, true, rfl, .own _, lik_ty U ha, U.me, e⟩
          intro H5 hD5 s5
          have eD : (List.range us.length).map (fun i => V.bl (gs.getD i none).isSome) = (gs.map Option.isSome).map V.bl := by
            rw [hgl, range_map_getD gs none (fun q => V.bl q.isSome), List.map_map]
            rfl
          rw [eD] at hD5
          refine ⟨D2, _, rfl, .of hD5, ⟨_, rfl, ?_⟩⟩
          rw [show ((gs.map Option.isSome).all id) = gs.all Option.isSome from by rw [List.all_map]; rfl]
          have s15 := s14.trans s5
          cases e4 : gs.all Option.isSome with
          | false => exact iteT (fun dd H' h1 h2 s6 => (k5 (by rw [eoG, e4]; rfl)).same s15 dd H' h1 h2 s6)
          | true =>
          refine iteF ?_
          obtain ⟨u0, hu0⟩ : ∃ u0, vs[0]? = some u0 := ⟨vs[0]'(by omega), List.getElem?_eq_getElem (by omega)⟩
          obtain ⟨ys0, b0, a0, f1, f2, rfl, f3⟩ := rows 0 u0 hu0
          have hw0 : (ksOf os).headD [] = intsOf ys0 := by
            have : (ksOf os)[0]? = some (intsOf ys0) := by unfold ksOf; rw [List.getElem?_map, f1]; rfl
            cases hk : ksOf os with
            | nil => rw [hk] at this; cases this
            | cons k r => rw [hk] at this; exact Option.some.inj this
          have hy0 : ys0.length = (intsOf ys0).length := by rw [f2, intsOf_map, List.length_map]
          have s35 := s3.trans (s4.trans s5)
          refine ⟨_, rfl, bg, pg, rfl, ⟨_, hBg.same s5⟩, fun D3 hD3' => lc_fun (fun i => V.bl (decide (((gs.getD i none).getD ([], [])).1.length = (intsOf ys0).length))) (walk_seq (b := bg) (xs := us)) hD3' (Nat.lt_of_le_of_lt (m := 10) lg (by decide)) (fun H s => hBg.same (s5.trans s)) ?_ ?_⟩
          · rintro i x H6 H6' hi s6 _ ⟨rfl, hx⟩ Rk kk
            have s46 := s4.trans (s5.trans s6)
            have gi : gs[i]? = some (gs[i]'(by omega)) := List.getElem?_eq_getElem (by omega)
            have z := hgz i x _ hx gi
            have e := kk _ (Same.refl _)
            rw [List.getD_eq_getElem?_getD, gi] at e
            dsimp only [Option.getD_some] at e
            have ism := List.all_eq_true.mp e4 _ (List.mem_of_getElem? gi)
            generalize gs[i]'(by omega) = q at z e ism
            cases q with
            | none => cases ism
            | some q =>
              obtain ⟨a, rfl, hL⟩ := z
              obtain ⟨_, dx, _, _, fs, ha, _, _, _, _, g3, _⟩ := hL.same s46
              refine ⟨rfl, _, rfl, a, C, dx, fs, _, rfl, ha, U.cl, U.nW, g3, _, rfl, b, p, vs, 0, _, rfl, rfl, hB.same (s35.trans s6), atI_nat (j := 0) hu0, b0, a0, ys0, rfl, f3.same (s35.trans s6), rfl, ?_⟩
              rw [dec_int]
              have ed : (((q.1.length : Nat) : Int) == ((ys0.length : Nat) : Int)) = decide (q.1.length = (intsOf ys0).length) := by
                rw [hy0, Bool.eq_iff_iff, beq_iff_eq, decide_eq_true_eq]
                omega
              rw [ed]
              exact e
          intro H6 hD6 s6
          have eD : (List.range us.length).map (fun i => V.bl (decide (((gs.getD i none).getD ([], [])).1.length = (intsOf ys0).length))) = (gs.map fun o => decide ((o.getD ([], [])).1.length = (intsOf ys0).length)).map V.bl := by
            rw [hgl, range_map_getD gs none (fun o => V.bl (decide ((o.getD ([], [])).1.length = (intsOf ys0).length))), List.map_map]
            rfl
          rw [eD] at hD6
          refine ⟨D3, _, rfl, .of hD6, ⟨_, rfl, ?_⟩⟩
          rw [show ((gs.map fun o => decide ((o.getD ([], [])).1.length = (intsOf ys0).length)).all id) = gs.all (fun o => decide ((o.getD ([], [])).1.length = (intsOf ys0).length)) from by rw [List.all_map]; rfl]
          have s16 := s15.trans s6
          rw [hw0] at eoG k5 k6
          cases e5 : gs.all (fun o => decide ((o.getD ([], [])).1.length = (intsOf ys0).length)) with
          | false => exact iteT (fun dd H' h1 h2 s7 => (k5 (by rw [eoG, e5, Bool.and_false])).same s16 dd H' h1 h2 s7)
          | true =>
            refine iteF ?_
            exact k6 (by rw [eoG, e4, e5]; rfl) _ s16
        · rw [decide_eq_false nd]
          exact iteT (fun dd H' h1 h2 s4 => (k3 nd).same s13 dd H' h1 h2 s4)
end
end K0


set_option Elab.async false
set_option linter.all false
set_option maxRecDepth 100000
set_option maxHeartbeats 4000000
/-! what a list's or a dict's change leaves; keys of a dict of pairs -/
namespace K0
open PySem PySem.Spec PyProof.Rows L2 RZ K0z KdN
theorem sqT_lst {K : PySem.W.Frag} {H : Hp} {D a : Addr} {l : List V} {o : HO} {xs : List V} (hD : H D = some (.lst l)) (h : SqT K H a xs) : SqT K (upd H D o) a xs := by
  rcases h with (h | ⟨u, h⟩) | h
  · exact .inl (.inl (by rw [upd_ne (fun z => by rw [z, hD] at h; cases h)]; exact h))
  · exact .inl (.inr ⟨u, by rw [upd_ne (fun z => by rw [z, hD] at h; cases h)]; exact h⟩)
  · exact .inr h
theorem Rp.lst {K : PySem.W.Frag} {H : Hp} {D : Addr} {l : List V} {o : HO} {x : V} {q : Q2} (hD : H D = some (.lst l)) (h : Rp K H x q) : Rp K (upd H D o) x q := by
  obtain ⟨t, p, r, e, h1, h2, h3⟩ := h
  exact ⟨t, p, r, e, sqT_lst hD h1, sqT_lst hD h2, sqT_lst hD h3⟩
theorem Rp.ext {K : PySem.W.Frag} {H : Hp} {D : Addr} {φ : Heap → Prop} {o : HO} {x : V} {q : Q2} (hD : H D = some (.ext φ)) (h : Rp K H x q) : Rp K (upd H D o) x q := by
  obtain ⟨t, p, r, e, h1, h2, h3⟩ := h
  exact ⟨t, p, r, e, sqT_ext hD h1, sqT_ext hD h2, sqT_ext hD h3⟩
theorem _root_.KdN.NkV.lst {K : PySem.W.Frag} {H : Hp} {D a : Addr} {l : List V} {o : HO} {k : NestedKey} (hD : H D = some (.lst l)) (h : NkV K H k a) : NkV K (upd H D o) k a := by
  cases h with
  | ofI h => exact .ofI (sqT_lst hD h)
  | ofP h h1 h2 => exact .ofP (sqT_lst hD h) (sqT_lst hD h1) (sqT_lst hD h2)
theorem Rp.nk {K : PySem.W.Frag} {H : Hp} {a : Addr} {q : Q2} (h : Rp K H (.ref a) q) : NkV K H (KdN.keyP q.1 q.2) a := by
  obtain ⟨t, p, r, e, h1, h2, h3⟩ := h
  cases e
  exact .ofP h1 h2 h3
/-- .. both new, the places a tuple known to have no dict -/
def Rq (K : PySem.W.Frag) (H : Hp) (x : V) (q : Q2) : Prop := ∃ t p r, x = .ref t ∧ SqT K H t [.ref p, .ref r] ∧ TpF H p (q.1.map V.int) ∧ H r = some (.tup (q.2.map V.int))
theorem Rq.rp {K : PySem.W.Frag} {H : Hp} {x : V} {q : Q2} (h : Rq K H x q) : Rp K H x q := by
  obtain ⟨t, p, r, e, h1, h2, h3⟩ := h
  exact ⟨t, p, r, e, h1, h2.sq, .of h3⟩
theorem Rq.same {K : PySem.W.Frag} {H H' : Hp} {x : V} {q : Q2} (s : Same H H') (h : Rq K H x q) : Rq K H' x q := by
  obtain ⟨t, p, r, e, h1, h2, h3⟩ := h
  exact ⟨t, p, r, e, same_sqT s h1, h2.same s, s _ _ h3⟩
theorem Rq.lst {K : PySem.W.Frag} {H : Hp} {D : Addr} {l : List V} {o : HO} {x : V} {q : Q2} (hD : H D = some (.lst l)) (h : Rq K H x q) : Rq K (upd H D o) x q := by
  obtain ⟨t, p, r, e, h1, ⟨u, h2, h2'⟩, h3⟩ := h
  exact ⟨t, p, r, e, sqT_lst hD h1, ⟨u, by rw [upd_ne (fun z => by rw [z, hD] at h2; cases h2)]; exact h2, h2'⟩, by rw [upd_ne (fun z => by rw [z, hD] at h3; cases h3)]; exact h3⟩
theorem Rq.ext {K : PySem.W.Frag} {H : Hp} {D : Addr} {φ : Heap → Prop} {o : HO} {x : V} {q : Q2} (hD : H D = some (.ext φ)) (h : Rq K H x q) : Rq K (upd H D o) x q := by
  obtain ⟨t, p, r, e, h1, ⟨u, h2, h2'⟩, h3⟩ := h
  exact ⟨t, p, r, e, sqT_ext hD h1, ⟨u, by rw [upd_ne (fun z => by rw [z, hD] at h2; cases h2)]; exact h2, h2'⟩, by rw [upd_ne (fun z => by rw [z, hD] at h3; cases h3)]; exact h3⟩
abbrev kyQ (q : Q2) : NestedKey := KdN.keyP q.1 q.2
theorem kyQ_inj {p q : Q2} (h : kyQ p = kyQ q) : p = q := by
  obtain ⟨e1, e2⟩ := KdN.keyP_inj h
  exact Prod.ext e1 e2
/-- an entry whose key is such a pair -/
def EnQ (K : PySem.W.Frag) (H : Hp) (e : En) : Prop := ∃ q, e.1 = kyQ q ∧ Rq K H (.ref e.2.1) q
theorem EnQ.nk {K : PySem.W.Frag} {H : Hp} {e : En} (h : EnQ K H e) : NkV K H e.1 e.2.1 := by
  obtain ⟨q, e1, h⟩ := h
  rw [e1]
  exact h.rp.nk
theorem EnQ.same {K : PySem.W.Frag} {H H' : Hp} {e : En} (s : Same H H') (h : EnQ K H e) : EnQ K H' e := by
  obtain ⟨q, e1, h⟩ := h
  exact ⟨q, e1, h.same s⟩
theorem EnQ.lst {K : PySem.W.Frag} {H : Hp} {D : Addr} {l : List V} {o : HO} {e : En} (hD : H D = some (.lst l)) (h : EnQ K H e) : EnQ K (upd H D o) e := by
  obtain ⟨q, e1, h⟩ := h
  exact ⟨q, e1, h.lst hD⟩
theorem EnQ.ext {K : PySem.W.Frag} {H : Hp} {D : Addr} {φ : Heap → Prop} {o : HO} {e : En} (hD : H D = some (.ext φ)) (h : EnQ K H e) : EnQ K (upd H D o) e := by
  obtain ⟨q, e1, h⟩ := h
  exact ⟨q, e1, h.ext hD⟩
/-- whether a key stands in a dict -/
theorem at_keys {α : Type} {es : List En} {ks : List α} {f : α → NestedKey} (hf : ∀ a b, f a = f b → a = b) (he : es.map (·.1) = ks.map f) (q : α) : (KdN.atN es (f q)).isSome = true ↔ q ∈ ks := by
  unfold KdN.atN
  rw [Option.isSome_map, List.find?_isSome]
  constructor
  · rintro ⟨e, hm, h⟩
    have h : e.1 = f q := by simpa using h
    have : f q ∈ ks.map f := by rw [← he, ← h]; exact List.mem_map.mpr ⟨e, hm, rfl⟩
    obtain ⟨q', h1, h2⟩ := List.mem_map.mp this
    rw [← hf _ _ h2]
    exact h1
  · intro hm
    have : f q ∈ es.map (·.1) := by rw [he]; exact List.mem_map.mpr ⟨q, hm, rfl⟩
    obtain ⟨e, h1, h2⟩ := List.mem_map.mp this
    exact ⟨e, h1, by simp [h2]⟩
theorem beyond_len {α : Type} {fs : List (α → α)} : ∀ F : List α, (Rc.beyond fs F).length = F.length * fs.length
  | [] => by simp [Rc.beyond]
  | x :: F => by
    have := beyond_len (fs := fs) F
    unfold Rc.beyond at this ⊢
    rw [List.flatMap_cons, List.length_append, this, List.length_map, List.length_cons, Nat.add_mul, Nat.one_mul, Nat.add_comm]
theorem beyond_snoc {α : Type} {fs : List (α → α)} {F : List α} {i : Nat} {q : α} (h : F[i]? = some q) : Rc.beyond fs (F.take (i + 1)) = Rc.beyond fs (F.take i) ++ fs.map fun f => f q := by
  unfold Rc.beyond
  rw [List.take_succ, h, List.flatMap_append]
  congr 1
  show [q].flatMap _ = _
  rw [List.flatMap_cons, List.flatMap_nil, List.append_nil]
theorem fresh_le {α : Type} [DecidableEq α] : ∀ r M : List α, (Rc.fresh M r).length ≤ r.length
  | [], M => by unfold Rc.fresh; exact Nat.le_refl _
  | x :: r, M => by
    unfold Rc.fresh
    by_cases h : x ∈ M
    · rw [if_pos h]
      have := fresh_le r M
      rw [List.length_cons]
      omega
    · rw [if_neg h]
      have := fresh_le r (M ++ [x])
      rw [List.length_cons, List.length_cons]
      omega
theorem take_snoc {α : Type} {F : List α} {i : Nat} {q : α} (h : F[i]? = some q) : F.take (i + 1) = F.take i ++ [q] := by rw [List.take_succ, h]; rfl
/-- TooMany's two fields -/
def raises2 (CT : Addr) (wd : Str) (n : Int) (H : Hp) (E : XK) : Prop := ∀ (dd : Addr) (H' : Hp), H dd = none → H' dd = some (.xd (fs2 [.str wd, .int n])) → Same H H' → E (.ref CT) (some dd) H'
theorem raises2.same {CT : Addr} {wd : Str} {n : Int} {H H' : Hp} {E : XK} (h : raises2 CT wd n H E) (s : Same H H') : raises2 CT wd n H' E := fun dd H2 h1 h2 s2 => h dd H2 (s.free h1) h2 (s.trans s2)
theorem rep_map {α : Type} {R : Hp → V → α → Prop} {H : Hp} {xs : List V} {as : List α} (h : Rep R H xs as) {i : Nat} {x : V} {a : α} (h2 : R H x a) (hx : xs.length = i) : Rep R H (xs ++ [x]) (as ++ [a]) := h.app (.one h2)
section
variable {X : Cx} {e : Expr} {te : L2.St → Hp → (Int → Int → Hp → Prop) → Prop}
def tTupRgF (te : L2.St → Hp → (Int → Int → Hp → Prop) → Prop) : TE := fun σ H Q => te σ H fun a b H1 => RgOk a b ∧ ∀ q o, H1 q = none → o.cls = .type "tuple" → o.dict = none → Q (.ref q) (upd H1 q (.frz o (.tup (rgV a b))))
/-- tuple(range(..)), known to have no dict -/
theorem pe_tupRgF {p pos : Pos} (hc : X.calm = true) (hg : Gl X "tuple") (hm : X.mg "tuple" = none) (he : PRg X e te) (na : starEach [e] X.env = (false, eval e X.env) :: starEach [] X.env := by rfl) : PE X (.Call (.Name "tuple" p) [e] [] pos) (tTupRgF te) := by
  refine ⟨fun pins s σ H Q I h => ?_⟩
  refine Call_ (ld_blt I hg hm boot_tuple (PyProof.Rows.callWith_type1 (args_cons (thn (he pins s σ H _ I h) fun x s1 ⟨r, a, b, t, u, v, H1, ex, hr, I1, ok, q⟩ => args_nil ?_) na) na))
  subst ex
  obtain ⟨b1, b2, b3, b4, b5⟩ := ok
  refine call_tuple_range (n := (b - a).toNat) (I1.ok.hd hc) hr (small_one b1 b2 b3 b4) (rangeSize_nat a b) b5 fun h' tk acc hk hi => ?_
  have I2 : Inv X pins σ H1 { s1 with heap := h', toks := tk } := I1.kept hk
  refine ⟨.ref h'.objs.size, upd H1 h'.objs.size (.frz { cls := .type "tuple", data := .seq acc } (.tup (rgV a b))), I2.laid (t' := tk) (fun c o e => Heap.get?_push_of_some _ e) (Nat.le_refl _) (show ObjOk X.prog X.w _ _ _ (.frz _ (.tup (rgV a b))) from ⟨Heap.get?_push_size _ rfl, ?_, acc.toList, vals_rg hi, ?_⟩), rfl, q _ _ (I2.hok.fresh (Nat.le_refl _)) rfl rfl⟩
  · rw [rgV_length, sizeLine_eq]; omega
  · rw [Array.toArray_toList]; exact IsTup.new _ _
end
end K0


set_option Elab.async false
set_option linter.all false
set_option maxRecDepth 100000
set_option maxHeartbeats 4000000
/-! dict([(t, v)]) -/
namespace KdN
open PySem PySem.Spec PyProof.Rows L2
def rDict1 (K : PySem.W.Frag) (P : Program) (w : World) : List V → Hp → VK → Prop := fun vs H Q => ∃ (l p t : Addr) (v : V) (k : NestedKey), vs = [.ref l] ∧ SqL K H l [.ref p] ∧ SqT K H p [.ref t, v] ∧ NkV K H k t ∧ ∀ D, H D = none → Q (.ref D) (upd H D (DkO P w D [(k, t, v)]))
theorem call_dict1 {X : Cx} (K : PySem.W.Frag) (P : Program) (w : World) (hc : X.calm = true) (hu : X.A.units + 64 < cLine) (eK : X.K = K := by rfl) (e1 : X.prog = P := by rfl) (e2 : X.w = w := by rfl) : CallR X (.type "dict") (rDict1 K P w) := by
  subst eK e1 e2
  intro pins s σ H vs us Q I r h
  obtain ⟨l, p, t, v, k, rfl, hl, hp, hk, q⟩ := h
  rw [Vals.ref1 r]
  obtain ⟨its, rl, ⟨ol, nl, hol, hcl, hdl, hsl⟩, _⟩ := I.list hl
  obtain ⟨its2, rp, tp, _⟩ := I.tuple hp
  obtain ⟨u, rfl, ru⟩ := vals1 rl
  obtain rfl : u = Value.ref p := ru
  obtain ⟨w2, e2, q2⟩ : ∃ w2, its2 = [.ref t, w2] ∧ RelV v w2 := by
    cases rp with
    | @cons _ w1 _ r q1 rp =>
      cases rp with
      | @cons _ w2 _ r q2 rp =>
        cases rp
        cases q1
        exact ⟨w2, rfl, q2⟩
  subst e2
  have hki := is_nk I hk
  refine call_dict_pairsH (knd := nestedKind X.prog X.w) (ps := [(k, t, w2)]) (PairArg.list l #[.ref p] (fun _ => p) [(.ref t, w2)]) (I.ok.hd hc) ?_ ⟨⟨ol, nl, hol, hcl, hdl, hsl⟩, rfl, fun j a b hj => ?_⟩ ⟨rfl, fun i a b hi => ?_⟩ (fun h' hh x hx => ?_) (by rw [sizeLine_eq]; show 1 ≤ _; omega) fun h' tk hd hh => ?_
  · show X.A.in1.in1.units + 8 < cLine
    have e : X.A.in1.in1.units ≤ X.A.units + 32 := by
      show X.A.units + _ + _ ≤ X.A.units + 32
      omega
    omega
  · match j with
    | 0 => cases hj; exact ⟨rfl, .inl tp⟩
    | j + 1 => exact nomatch hj
  · match i with
    | 0 => cases hi; exact ⟨k, t, rfl, rfl⟩
    | i + 1 => exact nomatch hi
  · rw [List.mem_singleton.mp hx]
    exact (nestedKind_stays (prog := X.prog) (w := X.w)).stays (fun b o _ _ e _ => hh b o (Nat.ne_of_lt (Heap.lt_size e)) (fun z => nomatch z) e) hki
  · obtain ⟨o, es, ep, ho, hx, hdt, he, his, nd⟩ := hd
    have kp : ∀ b o, s.heap.get? b = some o → h'.get? b = some o := fun b o e => hh b o (fun z => nomatch z) e
    refine ⟨.ref s.heap.objs.size, upd H s.heap.objs.size (DkO X.prog X.w s.heap.objs.size [(k, t, v)]), I.laid (t' := tk) kp (Nat.le_refl _) ?_, rfl, q _ (I.hok.fresh (Nat.le_refl _))⟩
    exact dkO_new ⟨beq_eq_false_iff_ne.mpr (Ne.symm (Nat.ne_of_lt I.big)), by show 1 ≤ 100000; decide, _, o, es, ep, .cons ⟨rfl, rfl, q2⟩ .nil, ho, hx, hdt, he, nd⟩
end KdN


set_option Elab.async false
set_option linter.all false
set_option maxRecDepth 100000
set_option maxHeartbeats 4000000
set_option exponentiation.threshold 100000
/-! _law_reached -/
namespace K0
open PySem PySem.Spec PyProof.Rows L2 RZ K0z KdN
/-- x is a tuple of these ints -/
def RT (K : PySem.W.Frag) (H : Hp) (x : V) (ns : List Int) : Prop := ∃ t, x = .ref t ∧ H t = some (.tup (ns.map V.int))
theorem RT.same {K : PySem.W.Frag} {H H' : Hp} {x : V} {ns : List Int} (s : Same H H') (h : RT K H x ns) : RT K H' x ns := by
  obtain ⟨t, e, h⟩ := h
  exact ⟨t, e, s _ _ h⟩
theorem RT.lst {K : PySem.W.Frag} {H : Hp} {D : Addr} {l : List V} {o : HO} {x : V} {ns : List Int} (hD : H D = some (.lst l)) (h : RT K H x ns) : RT K (upd H D o) x ns := by
  obtain ⟨t, e, h⟩ := h
  exact ⟨t, e, by rw [upd_ne (fun z => by rw [z, hD] at h; cases h)]; exact h⟩
theorem RT.ext {K : PySem.W.Frag} {H : Hp} {D : Addr} {φ : Heap → Prop} {o : HO} {x : V} {ns : List Int} (hD : H D = some (.ext φ)) (h : RT K H x ns) : RT K (upd H D o) x ns := by
  obtain ⟨t, e, h⟩ := h
  exact ⟨t, e, by rw [upd_ne (fun z => by rw [z, hD] at h; cases h)]; exact h⟩
abbrev stepsOf (gs : List Q2) : List (List Int → List Int) := gs.map fun g p => ledL g.1 g.2 p
theorem rch_len {n : Nat} {gs : List Q2} {x0 : List Int} (hn : x0.length = n) (G : ∀ g ∈ gs, g.1.length = n) {x : List Int} (r : Rc.Rch x0 (stepsOf gs) x) : x.length = n := by
  cases r with
  | base => exact hn
  | @step q f r hf =>
    obtain ⟨g, hg, rfl⟩ := List.mem_map.mp hf
    show (ledL g.1 g.2 q).length = n
    rw [show (ledL g.1 g.2 q).length = g.1.length from by unfold ledL; rw [List.length_map, List.length_range]]
    exact G g hg
def spRch (K : PySem.W.Frag) : Sp := fun vs H Q _ => ∃ (b : Bool) (ga pa p0 : Addr) (gv : List V) (gs : List Q2) (x0 : List Int) (n most : Nat), vs = [.ref ga, .ref pa, .int most] ∧ SqB K b H ga gv ∧ Rep (Pr K) H gv gs ∧ (∀ g ∈ gs, Lik g.1 g.2 ∧ g.1.length = n) ∧ gs.length ≤ 10 ∧ H pa = some (.lst [.ref p0]) ∧ H p0 = some (.tup (x0.map V.int)) ∧ x0.length = n ∧ 1 ≤ most ∧ most ≤ 64 ∧
  ∀ l ys L H', Same H H' → H l = none → H' l = some (.lst ys) → Rep (RT K) H' ys L → Rc.Part x0 (stepsOf gs) L → (L.length ≤ most → Rc.Closed x0 (stepsOf gs) L) → L.length ≤ most + 10 → Q (.ref l) H'
section
variable {P : Program} {w : World} {K : PySem.W.Frag} {mg : Str → Option Value} {base : Heap} {f g1 : Addr} {fd : FuncData}
abbrev N__law_reached : List Str := ["given", "points", "most", "found", "at", "known", "point", "one"]
theorem sc_reached : FnScope N__law_reached ["given", "points", "most"] (defScope st__law_reached) := ⟨rfl, rfl, rfl, by decide +kernel, rfl, by decide +kernel, by decide +kernel⟩
theorem ok_law_reached (F : Fun K "_law_reached" "_law_reached" st__law_reached f fd) (T : Nm mg) (D__law_led : Dn P w K mg base 1 "_law_led" g1 ["one", "point"] (spLw K)) : FnOk P w K mg base CX0 2 f fd ["given", "points", "most"] (spRch K) := by
  refine F.ok sc_reached (fun vs H Q E h => ?_) (fun cdv A outer s H vs Q E hr h => ?_)
  · obtain ⟨_, _, _, _, _, _, _, _, _, rfl, _⟩ := h
    rfl
  · obtain ⟨b, ga, pa, p0, gv, gs, x0, n, most, rfl, hB, hR, G, few, hpa, hp0, hn, m1, m64, k⟩ := h
    refine ⟨_, (pss_cons (ps_par (i := 3) (j := 4) (by rfl) sc_reached.nd rfl rfl (by decide) rfl rfl (pa_cons (pe_callTy (call_listK K) (by rfl) T.n_list (by decide +kernel) (pa_cons (pv 1) pa_nil)) (pa_cons pe_int pa_nil)) (by rfl))
    (pss_cons (ps_set (i := 5) sc_reached.nd rfl (Or.inl rfl) (pe_callTy (call_dict1 K P w rfl hr.units) (by rfl) T.n_dict (by decide +kernel) (pa_cons (pe_lc (own := [("point", 6)]) (g := gName 6) (tt := tYes) rfl sc_reached.nd (pi_seqK K (pv 1)) (blkOk_by (N := ["given", "points", "most", "found", "at", "known", "point", "one"]) (sc := defScope st__law_reached) (by decide +kernel)) (fun _ _ _ _ _ => (pg_name (i := 6) sc_reached.nd rfl (Or.inl rfl))) (fun _ _ _ _ _ => pts_nil) (fun _ _ _ _ _ => (pe_tup (pa_cons (pv 6) (pa_cons pe_bl pa_nil))))) pa_nil)))
    (pss_cons (ps_while PassesOwn.never (PW.pt (pw_and (pt_cmpR op_lt (pv 4) (pe_callB (call_lenK K) (by rfl) T.n_len (by decide +kernel) (pa_cons (pv 3) pa_nil)) (nomark _)) (pw_and1 (pt_cmpR op_le (pe_callB (call_lenK K) (by rfl) T.n_len (by decide +kernel) (pa_cons (pv 3) pa_nil)) (pv 2) (nomark _))))) (pss_cons (ps_for PassesOwn.never rfl (pi_seqK K (pv 0)) (pg_name (i := 7) sc_reached.nd rfl (Or.inl rfl))
      (pss_cons (ps_set (i := 6) sc_reached.nd rfl (Or.inl rfl) (pe_dn D__law_led (hr.mono (by decide)) rfl (pa_cons (pv 7) (pa_cons (pe_ix (ix_K K) (pv 3) (pv 4) (fun _ _ => rfl)) pa_nil))))
    (pss_one (ps_if (pt_cmpR (op_notInN K P w hr.units) (pv 6) (pv 5) (by rfl)) (pss_cons (ps_asg pe_bl (pg_sub (pv 5) (pv 6) (set_N K P w hr.units)))
    (pss_one (ps_expr (pe_bm PySem.F.plainAttrs_list PySem.F.slot_list_append PySem.F.type_list_append mt_append (pv 3) (pa_cons (pv 6) pa_nil))))) pss_nil))))
    (pss_one (ps_set (i := 4) sc_reached.nd rfl (Or.inl rfl) (pe_op op_add (pv 4) pe_int)))))
    (pss_one (ps_ret (pv 3)))))), ?_⟩
    have hgl := hR.1
    refine ⟨_, rfl, false, pa, [.ref p0], rfl, .of hpa, fun l hl => ⟨_, _, rfl, ?_⟩⟩
    have s1 := same_upd (o := .lst [.ref p0]) hl
    have z1 : upd H l (.lst [.ref p0]) l = some (.lst [.ref p0]) := upd_same
    generalize upd H l (.lst [.ref p0]) = H1 at s1 z1 ⊢
    -- dict([(point, True) ..])
    refine ⟨_, rfl, false, pa, rfl, ⟨_, .of (s1 _ _ hpa)⟩, fun D hD => ?_⟩
    refine lc_it (walk_seq (b := false) (xs := [.ref p0])) (fun i H' => Same H1 H' ∧ ((i = 0 ∧ H' D = some (.lst [])) ∨ (i = 1 ∧ ∃ t, H' D = some (.lst [.ref t]) ∧ H' t = some (.tup [.ref p0, .bl true])))) ⟨same_upd hD, .inl ⟨rfl, upd_same⟩⟩ (fun i H' _ ⟨s, _⟩ => .of (s _ _ (s1 _ _ hpa))) ?_ ?_
    · rintro i x H2 H2' hi ⟨s2, h2⟩ ⟨rfl, hx⟩
      have hi0 : i = 0 := by simp only [List.length_cons, List.length_nil] at hi; omega
      subst hi0
      cases hx
      rcases h2 with ⟨_, h2⟩ | ⟨z, _⟩
      · refine ⟨rfl, _, rfl, (by show 2 ≤ sizeLine; decide), fun t ht => ?_⟩
        have s3 := same_upd (o := .tup [.ref p0, .bl true]) ht
        have nDt : D ≠ t := fun e => by rw [e, ht] at h2; cases h2
        exact ⟨[], s3 _ _ h2, (by show 0 < sizeLine; decide), same_at (s3 _ _ h2) (s2.trans s3) hD, .inr ⟨rfl, t, upd_same, by rw [upd_ne (Ne.symm nDt), upd_same]⟩⟩
      · exact absurd z (by decide)
    rintro H2 ⟨s2, h2⟩
    rcases h2 with ⟨z, _⟩ | ⟨_, t, h2, h2t⟩
    · exact absurd z (by show ¬ (1 = 0); decide)
    have s12 := s1.trans s2
    refine ⟨D, t, p0, .bl true, keyI x0, rfl, .of h2, .of h2t, .ofI (.of (s12 _ _ hp0)), fun dd hdd => ?_⟩
    have s3 := same_upd (o := DkO P w dd [(keyI x0, p0, V.bl true)]) hdd
    have s13 := s12.trans s3
    have z3 := s3 _ _ (s2 _ _ z1)
    have zd : upd H2 dd (DkO P w dd [(keyI x0, p0, V.bl true)]) dd = some (DkO P w dd [(keyI x0, p0, V.bl true)]) := upd_same
    have hddn : H dd = none := s12.free hdd
    have ndl : dd ≠ l := fun e => by rw [e, s2 _ _ z1] at hdd; cases hdd
    generalize upd H2 dd (DkO P w dd [(keyI x0, p0, V.bl true)]) = H3 at s13 z3 zd ⊢
    clear s3 hdd h2t h2 s12 s2 hD z1 s1
    refine ⟨fun m σ Hc => ∃ i z u L ys es, m = most + 1 - i ∧ σ = [some (.ref ga), some (.ref pa), some (.int (most : Nat)), some (.ref l), some (.int (i : Nat)), some (.ref dd), z, u] ∧ Rc.Row x0 (stepsOf gs) L i ∧ i ≤ L.length ∧ L.length ≤ most + 10 ∧ Same H Hc ∧ Hc l = some (.lst ys) ∧ Rep (RT K) Hc ys L ∧ Hc dd = some (DkO P w dd es) ∧ (∀ e ∈ es, NkV K Hc e.1 e.2.1) ∧ es.map (·.1) = L.map keyI, ⟨_, 0, none, none, [x0], _, _, rfl, rfl, .start, Nat.zero_le _, (by show 1 ≤ most + 10; omega), s13, z3, .one ⟨p0, rfl, s13 _ _ hp0⟩, zd, (fun e he => by rw [List.mem_singleton.mp he]; exact .ofI (.of (s13 _ _ hp0))), rfl⟩, ?_⟩
    clear zd z3 s13
    rintro m σ Hc ⟨i, z, u, L, ys, es, rfl, rfl, row, iL, Lm, sc, hlc, hrc, hdc, hkc, hec⟩
    have hyl := hrc.1
    refine ⟨_, rfl, _, rfl, false, l, ys, rfl, .of hlc, _, _, rfl, rfl, _, rfl, ?_⟩
    by_cases c1 : i < L.length
    · rw [decide_eq_true (by omega : ((i : Nat) : Int) < (ys.length : Nat))]
      refine iteT ?_
      refine ⟨_, rfl, false, l, ys, rfl, .of hlc, _, rfl, _, _, rfl, rfl, _, rfl, ?_⟩
      by_cases c2 : L.length ≤ most
      · rw [decide_eq_true (by omega : ((ys.length : Nat) : Int) ≤ (most : Nat))]
        obtain ⟨y, hy⟩ : ∃ y, L[i]? = some y := ⟨_, List.getElem?_eq_getElem c1⟩
        have row' := row.next hy
        have hlen := rch_len hn (fun g hg => (G g hg).2) (row.p.sub y (List.mem_of_getElem? hy))
        refine iteT ⟨fun σ' H' => ∃ z u ys es, σ' = [some (.ref ga), some (.ref pa), some (.int (most : Nat)), some (.ref l), some (.int ((i + 1 : Nat) : Int)), some (.ref dd), z, u] ∧ Same H H' ∧ H' l = some (.lst ys) ∧ Rep (RT K) H' ys (L ++ Rc.fresh L ((stepsOf gs).map fun f => f y)) ∧ H' dd = some (DkO P w dd es) ∧ (∀ e ∈ es, NkV K H' e.1 e.2.1) ∧ es.map (·.1) = (L ++ Rc.fresh L ((stepsOf gs).map fun f => f y)).map keyI, ?_, ?_⟩
        · rintro σ' H' ⟨z, u, ys, es, e, h1, h2, h3, h4, h5, h6⟩
          have hf := fresh_le ((stepsOf gs).map fun f => f y) L
          rw [List.length_map, List.length_map] at hf
          refine ⟨most + 1 - (i + 1), by omega, i + 1, z, u, _, ys, es, rfl, e, row', ?_, ?_, h1, h2, h3, h4, h5, h6⟩
          · rw [List.length_append]; omega
          · rw [List.length_append]; omega
        refine ⟨_, rfl, b, ga, rfl, ⟨_, hB.same sc⟩, ?_⟩
        refine for_it (walk_seq (b := b) (xs := gv)) (fun j σ H' => ∃ z u ys es, σ = [some (.ref ga), some (.ref pa), some (.int (most : Nat)), some (.ref l), some (.int (i : Nat)), some (.ref dd), z, u] ∧ Same H H' ∧ H' l = some (.lst ys) ∧ Rep (RT K) H' ys (L ++ Rc.fresh L (((stepsOf gs).map fun f => f y).take j)) ∧ H' dd = some (DkO P w dd es) ∧ (∀ e ∈ es, NkV K H' e.1 e.2.1) ∧ es.map (·.1) = (L ++ Rc.fresh L (((stepsOf gs).map fun f => f y).take j)).map keyI) ⟨z, u, ys, es, rfl, sc, hlc, by rw [List.take_zero]; unfold Rc.fresh; rw [List.append_nil]; exact hrc, hdc, hkc, by rw [List.take_zero]; unfold Rc.fresh; rw [List.append_nil]; exact hec⟩ (fun j σ H' _ ⟨_, _, _, _, _, s, _⟩ => hB.same s) ?_ ?_
        · rintro j x σ H4 H4' hj ⟨z, u, ys, es, rfl, s4, hl4, hr4, hd4, hk4, he4⟩ ⟨rfl, hx⟩
          obtain ⟨g, hg, hpr⟩ := hR.at' hx
          obtain ⟨Lg, lg⟩ := G g (List.mem_of_getElem? hg)
          have hyi : (L ++ Rc.fresh L (((stepsOf gs).map fun f => f y).take j))[i]? = some y := by rw [List.getElem?_append_left c1]; exact hy
          obtain ⟨v, hv, tp, rfl, htp⟩ := hr4.at hyi
          refine ⟨_, rfl, _, rfl, _, rfl, false, l, ys, _, _, rfl, rfl, .of hl4, atI_nat hv, ?_⟩
          refine ⟨_, g, true, tp, y, rfl, hpr.same s4, Lg, .of htp, hlen.trans lg.symm, fun a H5 s5 ha5 hz5 => ?_⟩
          have s45 := s4.trans s5
          have hl5 := s5 _ _ hl4
          have hd5 := s5 _ _ hd4
          have hk5 : ∀ e ∈ es, NkV K H5 e.1 e.2.1 := fun e he => (hk4 e he).same s5
          have hr5 := hr4.mono fun _ _ => RT.same s5
          have hx5 : RT K H5 (.ref a) (ledL g.1 g.2 y) := ⟨a, rfl, hz5⟩
          have hkx : NkV K H5 (keyI (ledL g.1 g.2 y)) a := .ofI (.of hz5)
          have eb := at_keys (f := keyI) (fun _ _ => keyI_inj) he4 (ledL g.1 g.2 y)
          have e1 : ((stepsOf gs).map fun f => f y).take (j + 1) = ((stepsOf gs).map fun f => f y).take j ++ [ledL g.1 g.2 y] := take_snoc (by rw [List.getElem?_map, List.getElem?_map, hg]; rfl)
          have e2 := Rc.fresh_snoc (((stepsOf gs).map fun f => f y).take j) L (ledL g.1 g.2 y)
          have hfl := fresh_le (((stepsOf gs).map fun f => f y).take j) L
          rw [List.length_take, List.length_map, List.length_map] at hfl
          refine ⟨_, rfl, _, rfl, dd, a, es, keyI (ledL g.1 g.2 y), rfl, rfl, hd5, hk5, hkx, _, rfl, ?_⟩
          by_cases hm : ledL g.1 g.2 y ∈ L ++ Rc.fresh L (((stepsOf gs).map fun f => f y).take j)
          · rw [show (KdN.atN es (keyI (ledL g.1 g.2 y))).isSome = true from eb.mpr hm]
            refine iteF ?_
            rw [if_pos hm] at e2
            exact ⟨_, _, ys, es, rfl, s45, hl5, by rw [e1, e2]; exact hr5, hd5, hk5, by rw [e1, e2]; exact he4⟩
          · have eb : (KdN.atN es (keyI (ledL g.1 g.2 y))).isSome = false := Bool.eq_false_iff.mpr fun z => hm (eb.mp z)
            rw [eb]
            refine iteT ?_
            rw [if_neg hm] at e2
            have hn : KdN.atN es (keyI (ledL g.1 g.2 y)) = none := by simpa using eb
            have lys := hr5.1
            have few2 : es.length < 100000 := by
              have := congrArg List.length he4
              rw [List.length_map, List.length_map, List.length_append] at this
              omega
            rw [List.length_append] at lys
            refine ⟨_, rfl, _, rfl, dd, a, es, keyI (ledL g.1 g.2 y), rfl, rfl, hd5, hk5, hkx, hn, few2, ?_⟩
            have s6 : Same H (upd H5 dd (DkO P w dd (es ++ [(keyI (ledL g.1 g.2 y), a, V.bl true)]))) := same_at hd5 s45 hddn
            have hx6 : RT K (upd H5 dd (DkO P w dd (es ++ [(keyI (ledL g.1 g.2 y), a, V.bl true)]))) (.ref a) (ledL g.1 g.2 y) := hx5.ext (φ := fun h => Dk0 P w h dd es) hd5
            have hr6 : Rep (RT K) (upd H5 dd (DkO P w dd (es ++ [(keyI (ledL g.1 g.2 y), a, V.bl true)]))) ys _ := hr5.mono fun _ _ => RT.ext (φ := fun h => Dk0 P w h dd es) hd5
            have hk6 : ∀ e ∈ es ++ [(keyI (ledL g.1 g.2 y), a, V.bl true)], NkV K (upd H5 dd (DkO P w dd (es ++ [(keyI (ledL g.1 g.2 y), a, V.bl true)]))) e.1 e.2.1 := fun e he => by
              rcases List.mem_append.mp he with h | h
              · exact NkV.ext (φ := fun h => Dk0 P w h dd es) hd5 (hk5 e h)
              · rw [List.mem_singleton.mp h]
                exact NkV.ext (φ := fun h => Dk0 P w h dd es) hd5 hkx
            have hd6 : upd H5 dd (DkO P w dd (es ++ [(keyI (ledL g.1 g.2 y), a, V.bl true)])) dd = some (DkO P w dd (es ++ [(keyI (ledL g.1 g.2 y), a, V.bl true)])) := upd_same
            have hl6 : upd H5 dd (DkO P w dd (es ++ [(keyI (ledL g.1 g.2 y), a, V.bl true)])) l = some (.lst ys) := by rw [upd_ne (Ne.symm ndl)]; exact hl5
            generalize upd H5 dd (DkO P w dd (es ++ [(keyI (ledL g.1 g.2 y), a, V.bl true)])) = H6 at s6 hx6 hr6 hk6 hd6 hl6 ⊢
            refine ⟨_, rfl, .inl ⟨rfl, _, .of hl6⟩, _, rfl, l, _, _, rfl, rfl, hl6, Nat.lt_of_lt_of_le (m := 1000) (by omega) (by decide), ?_⟩
            refine ⟨_, _, ys ++ [.ref a], es ++ [(keyI (ledL g.1 g.2 y), a, V.bl true)], rfl, same_at hl6 s6 hl, upd_same, ?_, by rw [upd_ne ndl]; exact hd6, fun e he => (hk6 e he).lst hl6, ?_⟩
            · rw [e1, e2, ← List.append_assoc]
              exact (hr6.mono fun _ _ => RT.lst hl6).app (.one (hx6.lst hl6))
            · rw [e1, e2, List.map_append, he4, ← List.append_assoc, List.map_append (l₁ := L ++ Rc.fresh L (((stepsOf gs).map fun f => f y).take j))]
              rfl
        · rintro σ H4 ⟨z, u, ys, es, rfl, s4, hl4, hr4, hd4, hk4, he4⟩
          have ht : ((stepsOf gs).map fun f => f y).take gv.length = (stepsOf gs).map fun f => f y := List.take_of_length_le (by rw [List.length_map, List.length_map, hgl]; exact Nat.le_refl _)
          rw [ht] at hr4 he4
          refine ⟨_, rfl, _, _, rfl, rfl, ?_⟩
          exact ⟨_, _, ys, es, rfl, s4, hl4, hr4, hd4, hk4, he4⟩
      · rw [decide_eq_false (by omega : ¬ ((ys.length : Nat) : Int) ≤ (most : Nat))]
        refine iteF ⟨_, rfl, ?_⟩
        exact k l ys L Hc sc hl hlc hrc row.p (fun h => absurd h c2) Lm
    · rw [decide_eq_false (by omega : ¬ ((i : Nat) : Int) < (ys.length : Nat))]
      refine iteF (iteF ⟨_, rfl, ?_⟩)
      have : i = L.length := by omega
      subst this
      exact k l ys L Hc sc hl hlc hrc row.p (fun _ => row.done) Lm
end
end K0


set_option Elab.async false
set_option linter.all false
set_option maxRecDepth 100000
set_option maxHeartbeats 4000000
set_option exponentiation.threshold 100000
/-! _law_made -/
namespace K0
open PySem PySem.Spec PyProof.Rows L2 RZ K0z KdN
theorem cnt_rgV (n : Nat) : rgV 1 ((n : Int) + 1) = (cnt n).map V.int := by
  unfold rgV cnt
  rw [show ((n : Int) + 1 - 1).toNat = n from by omega, List.map_map]
  refine List.map_congr_left fun i _ => ?_
  show V.int (1 + (i : Int)) = V.int _
  congr 1
  show (1 : Int) + (i : Int) = (i : Int) + 1
  omega
def dueQ (pt : List Int) : Q2 := (pt.map fun x => (if x < 0 then -x else x) - 1, pt.map fun x => if 0 < x then (1 : Int) else -1)
theorem due_pt {n : Nat} {q : Q2} (L : Lik q.1 q.2) (l : q.1.length = n) : dueQ (ptQ n q) = q := by
  obtain ⟨e1, e2⟩ := due_of L
  rw [l] at e1 e2
  exact Prod.ext e1 e2
section
open Rc
variable {α β : Type} [DecidableEq α] [DecidableEq β] {x0 : α} {fs : List (α → α)} {y0 : β} {gs : List (β → β)} {h : α → β} {d : β → α}
theorem _root_.Rc.Led.from (D : Led h x0 fs y0 gs) {y : β} (r : Rch y0 gs y) : ∃ q, Rch x0 fs q ∧ h q = y := by
  induction r with
  | base => exact ⟨x0, .base, D.b⟩
  | step r hg ih =>
    obtain ⟨q, rq, rfl⟩ := ih
    obtain ⟨k, hk⟩ := List.mem_iff_getElem?.mp hg
    have hlt := (List.getElem?_eq_some_iff.mp hk).1
    have hf := List.getElem?_eq_getElem (l := fs) (i := k) (by rw [D.l]; exact hlt)
    exact ⟨_, .step rq (List.mem_of_getElem? hf), D.s k _ _ hf hk q rq⟩
theorem _root_.Rc.Led.partB (D : Led h x0 fs y0 gs) (hd : ∀ q, Rch x0 fs q → d (h q) = q) {L : List β} (p : Part y0 gs L) : Part x0 fs (L.map d) := by
  refine ⟨?_, fun x hx => ?_⟩
  · have key : ∀ {B : List β}, B.Nodup → (∀ x ∈ B, Rch y0 gs x) → (B.map d).Nodup := fun {B} => by
      induction B with
      | nil => exact fun _ _ => List.nodup_nil
      | cons x B ih =>
        intro nd hs
        obtain ⟨n1, n2⟩ := List.nodup_cons.mp nd
        refine List.nodup_cons.mpr ⟨fun hm => ?_, ih n2 fun y hy => hs y (List.mem_cons_of_mem _ hy)⟩
        obtain ⟨y, hy, e⟩ := List.mem_map.mp hm
        obtain ⟨qy, ry, rfl⟩ := D.from (hs y (List.mem_cons_of_mem _ hy))
        obtain ⟨qx, rx, rfl⟩ := D.from (hs x List.mem_cons_self)
        rw [hd qy ry, hd qx rx] at e
        rw [e] at hy
        exact n1 hy
    exact key p.nd p.sub
  · obtain ⟨y, hy, rfl⟩ := List.mem_map.mp hx
    obtain ⟨q, rq, rfl⟩ := D.from (p.sub y hy)
    rw [hd q rq]
    exact rq
theorem _root_.Rc.Led.closedB (D : Led h x0 fs y0 gs) (hd : ∀ q, Rch x0 fs q → d (h q) = q) {L : List β} (p : Part y0 gs L) (c : Closed y0 gs L) : Closed x0 fs (L.map d) := by
  refine ⟨List.mem_map.mpr ⟨y0, c.1, by rw [← D.b]; exact hd x0 .base⟩, fun x hx f hf => ?_⟩
  obtain ⟨y, hy, rfl⟩ := List.mem_map.mp hx
  obtain ⟨q, rq, rfl⟩ := D.from (p.sub y hy)
  obtain ⟨k, hk⟩ := List.mem_iff_getElem?.mp hf
  have hlt := (List.getElem?_eq_some_iff.mp hk).1
  have hg := List.getElem?_eq_getElem (l := gs) (i := k) (by rw [← D.l]; exact hlt)
  rw [hd q rq]
  refine List.mem_map.mpr ⟨_, c.2 _ hy _ (List.mem_of_getElem? hg), ?_⟩
  rw [← D.s k _ _ hk hg q rq]
  exact hd _ (.step rq hf)
theorem _root_.Rc.Part.of_perm {A B : List α} (p : Part x0 fs A) (h : B.Perm A) : Part x0 fs B := ⟨h.nodup_iff.mpr p.nd, fun x hx => p.sub x (h.mem_iff.mp hx)⟩
theorem _root_.Rc.Closed.of_perm {A B : List α} (c : Closed x0 fs A) (h : B.Perm A) : Closed x0 fs B := ⟨h.mem_iff.mpr c.1, fun x hx f hf => h.mem_iff.mpr (c.2 x (h.mem_iff.mp hx) f hf)⟩
end
/-- what the law made: all likenesses, sorted; or none, where there are too many -/
def MadeV (K : PySem.W.Frag) (H : Hp) (gs : List Q2) (n : Nat) (v : V) : Prop :=
  (v = .non ∧ ∃ A, Rc.Part (same0 n) (gs.map oneT) A ∧ 64 < A.length) ∨ ∃ r ys js, v = .ref r ∧ H r = some (.lst ys) ∧ Rep (Rp K) H ys js ∧ Rc.Part (same0 n) (gs.map oneT) js ∧ Rc.Closed (same0 n) (gs.map oneT) js ∧ js.length ≤ 64 ∧ SrtO.Srtd ltQ js
def spMade (K : PySem.W.Frag) : Sp := fun vs H Q _ => ∃ (b : Bool) (ga : Addr) (gv : List V) (gs : List Q2) (n : Nat), vs = [.ref ga, .int n] ∧ SqB K b H ga gv ∧ Rep (Pr K) H gv gs ∧ GsOk n gs ∧ gs.length ≤ 10 ∧
  ∀ v H', Same H H' → (∀ r, v = .ref r → H r = none) → MadeV K H' gs n v → Q v H'
section
variable {P : Program} {w : World} {K : PySem.W.Frag} {mg : Str → Option Value} {base : Heap} {f g1 : Addr} {fd : FuncData}
abbrev N__law_made : List Str := ["given", "wide", "found", "led", "number"]
theorem sc_made : FnScope N__law_made ["given", "wide"] (defScope st__law_made) := ⟨rfl, rfl, rfl, by decide +kernel, rfl, by decide +kernel, by decide +kernel⟩
theorem ok_law_made (F : Fun K "_law_made" "_law_made" st__law_made f fd) (T : Nm mg) (D__law_reached : Dn P w K mg base 2 "_law_reached" g1 ["given", "points", "most"] (spRch K)) : FnOk P w K mg base CX0 3 f fd ["given", "wide"] (spMade K) := by
  refine F.ok sc_made (fun vs H Q E h => ?_) (fun cdv A outer s H vs Q E hr h => ?_)
  · obtain ⟨_, _, _, _, _, rfl, _⟩ := h
    rfl
  · obtain ⟨b, ga, gv, gs, n, rfl, hB, hR, G, few, k⟩ := h
    refine ⟨_, (pss_cons (ps_set (i := 2) sc_made.nd rfl (Or.inl rfl) (pe_lst pa_nil))
    (pss_cons (ps_for PassesOwn.never rfl (pi_seqK K (pe_dn D__law_reached (hr.mono (by decide)) rfl (pa_cons (pv 0) (pa_cons (pe_lst (pa_cons (pe_tupRg rfl (by rfl) T.n_tuple (prg_2 (by rfl) T.n_range pe_int (pe_op op_add (pv 1) pe_int))) pa_nil)) (pa_cons pe_int pa_nil))))) (pg_name (i := 3) sc_made.nd rfl (Or.inl rfl))
      (pss_one (ps_expr (pe_bm PySem.F.plainAttrs_list PySem.F.slot_list_append PySem.F.type_list_append mt_append (pv 2) (pa_cons (pe_tup (pa_cons (pe_callTy (call_tupK K) (by rfl) T.n_tuple (by decide +kernel) (pa_cons (pe_lc (own := [("number", 4)]) (g := gName 4) (tt := tYes) rfl sc_made.nd (pi_seqK K (pv 3)) (blkOk_by (N := ["given", "wide", "found", "led", "number"]) (sc := defScope st__law_made) (by decide +kernel)) (fun _ _ _ _ _ => (pg_name (i := 4) sc_made.nd rfl (Or.inl rfl))) (fun _ _ _ _ _ => pts_nil) (fun _ _ _ _ _ => (pe_op op_sub (pe_callB call_abs (by rfl) T.n_abs (by decide +kernel) (pa_cons (pv 4) pa_nil)) pe_int))) pa_nil)) (pa_cons (pe_callTy (call_tupK K) (by rfl) T.n_tuple (by decide +kernel) (pa_cons (pe_lc (own := [("number", 4)]) (g := gName 4) (tt := tYes) rfl sc_made.nd (pi_seqK K (pv 3)) (blkOk_by (N := ["given", "wide", "found", "led", "number"]) (sc := defScope st__law_made) (by decide +kernel)) (fun _ _ _ _ _ => (pg_name (i := 4) sc_made.nd rfl (Or.inl rfl))) (fun _ _ _ _ _ => pts_nil) (fun _ _ _ _ _ => (pe_ifExp (pt_cmpR op_gt (pv 4) pe_int (nomark _)) pe_int (pe_un un_neg pe_int)))) pa_nil)) pa_nil))) pa_nil)))))
    (pss_one (ps_ret (pe_ifExp (pt_cmpR op_le (pe_callB (call_lenK K) (by rfl) T.n_len (by decide +kernel) (pa_cons (pv 2) pa_nil)) pe_int (nomark _)) (pe_callB (cr_sortPp K hr.units) (by rfl) T.n_sorted (by decide +kernel) (pa_cons (pv 2) pa_nil)) pe_non))))), ?_⟩
    have n2 := G.1
    have n6 := G.2.1
    refine ⟨(by show 0 ≤ sizeLine; decide), fun fl hfl => ?_⟩
    have s1 := same_upd (o := .lst []) hfl
    have z1 : upd H fl (.lst []) fl = some (.lst []) := upd_same
    generalize upd H fl (.lst []) = H1 at s1 z1 ⊢
    refine ⟨_, rfl, ?_⟩
    refine ⟨_, rfl, _, _, rfl, rfl, _, _, rfl, rfl, ⟨by omega, by omega, by omega, by omega, by omega⟩, fun p0 hp0 => ?_⟩
    rw [cnt_rgV]
    have s2 := same_upd (o := .tup ((cnt n).map V.int)) hp0
    have z2 : upd H1 p0 (.tup ((cnt n).map V.int)) p0 = some (.tup ((cnt n).map V.int)) := upd_same
    generalize upd H1 p0 (.tup ((cnt n).map V.int)) = H2 at s2 z2 ⊢
    refine ⟨(by show 1 ≤ sizeLine; decide), fun pa hpa => ?_⟩
    have s3 := same_upd (o := .lst [.ref p0]) hpa
    have z3 : upd H2 pa (.lst [.ref p0]) pa = some (.lst [.ref p0]) := upd_same
    generalize upd H2 pa (.lst [.ref p0]) = H3 at s3 z3 ⊢
    have s13 := s1.trans (s2.trans s3)
    have f3 := (s2.trans s3) _ _ z1
    refine ⟨b, ga, pa, p0, gv, gs, cnt n, n, 64, rfl, hB.same s13, hR.mono fun _ _ => Pr.same s13, G.2.2, few, z3, s3 _ _ z2, cnt_len n, by decide, by decide, fun l ys L H4 s4 hl hl4 hr4 part closed len => ?_⟩
    have D := pt_led' G
    have hd : ∀ q, Rc.Rch (same0 n) (gs.map oneT) q → dueQ (ptQ n q) = q := fun q r => due_pt (rch_lik G r).1 (rch_lik G r).2
    have lens : ∀ x ∈ L, x.length = n := fun x hx => rch_len (cnt_len n) (fun g hg => (G.2.2 g hg).2) (part.sub x hx)
    have s14 := s13.trans s4
    have f4 := s4 _ _ f3
    have nlf : l ≠ fl := fun e => by rw [e, f3] at hl; cases hl
    have hlH : H l = none := s13.free hl
    refine ⟨false, l, rfl, ⟨_, .of hl4⟩, ?_⟩
    refine for_it (walk_seq (b := false) (xs := ys)) (fun i σ H' => ∃ u v fs', σ = [some (.ref ga), some (.int (n : Nat)), some (.ref fl), u, v] ∧ Same H H' ∧ H' l = some (.lst ys) ∧ Rep (RT K) H' ys L ∧ H' fl = some (.lst fs') ∧ Rep (Rp K) H' fs' ((L.take i).map dueQ)) ⟨none, none, [], rfl, s14, hl4, hr4, f4, .nil⟩ (fun i σ H' _ ⟨_, _, _, _, _, h, _⟩ => .of h) ?_ ?_
    · rintro i x σ H5 H5' hi ⟨u, v, fs', rfl, s5, hl5, hr5, hf5, hg5⟩ ⟨rfl, hx⟩
      obtain ⟨led, hled, t, rfl, ht⟩ := hr5.at' hx
      have ht : SqT K H5' t (led.map V.int) := .of ht
      have hll : led.length = n := lens led (List.mem_of_getElem? hled)
      have hz : (led.map V.int).length = n := by rw [List.length_map]; exact hll
      refine ⟨_, rfl, .inl ⟨rfl, _, .of hf5⟩, ?_⟩
      refine ⟨_, rfl, true, t, rfl, ⟨_, ht⟩, fun D1 hD1 => lc_fun (fun i => V.int ((if led.getD i 0 < 0 then -(led.getD i 0) else led.getD i 0) - 1)) (walk_seq (b := true) (xs := led.map V.int)) hD1 (by rw [hz]; exact six n6) (fun H2 s2 => same_sqT s2 ht) ?_ ?_⟩
      · rintro i x H2 H3 hi s2 _ ⟨rfl, hx⟩ Rk kk
        obtain ⟨n, hn, rfl⟩ := map_int_get hx
        refine ⟨rfl, _, rfl, n, rfl, _, 1, rfl, rfl, ?_⟩
        have q := kk _ (Same.refl _)
        rw [List.getD_eq_getElem?_getD, hn] at q
        exact q
      intro H6 hD6 s6
      have e1 : (List.range (led.map V.int).length).map (fun i => V.int ((if led.getD i 0 < 0 then -(led.getD i 0) else led.getD i 0) - 1)) = (dueQ led).1.map V.int := by
        rw [List.length_map, range_map_getD led 0 (fun x => V.int ((if x < 0 then -x else x) - 1))]
        unfold dueQ
        rw [List.map_map]
        rfl
      rw [e1] at hD6
      refine ⟨false, D1, _, rfl, .of hD6, fun _ l1 hl1 => ?_, fun z => by cases z⟩
      have s7 := same_upd (o := .tup ((dueQ led).1.map V.int)) hl1
      have z7 : upd H6 l1 (.tup ((dueQ led).1.map V.int)) l1 = some (.tup ((dueQ led).1.map V.int)) := upd_same
      generalize upd H6 l1 (.tup ((dueQ led).1.map V.int)) = H7 at s7 z7 ⊢
      have s67 := s6.trans s7
      have ht7 := same_sqT s67 ht
      refine ⟨_, rfl, true, t, rfl, ⟨_, ht7⟩, fun D2 hD2 => lc_fun (fun i => V.int (if 0 < led.getD i 0 then 1 else -1)) (walk_seq (b := true) (xs := led.map V.int)) hD2 (by rw [hz]; exact six n6) (fun H3 s3 => same_sqT s3 ht7) ?_ ?_⟩
      · rintro i x H3 H4 hi s3 _ ⟨rfl, hx⟩ Rk kk
        obtain ⟨n, hn, rfl⟩ := map_int_get hx
        have q := kk _ (Same.refl _)
        rw [List.getD_eq_getElem?_getD, hn] at q
        dsimp only [Option.getD_some] at q
        refine ⟨rfl, _, rfl, _, _, rfl, rfl, _, rfl, ?_⟩
        by_cases c1 : 0 < n
        · rw [if_pos c1] at q
          rw [decide_eq_true c1]
          exact iteT q
        · rw [if_neg c1] at q
          rw [decide_eq_false c1]
          exact iteF ⟨_, rfl, q⟩
      intro H8 hD8 s8
      have e3 : (List.range (led.map V.int).length).map (fun i => V.int (if 0 < led.getD i 0 then 1 else -1)) = (dueQ led).2.map V.int := by
        rw [List.length_map, range_map_getD led 0 (fun x => V.int (if 0 < x then 1 else -1))]
        unfold dueQ
        rw [List.map_map]
        rfl
      rw [e3] at hD8
      refine ⟨false, D2, _, rfl, .of hD8, fun _ l2 hl2 => ?_, fun z => by cases z⟩
      have s9 := same_upd (o := .tup ((dueQ led).2.map V.int)) hl2
      have z9 : upd H8 l2 (.tup ((dueQ led).2.map V.int)) l2 = some (.tup ((dueQ led).2.map V.int)) := upd_same
      generalize upd H8 l2 (.tup ((dueQ led).2.map V.int)) = H9 at s9 z9 ⊢
      refine ⟨(by show 2 ≤ sizeLine; decide), fun T hT => ?_⟩
      have s10 := same_upd (o := .tup [.ref l1, .ref l2]) hT
      have sA := s8.trans (s9.trans s10)
      have hxx : Rp K (upd H9 T (.tup [.ref l1, .ref l2])) (.ref T) (dueQ led) := ⟨T, l1, l2, rfl, .of upd_same, .of (sA _ _ z7), .of (s10 _ _ z9)⟩
      generalize upd H9 T (.tup [.ref l1, .ref l2]) = H10 at sA hxx ⊢
      have sB := s67.trans sA
      have hfB := sB _ _ hf5
      refine ⟨fl, _, _, rfl, rfl, hfB, Nat.lt_of_lt_of_le (m := 1000) (by rw [hg5.1, List.length_map, List.length_take]; omega) (by decide), ?_⟩
      refine ⟨_, _, fs' ++ [.ref T], rfl, same_at hfB (s5.trans sB) hfl, by rw [upd_ne nlf]; exact sB _ _ hl5, (hr5.mono fun _ _ => RT.same sB).mono fun _ _ => RT.lst hfB, upd_same, ?_⟩
      rw [take_snoc hled, List.map_append]
      exact ((hg5.mono fun _ _ => Rp.same sB).mono fun _ _ => Rp.lst hfB).app (.one (hxx.lst hfB))
    · rintro σ H5 ⟨u, v, fs', rfl, s5, hl5, hr5, hf5, hg5⟩
      rw [hr5.1, List.take_length] at hg5
      have lf := hg5.1
      rw [List.length_map] at lf
      have partB := D.partB hd part
      refine ⟨_, rfl, false, fl, fs', rfl, .of hf5, _, _, rfl, rfl, _, rfl, ?_⟩
      by_cases c : L.length ≤ 64
      · rw [decide_eq_true (by omega : ((fs'.length : Nat) : Int) ≤ 64)]
        refine iteT ⟨_, rfl, fl, fs', _, n, rfl, .of hf5, hg5, fun q hq => ?_, fun ys' js r hrep hperm hsrt hr => ?_⟩
        · obtain ⟨L1, l1⟩ := rch_lik G (partB.sub q hq)
          exact ⟨l1, L1.len.trans l1⟩
        · have s9 := same_upd (o := .lst ys') hr
          exact k (.ref r) _ (s5.trans s9) (fun r' e => by cases e; exact s5.free hr) (.inr ⟨r, ys', js, rfl, upd_same, hrep.mono fun _ _ => Rp.same s9, partB.of_perm hperm, (D.closedB hd part (closed c)).of_perm hperm, by rw [hperm.length_eq, List.length_map]; exact c, hsrt⟩)
      · rw [decide_eq_false (by omega : ¬ ((fs'.length : Nat) : Int) ≤ 64)]
        exact iteF (k .non _ s5 (fun r e => by cases e) (.inl ⟨rfl, _, partB, by rw [List.length_map]; omega⟩))
end
end K0


set_option Elab.async false
set_option linter.all false
set_option maxRecDepth 100000
set_option maxHeartbeats 4000000
/-! a tuple of ints among tuples of ints -/
namespace K0
open PySem PySem.Spec PyProof.Rows L2 RZ K0z KdN
def tupD (k : List Int) : PyData := .tuple ((k.map V.int).map toD)
theorem dp_tups {K : PySem.W.Frag} {H : Hp} : ∀ {ys : List V} {ks : List (List Int)}, Rep (RT K) H ys ks → DpAll K H ys (ks.map tupD)
  | [], [], _ => .nil
  | [], _ :: _, h => absurd h.1 (by simp)
  | _ :: _, [], h => absurd h.1 (by simp)
  | y :: ys, k :: ks, h => by
    obtain ⟨t, rfl, ht⟩ := h.2 0 y k rfl rfl
    exact .cons (dpT (.of ht) (flat_ints k)) (dp_tups ⟨by simpa using h.1, fun i x a hx ha => h.2 (i + 1) x a hx ha⟩)
theorem lay_tups : ∀ ks : List (List Int), PyData.canLayAll0 (ks.map tupD) = true
  | [] => rfl
  | k :: ks => by
    have h1 := lay_tups ks
    have h2 := layF (flat_ints k)
    simp only [List.map_cons, PyData.canLayAll0, tupD, PyData.canLay0, h2, h1, Bool.and_self]
theorem dep_tups : ∀ ks : List (List Int), PyData.depthAll (ks.map tupD) ≤ 1
  | [] => by simp [PyData.depthAll]
  | k :: ks => by
    have h1 := dep_tups ks
    have h2 := depF (k.map V.int)
    simp only [List.map_cons, PyData.depthAll, tupD, PyData.depth, h2]
    omega
theorem shaped_tups (ks : List (List Int)) : SeqAt.shaped (.list (ks.map tupD)) = true := by
  unfold SeqAt.shaped
  rw [Bool.and_eq_true]
  refine ⟨?_, ?_⟩
  · simp only [PyData.canLay0]
    exact lay_tups ks
  · have := dep_tups ks
    refine decide_eq_true ?_
    simp only [PyData.depth]
    omega
theorem any_tups (n : List Int) : ∀ ks : List (List Int), (ks.map tupD).any (fun z => PyData.eqv z (tupD n)) = decide (n ∈ ks)
  | [] => by simp
  | k :: ks => by
    have ih := any_tups n ks
    rw [List.map_cons, List.any_cons, ih]
    rw [show PyData.eqv (tupD k) (tupD n) = decide (k = n) from eqvT_ints k n]
    rw [Bool.eq_iff_iff, Bool.or_eq_true, decide_eq_true_eq, decide_eq_true_eq, decide_eq_true_eq, List.mem_cons]
    exact ⟨fun h => h.elim (fun e => .inl e.symm) .inr, fun h => h.elim (fun e => .inl e.symm) .inr⟩
def rInT (K : PySem.W.Frag) (neg : Bool) : R2 := fun x y H Q => ∃ (l : Addr) (ys : List V) (ks : List (List Int)) (n : List Int), y = .ref l ∧ SqL K H l ys ∧ Rep (RT K) H ys ks ∧ RT K H x n ∧ Q (.bl (if neg then !decide (n ∈ ks) else decide (n ∈ ks))) H
theorem op_inT {X : Cx} (K : PySem.W.Frag) (hu : X.A.units + 65 < cLine) (eK : X.K = K := by rfl) : OpR X (compareOp .In) (rInT K false) := by
  subst eK
  intro pins s σ H x y v u Q I rx ry h
  obtain ⟨l, ys, ks, n, rfl, hl, hr, ⟨t, rfl, ht⟩, q⟩ := h
  refine op_inD hu pins s σ H _ _ v u Q I rx ry ⟨tupD n, ks.map tupD, dpT (.of ht) (flat_ints n), .lst hl (dp_tups hr), shapedT (flat_ints n), shaped_tups ks, ?_⟩
  rw [any_tups]
  exact q
theorem op_notInT {X : Cx} (K : PySem.W.Frag) (hu : X.A.units + 65 < cLine) (eK : X.K = K := by rfl) : OpR X (compareOp .NotIn) (rInT K true) := by
  subst eK
  intro pins s σ H x y v u Q I rx ry h
  obtain ⟨l, ys, ks, n, rfl, hl, hr, ⟨t, rfl, ht⟩, q⟩ := h
  refine op_notInD hu pins s σ H _ _ v u Q I rx ry ⟨tupD n, ks.map tupD, dpT (.of ht) (flat_ints n), .lst hl (dp_tups hr), shapedT (flat_ints n), shaped_tups ks, ?_⟩
  rw [any_tups]
  exact q
theorem u65 {k : Nat} {A : Around} (r : Room k A) : A.units + 65 < cLine := by have := r.un; omega
end K0


set_option Elab.async false
set_option linter.all false
set_option maxRecDepth 100000
set_option maxHeartbeats 4000000
/-! what likenesses_of is asked and what it promises -/
namespace K0
open PySem PySem.Spec PyProof.Rows L2 RZ K0z KdN
section
variable {X : Cx} {k : Nat} {f : Addr} {ps : List Str} {sp : Sp} {x : Str} {p pos : Pos} {e : Expr} {es : List Expr} {t : L2.TA} {E : XK}
/-- a call that may raise, in a def that may -/
theorem pe_dnE (D : DnX X.prog X.w X.K X.mg X.base k x f ps sp) (tk : Takes X (fun cls d _ H => E cls d H)) (hr : Room k X.A) (hg : Gl X x) (ha : PA X (e :: es) t)
    (hdb : (x == ("__debug__" : Str)) = false := by decide)
    (he : starEach (e :: es) X.env = (false, eval e X.env) :: starEach es X.env := by rfl)
    (hpl : (backTo pos (starEach es X.env)).any (·.1) = false := by rfl) :
    PE X (.Call (.Name x p) (e :: es) [] pos) (fun σ H Q => t σ H fun vs H1 => sp vs H1 Q E) := by
  obtain ⟨⟨fd, F, B⟩, m, kp⟩ := D
  have h := pe_call (p := p) (E := E) F hr hg m kp B .nil (passes_call tk fun _ _ _ _ h => h) ha hdb he hpl
  refine ⟨fun pins s σ H Q I q => h.run pins s σ H Q I ?_⟩
  have e1 : tCall sp [] E t σ H Q = t σ H fun vs H1 => sp vs H1 Q E := by
    show t σ H (fun vs H1 => sp (vs ++ []) H1 Q E) = _
    simp only [List.append_nil]
  rw [e1]
  exact q
end
theorem pe_likK {X : Cx} (P : Program) (w : World) (K : PySem.W.Frag) (mg : Str → Option Value) (base : Heap) {C CB : Addr} {p pos : Pos} {e : Expr} {es : List Expr} {t : L2.TA} (D : LikM P w K mg base C CB) (hr : Room 7 X.A) (hg : Gl X "Likeness") (ha : PA X (e :: es) t)
    (he : starEach (e :: es) X.env = (false, eval e X.env) :: starEach es X.env := by rfl) (hpl : (backTo pos (starEach es X.env)).any (·.1) = false := by rfl)
    (e1 : X.prog = P := by rfl) (e2 : X.w = w := by rfl) (e3 : X.K = K := by rfl) (e4 : X.mg = mg := by rfl) (e5 : X.base = base := by rfl) :
    PE X (.Call (.Name "Likeness" p) (e :: es) [] pos) (tMake C (spLkI K CB C) [] E0 t) := by
  subst e1 e2 e3 e4 e5
  exact pe_lik D hr hg ha he hpl
theorem sqT_offL {K : PySem.W.Frag} {G H : Hp} {u a : Addr} {l : List V} {xs : List V} (s : Same G H) (hu : H u = some (.lst l)) (h : SqT K G a xs) : SqT K (Off u H) a xs := by
  rcases h with (h | ⟨o, h⟩) | h
  · exact .inl (.inl (by rw [off_ne (fun e => by have := s _ _ h; rw [e, hu] at this; cases this)]; exact s _ _ h))
  · exact .inl (.inr ⟨o, by rw [off_ne (fun e => by have := s _ _ h; rw [e, hu] at this; cases this)]; exact s _ _ h⟩)
  · exact .inr h
theorem LikAt.off {K : PySem.W.Frag} {G H : Hp} {u a C : Addr} {ps ss : List Int} {l : List V} (s : Same G H) (hu : H u = some (.lst l)) (h : LikAt K G a C ps ss) : LikAt K (Off u H) a C ps ss := by
  obtain ⟨L, dx, p, q, fs, h1, ⟨o, h2, h2'⟩, h3, r⟩ := h
  refine ⟨L, dx, p, q, fs, ?_, ⟨o, ?_, h2'⟩, sqT_offL s hu h3, r⟩
  · rw [off_ne (fun e => by have := s _ _ h1; rw [e, hu] at this; cases this)]
    exact s _ _ h1
  · rw [off_ne (fun e => by have := s _ _ h2; rw [e, hu] at this; cases this)]
    exact s _ _ h2
/-- what is made, or that it is too much -/
def mdOut (K : PySem.W.Frag) (C CT : Addr) (n : Nat) (gs : List Q2) (H : Hp) (Q : VK) (E : XK) : Prop :=
  (∀ A, Rc.Part (same0 n) (gs.map oneT) A → 64 < A.length → raises2 CT "likenesses" 64 H E) ∧
  ∀ A, Rc.Part (same0 n) (gs.map oneT) A → Rc.Closed (same0 n) (gs.map oneT) A → A.length ≤ 64 → ∀ r H' xs js, Same H H' → H r = none → H' r = some (.tup xs) → Rep (RL C K) H' xs js → js.Perm A → SrtO.Srtd ltQ js → Q (.ref r) H'
def spLo (K : PySem.W.Frag) (C CP CB CM CT : Addr) : Sp := fun vs H Q E => ∃ (v1 v2 : V) (o1 : Option (List (Option (List V)))) (o2 : Option (List (Option Q2))), vs = [v1, v2] ∧ ValAt K H v1 o1 ∧ GvAt K C H v2 o2 ∧
  (okP o1 = false → raisesN CP "points" H E) ∧ ∀ os, o1 = some os → okP o1 = true → (¬ (ksOf os).Nodup → raisesN CP "points" H E) ∧ ((ksOf os).Nodup → (okG ((ksOf os).headD []).length o2 = false → raisesN CB "given" H E) ∧
    ∀ gs, o2 = some (gs.map some) → okG ((ksOf os).headD []).length o2 = true → (gs.all (ldsB (ksOf os)) = false → raisesN CM "points" H E) ∧ (gs.all (ldsB (ksOf os)) = true → mdOut K C CT ((ksOf os).headD []).length gs H Q E))
theorem ks_head {os : List (Option (List V))} {o : Option (List V)} {r : List (Option (List V))} (e : os = o :: r) : (ksOf os).headD [] = intsOf (o.getD []) := by rw [e]; rfl
theorem within_nat {k l m : Nat} (h : within (.int (k : Nat)) (.int (l : Nat)) (.int (m : Nat)) = true) : l ≤ k ∧ k ≤ m := by
  have h' : (decide (((l : Nat) : Int) ≤ (k : Nat)) && decide (((k : Nat) : Int) ≤ (m : Nat))) = true := h
  rw [Bool.and_eq_true, decide_eq_true_eq, decide_eq_true_eq] at h'
  omega
/-- good points are points -/
theorem val_pts {K : PySem.W.Frag} {H : Hp} {v : V} {os : List (Option (List V))} (hv : ValAt K H v (some os)) (h : okP (some os) = true) :
    2 ≤ ((ksOf os).headD []).length ∧ ((ksOf os).headD []).length ≤ 6 ∧ PtsAt K H v (ksOf os) ((ksOf os).headD []).length ∧ ksOf os ≠ [] := by
  have h : (within (.int os.length) (.int 1) (.int 48) && ptsB os (.int 2) (.int 6)) = true := h
  rw [Bool.and_eq_true] at h
  obtain ⟨h1, h2⟩ := h
  have lb := within_nat (l := 1) (m := 48) h1
  cases os with
  | nil => cases h2
  | cons o r =>
    have h2 : (lenB o (.int 2) (.int 6) && (o :: r).all fun q => lenB q (.int (o.getD []).length) (.int (o.getD []).length) && intsB q) = true := h2
    rw [Bool.and_eq_true] at h2
    obtain ⟨h3, h4⟩ := h2
    have h4 := List.all_eq_true.mp h4
    have each : ∀ q ∈ o :: r, ∃ zs, q = some zs ∧ zs = (intsOf zs).map V.int ∧ (intsOf zs).length = (o.getD []).length := fun q hq => by
      have h5 := h4 q hq
      rw [Bool.and_eq_true] at h5
      obtain ⟨h5, h6⟩ := h5
      cases q with
      | none => cases h5
      | some zs =>
        have e := map_intsOf h6
        have l := within_nat (k := zs.length) (l := (o.getD []).length) (m := (o.getD []).length) h5
        refine ⟨zs, rfl, e, ?_⟩
        have := congrArg List.length e
        rw [List.length_map] at this
        omega
    have hd : ((ksOf (o :: r)).headD []).length = (o.getD []).length := by
      obtain ⟨zs, e1, e2, e3⟩ := each o List.mem_cons_self
      rw [ks_head rfl]
      rw [e1] at e3 ⊢
      exact e3
    have l2 : 2 ≤ (o.getD []).length ∧ (o.getD []).length ≤ 6 := by
      cases o with
      | none => cases h3
      | some zs => exact within_nat (k := zs.length) (l := 2) (m := 6) h3
    rw [hd]
    refine ⟨l2.1, l2.2, ?_, by show List.map _ (o :: r) ≠ []; intro z; cases z⟩
    obtain ⟨vs, hS, hl, hz⟩ := hv
    obtain ⟨b, a, e, hB, _⟩ := hS.sqB
    refine ⟨b, a, vs, e, hB, ⟨by unfold ksOf; rw [List.length_map]; exact hl, fun i x ns hx hn => ?_⟩, fun k hk => ?_, by unfold ksOf; rw [List.length_map]; exact lb.2⟩
    · unfold ksOf at hn
      rw [List.getElem?_map] at hn
      obtain ⟨q, hq, rfl⟩ := Option.map_eq_some_iff.mp hn
      obtain ⟨zs, rfl, e2, _⟩ := each q (List.mem_of_getElem? hq)
      have := (hz i x _ hx hq).1
      show Seqs K H x (some ((intsOf zs).map V.int))
      rw [← e2]
      exact this
    · unfold ksOf at hk
      obtain ⟨q, hq, rfl⟩ := List.mem_map.mp hk
      obtain ⟨zs, rfl, _, e3⟩ := each q hq
      exact e3
/-- good likenesses are likenesses -/
theorem gv_giv {K : PySem.W.Frag} {C : Addr} {H : Hp} {v : V} {n : Nat} {o : Option (List (Option Q2))} (hv : GvAt K C H v o) (h : okG n o = true) : ∃ gs, o = some (gs.map some) ∧ GivAt K C H v gs n := by
  cases o with
  | none => cases h
  | some os =>
    have h : (within (.int os.length) (.int 0) (.int 10) && (os.all Option.isSome && os.all fun o => decide ((o.getD ([], [])).1.length = n))) = true := h
    rw [Bool.and_eq_true, Bool.and_eq_true] at h
    obtain ⟨h1, h2, h3⟩ := h
    have lb := within_nat (l := 0) (m := 10) h1
    have e : os = (os.map fun o => o.getD ([], [])).map some := by
      rw [List.map_map]
      refine (List.map_id os).symm.trans (List.map_congr_left fun q hq => ?_)
      have := List.all_eq_true.mp h2 q hq
      cases q with
      | none => cases this
      | some q => rfl
    refine ⟨os.map fun o => o.getD ([], []), congrArg some e, ?_⟩
    obtain ⟨vs, hS, hl, hz⟩ := hv
    obtain ⟨b, a, ev, hB, _⟩ := hS.sqB
    refine ⟨b, a, vs, ev, hB, ⟨by rw [List.length_map]; exact hl, fun i x q hx hq => ?_⟩, fun q hq => ?_, by rw [List.length_map]; exact lb.2⟩
    · have hq2 : os[i]? = some (some q) := by rw [e, List.getElem?_map, hq]; rfl
      exact hz i x _ hx hq2
    · obtain ⟨o, ho, rfl⟩ := List.mem_map.mp hq
      exact of_decide_eq_true (List.all_eq_true.mp h3 o ho)
/-- points are good points -/
theorem pts_val {K : PySem.W.Frag} {H : Hp} {v : V} {ks : List (List Int)} {n : Nat} (hA : Asks K H v true) (h : PtsAt K H v ks n) (n2 : 2 ≤ n) (n6 : n ≤ 6) (ne : ks ≠ []) : ValAt K H v (some (ks.map fun k => some (k.map V.int))) ∧ okP (some (ks.map fun k => some (k.map V.int))) = true ∧ ksOf (ks.map fun k => some (k.map V.int)) = ks := by
  obtain ⟨b, a, vs, e, hB, hR, hw, few⟩ := h
  have hl := hR.1
  have p1 : 1 ≤ ks.length := List.length_pos_iff.mpr ne
  refine ⟨⟨vs, ⟨hA, Nat.lt_of_le_of_lt (m := 48) (by omega) (by decide), a, e, hB.to⟩, by rw [List.length_map]; exact hl, fun i u o hu ho => ?_⟩, ?_, ?_⟩
  · rw [List.getElem?_map] at ho
    obtain ⟨k, hk, rfl⟩ := Option.map_eq_some_iff.mp ho
    exact ⟨hR.2 i u k hu hk, itemsI k⟩
  · show (within (.int ((ks.map fun k => some (k.map V.int)).length : Nat)) (.int 1) (.int 48) && ptsB (ks.map fun k => some (k.map V.int)) (.int 2) (.int 6)) = true
    rw [Bool.and_eq_true]
    constructor
    · rw [List.length_map]
      show (decide ((1 : Int) ≤ (ks.length : Nat)) && decide (((ks.length : Nat) : Int) ≤ 48)) = true
      rw [Bool.and_eq_true, decide_eq_true_eq, decide_eq_true_eq]
      omega
    · cases ks with
      | nil => exact absurd rfl ne
      | cons k r =>
        have hk := hw k List.mem_cons_self
        show (lenB (some (k.map V.int)) (.int 2) (.int 6) && (some (k.map V.int) :: r.map fun k => some (k.map V.int)).all fun q => lenB q (.int ((some (k.map V.int)).getD []).length) (.int ((some (k.map V.int)).getD []).length) && intsB q) = true
        rw [Bool.and_eq_true, List.all_eq_true]
        constructor
        · show (decide ((2 : Int) ≤ ((k.map V.int).length : Nat)) && decide ((((k.map V.int).length : Nat) : Int) ≤ 6)) = true
          rw [Bool.and_eq_true, decide_eq_true_eq, decide_eq_true_eq, List.length_map]
          omega
        · intro q hq
          have : ∃ k' ∈ k :: r, q = some (k'.map V.int) := by
            rcases List.mem_cons.mp hq with e | hq
            · exact ⟨k, List.mem_cons_self, e⟩
            · obtain ⟨k', h1, h2⟩ := List.mem_map.mp hq
              exact ⟨k', List.mem_cons_of_mem _ h1, h2.symm⟩
          obtain ⟨k', h1, rfl⟩ := this
          rw [Bool.and_eq_true]
          refine ⟨lenB_self ?_, intsB_map k'⟩
          show (k'.map V.int).length = (k.map V.int).length
          rw [List.length_map, List.length_map, hw k' h1, hk]
  · unfold ksOf
    rw [List.map_map]
    refine (List.map_congr_left fun k _ => ?_).trans (List.map_id ks)
    show intsOf (k.map V.int) = k
    exact intsOf_map k
/-- likenesses are good likenesses -/
theorem giv_gv {K : PySem.W.Frag} {C : Addr} {H : Hp} {v : V} {gs : List Q2} {n : Nat} (hA : Asks K H v true) (h : GivAt K C H v gs n) : GvAt K C H v (some (gs.map some)) ∧ okG n (some (gs.map some)) = true := by
  obtain ⟨b, a, vs, e, hB, hR, hw, few⟩ := h
  have hl := hR.1
  refine ⟨⟨vs, ⟨hA, Nat.lt_of_le_of_lt (m := 10) (by omega) (by decide), a, e, hB.to⟩, by rw [List.length_map]; exact hl, fun i u o hu ho => ?_⟩, ?_⟩
  · rw [List.getElem?_map] at ho
    obtain ⟨k, hk, rfl⟩ := Option.map_eq_some_iff.mp ho
    exact hR.2 i u k hu hk
  · show (within (.int (gs.map some).length) (.int 0) (.int 10) && ((gs.map some).all Option.isSome && (gs.map some).all fun o => decide ((o.getD ([], [])).1.length = n))) = true
    rw [Bool.and_eq_true, Bool.and_eq_true, List.all_eq_true, List.all_eq_true]
    refine ⟨?_, fun q hq => ?_, fun q hq => ?_⟩
    · rw [List.length_map]
      show (decide ((0 : Int) ≤ (gs.length : Nat)) && decide (((gs.length : Nat) : Int) ≤ 10)) = true
      rw [Bool.and_eq_true, decide_eq_true_eq, decide_eq_true_eq]
      omega
    · obtain ⟨g, _, rfl⟩ := List.mem_map.mp hq
      rfl
    · obtain ⟨g, hg, rfl⟩ := List.mem_map.mp hq
      exact decide_eq_true (hw g hg)
/-- a call at good points and likenesses -/
theorem lo_good {K : PySem.W.Frag} {C CP CB CM CT : Addr} {H : Hp} {v1 v2 : V} {ks : List (List Int)} {gs : List Q2} {n : Nat} {Q : VK} {E : XK} (A1 : Asks K H v1 true) (A2 : Asks K H v2 true) (h1 : PtsAt K H v1 ks n) (n2 : 2 ≤ n) (n6 : n ≤ 6) (ne : ks ≠ []) (nd : ks.Nodup) (h2 : GivAt K C H v2 gs n)
    (k1 : gs.all (ldsB ks) = false → raisesN CM "points" H E) (k2 : gs.all (ldsB ks) = true → mdOut K C CT n gs H Q E) : spLo K C CP CB CM CT [v1, v2] H Q E := by
  obtain ⟨a1, a2, a3⟩ := pts_val A1 h1 n2 n6 ne
  obtain ⟨b1, b2⟩ := giv_gv A2 h2
  have hn : (ks.headD []).length = n := by
    cases ks with
    | nil => exact absurd rfl ne
    | cons k r =>
      obtain ⟨_, _, _, _, _, _, hw, _⟩ := h1
      exact hw k List.mem_cons_self
  refine ⟨v1, v2, _, _, rfl, a1, b1, fun z => (by rw [a2] at z; cases z), fun os e _ => ?_⟩
  cases e
  rw [a3, hn]
  refine ⟨fun z => absurd nd z, fun _ => ⟨fun z => (by rw [b2] at z; cases z), fun gs' e _ => ?_⟩⟩
  have : gs = gs' := (List.map_inj_right (f := some) fun x y h => Option.some.inj h).mp (Option.some.inj e)
  subst this
  exact ⟨k1, k2⟩
end K0


set_option Elab.async false
set_option linter.all false
set_option maxRecDepth 100000
set_option maxHeartbeats 4000000
set_option exponentiation.threshold 100000
/-! _law_points -/
namespace K0
open PySem PySem.Spec PyProof.Rows L2 RZ K0z KdN
theorem Rep.unc {α : Type} {R : Hp → V → α → Prop} {H : Hp} {x : V} {xs : List V} : ∀ {as : List α}, Rep R H (x :: xs) as → ∃ a as', as = a :: as' ∧ R H x a ∧ Rep R H xs as'
  | [], h => absurd h.1 (by simp)
  | a :: as, h => ⟨a, as, rfl, h.2 0 x a rfl rfl, by simpa using h.1, fun i y b hy hb => h.2 (i + 1) y b hy hb⟩
theorem rep_perm {α : Type} {R : Hp → V → α → Prop} {H : Hp} {xs xs' : List V} (p : xs'.Perm xs) : ∀ {as : List α}, Rep R H xs as → ∃ as', as'.Perm as ∧ Rep R H xs' as' := by
  induction p with
  | nil => exact fun {as} h => ⟨as, List.Perm.refl _, h⟩
  | cons x p ih =>
    intro as h
    obtain ⟨a, as1, rfl, h1, h2⟩ := h.unc
    obtain ⟨as', p', h3⟩ := ih h2
    exact ⟨a :: as', p'.cons a, h3.cons h1⟩
  | swap x y l =>
    intro as h
    obtain ⟨a, as1, rfl, h1, h2⟩ := h.unc
    obtain ⟨b, as2, rfl, h3, h4⟩ := h2.unc
    exact ⟨b :: a :: as2, List.Perm.swap a b as2, (h4.cons h1).cons h3⟩
  | trans p q ih1 ih2 =>
    intro as h
    obtain ⟨as', p', h1⟩ := ih2 h
    obtain ⟨as2, p2, h2⟩ := ih1 h1
    exact ⟨as2, p2.trans p', h2⟩
theorem rep_erase {α : Type} {R : Hp → V → α → Prop} {H : Hp} : ∀ {xs : List V} {as : List α} (j : Nat), Rep R H xs as → Rep R H (xs.eraseIdx j) (as.eraseIdx j)
  | [], [], _, h => by simpa using h
  | [], _ :: _, _, h => absurd h.1 (by simp)
  | x :: xs, as, j, h => by
    obtain ⟨a, as1, rfl, h1, h2⟩ := h.unc
    cases j with
    | zero => exact h2
    | succ j => exact (rep_erase j h2).cons h1
/-- points of the law: new lists of tuples -/
def spPn (K : PySem.W.Frag) : Sp := fun vs H Q _ => ∃ (c d : Addr) (ns : List Int) (m : Nat) (b : Bool) (ga : Addr) (gv : List V) (gs : List Q2) (n : Nat), vs = [.ref c, .ref ga, .int n] ∧ Coil H c d ns m ∧ m ≤ 50000 ∧ SqB K b (Off c H) ga gv ∧ Rep (Pr K) (Off c H) gv gs ∧ GsOk n gs ∧ gs.length ≤ 10 ∧
  ∀ l ys ks H', H l = none → l ≠ c → l ≠ d → H' l = some (.lst ys) → Rep (RT K) (Off c H') ys ks → ks.Nodup → (∀ k ∈ ks, k.length = n) → 1 ≤ ks.length → ks.length ≤ 48 → Coil H' c d ns (m + 200) → SameBut c H H' → Q (.ref l) H'
section
variable {P : Program} {w : World} {K : PySem.W.Frag} {mg : Str → Option Value} {base : Heap} {f g1 g2 g3 g4 : Addr} {fd : FuncData}
abbrev N__law_points : List Str := ["keg", "given", "wide", "points", "turn", "most", "some", "place", "more", "point"]
theorem sc_points : FnScope N__law_points ["keg", "given", "wide"] (defScope st__law_points) := ⟨rfl, rfl, rfl, by decide +kernel, rfl, by decide +kernel, by decide +kernel⟩
theorem ok_law_points (F : Fun K "_law_points" "_law_points" st__law_points f fd) (T : Nm mg) (D__law_tap : Dn P w K mg base 1 "_law_tap" g1 ["keg", "many"] spTurn) (D__law_choose : Dn P w K mg base 2 "_law_choose" g2 ["keg", "some"] (spOne K)) (D__law_stirred : Dn P w K mg base 2 "_law_stirred" g3 ["keg", "some"] (spStir K)) (D__law_reached : Dn P w K mg base 2 "_law_reached" g4 ["given", "points", "most"] (spRch K)) : FnOk P w K mg base CX0 4 f fd ["keg", "given", "wide"] (spPn K) := by
  refine F.ok sc_points (fun vs H Q E h => ?_) (fun cdv A outer s H vs Q E hr h => ?_)
  · obtain ⟨_, _, _, _, _, _, _, _, _, rfl, _⟩ := h
    rfl
  · obtain ⟨c, d, ns, m, b, ga, gv, gs, n, rfl, hC, hm, hB, hR, G, few, k⟩ := h
    refine ⟨_, (pss_cons (ps_set (i := 3) sc_points.nd rfl (Or.inr rfl) (pe_lst (pa_cons (pe_op op_repT (pe_tup (pa_cons pe_int pa_nil)) (pv 2)) pa_nil)))
    (pss_cons (ps_for PassesOwn.never rfl (pi_range1 (by rfl) T.n_range (pa_cons (pe_op op_add pe_int (pe_dn D__law_tap (hr.mono (by decide)) rfl (pa_cons (pv 0) (pa_cons pe_int pa_nil)))) pa_nil)) (pg_name (i := 4) sc_points.nd rfl (Or.inl rfl))
      (pss_cons (ps_set (i := 5) sc_points.nd rfl (Or.inr rfl) (pe_dn D__law_choose (hr.mono (by decide)) rfl (pa_cons (pv 0) (pa_cons (pe_lst (pa_cons pe_int (pa_cons pe_int (pa_cons pe_int (pa_cons (pe_op op_pow pe_int pe_int) pa_nil))))) pa_nil))))
    (pss_cons (ps_set (i := 6) sc_points.nd rfl (Or.inl rfl) (pe_dn D__law_reached (hr.mono (by decide)) rfl (pa_cons (pv 1) (pa_cons (pe_lst (pa_cons (pe_callTy (call_tupK K) (by rfl) T.n_tuple (by decide +kernel) (pa_cons (pe_lc (own := [("place", 7)]) (g := gName 7) (tt := tYes) rfl sc_points.nd (pi_range1 (by rfl) T.n_range (pa_cons (pv 2) pa_nil)) (blkOk_by (N := ["keg", "given", "wide", "points", "turn", "most", "some", "place", "more", "point"]) (sc := defScope st__law_points) (by decide +kernel)) (fun _ _ _ _ _ => (pg_name (i := 7) sc_points.nd rfl (Or.inl rfl))) (fun _ _ _ _ _ => pts_nil) (fun _ _ _ _ _ => (pe_op op_sub (pe_dn D__law_tap (hr.mono (by decide)) rfl (pa_cons (pv 0) (pa_cons (pe_op op_add (pe_op op_mul pe_int (pv 5)) pe_int) pa_nil))) (pv 5)))) pa_nil)) pa_nil)) (pa_cons pe_int pa_nil)))))
    (pss_cons (ps_setLc (i := 8) (own := [("point", 9)]) (g := gName 9) rfl sc_points.nd rfl rfl (sw_true rfl rfl rfl (by decide +kernel)) (pi_seqK K (pv 6)) (blkOk_by (N := ["keg", "given", "wide", "points", "turn", "most", "some", "place", "more", "point"]) (sc := defScope st__law_points) (by decide +kernel)) (fun _ _ _ _ _ => (pg_name (i := 9) sc_points.nd rfl (Or.inl rfl))) (fun _ _ _ _ _ => (pts_one (pt_cmpR (op_notInT K (u65 hr)) (pv 9) (pv 3) (by rfl)))) (fun _ _ _ _ _ => (pv 9)))
    (pss_one (ps_set (i := 3) sc_points.nd rfl (Or.inr rfl) (pe_ifExp (pt_cmpR op_le (pe_op op_add (pe_callB (call_lenK K) (by rfl) T.n_len (by decide +kernel) (pa_cons (pv 3) pa_nil)) (pe_callB (call_lenK K) (by rfl) T.n_len (by decide +kernel) (pa_cons (pv 8) pa_nil))) pe_int (nomark _)) (pe_op op_cat (pv 3) (pv 8)) (pv 3))))))))
    (pss_cons (ps_if (PW.pt (pw_and (pt_cmpR op_eq (pe_dn D__law_tap (hr.mono (by decide)) rfl (pa_cons (pv 0) (pa_cons pe_int pa_nil))) pe_int (nomark _)) (pw_and1 (pt_cmpR op_gt (pe_callB (call_lenK K) (by rfl) T.n_len (by decide +kernel) (pa_cons (pv 3) pa_nil)) pe_int (nomark _))))) (pss_one (ps_expr (pe_bm PySem.F.plainAttrs_list PySem.F.slot_list_pop PySem.F.type_list_pop mt_popAt (pv 3) (pa_cons (pe_dn D__law_tap (hr.mono (by decide)) rfl (pa_cons (pv 0) (pa_cons (pe_callB (call_lenK K) (by rfl) T.n_len (by decide +kernel) (pa_cons (pv 3) pa_nil)) pa_nil))) pa_nil)))) pss_nil)
    (pss_one (ps_ret (pe_dn D__law_stirred (hr.mono (by decide)) rfl (pa_cons (pv 0) (pa_cons (pv 3) pa_nil)))))))), ?_⟩
    have n2 := G.1
    have n6 := G.2.1
    have hcd : c ≠ d := hC.2.1
    have hc0 : ∃ l0, H c = some (.lst l0) := by obtain ⟨_, _, _, a, b, h, _⟩ := hC; exact ⟨_, h⟩
    -- [(0,) * wide]
    refine ⟨(by show 1 ≤ sizeLine; decide), fun l hl => ⟨_, rfl, l, (n : Nat), _, rfl, rfl, .of upd_same, (by intro z; cases z), by omega, by omega, (by show 1 ≤ 1000; decide), fun t2 ht2 => ?_⟩⟩
    have s1 := same_upd (o := .tup [.int 0]) hl
    generalize upd H l (.tup [.int 0]) = H1 at s1 ht2 ⊢
    rw [Int.toNat_natCast, show (List.replicate n [V.int 0]).flatten = (List.replicate n (0 : Int)).map V.int from by rw [List.map_replicate, List.flatten_replicate_singleton]]
    have s2 := same_upd (o := .tup ((List.replicate n (0 : Int)).map V.int)) ht2
    have z2 : upd H1 t2 (.tup ((List.replicate n (0 : Int)).map V.int)) t2 = some (.tup ((List.replicate n (0 : Int)).map V.int)) := upd_same
    have n2c : t2 ≠ c := (hC.but s1).ne ht2 |>.1
    generalize upd H1 t2 (.tup ((List.replicate n (0 : Int)).map V.int)) = H2 at s2 z2 ⊢
    refine ⟨(by show 1 ≤ sizeLine; decide), fun pl hpl => ?_⟩
    have s12 := s1.trans s2
    have hC2 := hC.but s12
    obtain ⟨npc, npd⟩ := hC2.ne hpl
    have s3 := same_upd (o := .lst [.ref t2]) hpl
    have s13 := s12.trans s3
    have hC3 := hC2.but s3
    have zl : upd H2 pl (.lst [.ref t2]) pl = some (.lst [.ref t2]) := upd_same
    have hplH : H pl = none := s12.free hpl
    have z3 := s3 _ _ z2
    generalize upd H2 pl (.lst [.ref t2]) = H3 at s13 hC3 zl z3 ⊢
    have r3 : Rep (RT K) (Off c H3) [.ref t2] [List.replicate n (0 : Int)] := .one ⟨t2, rfl, by rw [off_ne n2c]; exact z3⟩
    clear z3 s3 hC2 s12 hpl z2 s2 ht2 s1 hl
    -- for turn in range(1 + tap(3))
    refine ⟨_, rfl, c, d, ns, m, 3, rfl, hC3, by omega, by decide, small9000 (by decide), fun r3' H4 w0 w1 hC4 sb4 => ?_⟩
    obtain ⟨tn, rfl⟩ : ∃ j : Nat, r3' = (j : Int) := ⟨r3'.toNat, by omega⟩
    refine ⟨1, (tn : Nat), rfl, rfl, ?_⟩
    refine ⟨((1 + tn : Nat) : Int), by rw [show ((1 + tn : Nat) : Int) = 1 + (tn : Int) from by omega], by omega, by omega, ?_⟩
    have sbA : SameBut c H H4 := (SameBut.of s13).trans sb4
    refine for_it (walk_range (lo := 0) (n := 1 + tn)) (fun i σ H' => ∃ pl ys ks a1 a2 a3 a4 a5 a6, σ = [some (.ref c), some (.ref ga), some (.int (n : Nat)), some (.ref pl), a1, a2, a3, a4, a5, a6] ∧ H pl = none ∧ pl ≠ c ∧ pl ≠ d ∧ H' pl = some (.lst ys) ∧ Rep (RT K) (Off c H') ys ks ∧ ks.Nodup ∧ (∀ k ∈ ks, k.length = n) ∧ 1 ≤ ks.length ∧ ks.length ≤ 48 ∧ Coil H' c d ns (m + 1 + 10 * i) ∧ SameBut c H H') ⟨pl, [.ref t2], [List.replicate n (0 : Int)], none, none, none, none, none, none, rfl, hplH, npc, npd, sb4 _ _ npc zl, r3.mono fun _ _ => RT.same sb4.off, List.nodup_cons.mpr ⟨List.not_mem_nil, List.nodup_nil⟩, (fun k hk => by rw [List.mem_singleton.mp hk]; exact List.length_replicate), (by show 1 ≤ 1; decide), (by show 1 ≤ 48; decide), hC4, sbA⟩ (fun _ _ _ _ _ => trivial) ?_ ?_
    · rintro i x σ H5 H5' hi ⟨pl, ys, ks, a1, a2, a3, a4, a5, a6, rfl, hplH, npc, npd, zl5, r5, nd, lens, k1, k48, hC5, sb5⟩ ⟨rfl, rfl⟩
      -- most
      refine ⟨_, rfl, 10, 30, rfl, rfl, ⟨by decide, by decide, by decide⟩, (by show 4 ≤ sizeLine; decide), fun ml hml => ?_⟩
      obtain ⟨nmc, nmd⟩ := hC5.ne hml
      have s6 := same_upd (o := .lst [.int 1, .int 2, .int 9, .int ((10 : Int) ^ (30 : Int).toNat)]) hml
      refine ⟨c, d, ns, _, false, ml, [.int 1, .int 2, .int 9, .int ((10 : Int) ^ (30 : Int).toNat)], rfl, hC5.but s6, by omega, .of (by rw [off_ne nmc]; exact upd_same), (by show 0 < 4; decide), (by show 4 ≤ 100000; decide), fun ci y H7 hy hC7 sb7 => ?_⟩
      obtain ⟨mz, rfl, mz1, mz2⟩ : ∃ mz : Int, y = .int mz ∧ 1 ≤ mz ∧ mz.natAbs ≤ 10 ^ 30 := by
        have := List.mem_of_getElem? hy
        simp only [List.mem_cons, List.not_mem_nil, or_false] at this
        rcases this with rfl | rfl | rfl | rfl
        · exact ⟨_, rfl, by decide, by decide⟩
        · exact ⟨_, rfl, by decide, by decide⟩
        · exact ⟨_, rfl, by decide, by decide⟩
        · exact ⟨_, rfl, by decide, by decide⟩
      have sb57 : SameBut c H5' H7 := (SameBut.of s6).trans sb7
      have zl7 := sb57 _ _ npc zl5
      have r7 := r5.mono fun _ _ => RT.same sb57.off
      have sbH7 := sb5.trans sb57
      generalize H5' = H5 at *
      clear sb7 hy s6 hml
      -- the drawn point
      refine ⟨_, rfl, ?_⟩
      refine ⟨_, rfl, _, rfl, by omega, by omega, fun D hD => ?_⟩
      refine lc_drawW (walk_range (lo := 0) (n := n)) (fun _ y _ => ∃ x, y = .int x ∧ True) (k := 1) (by omega) hD hC7 (fun _ _ => trivial) (fun _ _ _ _ _ h => h) (fun _ _ _ _ _ _ h => h) ?_ ?_
      · rintro j x H8 H8' m' hj hm' hC8 sb8 _ ⟨rfl, rfl⟩ R hR'
        refine ⟨rfl, ?_⟩
        refine ⟨_, rfl, _, rfl, 2, mz, rfl, rfl, .inl ⟨by decide, by decide⟩, _, 1, rfl, rfl, c, d, ns, m', 2 * mz + 1, rfl, hC8, by omega, by omega, small9000 ?_, fun r H9 r0 r1 hC9 sb9 => ⟨_, rfl, r, mz, rfl, rfl, hR' _ _ ⟨r - mz, rfl, trivial⟩ hC9 sb9⟩⟩
        have : (2 * 10 ^ 30 + 1 : Nat) < 2 ^ 200 := by decide
        generalize (2 : Nat) ^ 200 = z at this ⊢
        omega
      intro H8 acc0 la hacc hD8 hC8 sb8
      obtain ⟨xs, rfl, lx, _⟩ := ints_acc hacc
      have hxn : xs.length = n := lx.trans la
      refine ⟨false, D, _, rfl, .of hD8, fun _ tp htp => ?_, fun z => by cases z⟩
      have s9 := same_upd (o := .tup (xs.map V.int)) htp
      have z9 : upd H8 tp (.tup (xs.map V.int)) tp = some (.tup (xs.map V.int)) := upd_same
      generalize upd H8 tp (.tup (xs.map V.int)) = H9 at s9 z9 ⊢
      refine ⟨(by show 1 ≤ sizeLine; decide), fun pa hpa => ?_⟩
      have s10 := same_upd (o := .lst [.ref tp]) hpa
      have z10 : upd H9 pa (.lst [.ref tp]) pa = some (.lst [.ref tp]) := upd_same
      have z10t := s10 _ _ z9
      generalize upd H9 pa (.lst [.ref tp]) = H10 at s10 z10 z10t ⊢
      have sb710 := sb8.trans (SameBut.of (s9.trans s10))
      have sbH10 := sbH7.trans sb710
      have hC10 := hC8.but (s9.trans s10)
      refine ⟨b, ga, pa, tp, gv, gs, xs, n, 48, rfl, hB.same sbH10.up, hR.mono fun _ _ => Pr.same sbH10.up, G.2.2, few, z10, z10t, hxn, by decide, by decide, fun sl ss L H11 s11 hsl hsl11 hrs part closed lenL => ?_⟩
      have sb711 := sb710.trans (SameBut.of s11)
      have hC11 := hC10.but s11
      have lensL : ∀ x ∈ L, x.length = n := fun x hx => rch_len hxn (fun g hg => (G.2.2 g hg).2) (part.sub x hx)
      generalize H10 = H10' at *
      clear z10t z10 s10 hpa z9 s9 htp hD8 hacc sb8 hD
      -- more
      refine ⟨_, rfl, false, sl, rfl, ⟨_, .of hsl11⟩, fun D2 hD2 => ?_⟩
      refine lc_it (walk_seq (b := false) (xs := ss)) (fun i H' => ∃ acc, Same H11 H' ∧ H' D2 = some (.lst acc) ∧ Rep (RT K) H' acc ((L.take i).filter fun x => !decide (x ∈ ks))) ⟨[], same_upd hD2, upd_same, .nil⟩ (fun i H' _ ⟨_, s, _⟩ => .of (s _ _ hsl11)) ?_ ?_
      · rintro j x H12 H12' hj ⟨acc, s12, hD12, hr12⟩ ⟨rfl, hx⟩
        obtain ⟨led, hled, hRT⟩ := hrs.at' hx
        have sb712 := sb711.trans (SameBut.of s12)
        have hacl : acc.length < 1000 := by
          have h1 := hr12.1
          have h2 := List.length_filter_le (fun x => !decide (x ∈ ks)) (L.take j)
          rw [List.length_take] at h2
          omega
        refine ⟨rfl, ?_⟩
        refine ⟨_, rfl, _, rfl, pl, ys, ks, led, rfl, .of (sb712 _ _ npc zl7), r7.mono fun _ _ => RT.same sb712.up, hRT.same s12, _, rfl, ?_⟩
        by_cases hm : led ∈ ks
        · rw [show (if true = true then !decide (led ∈ ks) else decide (led ∈ ks)) = false from by rw [if_pos rfl, decide_eq_true hm]; rfl]
          refine iteF ⟨acc, s12, hD12, ?_⟩
          rw [take_snoc hled, List.filter_append, List.filter_cons_of_neg (by rw [decide_eq_true hm]; decide), List.filter_nil, List.append_nil]
          exact hr12
        · rw [show (if true = true then !decide (led ∈ ks) else decide (led ∈ ks)) = true from by rw [if_pos rfl, decide_eq_false hm]; rfl]
          refine iteT ⟨_, rfl, acc, hD12, Nat.lt_of_lt_of_le hacl (by decide), _, same_at hD12 s12 hD2, upd_same, ?_⟩
          rw [take_snoc hled, List.filter_append, List.filter_cons_of_pos (by rw [decide_eq_false hm]; rfl), List.filter_nil]
          exact (hr12.mono fun _ _ => RT.lst hD12).app (.one ((hRT.same s12).lst hD12))
      rintro H12 ⟨acc, s12, hD12, hr12⟩
      rw [hrs.1, List.take_length] at hr12
      have sb712 := sb711.trans (SameBut.of s12)
      have sbH12 := sbH7.trans sb712
      have zl12 := sb712 _ _ npc zl7
      have r12 := r7.mono fun _ _ => RT.same sb712.off
      have hC12 := hC11.but s12
      have hyl := r7.1
      refine ⟨_, rfl, false, pl, ys, rfl, .of zl12, _, rfl, false, D2, acc, rfl, .of hD12, _, _, rfl, rfl, _, _, rfl, rfl, _, rfl, ?_⟩
      by_cases c48 : ys.length + acc.length ≤ 48
      · rw [decide_eq_true (by omega : ((ys.length : Nat) : Int) + ((acc.length : Nat) : Int) ≤ 48)]
        refine iteT ⟨_, rfl, _, rfl, pl, D2, ys, acc, rfl, rfl, zl12, hD12, Nat.le_trans c48 (by decide), fun np hnp => ?_⟩
        obtain ⟨nnc, nnd⟩ := hC12.ne hnp
        have s13 := same_upd (o := .lst (ys ++ acc)) hnp
        have hcc : ∃ l0, upd H12 np (.lst (ys ++ acc)) c = some (.lst l0) := by obtain ⟨_, _, _, a, b, h, _⟩ := hC12.but s13; exact ⟨_, h⟩
        obtain ⟨l0, hcc⟩ := hcc
        refine ⟨np, ys ++ acc, ks ++ L.filter fun x => !decide (x ∈ ks), _, _, _, _, _, _, rfl, sbH12.free nnc hnp, nnc, nnd, upd_same, ?_, ?_, ?_, ?_, ?_, (hC12.but s13).more (by omega), sbH12.trans (SameBut.of s13)⟩
        · exact (r12.mono fun _ _ => RT.same (SameBut.of s13).off).app (hr12.mono fun x n h => by
            obtain ⟨t, e, h⟩ := h.same s13
            exact ⟨t, e, by rw [off_ne (fun z => by rw [z, hcc] at h; cases h)]; exact h⟩)
        · refine List.nodup_append.mpr ⟨nd, part.nd.filter _, fun a ha b hb e => ?_⟩
          have := (List.mem_filter.mp hb).2
          rw [← e, decide_eq_true ha] at this
          cases this
        · intro x hx
          rcases List.mem_append.mp hx with h | h
          · exact lens x h
          · exact lensL x (List.mem_filter.mp h).1
        · rw [List.length_append]; omega
        · rw [List.length_append, ← hr12.1, ← hyl]; exact c48
      · rw [decide_eq_false (by omega : ¬ ((ys.length : Nat) : Int) + ((acc.length : Nat) : Int) ≤ 48)]
        exact iteF ⟨_, rfl, pl, ys, ks, _, _, _, _, _, _, rfl, hplH, npc, npd, zl12, r12, nd, lens, k1, k48, hC12.more (by omega), sbH12⟩
    · rintro σ H5 ⟨pl, ys, ks, a1, a2, a3, a4, a5, a6, rfl, hplH, npc, npd, zl5, r5, nd, lens, k1, k48, hC5, sb5⟩
      have fin : ∀ (ys : List V) (ks : List (List Int)) (H5 : Hp) (E' : XK), H5 pl = some (.lst ys) → Rep (RT K) (Off c H5) ys ks → ks.Nodup → (∀ k ∈ ks, k.length = n) → 1 ≤ ks.length → ks.length ≤ 48 → Coil H5 c d ns (m + 100) → SameBut c H H5 → spStir K [.ref c, .ref pl] H5 Q E' := fun ys ks H5 E' zl r nd lens k1 k48 hC sb => by
        have hl := r.1
        refine ⟨c, d, ns, m + 100, false, pl, ys, rfl, hC, by omega, .of (by rw [off_ne npc]; exact zl), by omega, fun p ys' H' hperm hp hpc hpd hz hC' sb' => ?_⟩
        obtain ⟨ks', hk, r'⟩ := rep_perm hperm (r.mono fun _ _ => RT.same sb'.off)
        exact k p ys' ks' H' (sb.free hpc hp) hpc hpd hz r' (hk.nodup_iff.mpr nd) (fun k h => lens k (hk.mem_iff.mp h)) (by rw [hk.length_eq]; exact k1) (by rw [hk.length_eq]; exact k48) (hC'.more (by omega)) (sb.trans sb')
      have hyl := r5.1
      refine ⟨_, rfl, c, d, ns, _, 4, rfl, hC5, by omega, by decide, small9000 (by decide), fun r H6 r0 r1 hC6 sb6 => ⟨rfl, ?_⟩⟩
      rw [dec_int]
      refine ⟨_, rfl, ?_⟩
      have zl6 := sb6 _ _ npc zl5
      have r6 := r5.mono fun _ _ => RT.same sb6.off
      have sbH6 := sb5.trans sb6
      by_cases c0 : r = 0
      · rw [show (r == 0) = true from by rw [c0]; rfl]
        refine iteT ⟨_, rfl, false, pl, ys, rfl, .of zl6, _, _, rfl, rfl, _, rfl, ?_⟩
        by_cases c1 : 1 < ys.length
        · rw [decide_eq_true (by omega : (1 : Int) < (ys.length : Nat))]
          refine iteT ?_
          refine ⟨.ref pl, rfl, .inl ⟨rfl, _, .of zl6⟩, _, rfl, _, rfl, false, pl, _, rfl, .of zl6, c, d, ns, _, _, rfl, hC6, by omega, by omega, natAbs_small (k := 0) (by omega), fun r3 H7 r0 r1 hC7 sb7 => ?_⟩
          obtain ⟨j, rfl⟩ : ∃ j : Nat, r3 = (j : Int) := ⟨r3.toNat, by omega⟩
          have hj : j < ys.length := by omega
          have zl7 := sb7 _ _ npc zl6
          refine ⟨pl, ys, (j : Nat), j, _, rfl, rfl, zl7, by omega, by omega, PySem.seqIndex_of (by omega) (by omega), List.getElem?_eq_getElem hj, ?_⟩
          obtain ⟨l0, hcc⟩ : ∃ l0, H7 c = some (.lst l0) := by obtain ⟨_, _, _, a, b, h, _⟩ := hC7; exact ⟨_, h⟩
          refine ⟨_, rfl, _, rfl, fin (ys.eraseIdx j) (ks.eraseIdx j) _ E0 upd_same ?_ (nd.sublist (List.eraseIdx_sublist ks j)) (fun k h => lens k ((List.eraseIdx_sublist ks j).mem h)) ?_ ?_ ((hC7.upd npc npd).more (by omega)) (fun x o n e => ?_)⟩
          · refine (rep_erase j (r6.mono fun _ _ => RT.same sb7.off)).mono fun x n h => ?_
            have hpo : Off c H7 pl = some (.lst ys) := by rw [off_ne npc]; exact zl7
            have := RT.lst (o := .lst (ys.eraseIdx j)) hpo h
            have eo : upd (Off c H7) pl (.lst (ys.eraseIdx j)) = Off c (upd H7 pl (.lst (ys.eraseIdx j))) := by
              funext x
              by_cases hx : x = pl
              · rw [hx, upd_same, off_ne npc, upd_same]
              · rw [upd_ne hx]
                unfold Off
                by_cases hxc : x = c
                · rw [if_pos hxc, if_pos hxc]
                · rw [if_neg hxc, if_neg hxc, upd_ne hx]
            rw [← eo]
            exact this
          · rw [List.length_eraseIdx_of_lt (by omega)]; omega
          · rw [List.length_eraseIdx_of_lt (by omega)]; omega
          · rw [upd_ne (ne_of_none e hplH)]
            exact (sbH6.trans sb7) x o n e
        · rw [decide_eq_false (by omega : ¬ (1 : Int) < (ys.length : Nat))]
          exact iteF ⟨_, rfl, _, rfl, fin ys ks _ E0 zl6 r6 nd lens k1 k48 (hC6.more (by omega)) sbH6⟩
      · rw [show (r == 0) = false from by rw [beq_eq_false_iff_ne]; exact c0]
        exact iteF (iteF ⟨_, rfl, _, rfl, fin ys ks _ E0 zl6 r6 nd lens k1 k48 (hC6.more (by omega)) sbH6⟩)
end
end K0


set_option Elab.async false
set_option linter.all false
set_option maxRecDepth 100000
set_option maxHeartbeats 4000000
set_option exponentiation.threshold 100000
/-! _law_strays -/
namespace K0
open PySem PySem.Spec PyProof.Rows L2 RZ K0z KdN
/-- some point is led to none of the points -/
def offB (ks : List (List Int)) (gs : List Q2) (k : List Int) : Bool := gs.any fun g => !decide (ledL g.1 g.2 k ∈ ks)
def strB (ks : List (List Int)) (gs : List Q2) : Bool := ks.any (offB ks gs)
theorem str_leads (ks : List (List Int)) (gs : List Q2) : gs.all (ldsB ks) = !strB ks gs := by
  have h1 : ∀ ps ss k, (ks.any fun n => decide (n = ledL ps ss k)) = decide (ledL ps ss k ∈ ks) := fun ps ss k => by
    rw [Bool.eq_iff_iff, List.any_eq_true, decide_eq_true_eq]
    constructor
    · rintro ⟨n, hn, e⟩
      rw [← of_decide_eq_true e]
      exact hn
    · exact fun h => ⟨_, h, decide_eq_true rfl⟩
  rw [Bool.eq_iff_iff, List.all_eq_true, Bool.not_eq_true', Bool.eq_false_iff]
  unfold strB offB ldsB
  constructor
  · intro h z
    obtain ⟨k, hk, h2⟩ := List.any_eq_true.mp z
    obtain ⟨g, hg, h3⟩ := List.any_eq_true.mp h2
    have h4 := List.all_eq_true.mp (h g hg) k hk
    rw [h1 g.1 g.2 k] at h4
    rw [h4] at h3
    cases h3
  · intro h g hg
    rw [List.all_eq_true]
    intro k hk
    rw [h1 g.1 g.2 k]
    cases e : decide (ledL g.1 g.2 k ∈ ks) with
    | true => rfl
    | false => exact absurd (List.any_eq_true.mpr ⟨k, hk, List.any_eq_true.mpr ⟨g, hg, by show (!decide (ledL g.1 g.2 k ∈ ks)) = true; rw [show decide (ledL g.1 g.2 k ∈ ks) = false from e]; rfl⟩⟩) h
abbrev scS1 : Scope := { kind := ScopeKind.function, names := [((".0" : Str), NameKind.local), (("point" : Str), NameKind.cell), (("given" : Str), NameKind.cell), (("points" : Str), NameKind.cell)], isGenerator := false, isCoroutine := false }
def spStr (K : PySem.W.Frag) : Sp := fun vs H Q _ => ∃ (b : Bool) (ga pl : Addr) (gv : List V) (gs : List Q2) (ys : List V) (ks : List (List Int)) (n : Nat), vs = [.ref ga, .ref pl] ∧ SqB K b H ga gv ∧ Rep (Pr K) H gv gs ∧ GsOk n gs ∧ gs.length ≤ 10 ∧ H pl = some (.lst ys) ∧ Rep (RT K) H ys ks ∧ (∀ k ∈ ks, k.length = n) ∧ ks.length ≤ 48 ∧
  ∀ H', Same H H' → Q (.bl (strB ks gs)) H'
theorem any_snoc {α : Type} {l : List α} {i : Nat} {a : α} (f : α → Bool) (h : l[i]? = some a) : (l.take (i + 1)).any f = ((l.take i).any f || f a) := by
  rw [take_snoc h, List.any_append, List.any_cons, List.any_nil, Bool.or_false]
section
variable {P : Program} {w : World} {K : PySem.W.Frag} {mg : Str → Option Value} {base : Heap} {f g1 : Addr} {fd : FuncData}
abbrev N__law_strays : List Str := ["given", "points", "point", "one"]
theorem sc_strays : FnScope N__law_strays ["given", "points"] (defScope st__law_strays) := ⟨rfl, rfl, rfl, by decide +kernel, rfl, by decide +kernel, by decide +kernel⟩
theorem ok_law_strays (F : Fun K "_law_strays" "_law_strays" st__law_strays f fd) (T : Nm mg) (D__law_led : Dn P w K mg base 1 "_law_led" g1 ["one", "point"] (spLw K)) : FnOk P w K mg base CX0 2 f fd ["given", "points"] (spStr K) := by
  refine F.ok sc_strays (fun vs H Q E h => ?_) (fun cdv A outer s H vs Q E hr h => ?_)
  · obtain ⟨_, _, _, _, _, _, _, _, rfl, _⟩ := h
    rfl
  · obtain ⟨b, ga, pl, gv, gs, ys, ks, n, rfl, hB, hR, G, few, hpl, hry, lens, k48, k⟩ := h
    refine ⟨_, (pss_one (ps_ret (pe_cmpR (op_neNil K hr.units) (pe_lc (own := [("point", 2)]) (g := gName 2) rfl sc_strays.nd (pi_seqK K (pv 1)) (blkOk_by (N := ["given", "points", "point", "one"]) (sc := defScope st__law_strays) (by decide +kernel)) (fun _ _ _ _ _ => (pg_name (i := 2) sc_strays.nd rfl (Or.inr rfl))) (fun _ _ _ _ _ => (pts_one (pt_cmpR (op_neNil K hr.units) (pe_lc (own := [("one", 3)]) (g := gName 3) rfl sc_strays.nd (pi_seqK K (pv 0)) (blkOk_by (N := ["given", "points", "point", "one"]) (sc := scS1) (by decide +kernel)) (fun _ _ _ _ _ => (pg_name (i := 3) sc_strays.nd rfl (Or.inl rfl))) (fun _ _ _ _ _ => (pts_one (pt_cmpR (op_notInT K (u65 hr)) (pe_dn D__law_led (hr.mono (by decide)) rfl (pa_cons (pv 3) (pa_cons (pv 2) pa_nil))) (pv 1) (by rfl)))) (fun _ _ _ _ _ => (pv 3))) (pe_lst pa_nil) (nomark _)))) (fun _ _ _ _ _ => (pv 2))) (pe_lst pa_nil) (nomark _)))), ?_⟩
    have hyl := hry.1
    have hgl := hR.1
    refine ⟨_, rfl, false, pl, rfl, ⟨_, .of hpl⟩, fun D hD => ?_⟩
    refine lc_it (walk_seq (b := false) (xs := ys)) (fun i H' => ∃ acc, Same H H' ∧ H' D = some (.lst acc) ∧ acc.length ≤ i ∧ acc.isEmpty = !((ks.take i).any (offB ks gs))) ⟨[], same_upd hD, upd_same, Nat.le_refl _, rfl⟩ (fun i H' _ ⟨_, s, _⟩ => .of (s _ _ hpl)) ?_ ?_
    · rintro i x H1 H1' hi ⟨acc, s1, hD1, la, he1⟩ ⟨rfl, hx⟩
      obtain ⟨kk, hk, t, rfl, ht⟩ := hry.at' hx
      refine ⟨rfl, ?_⟩
      refine ⟨_, rfl, b, ga, rfl, ⟨_, hB.same s1⟩, fun D2 hD2 => ?_⟩
      refine lc_it (walk_seq (b := b) (xs := gv)) (fun j H' => ∃ acc, Same H1' H' ∧ H' D2 = some (.lst acc) ∧ acc.length ≤ j ∧ acc.isEmpty = !((gs.take j).any fun g => !decide (ledL g.1 g.2 kk ∈ ks))) ⟨[], same_upd hD2, upd_same, Nat.le_refl _, rfl⟩ (fun j H' _ ⟨_, s, _⟩ => hB.same (s1.trans s)) ?_ ?_
      · rintro j y H2 H2' hj ⟨acc2, s2, hD2', la2, he2⟩ ⟨rfl, hy⟩
        obtain ⟨g, hg, hpr⟩ := hR.at' hy
        obtain ⟨Lg, lg⟩ := G.2.2 g (List.mem_of_getElem? hg)
        have s12 := s1.trans s2
        refine ⟨rfl, ?_⟩
        refine ⟨_, rfl, _, rfl, _, g, true, t, kk, rfl, hpr.same s12, Lg, .of (s12 _ _ ht), (lens kk (List.mem_of_getElem? hk)).trans lg.symm, fun a H3 s3 ha hz => ?_⟩
        have s13 := s12.trans s3
        have hD3 := s3 _ _ hD2'
        refine ⟨_, rfl, pl, ys, ks, ledL g.1 g.2 kk, rfl, .of (s13 _ _ hpl), hry.mono fun _ _ => RT.same s13, ⟨a, rfl, hz⟩, _, rfl, ?_⟩
        have hs := any_snoc (fun g : Q2 => !decide (ledL g.1 g.2 kk ∈ ks)) hg
        by_cases hm : ledL g.1 g.2 kk ∈ ks
        · rw [show (if true = true then !decide (ledL g.1 g.2 kk ∈ ks) else decide (ledL g.1 g.2 kk ∈ ks)) = false from by rw [if_pos rfl, decide_eq_true hm]; rfl]
          refine iteF ⟨acc2, s2.trans s3, hD3, by omega, ?_⟩
          rw [hs, show (!decide (ledL g.1 g.2 kk ∈ ks)) = false from by rw [decide_eq_true hm]; rfl, Bool.or_false]
          exact he2
        · rw [show (if true = true then !decide (ledL g.1 g.2 kk ∈ ks) else decide (ledL g.1 g.2 kk ∈ ks)) = true from by rw [if_pos rfl, decide_eq_false hm]; rfl]
          refine iteT ⟨_, rfl, acc2, hD3, Nat.lt_of_le_of_lt (m := 10) (by omega) (by decide), _, same_at hD3 (s2.trans s3) hD2, upd_same, by rw [List.length_append]; show acc2.length + 1 ≤ j + 1; omega, ?_⟩
          rw [hs, show (!decide (ledL g.1 g.2 kk ∈ ks)) = true from by rw [decide_eq_false hm]; rfl, Bool.or_true]
          cases acc2 <;> rfl
      · rintro H2 ⟨acc2, s2, hD2', la2, he2⟩
        rw [hgl, List.take_length] at he2
        refine ⟨(by show 0 ≤ sizeLine; decide), fun p hp => ?_⟩
        have s3 := same_upd (o := .lst []) hp
        have s13 := s2.trans s3
        have hD3 := s13 _ _ hD1
        refine ⟨D2, p, acc2, rfl, rfl, .of (s3 _ _ hD2'), .of upd_same, _, rfl, ?_⟩
        have hs := any_snoc (offB ks gs) hk
        rw [show (!acc2.isEmpty) = offB ks gs kk from by rw [he2, Bool.not_not]; rfl]
        cases ho : offB ks gs kk with
        | false =>
          refine iteF ⟨acc, s1.trans s13, hD3, by omega, ?_⟩
          rw [hs, ho, Bool.or_false]
          exact he1
        | true =>
          refine iteT ⟨_, rfl, acc, hD3, Nat.lt_of_le_of_lt (m := 48) (by omega) (by decide), _, same_at hD3 (s1.trans s13) hD, upd_same, by rw [List.length_append]; show acc.length + 1 ≤ i + 1; omega, ?_⟩
          rw [hs, ho, Bool.or_true]
          cases acc <;> rfl
    · rintro H1 ⟨acc, s1, hD1, la, he1⟩
      rw [hyl, List.take_length] at he1
      refine ⟨(by show 0 ≤ sizeLine; decide), fun p hp => ?_⟩
      have s3 := same_upd (o := .lst []) hp
      refine ⟨D, p, acc, rfl, rfl, .of (s3 _ _ hD1), .of upd_same, ?_⟩
      rw [show (!acc.isEmpty) = strB ks gs from by rw [he1, Bool.not_not]; rfl]
      exact k _ (s1.trans s3)
end
end K0


set_option Elab.async false
set_option linter.all false
set_option maxRecDepth 100000
set_option maxHeartbeats 4000000
/-! == item by item, whatever it answers; in by an own == -/
namespace GQ
open PySem PySem.SeqAt
open AutoSeq1 (wpAny_loadPart')
open MeetsSeq MeetsSeq2 MeetsSeq3 SeqRoads2
section
variable {prog : Program} {w : World} {A : Around} {R : Result → Shared → Prop}
theorem tuple_neB (l b : Addr) (items items2 : Array Value) (n n2 : Nat) (dd dd2 : Option Addr) (sl sl2 : Array (Option Value)) (e : Nat → Bool) (I : Nat → Shared → Prop)
    (turn : ∀ i (h1 : i < items.size) (h2 : i < items2.size) s, I i s → wpAny (model prog w) A.in1 (eqBool items[i] items2[i]) (fun r s' => r = e i ∧ (e i = true → I (i + 1) s') ∧ (e i = false → R (.ok (.ret (.bool true))) s')) (fun e s' => R (.error e) s') s)
    (fin : ∀ s, I (min items.size items2.size) s → R (.ok (.ret (.bool (items.size != items2.size)))) s) {s : Shared} (hl1 : s.heap.get? l = some { cls := .type "tuple", dict := dd, data := .seq items n, slots := sl }) (hb1 : s.heap.get? b = some { cls := .type "tuple", dict := dd2, data := .seq items2 n2, slots := sl2 }) (h : I 0 s) :
    wpAny (model prog w) A.in1 (Builtin.«tuple.__ne__» ⟨[.ref l, .ref b], []⟩) (FinOf prog w A R) (fun e s' => R (.error e) s') s := by
  have f2 := AutoSeq1.sub_tuple_tuple
  have hZ : (items.toList.zip items2.toList).length = min items.size items2.size := by simp
  have h0 := h
  obtain ⟨hp, g, d, tk, os⟩ := s
  wp_walk using wpAny_loadPart' hl1, wpAny_loadPart' hb1, wpAny_forIn_list _ (fun rest b s' => b.1 = none ∧ ∃ i, rest = (items.toList.zip items2.toList).drop i ∧ i ≤ min items.size items2.size ∧ I i s') _
  case turn =>
    rintro ⟨y, x⟩ rest b s' ⟨hb', i, hz, hi, hI⟩
    have hlt : i < (items.toList.zip items2.toList).length := by
      rcases Nat.lt_or_ge i (items.toList.zip items2.toList).length with h' | h'
      · exact h'
      · rw [List.drop_of_length_le h'] at hz; cases hz
    have hm : i < min items.size items2.size := hZ ▸ hlt
    have h1 : i < items.size := Nat.lt_of_lt_of_le hm (Nat.min_le_left _ _)
    have h2 : i < items2.size := Nat.lt_of_lt_of_le hm (Nat.min_le_right _ _)
    rw [List.drop_eq_getElem_cons hlt] at hz
    injection hz with hyx hrest
    have hy : y = items[i] := by have := congrArg Prod.fst hyx; simpa using this
    have hx : x = items2[i] := by have := congrArg Prod.snd hyx; simpa using this
    subst hy hx
    refine wpAny_bind (wpAny_mono (turn i h1 h2 s' hI) (fun r s2 q2 => ?_) fun _ _ x => x)
    obtain ⟨hr, q1, q2⟩ := q2
    subst hr
    cases he : e i with
    | true =>
      have q3 := q1 he
      wp_walk
      exact ⟨rfl, i + 1, hrest, hm, q3⟩
    | false =>
      have q3 := q2 he
      obtain ⟨hp2, g2, d2, tk2, os2⟩ := s2
      wp_walk
      simpa using q3
  case fin =>
    rintro ⟨b1, b2⟩ s' ⟨hb', i, hz, hi, hI⟩
    simp only at hb'
    subst hb'
    have hge : min items.size items2.size ≤ i := by
      rcases Nat.lt_or_ge i (items.toList.zip items2.toList).length with h' | h'
      · rw [List.drop_eq_getElem_cons h'] at hz; cases hz
      · exact hZ ▸ h'
    have hi' : i = min items.size items2.size := Nat.le_antisymm hi hge
    have hR := fin s' (hi' ▸ hI)
    wp_walk
    simpa [Builtin.Tuple.tupleCompareSizes, bne] using hR
  case h =>
    exact ⟨rfl, 0, rfl, Nat.zero_le _, h0⟩
end
section
variable {prog : Program} {w : World} {A : Around} {E : Value → Shared → Prop} {s : Shared}
theorem rc_tupNe {l b : Addr} {items items2 : Array Value} {Q : Value → Shared → Prop} (hu : A.units < cLine) (e : Nat → Bool) (I : Nat → Shared → Prop)
    (hl : s.heap.IsTuple l items) (hb : s.heap.IsTuple b items2)
    (turn : ∀ i (h1 : i < items.size) (h2 : i < items2.size) s, I i s → wpAny (model prog w) A.in1 (eqBool items[i] items2[i]) (fun r s' => r = e i ∧ (e i = true → I (i + 1) s') ∧ (e i = false → Q (.bool true) s')) E s)
    (fin : ∀ s, I (min items.size items2.size) s → Q (.bool (items.size != items2.size)) s) (h : I 0 s) : wpAny (model prog w) A (richCompare .NotEq (.ref l) (.ref b)) Q E s := by
  obtain ⟨⟨cls, dd, data, sl⟩, ho, hc, n, hd⟩ := id hl
  obtain ⟨⟨cls2, dd2, data2, sl2⟩, ho2, hc2, n2, hd2⟩ := id hb
  simp only at hc hd hc2 hd2
  subst hc hd hc2 hd2
  refine wpAny_richCompare_same_room (op := .NotEq) ⟨_, ho, rfl⟩ ⟨_, ho2, rfl⟩ F.slot_tuple_ne (call_here F.slot_tuple_ne ⟨_, ho, rfl⟩ F.entry_tuple_ne (F.args_tuple_ne_2 _ _) ?_) hu
  refine tuple_neB (R := wants (fun v s' => v ≠ .notImplemented ∧ Q v s') E) l b items items2 n n2 dd dd2 sl sl2 e I (fun i h1 h2 s' hI => wpAny_mono (turn i h1 h2 s' hI) (fun r s2 q => ⟨q.1, q.2.1, fun z => ⟨(fun x => nomatch x), q.2.2 z⟩⟩) fun _ _ z => z) (fun s' q => ⟨(fun x => nomatch x), fin s' q⟩) ho ho2 h
end
section
variable {prog : Program} {w : World} {A : Around} {R : Result → Shared → Prop}
theorem tuple_inB (l : Addr) (items : Array Value) (n : Nat) (dd : Option Addr) (sl : Array (Option Value)) (x : Value) (e : Nat → Bool) (I : Nat → Shared → Prop)
    (turn : ∀ i (h1 : i < items.size) s, I i s → wpAny (model prog w) A.in1 (eqBool items[i] x) (fun r s' => r = e i ∧ (e i = false → I (i + 1) s') ∧ (e i = true → R (.ok (.ret (.bool true))) s')) (fun e s' => R (.error e) s') s)
    (fin : ∀ s, I items.size s → R (.ok (.ret (.bool false))) s) {s : Shared} (hl1 : s.heap.get? l = some { cls := .type "tuple", dict := dd, data := .seq items n, slots := sl }) (h : I 0 s) :
    wpAny (model prog w) A.in1 (Builtin.«tuple.__contains__» ⟨[.ref l, x], []⟩) (FinOf prog w A R) (fun e s' => R (.error e) s') s := by
  have h0 := h
  obtain ⟨hp, g, d, tk, os⟩ := s
  wp_walk using wpAny_loadPart' hl1, wpAny_forIn_array _ (fun rest b s' => b.1 = none ∧ ∃ i, rest = items.toList.drop i ∧ i ≤ items.size ∧ I i s') _
  case turn =>
    rintro y rest b s' ⟨hb', i, hz, hi, hI⟩
    have hlt : i < items.toList.length := by
      rcases Nat.lt_or_ge i items.toList.length with h' | h'
      · exact h'
      · rw [List.drop_of_length_le h'] at hz; cases hz
    have h1 : i < items.size := by simpa using hlt
    rw [List.drop_eq_getElem_cons hlt] at hz
    injection hz with hy hrest
    have hy : y = items[i] := by simpa using hy
    subst hy
    refine wpAny_bind (wpAny_mono (turn i h1 s' hI) (fun r s2 q2 => ?_) fun _ _ x => x)
    obtain ⟨hr, q1, q2⟩ := q2
    subst hr
    cases he : e i with
    | false =>
      have q3 := q1 he
      wp_walk
      exact ⟨rfl, i + 1, hrest, h1, q3⟩
    | true =>
      have q3 := q2 he
      obtain ⟨hp2, g2, d2, tk2, os2⟩ := s2
      wp_walk
      simpa using q3
  case fin =>
    rintro ⟨b1, b2⟩ s' ⟨hb', i, hz, hi, hI⟩
    simp only at hb'
    subst hb'
    have hge : items.size ≤ i := by
      rcases Nat.lt_or_ge i items.toList.length with h' | h'
      · rw [List.drop_eq_getElem_cons h'] at hz; cases hz
      · simpa using h'
    have hi' : i = items.size := Nat.le_antisymm hi hge
    have hR := fin s' (hi' ▸ hI)
    wp_walk
    simpa using hR
  case h =>
    exact ⟨rfl, 0, rfl, Nat.zero_le _, h0⟩
end
section
variable {prog : Program} {w : World} {A : Around} {E : Value → Shared → Prop} {s : Shared}
theorem in_tupB {l : Addr} {items : Array Value} {x : Value} {Q : Bool → Shared → Prop} (e : Nat → Bool) (I : Nat → Shared → Prop) (hl : s.heap.IsTuple l items)
    (turn : ∀ i (h1 : i < items.size) s, I i s → wpAny (model prog w) A.in1 (eqBool items[i] x) (fun r s' => r = e i ∧ (e i = false → I (i + 1) s') ∧ (e i = true → Q true s')) E s)
    (fin : ∀ s, I items.size s → Q false s) (h : I 0 s) : wpAny (model prog w) A (contains (.ref l) x) Q E s := by
  obtain ⟨⟨cls, dd, data, sl⟩, ho, hc, n, hd⟩ := id hl
  simp only at hc hd
  subst hc hd
  refine wpAny_contains_slot ⟨_, ho, rfl⟩ F.slot_tuple_contains (wpAny_mono (call_here (Q := fun v s' => ∃ b, v = .bool b ∧ Q b s') F.slot_tuple_contains ⟨_, ho, rfl⟩ F.entry_tuple_contains (F.args_tuple_contains_2 _ _) ?_) (fun v s' hv => ?_) fun _ _ e => e)
  · exact tuple_inB (R := wants (fun v s' => ∃ b, v = .bool b ∧ Q b s') E) l items n dd sl x e I (fun i h1 s' hI => wpAny_mono (turn i h1 s' hI) (fun r s2 q => ⟨q.1, q.2.1, fun z => ⟨true, rfl, q.2.2 z⟩⟩) fun _ _ z => z) (fun s' q => ⟨false, rfl, fin s' q⟩) ho h
  · obtain ⟨b, rfl, hq⟩ := hv
    exact wpAny_truthy_bool hq
end
end GQ
namespace K0
open PySem PySem.Spec PyProof.Rows L2 RZ K0z KdN
abbrev EqvB := V → V → Bool → Hp → Prop
def MonB (D : EqvB) : Prop := ∀ x y r H H', Ext H H' → D x y r H → D x y r H'
def RflB (D : EqvB) : Prop := ∀ x r H, D x x r H → r = true
def EqB (X : Cx) (n : Nat) (D : EqvB) : Prop :=
  ∀ (A : Around) (pins : List (Addr × Obj)) (s : Shared) (σ : L2.St) (H : Hp) (x y : V) (r : Bool) (u v : Value), Sub X n A → Inv X pins σ H s → RelV x u → RelV y v → D x y r H →
    wpAny (model X.prog X.w) A (eqBool u v) (fun q s' => q = r ∧ ∃ H', Inv X pins σ H' s' ∧ Ext H H') X.xe s
def RcB (X : Cx) (n : Nat) (D : EqvB) : Prop :=
  ∀ (A : Around) (pins : List (Addr × Obj)) (s : Shared) (σ : L2.St) (H : Hp) (x y : V) (r : Bool) (u v : Value), Sub X n A → Inv X pins σ H s → RelV x u → RelV y v → D x y r H →
    wpAny (model X.prog X.w) A (richCompare .Eq u v) (fun q s' => q = .bool r ∧ ∃ H', Inv X pins σ H' s' ∧ Ext H H') X.xe s
/-- item by item, up to the first that differs -/
def PrsB (D : EqvB) (xs ys : List V) (r : Bool) (H : Hp) : Prop := ∃ e : Nat → Bool, (∀ (i : Nat) x y, xs[i]? = some x → ys[i]? = some y → (∀ j, j < i → e j = true) → D x y (e i) H) ∧ r = ((List.range (min xs.length ys.length)).all e && decide (xs.length = ys.length))
theorem PrsB.mon (hD : MonB D) {xs ys : List V} {r : Bool} {H H' : Hp} (x : Ext H H') (h : PrsB D xs ys r H) : PrsB D xs ys r H' := by
  obtain ⟨e, h1, h2⟩ := h
  exact ⟨e, fun i a b e1 e2 e3 => hD _ _ _ _ _ x (h1 i a b e1 e2 e3), h2⟩
def rNeB (D : EqvB) : L2.R2 := fun x y H Q => ∃ a b xs ys r, x = .ref a ∧ y = .ref b ∧ H a = some (.tup xs) ∧ H b = some (.tup ys) ∧ PrsB D xs ys r H ∧ ∀ H', Ext H H' → Q (.bl (!r)) H'
theorem op_neT {X : Cx} {n : Nat} {D : EqvB} (hD : MonB D) (h : EqB X n D) (hr : Room (n + 1) X.A) : OpR X (compareOp .NotEq) (rNeB D) := by
  intro pins s σ H x y u v Q I rx ry hq
  obtain ⟨a, b, xs, ys, r, rfl, rfl, ha, hb, ⟨e, p, hr'⟩, q⟩ := hq
  have sb : Sub X (n + 1) X.A := ⟨hr, rfl⟩
  cases rx
  cases ry
  obtain ⟨its, rv, e1, _⟩ := I.tuple (.of ha : SqT X.K H _ _)
  obtain ⟨its2, rv2, e2, _⟩ := I.tuple (.of hb : SqT X.K H _ _)
  have l1 : its.toArray.size = xs.length := by rw [List.size_toArray, ← rv.length]
  have l2 : its2.toArray.size = ys.length := by rw [List.size_toArray, ← rv2.length]
  have fin : ∀ {k : Bool} {s' : Shared}, k = !r → LoopI X pins σ H s' → EP X pins σ Q (.bool k) s' := fun {k s'} ek lo => by
    obtain ⟨H', I', x'⟩ := lo
    subst ek
    exact ⟨.bl (!r), H', I', rfl, q H' x'⟩
  show wpAny (model X.prog X.w) X.A (richCompare .NotEq _ _) (EP X pins σ Q) X.xe s
  refine GQ.rc_tupNe sb.room.units0 e (fun i s' => (∀ j, j < i → e j = true) ∧ LoopI X pins σ H s') e1 e2 (fun i h1 h2 s' q => ?_) (fun s' q => ?_) ⟨fun j hj => absurd hj (Nat.not_lt_zero _), H, I, Ext.rfl'⟩
  · obtain ⟨hall, H1, I1, x1⟩ := q
    have g1 : its[i]? = some its.toArray[i] := by
      have h1' : i < its.length := by simpa using h1
      rw [List.getElem?_eq_getElem h1'] <;> simp
    have g2 : its2[i]? = some its2.toArray[i] := by
      have h2' : i < its2.length := by simpa using h2
      rw [List.getElem?_eq_getElem h2'] <;> simp
    have k1 : i < xs.length := by rw [← l1]; exact h1
    have k2 : i < ys.length := by rw [← l2]; exact h2
    obtain ⟨u, hu, ru⟩ := rv.get (List.getElem?_eq_getElem k1)
    obtain ⟨v, hv, rv'⟩ := rv2.get (List.getElem?_eq_getElem k2)
    rw [g1] at hu
    rw [g2] at hv
    rw [Option.some.inj hu, Option.some.inj hv]
    refine wpAny_mono (h X.A.in1 pins s' σ H1 _ _ (e i) u v sb.in1 I1 ru rv' (hD _ _ _ _ _ x1 (p i _ _ (List.getElem?_eq_getElem k1) (List.getElem?_eq_getElem k2) hall))) (fun q s2 z => ?_) fun _ _ x => x
    obtain ⟨hq, H2, I2, x2⟩ := z
    refine ⟨hq, fun he => ⟨fun j hj => ?_, H2, I2, x1.trans x2⟩, fun he => fin ?_ ⟨H2, I2, x1.trans x2⟩⟩
    · by_cases hji : j < i
      · exact hall j hji
      · have : j = i := by omega
        rw [this]; exact he
    · have : r = false := by
        rw [hr', Bool.and_eq_false_iff]
        left
        refine Bool.eq_false_iff.mpr fun z => ?_
        have := List.all_eq_true.mp z i (List.mem_range.mpr (Nat.lt_min.mpr ⟨k1, k2⟩))
        rw [he] at this
        cases this
      rw [this]
      rfl
  · obtain ⟨hall, lo⟩ := q
    refine fin ?_ lo
    rw [hr', l1, l2]
    rw [l1, l2] at hall
    have : (List.range (min xs.length ys.length)).all e = true := List.all_eq_true.mpr fun i hi => hall i (List.mem_range.mp hi)
    rw [this, Bool.true_and]
    rfl
theorem PrsB.all {D : EqvB} {xs ys : List V} {H : Hp} (l : xs.length = ys.length) (h : ∀ (i : Nat) x y, xs[i]? = some x → ys[i]? = some y → D x y true H) : PrsB D xs ys true H :=
  ⟨fun _ => true, fun i x y e1 e2 _ => h i x y e1 e2, by rw [decide_eq_true l, Bool.and_true]; exact (List.all_eq_true.mpr fun _ _ => rfl).symm⟩
theorem EqB.mono' {X : Cx} {n m : Nat} {D : EqvB} (h : EqB X n D) (hn : n ≤ m) : EqB X m D := fun A pins s σ H x y r u v sb => h A pins s σ H x y r u v (sb.mono hn)
/-! ### likenesses by their own == -/
def DLk (K : PySem.W.Frag) (C : Addr) : EqvB := fun x y r H => ∃ a b ps ss ps' ss', x = .ref a ∧ y = .ref b ∧ LikAt K H a C ps ss ∧ LikAt K H b C ps' ss' ∧ r = likEq ps ss ps' ss'
theorem mon_DLk {K : PySem.W.Frag} {C : Addr} : MonB (DLk K C) := fun x y r H H' e d => by
  obtain ⟨a, b, ps, ss, ps', ss', h1, h2, h3, h4, h5⟩ := d
  exact ⟨a, b, ps, ss, ps', ss', h1, h2, h3.same e, h4.same e, h5⟩
theorem likEq_iff {ps ss ps' ss' : List Int} : likEq ps ss ps' ss' = true ↔ (ps, ss) = (ps', ss') := by
  unfold likEq
  rw [Bool.and_eq_true, decide_eq_true_eq, decide_eq_true_eq, Prod.mk.injEq]
/-- == of likenesses, as it is asked within a tuple -/
structure EqQ (P : Program) (w : World) (K : PySem.W.Frag) (mg : Str → Option Value) (base : Heap) (C : Addr) : Prop where
  ex : ∃ f fd, FnOk P w K mg base CX0 1 f fd ["self", "other"] (spLkEq K C) ∧ PySem.W.findIn K (.ref C) "__eq__" = some (some (.ref f)) ∧ PySem.W.isFn K (.ref f) = true ∧ Binds K fd ["self", "other"] []
section
variable {X : Cx} {C : Addr}
theorem lik_inj {pins : List (Addr × Obj)} {σ : L2.St} {H : Hp} {s : Shared} (I : Inv X pins σ H s) {a : Addr} {ps ss ps' ss' : List Int} (h : LikAt X.K H a C ps ss) (h' : LikAt X.K H a C ps' ss') : (ps, ss) = (ps', ss') := by
  obtain ⟨_, dx, p, q, fs, e1, e2, e3, f1, f2, _⟩ := h
  obtain ⟨_, dx', p', q', fs', e1', e2', e3', f1', f2', _⟩ := h'
  rw [e1] at e1'
  injection e1' with e1'
  injection e1' with _ _ e4
  subst e4
  rw [f1] at f1'
  rw [f2] at f2'
  cases f1'
  cases f2'
  rw [ints_inj2 (I.tuple_inj e2.sq e2'.sq), ints_inj2 (I.tuple_inj e3 e3')]
theorem eqB_lk (D : EqQ X.prog X.w X.K X.mg X.base C) : EqB X 1 (DLk X.K C) := by
  intro A pins s σ H x y r u v sb I rx ry d
  obtain ⟨f, fd, F, hs, hf, hb⟩ := D.ex
  obtain ⟨a, b, ps, ss, ps', ss', rfl, rfl, hA, hB, rfl⟩ := d
  cases rx
  cases ry
  by_cases hab : a = b
  · subst hab
    rw [likEq_iff.mpr (lik_inj I hA hB)]
    exact SeqAt.EqAt.same (A := A) (s := s) (.ref a) X.prog X.w X.xe _ ⟨rfl, H, I, Ext.rfl'⟩
  · have rc : wpAny (model X.prog X.w) A (richCompare .Eq (.ref a) (.ref b)) (fun q s' => q = .bool (likEq ps ss ps' ss') ∧ ∃ H', Inv X pins σ H' s' ∧ Ext H H') X.xe s := by
      have hA0 := hA
      have hB0 := hB
      obtain ⟨_, dx, _, _, fs, ha, _⟩ := hA
      obtain ⟨_, dy, _, _, gs, hb', _⟩ := hB
      obtain ⟨mA, J, _⟩ := ins_get I.hok ha
      obtain ⟨mB, J', _⟩ := ins_get I.hok hb'
      obtain ⟨od, J, _⟩ := J.look
      obtain ⟨od', J', _⟩ := J'.look
      obtain ⟨m, hF⟩ := I.fr
      refine PySem.W.cmp_K (op := .Eq) (tb := .ref C) sb.room.units0 hF I.ok.mod.kin J J'.type (by simp [PySem.W.notFirst]) hs hf ?_
      have hsp : spLkEq X.K C [.ref a, .ref b] H (fun v H' => v = .bl (likEq ps ss ps' ss') ∧ Ext H H') E0 := ⟨a, ps, ss, .ref b, rfl, hA0, .inl ⟨b, ps', ss', rfl, hB0, rfl, Ext.rfl'⟩⟩
      have e0 : Env0 X.prog X.w X.K X.mg X.base A X.stack s H := by
        have e := I.env0
        exact ⟨by rw [sb.fr]; exact e.frames, e.mod, e.bs, e.bsz, e.funs, e.frf, e.hok, e.bare⟩
      have hl := F.len _ _ _ _ hsp
      have r2 : Vals [V.ref a, V.ref b] [Value.ref a, Value.ref b] := .cons rfl (.cons rfl .nil)
      refine wpAny_call (codeAny_mono (F.run A X.stack s H ⟨[.ref a, .ref b], []⟩ [.ref a, .ref b] [.ref a, .ref b] _ E0 sb.room e0 (by
        have := hb s [.ref a, .ref b] I.kIn (by simpa using hl)
        simpa using this) r2 hsp) fun r s' hq => ?_)
      cases r with
      | error e => exact False.elim hq
      | ok fl =>
        cases fl with
        | ret w =>
          obtain ⟨z, H', I', rz, ez, ex⟩ := I.after hq
          subst ez
          cases rz
          exact ⟨rfl, H', I', ex⟩
        | next => exact False.elim hq
        | brk => exact False.elim hq
        | cont => exact False.elim hq
    refine GQ.eqBool_refG hab (wpAny_mono rc (fun q s' z => ?_) fun _ _ x => x)
    obtain ⟨hr', q⟩ := z
    exact ⟨_, hr', rfl, q⟩
/-- x in y, y a tuple of likenesses -/
def rInLk (K : PySem.W.Frag) (C : Addr) (neg : Bool) : L2.R2 := fun x y H Q => ∃ (a t : Addr) (ps ss : List Int) (ys : List V) (js : List Q2) (r : Bool), x = .ref a ∧ y = .ref t ∧ LikAt K H a C ps ss ∧ H t = some (.tup ys) ∧ Rep (RL C K) H ys js ∧ (r = true ↔ (ps, ss) ∈ js) ∧ ∀ H', Same H H' → Q (.bl (if neg then !r else r)) H'
theorem in_lk (D : EqQ X.prog X.w X.K X.mg X.base C) (hr : Room 2 X.A) (neg : Bool) {pins : List (Addr × Obj)} {s : Shared} {σ : L2.St} {H : Hp} {x y : V} {v u : Value} {Q : VK} (I : Inv X pins σ H s) (rx : RelV x v) (ry : RelV y u) (h : rInLk X.K C neg x y H Q) :
    wpAny (model X.prog X.w) X.A (contains u v) (fun r s' => EP X pins σ Q (.bool (if neg then !r else r)) s') X.xe s := by
  obtain ⟨a, t, ps, ss, ys, js, r, rfl, rfl, hL, ht, hR, hr2, q⟩ := h
  cases rx
  cases ry
  have sb : Sub X 2 X.A := ⟨hr, rfl⟩
  obtain ⟨its, rv, e1, _⟩ := I.tuple (.of ht : SqT X.K H _ _)
  have l1 : its.toArray.size = ys.length := by rw [List.size_toArray, ← rv.length]
  have l2 := hR.1
  have fin : ∀ {k : Bool} {s' : Shared}, k = r → LoopI X pins σ H s' → EP X pins σ Q (.bool (if neg then !k else k)) s' := fun {k s'} ek lo => by
    obtain ⟨H', I', x'⟩ := lo
    subst ek
    exact ⟨.bl _, H', I', rfl, q H' x'⟩
  refine GQ.in_tupB (fun i => likEq (js.getD i ([], [])).1 (js.getD i ([], [])).2 ps ss) (fun i s' => (∀ j, j < i → likEq (js.getD j ([], [])).1 (js.getD j ([], [])).2 ps ss = false) ∧ LoopI X pins σ H s') e1 (fun i h1 s' q => ?_) (fun s' q => ?_) ⟨fun j hj => absurd hj (Nat.not_lt_zero _), H, I, Ext.rfl'⟩
  · obtain ⟨hall, H1, I1, x1⟩ := q
    have g1 : its[i]? = some its.toArray[i] := by
      have h1' : i < its.length := by simpa using h1
      rw [List.getElem?_eq_getElem h1'] <;> simp
    have k1 : i < ys.length := by rw [← l1]; exact h1
    obtain ⟨u, hu, ru⟩ := rv.get (List.getElem?_eq_getElem k1)
    rw [g1] at hu
    rw [Option.some.inj hu]
    have k2 : i < js.length := by omega
    have g2 : js[i]? = some (js.getD i ([], [])) := by rw [List.getD_eq_getElem?_getD, List.getElem?_eq_getElem k2]; rfl
    obtain ⟨b, eb, hb⟩ := hR.2 i _ _ (List.getElem?_eq_getElem k1) g2
    have d : DLk X.K C ys[i] (.ref a) (likEq (js.getD i ([], [])).1 (js.getD i ([], [])).2 ps ss) H1 := ⟨b, a, _, _, ps, ss, eb, rfl, hb.same x1, hL.same x1, rfl⟩
    refine wpAny_mono (eqB_lk D X.A.in1 pins s' σ H1 _ (.ref a) _ u (.ref a) sb.in1 I1 ru rfl d) (fun q s2 z => ?_) fun _ _ x => x
    obtain ⟨hq, H2, I2, x2⟩ := z
    refine ⟨hq, fun he => ⟨fun j hj => ?_, H2, I2, x1.trans x2⟩, fun he => fin ?_ ⟨H2, I2, x1.trans x2⟩⟩
    · by_cases hji : j < i
      · exact hall j hji
      · have : j = i := by omega
        rw [this]; exact he
    · refine (hr2.mpr ?_).symm
      rw [← likEq_iff.mp he]
      exact List.mem_of_getElem? g2
  · obtain ⟨hall, lo⟩ := q
    refine fin ?_ lo
    refine (Bool.eq_false_iff.mpr fun z => ?_).symm
    obtain ⟨j, hj⟩ := List.mem_iff_getElem?.mp (hr2.mp z)
    have hjl := (List.getElem?_eq_some_iff.mp hj).1
    have := hall j (by rw [l1]; omega)
    rw [List.getD_eq_getElem?_getD, hj] at this
    have t2 : likEq ps ss ps ss = true := likEq_iff.mpr rfl
    rw [show likEq ((some (ps, ss)).getD ([], [])).1 ((some (ps, ss)).getD ([], [])).2 ps ss = likEq ps ss ps ss from rfl, t2] at this
    cases this
theorem op_inLk (D : EqQ X.prog X.w X.K X.mg X.base C) (hr : Room 2 X.A) (K : PySem.W.Frag) (eK : X.K = K := by rfl) : OpR X (compareOp .In) (rInLk K C false) := by
  subst eK
  intro pins s σ H x y v u Q I rx ry h
  show wpAny _ X.A (do return Value.bool (← contains u v)) _ _ s
  refine wpAny_bind (wpAny_mono (in_lk D hr false I rx ry h) (fun r s' z => wpAny_pure ?_) fun _ _ x => x)
  exact z
theorem op_notInLk (D : EqQ X.prog X.w X.K X.mg X.base C) (hr : Room 2 X.A) (K : PySem.W.Frag) (eK : X.K = K := by rfl) : OpR X (compareOp .NotIn) (rInLk K C true) := by
  subst eK
  intro pins s σ H x y v u Q I rx ry h
  show wpAny _ X.A (do return Value.bool (!(← contains u v))) _ _ s
  refine wpAny_bind (wpAny_mono (in_lk D hr true I rx ry h) (fun r s' z => wpAny_pure ?_) fun _ _ x => x)
  exact z
/-- two tuples of the same likenesses are not unlike -/
theorem prs_lk {K : PySem.W.Frag} {H : Hp} {xs ys : List V} {js : List Q2} (h1 : Rep (RL C K) H xs js) (h2 : Rep (RL C K) H ys js) : PrsB (DLk K C) xs ys true H := by
  have l1 := h1.1
  have l2 := h2.1
  refine PrsB.all (by omega) fun i x y hx hy => ?_
  obtain ⟨q, hq, a, rfl, hA⟩ := h1.at' hx
  obtain ⟨b, rfl, hB⟩ := h2.2 i y q hy hq
  exact ⟨a, b, _, _, _, _, rfl, rfl, hA, hB, (likEq_iff.mpr rfl).symm⟩
end
end K0


set_option Elab.async false
set_option linter.all false
set_option maxRecDepth 100000
set_option maxHeartbeats 8000000
set_option exponentiation.threshold 100000
/-! _law_heard -/
namespace K0
open PySem PySem.Spec PyProof.Rows L2 RZ K0z
def rIsQ (K : PySem.W.Frag) : List V → Hp → VK → Prop := fun xs H Q => ∃ (a C d : Addr) (c : V) (u : Value) (b : Bool) (o : HO),
  xs = [.ref a, c] ∧ ClsV c u ∧ H a = some (exq a C d) ∧ H d = some o ∧ ExcC K C ∧ PySem.W.kitOne K (.ref C) u = some b ∧ Q (.bl b) H
section
variable {X : Cx}
theorem call_isQ : CallR X (.builtin "isinstance") (rIsQ X.K) := by
  intro pins s σ H xs us Q I r h
  obtain ⟨a, C, d, c, u, b, o, rfl, k, ha, hd, T, e, q⟩ := h
  obtain ⟨u1, u2, rfl, r1, r2⟩ := vals2 r
  have e2 := k.eq r2
  subst e2
  cases r1
  obtain ⟨vs, sl, g1⟩ := exq_at I.hok ha
  obtain ⟨od, g4⟩ := obj_there I hd
  refine PySem.W.kia_one (PySem.K0x.kit_exc T.hg T.hk T.hs T.hd T.ha T.hn T.ht T.hm) I.kIn ?_ e (fun z => nomatch z) fun tk => ⟨.bl b, H, I.tok tk, rfl, q⟩
  exact ⟨_, some od, g1, rfl, rfl, g4⟩
/-- e.f, e an exception that was caught once -/
theorem pe_fldQ {te : TE} {f : Str} {pos : Pos} {o : Expr} (he : PE X o te) (hb : attributeBase o f X.env (eval o X.env) = eval o X.env := by rfl) :
    PE X (.Attribute o f pos) (fun σ H Q => te σ H fun y H1 => ∃ (a C d : Addr) (fs : List (Str × V)) (v : V), y = .ref a ∧ H1 a = some (exq a C d) ∧ H1 d = some (.xd fs) ∧
      XfC X.K C ∧ PySem.W.findIn X.K (.ref C) f = some none ∧ fs.lookup f = some v ∧ Q v H1) := by
  refine ⟨fun pins s σ H Q I h => attr_of hb (thn (he.run pins s σ H _ I h) ?_)⟩
  rintro u s1 ⟨y, H1, I1, rx, a, C, d, fs, v, rfl, ea, ed, T, hno, l, q⟩
  obtain rfl : u = Value.ref a := rx
  obtain ⟨vs, sl, g1⟩ := exq_at I1.hok ea
  obtain ⟨mA, hns, hr⟩ := (show ∃ mA, s1.heap.Ns1 d mA ∧ ∀ f, RelO (fs.lookup f) (mA f) from I1.hok d _ ed)
  obtain ⟨od, hod, hl⟩ := lookIn_ns hns
  obtain ⟨u, hu, ru⟩ := RelO.some_of (v := v) (o := mA f) (by rw [← l]; exact hr f)
  have J : PySem.W.InstAt s1.heap a _ C (some od) := ⟨g1, rfl, rfl, hod⟩
  exact HandSPX.exc_get I1.kIn J T.ga T.gg T.exC
    (PySem.W.findObj_own T.hdC hno rfl (by rw [hl, hu])) (handed_of ru) ⟨v, H1, I1.tok _, ru, q⟩
end

/-! ### what is kept: all but what draws and tables of code -/
structure Bs (c : Addr) (HX : Hp) : Prop where
  hc : HX c = none
  ht : ∀ b ps, HX b ≠ some (.tbl ps)
def OffT (c : Addr) (H : Hp) : Hp := fun b => if b = c then none else match H b with
  | some (.tbl _) => none
  | o => o
theorem offT_get {c b : Addr} {H : Hp} {o : HO} (h : H b = some o) (n : b ≠ c) (t : ∀ ps, o ≠ .tbl ps) : OffT c H b = some o := by
  unfold OffT
  rw [if_neg n, h]
  cases o <;> first | rfl | exact absurd rfl (t _)
theorem offT_same {c : Addr} {H : Hp} : Same (OffT c H) H := fun b o e => by
  unfold OffT at e
  by_cases n : b = c
  · rw [if_pos n] at e; cases e
  · rw [if_neg n] at e
    cases h : H b with
    | none => rw [h] at e; cases e
    | some u =>
      rw [h] at e
      cases u <;> first | exact e | cases e
theorem bs_off (c : Addr) (H : Hp) : Bs c (OffT c H) := by
  refine ⟨?_, fun b ps e => ?_⟩
  · unfold OffT
    rw [if_pos rfl]
  · unfold OffT at e
    by_cases n : b = c
    · rw [if_pos n] at e; cases e
    · rw [if_neg n] at e
      cases h : H b with
      | none => rw [h] at e; cases e
      | some u =>
        rw [h] at e
        cases u <;> cases e
theorem Bs.off {c : Addr} {HX H : Hp} (B : Bs c HX) (s : Same HX H) : Same HX (OffT c H) := fun b o e =>
  offT_get (s _ _ e) (fun z => by rw [z, B.hc] at e; cases e) fun ps z => B.ht b ps (by rw [← z]; exact e)
theorem Bs.ext {c : Addr} {HX H H' : Hp} (B : Bs c HX) (s : Same HX H) (e : LamX.ExtN H H') : Same HX H' := fun b o h => e b o (s b o h) fun ps z => B.ht b ps (by rw [← z]; exact h)
theorem Bs.but {c : Addr} {HX H H' : Hp} (B : Bs c HX) (s : Same HX H) (sb : SameBut c H H') : Same HX H' := sb.to s B.hc
theorem sqT_offT {K : PySem.W.Frag} {H : Hp} {c p : Addr} {l xs : List V} (h : SqT K H p xs) (hc : H c = some (.lst l)) : SqT K (OffT c H) p xs := by
  rcases h with (h | ⟨u, h⟩) | h
  · exact .inl (.inl (offT_get h (fun e => by rw [e, hc] at h; cases h) (fun ps e => by cases e)))
  · exact .inl (.inr ⟨u, offT_get h (fun e => by rw [e, hc] at h; cases h) (fun ps e => by cases e)⟩)
  · exact .inr h
theorem sqL_offT {K : PySem.W.Frag} {H : Hp} {c p : Addr} {l xs : List V} (h : SqL K H p xs) (hc : H c = some (.lst l)) (n : p ≠ c) : SqL K (OffT c H) p xs := by
  rcases h with (h | ⟨u, h⟩) | h
  · exact .inl (.inl (offT_get h n (fun ps e => by cases e)))
  · exact .inl (.inr ⟨u, offT_get h n (fun ps e => by cases e)⟩)
  · exact .inr h
/-- which of the four it is, and its word -/
inductive Kd : Bool → Bool → Bool → Bool → Str → Prop where
  | lik : Kd true false false false "likeness"
  | pnt : Kd false true false false "point"
  | num : Kd false false true false "lot"
  | mis : Kd false false false true "misfit"
/-- a class of errors that is heard -/
structure HrC (K : PySem.W.Frag) (CS CB CP CL CM CT R : Addr) (w : Str) : Prop where
  ex : ∃ b1 b2 b3 b4, Kd b1 b2 b3 b4 w ∧ PySem.W.kitOne K (.ref R) (.ref CB) = some b1 ∧ PySem.W.kitOne K (.ref R) (.ref CP) = some b2 ∧ PySem.W.kitOne K (.ref R) (.ref CL) = some b3 ∧ PySem.W.kitOne K (.ref R) (.ref CM) = some b4
  kT : PySem.W.kitOne K (.ref R) (.ref CT) = some false
  eS : PySem.W.exmOne K (.ref R) (.ref CS) = some true
  ec : ExcC K R
  xf : XfC K R
  no : PySem.W.findIn K (.ref R) "part" = some none
/-- TooMany, as it is heard -/
structure TmC (K : PySem.W.Frag) (CS CT : Addr) : Prop where
  kt : PySem.W.kitOne K (.ref CT) (.ref CT) = some true
  eS : PySem.W.exmOne K (.ref CT) (.ref CS) = some true
  ec : ExcC K CT
  xf : XfC K CT
  no1 : PySem.W.findIn K (.ref CT) "what" = some none
  no2 : PySem.W.findIn K (.ref CT) "most" = some none
/-- an error is heard: its word and part; what there was too much of, and how much may be -/
def THr (K : PySem.W.Frag) (CS CB CP CL CM CT : Addr) : (XK → Hp → VK → Prop) → Hp → VK → Prop := fun tl H Q => ∀ Qn : VK,
  tl (fun cls d H' => (∃ (R dd : Addr) (v : V) (w : Str), HrC K CS CB CP CL CM CT R w ∧ cls = .ref R ∧ d = some dd ∧ H' dd = some (.xd (fs1 "part" [v])) ∧ ∀ p H'', Same H' H'' → H'' p = some (.tup [.str w, v]) → Q (.ref p) H'') ∨
    ∃ (dd : Addr) (x y : V), cls = .ref CT ∧ d = some dd ∧ H' dd = some (.xd (fs2 [x, y])) ∧ ∀ p H'', Same H' H'' → H'' p = some (.tup [x, y]) → Q (.ref p) H'') H Qn
/-- the classes of errors, as they are asked -/
structure Errs (mg : Str → Option Value) (CS CB CP CL CM CT : Addr) : Prop where
  mS : mg "SolidError" = some (.ref CS)
  mB : mg "BadLikeness" = some (.ref CB)
  mP : mg "BadPoint" = some (.ref CP)
  mL : mg "BadLot" = some (.ref CL)
  mM : mg "Misfit" = some (.ref CM)
  mT : mg "TooMany" = some (.ref CT)
abbrev N_heard : List Str := ["ask", "caught", "error", "kinds", "words", "word", "is_so"]
theorem sc_heard : FnScope N_heard ["ask"] (defScope st__law_heard) := ⟨rfl, rfl, rfl, by decide +kernel, rfl, by decide +kernel, by decide +kernel⟩
def kdc (b1 b2 b3 b4 : Bool) : Nat → Bool
  | 0 => b1
  | 1 => b2
  | 2 => b3
  | 3 => b4
  | _ => false
def kdw : Nat → V
  | 0 => .str "likeness"
  | 1 => .str "point"
  | 2 => .str "lot"
  | _ => .str "misfit"
theorem Kd.list {b1 b2 b3 b4 : Bool} {w : Str} (h : Kd b1 b2 b3 b4 w) : ((List.range 4).filter (kdc b1 b2 b3 b4)).map kdw = [.str w] := by
  cases h <;> rfl
theorem heard_gives {X : Cx} {g CS CB CP CL CM CT : Addr} {cdg : Value} {q x : Str} (R : Errs X.mg CS CB CP CL CM CT) (hT : TmC X.K CS CT) (T : Nm X.mg) :
    LamX.GivesTo X N_heard x (defScope st__law_heard) g cdg (defBody st__law_heard) "ask" q (THr X.K CS CB CP CL CM CT) := by
  intro f c' s H Q tl act hc h
  refine ⟨_, pss_cons (X := (cxOf C8.CX0 X.prog X.w X.K X.mg X.base N_heard x (defScope st__law_heard) g cdg X.A X.stack s H C8.E0).nox) (ps_set (i := 1) sc_heard.nd rfl (Or.inl rfl) pe_non)
    (pss_cons (ps_try_keep (i := 2) (j := 1) (c := .ref CS)
      (tb := fun W D σ H => ∃ Ech : XK, (∀ (cls : Value) (d : Option Addr) (σ' : L2.St) (H' : Hp), Ech cls d H' → W cls d σ' H') ∧ σ[0]? = some (some (.ref f)) ∧ H c' = some (LamX.CodeO c' q) ∧ tl Ech H (fun _ H1 => D.nx σ H1))
      rfl rfl sc_heard.nd rfl rfl rfl rfl (by show 2 < 7; decide) ⟨by rfl, by decide, .inl R.mS⟩ rfl (fun W pn xe tk _ => ?_))
    (pss_cons (ps_if (pt_val (pe_callB call_isQ (by rfl) T.n_isinstance (by decide +kernel) (pa_cons (pv 1) (pa_cons (pe_glob (v := .ref CT) (by rfl) R.mT rfl (by decide)) pa_nil)))) (pss_one (ps_ret (pe_tup (pa_cons (pe_fldQ (pv 1)) (pa_cons (pe_fldQ (pv 1)) pa_nil))))) pss_nil)
    (pss_cons (ps_set (i := 3) sc_heard.nd rfl (Or.inl rfl) (pe_lst (pa_cons (pe_tup (pa_cons pe_str (pa_cons (pe_callB call_isQ (by rfl) T.n_isinstance (by decide +kernel) (pa_cons (pv 1) (pa_cons (pe_glob (v := .ref CB) (by rfl) R.mB rfl (by decide)) pa_nil))) pa_nil))) (pa_cons (pe_tup (pa_cons pe_str (pa_cons (pe_callB call_isQ (by rfl) T.n_isinstance (by decide +kernel) (pa_cons (pv 1) (pa_cons (pe_glob (v := .ref CP) (by rfl) R.mP rfl (by decide)) pa_nil))) pa_nil))) (pa_cons (pe_tup (pa_cons pe_str (pa_cons (pe_callB call_isQ (by rfl) T.n_isinstance (by decide +kernel) (pa_cons (pv 1) (pa_cons (pe_glob (v := .ref CL) (by rfl) R.mL rfl (by decide)) pa_nil))) pa_nil))) (pa_cons (pe_tup (pa_cons pe_str (pa_cons (pe_callB call_isQ (by rfl) T.n_isinstance (by decide +kernel) (pa_cons (pv 1) (pa_cons (pe_glob (v := .ref CM) (by rfl) R.mM rfl (by decide)) pa_nil))) pa_nil))) pa_nil))))))
    (pss_cons (ps_setLc (i := 4) (own := [("word", 5), ("is_so", 6)]) (g := gTup X.K 2 (gCons (gName 5) (gCons (gName 6) gNil))) (tt := tB (tVar 6)) rfl sc_heard.nd rfl rfl (sw_true rfl rfl rfl (by decide +kernel)) (pi_seq (pv 3)) (blkOk_by (N := N_heard) (sc := defScope st__law_heard) (by decide +kernel)) (fun _ _ _ _ _ => (pg_tup (by rfl) (pgs_cons (pg_name (i := 5) sc_heard.nd rfl (Or.inl rfl)) (pgs_cons (pg_name (i := 6) sc_heard.nd rfl (Or.inl rfl)) pgs_nil)))) (fun _ _ _ _ _ => (pts_one (pt_val (pv 6)))) (fun _ _ _ _ _ => (pv 5)))
    (pss_cons (ps_if (pt_cmpR op_eq (pe_callB (call_lenK X.K) (by rfl) T.n_len (by decide +kernel) (pa_cons (pv 4) pa_nil)) pe_int (nomark _)) (pss_one (ps_ret (pe_tup (pa_cons (pe_ix (ix_K X.K) (pv 4) pe_int (fun _ _ => rfl)) (pa_cons (pe_fldQ (pv 1)) pa_nil))))) pss_nil)
    (pss_one (ps_ret (pe_ifExp (pt_cmp (pc_isN (pv 1))) pe_non (pe_tup (pa_cons pe_str (pa_cons pe_non pa_nil))))))))))), ?_⟩
  · refine ⟨fun pins s' σ H' D I h' => ?_⟩
    obtain ⟨Ech, hW, h1, h2, h3⟩ := h'
    exact (pss_one (ps_expr (act W pn xe Ech _ _ tk hW))).run pins s' σ H' D I ⟨h1, h2, h3⟩
  · refine ⟨_, fun cls d σ' H' e => ?_, rfl, hc, h _⟩
    rcases e with ⟨CR, dd, v, w, hR, rfl, rfl, e6, e8⟩ | ⟨dd, x, y, rfl, rfl, e6, e8⟩
    rotate_left
    · refine ⟨CT, dd, rfl, rfl, hT.eS, fun a ha hl => ?_⟩
      have hl3 : σ'.length = 7 := hl
      obtain ⟨x0, x1, x2, x3, x4, x5, x6, rfl⟩ : ∃ x0 x1 x2 x3 x4 x5 x6, σ' = [x0, x1, x2, x3, x4, x5, x6] := by
        match σ', hl3 with
        | [x0, x1, x2, x3, x4, x5, x6], _ => exact ⟨x0, x1, x2, x3, x4, x5, x6, rfl⟩
      have s0 := same_upd (o := exq a CT dd) ha
      have hdd := s0 _ _ e6
      have haa : upd H' a (exq a CT dd) a = some (exq a CT dd) := upd_same
      generalize upd H' a (exq a CT dd) = H1 at s0 hdd haa ⊢
      refine ⟨_, rfl, a, CT, dd, .ref CT, .ref CT, true, _, rfl, .own _, haa, hdd, hT.ec, hT.kt, _, rfl, iteT ?_⟩
      refine ⟨_, rfl, a, CT, dd, _, x, rfl, haa, hdd, hT.xf, hT.no1, rfl, _, rfl, a, CT, dd, _, y, rfl, haa, hdd, hT.xf, hT.no2, rfl, (by show 2 ≤ sizeLine; decide), fun p hp => ?_⟩
      exact e8 p _ (s0.trans (same_upd hp)) upd_same
    obtain ⟨b1, b2, b3, b4, kd, q1, q2, q3, q4⟩ := hR.ex
    refine ⟨CR, dd, rfl, rfl, hR.eS, fun a ha hl => ?_⟩
    have hl3 : σ'.length = 7 := hl
    obtain ⟨x0, x1, x2, x3, x4, x5, x6, rfl⟩ : ∃ x0 x1 x2 x3 x4 x5 x6, σ' = [x0, x1, x2, x3, x4, x5, x6] := by
      match σ', hl3 with
      | [x0, x1, x2, x3, x4, x5, x6], _ => exact ⟨x0, x1, x2, x3, x4, x5, x6, rfl⟩
    have s0 := same_upd (o := exq a CR dd) ha
    have hdd := s0 _ _ e6
    have haa : upd H' a (exq a CR dd) a = some (exq a CR dd) := upd_same
    generalize upd H' a (exq a CR dd) = H1 at s0 hdd haa ⊢
    -- four tuples
    refine ⟨_, rfl, a, CR, dd, .ref CT, .ref CT, false, _, rfl, .own _, haa, hdd, hR.ec, hR.kT, _, rfl, iteF ?_⟩
    refine ⟨_, rfl, a, CR, dd, .ref CB, .ref CB, b1, _, rfl, .own _, haa, hdd, hR.ec, q1, (by show 2 ≤ sizeLine; decide), fun t1 ht1 => ?_⟩
    have s1 := same_upd (o := .tup [.str "likeness", .bl b1]) ht1
    have z1 : upd H1 t1 (.tup [.str "likeness", .bl b1]) t1 = some (.tup [.str "likeness", .bl b1]) := upd_same
    generalize upd H1 t1 (.tup [.str "likeness", .bl b1]) = H2 at s1 z1 ⊢
    refine ⟨_, rfl, a, CR, dd, .ref CP, .ref CP, b2, _, rfl, .own _, s1 _ _ haa, s1 _ _ hdd, hR.ec, q2, (by show 2 ≤ sizeLine; decide), fun t2 ht2 => ?_⟩
    have s2 := same_upd (o := .tup [.str "point", .bl b2]) ht2
    have z2 : upd H2 t2 (.tup [.str "point", .bl b2]) t2 = some (.tup [.str "point", .bl b2]) := upd_same
    generalize upd H2 t2 (.tup [.str "point", .bl b2]) = H3 at s2 z2 ⊢
    have s12 := s1.trans s2
    refine ⟨_, rfl, a, CR, dd, .ref CL, .ref CL, b3, _, rfl, .own _, s12 _ _ haa, s12 _ _ hdd, hR.ec, q3, (by show 2 ≤ sizeLine; decide), fun t3 ht3 => ?_⟩
    have s3 := same_upd (o := .tup [.str "lot", .bl b3]) ht3
    have z3 : upd H3 t3 (.tup [.str "lot", .bl b3]) t3 = some (.tup [.str "lot", .bl b3]) := upd_same
    generalize upd H3 t3 (.tup [.str "lot", .bl b3]) = H4 at s3 z3 ⊢
    have s13 := s12.trans s3
    refine ⟨_, rfl, a, CR, dd, .ref CM, .ref CM, b4, _, rfl, .own _, s13 _ _ haa, s13 _ _ hdd, hR.ec, q4, (by show 2 ≤ sizeLine; decide), fun t4 ht4 => ?_⟩
    have s4 := same_upd (o := .tup [.str "misfit", .bl b4]) ht4
    have z4 : upd H4 t4 (.tup [.str "misfit", .bl b4]) t4 = some (.tup [.str "misfit", .bl b4]) := upd_same
    generalize upd H4 t4 (.tup [.str "misfit", .bl b4]) = H5 at s4 z4 ⊢
    have s14 := s13.trans s4
    refine ⟨(by show 4 ≤ sizeLine; decide), fun L hL => ?_⟩
    have s5 := same_upd (o := .lst [.ref t1, .ref t2, .ref t3, .ref t4]) hL
    have z5 : upd H5 L (.lst [.ref t1, .ref t2, .ref t3, .ref t4]) L = some (.lst [.ref t1, .ref t2, .ref t3, .ref t4]) := upd_same
    generalize upd H5 L (.lst [.ref t1, .ref t2, .ref t3, .ref t4]) = H6 at s5 z5 ⊢
    have s15 := s14.trans s5
    have y1 := (s2.trans (s3.trans (s4.trans s5))) _ _ z1
    have y2 := (s3.trans (s4.trans s5)) _ _ z2
    have y3 := (s4.trans s5) _ _ z3
    have y4 := s5 _ _ z4
    refine ⟨_, rfl, false, L, rfl, ⟨_, .of z5⟩, fun D hD => lc_funF (kdc b1 b2 b3 b4) kdw (walk_seq (b := false) (xs := [.ref t1, .ref t2, .ref t3, .ref t4])) hD (by show 4 < sizeLine; decide) (fun H7 s7 => .of (s7 _ _ z5)) ?_ ?_⟩
    · rintro i x H7 H8 hi s7 _ ⟨rfl, hx⟩ Rt Rk kf kt
      obtain ⟨t, b, ht, ec, ex⟩ : ∃ t b, H8 t = some (.tup [kdw i, .bl b]) ∧ kdc b1 b2 b3 b4 i = b ∧ x = .ref t := by
        have hi' : i < 4 := hi
        match i, hi', hx with
        | 0, _, hx => cases hx; exact ⟨t1, b1, s7 _ _ y1, rfl, rfl⟩
        | 1, _, hx => cases hx; exact ⟨t2, b2, s7 _ _ y2, rfl, rfl⟩
        | 2, _, hx => cases hx; exact ⟨t3, b3, s7 _ _ y3, rfl, rfl⟩
        | 3, _, hx => cases hx; exact ⟨t4, b4, s7 _ _ y4, rfl, rfl⟩
      subst ex
      refine ⟨t, _, rfl, .of ht, rfl, _, _, rfl, _, _, rfl, rfl, rfl, _, rfl, _, rfl, ?_⟩
      rw [ec] at kf kt
      cases b with
      | false => exact iteF (kf rfl _ (Same.refl _))
      | true => exact iteT ⟨_, rfl, kt rfl _ (Same.refl _)⟩
    · intro H7 hD7 s7
      rw [show [V.ref t1, .ref t2, .ref t3, .ref t4].length = 4 from rfl, kd.list] at hD7
      have s17 := s15.trans s7
      refine ⟨_, rfl, false, D, _, rfl, .of hD7, rfl, _, rfl, iteT ?_⟩
      refine ⟨_, rfl, false, D, _, 0, _, rfl, rfl, .of hD7, rfl, _, rfl, a, CR, dd, _, v, rfl, s17 _ _ haa, s17 _ _ hdd, hR.xf, hR.no, rfl, (by show 2 ≤ sizeLine; decide), fun p hp => ?_⟩
      exact e8 p _ (s0.trans (s17.trans (same_upd hp))) upd_same
end K0


set_option Elab.async false
set_option linter.all false
set_option maxRecDepth 100000
set_option maxHeartbeats 8000000
/-! then, back, same: their calls -/
namespace K0
open PySem PySem.Spec PyProof.Rows L2 RZ K0z
def kwA : List V → List V → List V := fun us zs => us ++ zs
section
variable {X : Cx} {CX : CXT} {k : Nat} {f C p g : Addr} {mc : Value} {fd : FuncData} {ps ks : List Str} {sp : Sp} {E : XK} {x m : Str} {pos apos : Pos} {e o : Expr} {es : List Expr} {ta : TE} {t : L2.TA} {pl : Sem Bool}
theorem pe_lkM0 (he : PE X o ta) (c : Cls X.K C) (hm : Meth X.K C m f) (F : FnOk X.prog X.w X.K X.mg X.base CX k f fd ps sp) (hr : Room k X.A) (hb : Binds X.K fd ps []) (hx : Passes CX X E)
    (n1 : m ≠ ("places" : Str)) (n2 : m ≠ ("signs" : Str)) (n3 : m ≠ ("wide" : Str))
    (ht : eval (.Call (.Attribute o m apos) [] [] pos) X.env = (do
      let ov ← eval o X.env
      standAt apos.atName
      let (f, first) ← holding [ov] (getMethod ov m pl)
      callWith pos f first (backTo pos (starEach [] X.env)) (backToKw pos (keywordEach [] X.env)))) :
    PE X (.Call (.Attribute o m apos) [] [] pos) (tLk X.K C sp E ta L2.tNil) := by
  refine ⟨fun pins s σ H Q I h => ?_⟩
  refine PySem.W.methodCall_KW (pl := pl) (thn (he.run pins s σ H _ I h) fun u s1 ⟨x, H1, I1, rx, ⟨a, qs, ss, ex, hL⟩, q⟩ => ?_) ht
  subst ex
  obtain rfl : u = Value.ref a := rx
  obtain ⟨dx, fs, ea, l⟩ := likAt_ins hL n1 n2 n3
  refine getmeth_ok I1 ea c hm l ?_
  have := run_fn (us := [.ref a]) (vs := [.ref a]) (dvs := []) (ds := []) F hr hb .nil hx I1 (.cons rfl .nil) q
  exact PySem.W.callWith_K0 (first := [.ref a]) I1.kIn hm.kp (by simpa using this)
end
structure LkMs (P : Program) (w : World) (K : PySem.W.Frag) (mg : Str → Option Value) (base : Heap) (C CB CM CN : Addr) : Prop where
  thn : ∃ f fd, Meth K C "then" f ∧ FnOk P w K mg base (L2.CX P w) 8 f fd ["self", "other"] (spThen K CB CM C) ∧ Binds K fd ["self", "other"] []
  back : ∃ f fd, Meth K C "back" f ∧ FnOk P w K mg base (L2.CX P w) 8 f fd ["self"] (spBack K C) ∧ Binds K fd ["self"] []
  same : ∃ p g fd mc, ClX.CRead K C mc ∧ SMet K C mc "same" p g ∧ FnOk P w K mg base (L2.CX P w) 8 g fd ["wide"] (spSame K CN C) ∧ Binds K fd ["wide"] []
theorem pe_thn {X : Cx} {C CB CM CN : Addr} {o e : Expr} {es : List Expr} {apos pos : Pos} {ta : TE} {t : L2.TA} {pl : Sem Bool} (D : LkMs X.prog X.w X.K X.mg X.base C CB CM CN) (c : Cls X.K C) (hr : Room 8 X.A) (he : PE X o ta) (ha : PA X (e :: es) t)
    (hst : starEach (e :: es) X.env = (false, eval e X.env) :: starEach es X.env := by rfl) (hpl : (backTo pos (starEach es X.env)).any (·.1) = false := by rfl)
    (ht : eval (.Call (.Attribute o "then" apos) (e :: es) [] pos) X.env = (do
      let ov ← eval o X.env
      standAt apos.atName
      let (f, first) ← holding [ov] (getMethod ov "then" pl)
      callWith pos f first (backTo pos (starEach (e :: es) X.env)) (backToKw pos (keywordEach [] X.env))) := by rfl) :
    PE X (.Call (.Attribute o "then" apos) (e :: es) [] pos) (tLk X.K C (spThen X.K CB CM C) E0 ta t) := by
  obtain ⟨f, fd, M, F, B⟩ := D.thn
  exact pe_lkM he c M F hr B passL ha (by decide) (by decide) (by decide) hst hpl ht
theorem pe_back {X : Cx} {C CB CM CN : Addr} {o : Expr} {apos pos : Pos} {ta : TE} {pl : Sem Bool} (D : LkMs X.prog X.w X.K X.mg X.base C CB CM CN) (c : Cls X.K C) (hr : Room 8 X.A) (he : PE X o ta)
    (ht : eval (.Call (.Attribute o "back" apos) [] [] pos) X.env = (do
      let ov ← eval o X.env
      standAt apos.atName
      let (f, first) ← holding [ov] (getMethod ov "back" pl)
      callWith pos f first (backTo pos (starEach [] X.env)) (backToKw pos (keywordEach [] X.env))) := by rfl) :
    PE X (.Call (.Attribute o "back" apos) [] [] pos) (tLk X.K C (spBack X.K C) E0 ta L2.tNil) := by
  obtain ⟨f, fd, M, F, B⟩ := D.back
  exact pe_lkM0 he c M F hr B passL (by decide) (by decide) (by decide) ht
theorem pe_same {X : Cx} {C CB CM CN : Addr} {e : Expr} {es : List Expr} {apos pos npos : Pos} {t : L2.TA} {pl : Sem Bool} (D : LkMs X.prog X.w X.K X.mg X.base C CB CM CN) (mC : X.mg "Likeness" = some (.ref C)) (hr : Room 8 X.A) (hg : Gl X "Likeness") (ha : PA X (e :: es) t)
    (hst : starEach (e :: es) X.env = (false, eval e X.env) :: starEach es X.env := by rfl) (hpl : (backTo pos (starEach es X.env)).any (·.1) = false := by rfl)
    (ht : eval (.Call (.Attribute (.Name ("Likeness" : Str) npos) ("same" : Str) apos) (e :: es) [] pos) X.env = (do
      let ov ← eval (.Name ("Likeness" : Str) npos) X.env
      standAt apos.atName
      let (f, first) ← holding [ov] (getMethod ov ("same" : Str) pl)
      callWith pos f first (backTo pos (starEach (e :: es) X.env)) (backToKw pos (keywordEach [] X.env))) := by rfl) :
    PE X (.Call (.Attribute (.Name "Likeness" npos) "same" apos) (e :: es) [] pos) (fun σ H Q => t σ H fun vs H1 => spSame X.K CN C vs H1 Q E0) := by
  obtain ⟨p, g, fd, mc, r, sm, F, B⟩ := D.same
  exact pe_static mC hg r sm F hr B passL ha (by decide) hst hpl ht
end K0


set_option Elab.async false
set_option linter.all false
set_option maxRecDepth 100000
set_option maxHeartbeats 4000000
/-! a list comprehension of two clauses, walked -/
namespace K0
open PySem PySem.Spec PyProof.Rows L2 RZ K0z
section
variable {J : L2.It} {n : Nat} {G : Hp → Prop} {Y : Nat → Hp → V → Hp → Prop} {D : Addr} {te : TE} {g : TG} {tt : TT} {vs : List Nat} {σ : L2.St} {H0 : Hp} {Nx : Hp → Prop}
/-- the inner clause: Pw by its turn -/
theorem in_it (w : Walk J n G Y) (Pw : Nat → Hp → Prop) (h0 : Pw 0 H0) (hG : ∀ i H, i ≤ n → Pw i H → G H)
    (hs : ∀ i x H H', i < n → Pw i H → Y i H x H' → g x (wipe σ vs) H' fun σ3 H5 => wipe σ3 vs = wipe σ vs ∧ tt σ3 H5 fun b H6 => if b = true then te σ3 H6 fun y H7 => ∃ acc, H7 D = some (.lst acc) ∧ acc.length < sizeLine ∧ Pw (i + 1) (upd H7 D (.lst (acc ++ [y]))) else Pw (i + 1) H6)
    (hd : ∀ H, Pw n H → Nx H) :
    ∃ W1 : Nat → Nat → Hp → Prop, (∃ m, W1 0 m H0) ∧ ∀ j k H, W1 j k H →
      (J.stop j H ∧ Nx H) ∨ (J.go j H ∧ ∃ Nx1 : Hp → Prop, (∀ H', Nx1 H' → ∃ k', k' < k ∧ W1 (j + 1) k' H') ∧ ∀ x H', J.yld j H x H' → g x (wipe σ vs) H' fun σ3 H5 => wipe σ3 vs = wipe σ vs ∧ tt σ3 H5 fun b H6 =>
        if b = true then te σ3 H6 fun y H7 => ∃ acc, H7 D = some (.lst acc) ∧ acc.length < sizeLine ∧ Nx1 (upd H7 D (.lst (acc ++ [y]))) else Nx1 H6) := by
  refine ⟨fun i m H => m = n - i ∧ i ≤ n ∧ Pw i H, ⟨n, by simp, Nat.zero_le _, h0⟩, ?_⟩
  rintro i m H ⟨rfl, hi, p⟩
  have q := hG i H hi p
  by_cases hlt : i < n
  · exact .inr ⟨w.goes i H hlt q, Pw (i + 1), fun H' p' => ⟨n - (i + 1), by omega, rfl, hlt, p'⟩, fun x H' y => hs i x H H' hlt p (w.yields i H x H' hlt q y)⟩
  · have e : i = n := by omega
    subst e
    exact .inl ⟨w.stops H q, hd H p⟩
end
section
variable {J : L2.It} {n : Nat} {G : Hp → Prop} {Y : Nat → Hp → V → Hp → Prop} {D : Addr} {vs : List Nat} {σ : L2.St} {H1 : Hp} {Qd : Hp → Prop} {g : TG} {tt : TT} {rest : L2.St → Hp → (Hp → Prop) → Prop}
/-- the outer clause: Pv by its turn; rest: what stands behind it, to the next turn -/
theorem out_it (w : Walk J n G Y) (Pv : Nat → Hp → Prop) (h0 : Pv 0 (upd H1 D (.lst []))) (hG : ∀ i H, i ≤ n → Pv i H → G H)
    (hs : ∀ i x H H', i < n → Pv i H → Y i H x H' → g x (wipe σ vs) H' fun σ2 H2 => wipe σ2 vs = wipe σ vs ∧ tt σ2 H2 fun b H3 => if b = true then rest σ2 H3 (Pv (i + 1)) else Pv (i + 1) H3)
    (hd : ∀ H, Pv n H → Qd H) :
    ∃ W : Nat → Nat → Hp → Prop, (∃ m, W 0 m (upd H1 D (.lst []))) ∧ ∀ i m H, W i m H →
      (J.stop i H ∧ Qd H) ∨ (J.go i H ∧ ∃ Nx : Hp → Prop, (∀ H', Nx H' → ∃ m', m' < m ∧ W (i + 1) m' H') ∧ ∀ x H', J.yld i H x H' → g x (wipe σ vs) H' fun σ2 H2 => wipe σ2 vs = wipe σ vs ∧ tt σ2 H2 fun b H3 =>
        if b = true then rest σ2 H3 Nx else Nx H3) := by
  refine ⟨fun i m H => m = n - i ∧ i ≤ n ∧ Pv i H, ⟨n, by simp, Nat.zero_le _, h0⟩, ?_⟩
  rintro i m H ⟨rfl, hi, p⟩
  have q := hG i H hi p
  by_cases hlt : i < n
  · exact .inr ⟨w.goes i H hlt q, Pv (i + 1), fun H' p' => ⟨n - (i + 1), by omega, rfl, hlt, p'⟩, fun x H' y => hs i x H H' hlt p (w.yields i H x H' hlt q y)⟩
  · have e : i = n := by omega
    subst e
    exact .inl ⟨w.stops H q, hd H p⟩
end
end K0


set_option Elab.async false
set_option linter.all false
set_option maxRecDepth 100000
set_option maxHeartbeats 8000000
/-! _made_of -/
namespace K0
open PySem PySem.Spec PyProof.Rows L2 RZ K0z KdN
def spMdX (K : PySem.W.Frag) (C CT : Addr) : Sp := fun vs H Q E => ∃ (v : V) (n : Nat) (gs : List Q2), vs = [v, .int (n : Nat)] ∧ 2 ≤ n ∧ n ≤ 6 ∧ GivAt K C H v gs n ∧
  (∀ A, Rc.Part (same0 n) (gs.map oneT) A → 64 < A.length → raises2 CT "likenesses" 64 H E) ∧
  (∀ A, Rc.Part (same0 n) (gs.map oneT) A → Rc.Closed (same0 n) (gs.map oneT) A → A.length ≤ 64 → ∀ ys js r H', Same H H' → H r = none → Rep (Rq K) H' ys js → js.Perm A → SrtO.Srtd ltQ js → H' r = some (.lst ys) → Q (.ref r) H')
section
variable {P : Program} {w : World} {K : PySem.W.Frag} {mg : Str → Option Value} {base : Heap} {f g g2 C CT : Addr} {fd : FuncData}
abbrev N__made_of : List Str := ["given", "wide", "leading", "each", "same", "made", "front", "beyond", "one", "other", "pair"]
theorem sc_made_of : FnScope N__made_of ["given", "wide"] (defScope st__made_of) := ⟨rfl, rfl, rfl, by decide +kernel, rfl, by decide +kernel, by decide +kernel⟩
theorem ok_made_of (F : Fun K "_made_of" "_made_of" st__made_of f fd) (T : Nm mg) (U : LikD K C) (D__one_then : Dn P w K mg base 1 "_one_then" g ["one", "other"] (spThen2 K)) (R_TooMany : RaiseC2 P w K mg base "TooMany" CT) : FnOk P w K mg base (L2.CX P w) 4 f fd ["given", "wide"] (spMdX K C CT) := by
  refine F.okX sc_made_of (fun vs H Q E h => ?_) (fun cdv A outer s H vs Q E hr h => ?_)
  · obtain ⟨v, n, gs, rfl, _⟩ := h
    rfl
  · obtain ⟨v, n, gs, rfl, n2, n6, hg, k1, k2⟩ := h
    refine ⟨_, (pss_cons (ps_set (i := 2) sc_made_of.nd rfl (Or.inr rfl) (pe_lc (own := [("each", 3)]) (g := gName 3) (tt := tYes) rfl sc_made_of.nd (pi_seqK K (pv 0)) (blkOk_by (N := ["given", "wide", "leading", "each", "same", "made", "front", "beyond", "one", "other", "pair"]) (sc := defScope st__made_of) (by decide +kernel)) (fun _ _ _ _ _ => (pg_name (i := 3) sc_made_of.nd rfl (Or.inl rfl))) (fun _ _ _ _ _ => pts_nil) (fun _ _ _ _ _ => (pe_tup (pa_cons (pe_fldK K (pv 3) rfl) (pa_cons (pe_fldK K (pv 3) rfl) pa_nil))))))
    (pss_cons (ps_set (i := 4) sc_made_of.nd rfl (Or.inl rfl) (pe_tup (pa_cons (pe_tupRgF rfl (by rfl) T.n_tuple (prg_1 (by rfl) T.n_range (pv 1))) (pa_cons (pe_op op_repT (pe_tup (pa_cons pe_int pa_nil)) (pv 1)) pa_nil))))
    (pss_cons (ps_set (i := 5) sc_made_of.nd rfl (Or.inl rfl) (pe_dis1N K P w hr.units (pv 4) pe_bl))
    (pss_cons (ps_set (i := 6) sc_made_of.nd rfl (Or.inl rfl) (pe_lst (pa_cons (pv 4) pa_nil)))
    (pss_cons (ps_while (passes_of rfl) (pt_truth (pv 6) (by intro _; rfl)) (pss_cons (ps_setLc2 (i := 7) (own := [("one", 8), ("other", 9)]) (vs1 := [9]) (g := gName 8) (tt := tYes) (g1 := gName 9) (tt1 := tYes) rfl sc_made_of.nd rfl rfl (sw_true rfl rfl rfl (by decide +kernel)) (pi_seqK K (pv 6)) (blkOk_by (N := ["given", "wide", "leading", "each", "same", "made", "front", "beyond", "one", "other", "pair"]) (sc := defScope st__made_of) (by decide +kernel)) (by decide) (fun _ _ _ _ _ => (pg_name (i := 8) sc_made_of.nd rfl (Or.inl rfl))) (fun _ _ _ _ _ => pts_nil) (fun _ _ _ _ _ => pi_seqK K (pv 2)) (fun _ _ _ _ _ => (pg_name (i := 9) sc_made_of.nd rfl (Or.inl rfl))) (fun _ _ _ _ _ => pts_nil) (fun _ _ _ _ _ => (pe_dn D__one_then (hr.mono (by decide)) rfl (pa_cons (pv 8) (pa_cons (pv 9) pa_nil)))))
    (pss_cons (ps_set (i := 6) sc_made_of.nd rfl (Or.inl rfl) (pe_lst pa_nil))
    (pss_cons (ps_for (passes_of rfl) rfl (pi_seqK K (pv 7)) (pg_name (i := 10) sc_made_of.nd rfl (Or.inl rfl))
      (pss_one (ps_if (pt_cmpR (op_notInN K P w hr.units) (pv 10) (pv 5) (by rfl)) (pss_cons (ps_asg pe_bl (pg_sub (pv 5) (pv 10) (set_N K P w hr.units)))
    (pss_one (ps_expr (pe_bm PySem.F.plainAttrs_list PySem.F.slot_list_append PySem.F.type_list_append mt_append (pv 6) (pa_cons (pv 10) pa_nil))))) pss_nil)))
    (pss_one (ps_if (pt_cmpR op_gt (pe_callB (call_lenN K P w) (by rfl) T.n_len (by decide +kernel) (pa_cons (pv 5) pa_nil)) (pe_cint (by rfl) T.c_MOST_MADE) (nomark _)) (pss_one (ps_raise rfl (takes_of rfl rfl rfl rfl) (pmk_c2 R_TooMany (hr.mono (by decide)) rfl (pa_cons pe_str (pa_cons (pe_cint (by rfl) T.c_MOST_MADE) pa_nil))))) pss_nil))))))
    (pss_one (ps_ret (pe_callB (cr_sortDPp K P w rfl hr.units) (by rfl) T.n_sorted (by decide +kernel) (pa_cons (pv 5) pa_nil))))))))), ?_⟩
    obtain ⟨b, p, vs, rfl, hB, hR, hw, few⟩ := id hg
    have hlv := hR.1
    have G : GsOk n gs := ⟨n2, n6, fun g hg' => by
      obtain ⟨i, hi⟩ := List.mem_iff_getElem?.mp hg'
      obtain ⟨x, hx, a, rfl, hL⟩ := hR.at hi
      exact ⟨hL.1, hw g hg'⟩⟩
    refine ⟨_, rfl, b, p, rfl, ⟨_, hB⟩, fun LL hLL => ?_⟩
    refine lc_it (walk_seq (b := b) (xs := vs)) (fun i H' => ∃ acc, Same H H' ∧ H' LL = some (.lst acc) ∧ acc.length = i ∧ Rep (Rp K) H' acc (gs.take i)) ⟨[], same_upd hLL, upd_same, rfl, .nil⟩ (fun i H' _ ⟨_, s, _⟩ => hB.same s) ?_ ?_
    · rintro i x H1 H1' hi ⟨acc, s1, hD1, la, hr1⟩ ⟨rfl, hx⟩
      obtain ⟨q, hq, a, rfl, hL⟩ := hR.at' hx
      obtain ⟨_, dx, pp, ss, fs, ha, hp, hs, f1, f2, f3, _⟩ := hL.same s1
      refine ⟨rfl, ?_⟩
      refine ⟨_, rfl, a, C, dx, fs, _, rfl, ha, U.cl, U.nP, f1, _, rfl, a, C, dx, fs, _, rfl, ha, U.cl, U.nS, f2, (by show 2 ≤ sizeLine; decide), fun t ht => ?_⟩
      have s2 := same_upd (o := .tup [.ref pp, .ref ss]) ht
      have hx' : Rp K (upd H1' t (.tup [.ref pp, .ref ss])) (.ref t) q := ⟨t, pp, ss, rfl, .of upd_same, (hp.same s2).sq, same_sqT s2 hs⟩
      have hr2 := hr1.mono fun _ _ => Rp.same s2
      have hD2 := s2 _ _ hD1
      generalize upd H1' t (.tup [.ref pp, .ref ss]) = H2 at s2 hx' hr2 hD2 ⊢
      refine ⟨acc, hD2, Nat.lt_of_le_of_lt (m := 10) (by omega) (by decide), _, same_at hD2 (s1.trans s2) hLL, upd_same, by rw [List.length_append, la]; rfl, ?_⟩
      rw [take_snoc hq]
      exact (hr2.mono fun _ _ => Rp.lst hD2).app (.one (hx'.lst hD2))
    rintro H1 ⟨lv, s1, hL1, ll, hr1⟩
    rw [hlv, List.take_length] at hr1
    refine ⟨_, rfl, _, rfl, ⟨by decide, by decide, by omega, by omega, ?_⟩, fun t1 o1 ht1 ho1 ho2 => ?_⟩
    · rw [Int.sub_zero, Int.toNat_natCast]
      exact Nat.le_trans n6 (by decide)
    have s2 := same_upd (o := .frz o1 (.tup (rgV 0 (n : Nat)))) ht1
    have z2 : TpF (upd H1 t1 (.frz o1 (.tup (rgV 0 (n : Nat))))) t1 ((rng n).map V.int) := ⟨o1, by rw [upd_same, rng_rgV], ho1, ho2⟩
    generalize upd H1 t1 (.frz o1 (.tup (rgV 0 (n : Nat)))) = H2 at s2 z2 ⊢
    refine ⟨(by show 1 ≤ sizeLine; decide), fun l hl => ⟨_, rfl, l, (n : Nat), _, rfl, rfl, .of upd_same, (by intro z; cases z), by omega, by omega, (by show 1 ≤ 1000; decide), fun t2 ht2 => ?_⟩⟩
    have s3 := same_upd (o := .tup [.int 1]) hl
    generalize upd H2 l (.tup [.int 1]) = H3 at s3 ht2 ⊢
    rw [Int.toNat_natCast]
    have er : (List.replicate n [V.int 1]).flatten = (List.replicate n (1 : Int)).map V.int := by
      rw [List.map_replicate, List.flatten_replicate_singleton]
    rw [er]
    have s4 := same_upd (o := .tup ((List.replicate n (1 : Int)).map V.int)) ht2
    have z4 : upd H3 t2 (.tup ((List.replicate n (1 : Int)).map V.int)) t2 = some (.tup ((List.replicate n (1 : Int)).map V.int)) := upd_same
    generalize upd H3 t2 (.tup ((List.replicate n (1 : Int)).map V.int)) = H4 at s4 z4 ⊢
    refine ⟨(by show 2 ≤ sizeLine; decide), fun t ht => ?_⟩
    have s5 := same_upd (o := .tup [.ref t1, .ref t2]) ht
    have s25 := s2.trans (s3.trans (s4.trans s5))
    have hx5 : Rq K (upd H4 t (.tup [.ref t1, .ref t2])) (.ref t) (same0 n) := ⟨t, t1, t2, rfl, .of upd_same, z2.same ((s3.trans s4).trans s5), s5 _ _ z4⟩
    have hL5 := s25 _ _ hL1
    have hr5 := hr1.mono fun _ _ => Rp.same s25
    have s15 := s1.trans s25
    generalize upd H4 t (.tup [.ref t1, .ref t2]) = H5 at s15 hx5 hL5 hr5 ⊢
    clear s25 s5 ht z4 s4 ht2 er s3 hl z2 s2 ht1 hr1 hL1 s1
    -- the dict and the front
    refine fun Dd hDd => ⟨_, rfl, ?_⟩
    have s6 := same_upd (o := DkO P w Dd []) hDd
    refine ⟨t, kyQ (same0 n), rfl, upd_same, (hx5.same s6).rp.nk, ?_⟩
    have x6 : Rq K (upd (upd H5 Dd (DkO P w Dd [])) Dd (DkO P w Dd [(kyQ (same0 n), t, V.bl true)])) (.ref t) (same0 n) := (hx5.same s6).ext (φ := fun h => Dk0 P w h Dd []) upd_same
    have s7 : Same H5 (upd (upd H5 Dd (DkO P w Dd [])) Dd (DkO P w Dd [(kyQ (same0 n), t, V.bl true)])) := same_at upd_same s6 hDd
    have z7 : upd (upd H5 Dd (DkO P w Dd [])) Dd (DkO P w Dd [(kyQ (same0 n), t, V.bl true)]) Dd = some (DkO P w Dd [(kyQ (same0 n), t, V.bl true)]) := upd_same
    generalize upd (upd H5 Dd (DkO P w Dd [])) Dd (DkO P w Dd [(kyQ (same0 n), t, V.bl true)]) = H7 at x6 s7 z7 ⊢
    refine ⟨_, rfl, (by show 1 ≤ sizeLine; decide), fun fa hfa => ?_⟩
    have s8 := same_upd (o := .lst [.ref t]) hfa
    have x8 := x6.same s8
    have z8 := s8 _ _ z7
    have s58 := s7.trans s8
    have f8 : upd H7 fa (.lst [.ref t]) fa = some (.lst [.ref t]) := upd_same
    generalize upd H7 fa (.lst [.ref t]) = H8 at x8 z8 s58 f8 ⊢
    clear s8 hfa z7 s7 x6 s6
    refine ⟨fun m σ Hc => ∃ fa x y z u M F es fv, m = 2 * (64 - M.length) + (if F = [] then 0 else 1) ∧ σ = [some (.ref p), some (.int (n : Nat)), some (.ref LL), none, some (.ref t), some (.ref Dd), some (.ref fa), x, y, z, u] ∧ Rc.Lay (same0 n) (gs.map oneT) M F ∧ M.length ≤ 64 ∧ F.length ≤ M.length ∧ Same H5 Hc ∧ Hc Dd = some (DkO P w Dd es) ∧ (∀ e ∈ es, EnQ K Hc e) ∧ es.map (·.1) = M.map kyQ ∧ Hc fa = some (.lst fv) ∧ Rep (Rq K) Hc fv F, ⟨_, fa, none, none, none, none, [same0 n], [same0 n], _, _, rfl, rfl, .start, (by show 1 ≤ 64; decide), Nat.le_refl _, s58, z8, (fun e he => by rw [List.mem_singleton.mp he]; exact ⟨_, rfl, x8⟩), rfl, f8, .one x8⟩, ?_⟩
    clear f8 s58 z8 x8
    rintro m σ Hc ⟨fa, x, y, z, u, M, F, es, fv, rfl, rfl, lay, m64, fM, sc, hDc, hkc, hec, hfc, hfr⟩
    have hnf := hfr.1
    refine ⟨_, rfl, !(fv.isEmpty), .inl ⟨_, .of hfc, rfl⟩, ?_⟩
    cases he : fv.isEmpty with
    | true =>
      have hF : F = [] := by
        have h0 := List.isEmpty_iff.mp he
        rw [h0] at hnf
        exact List.eq_nil_of_length_eq_zero hnf.symm
      subst hF
      refine iteF ⟨_, rfl, ?_⟩
      refine ⟨Dd, es, M, n, rfl, hDc, (fun e he => (hkc e he).nk), hec, fun q hq => ?_, fun ys js r hrep hext hperm hsrt hr => ?_⟩
      · obtain ⟨L, l⟩ := rch_lik G (lay.p.sub q hq)
        exact ⟨l, L.len.trans l⟩
      · have s9 := same_upd (o := .lst ys) hr
        exact k2 M lay.p lay.done m64 ys js r _ ((s15.trans sc).trans s9) ((s15.trans sc).free hr) ⟨hrep.1, fun i y j hy hj => by
          obtain ⟨e, he, rfl, e2⟩ := hext i y j hy hj
          obtain ⟨q, e3, hq⟩ := hkc e he
          have := kyQ_inj (e3.symm.trans e2)
          subst this
          exact hq.same s9⟩ hperm hsrt upd_same
    | false =>
      have hF : F ≠ [] := by
        intro z
        rw [z] at hnf
        rw [List.eq_nil_of_length_eq_zero hnf] at he
        cases he
      have lay' := lay.next
      have hr5l := hr5.1
      have hbl : (Rc.beyond (gs.map oneT) F).length ≤ 640 := by
        rw [beyond_len, List.length_map]
        exact Nat.mul_le_mul (by omega : F.length ≤ 64) (by omega : gs.length ≤ 10)
      have hfl := fresh_le (Rc.beyond (gs.map oneT) F) M
      generalize hBq : Rc.beyond (gs.map oneT) F = Bq at lay' hbl hfl
      refine iteT ⟨fun σ' H' => (M ++ Rc.fresh M Bq).length ≤ 64 ∧ ∃ fa x y z u es fv, σ' = [some (.ref p), some (.int (n : Nat)), some (.ref LL), none, some (.ref t), some (.ref Dd), some (.ref fa), x, y, z, u] ∧ Same H5 H' ∧ H' Dd = some (DkO P w Dd es) ∧ (∀ e ∈ es, EnQ K H' e) ∧ es.map (·.1) = (M ++ Rc.fresh M Bq).map kyQ ∧ H' fa = some (.lst fv) ∧ Rep (Rq K) H' fv (Rc.fresh M Bq), ?_, ?_⟩
      · rintro σ' H' ⟨h64, fa, x, y, z, u, es, fv, e, h1, h2, h3, h4, h5, h6⟩
        refine ⟨_, ?_, fa, x, y, z, u, M ++ Rc.fresh M Bq, Rc.fresh M Bq, es, fv, rfl, e, lay', h64, ?_, h1, h2, h3, h4, h5, h6⟩
        · rw [if_neg hF]
          rw [List.length_append] at h64 ⊢
          by_cases hz : Rc.fresh M Bq = []
          · rw [if_pos hz, hz]
            show 2 * (64 - (M.length + 0)) + 0 < _
            omega
          · rw [if_neg hz]
            have : 0 < (Rc.fresh M Bq).length := List.length_pos_iff.mpr hz
            omega
        · rw [List.length_append]
          omega
      refine ⟨_, rfl, false, fa, rfl, ⟨_, .of hfc⟩, fun B hB => ?_⟩
      refine out_it (walk_seq (b := false) (xs := fv)) (fun i H' => ∃ acc, Same Hc H' ∧ H' B = some (.lst acc) ∧ Rep (Rq K) H' acc (Rc.beyond (gs.map oneT) (F.take i))) ⟨[], same_upd hB, upd_same, .nil⟩ (fun i H' _ ⟨_, s, _⟩ => .of (s _ _ hfc)) ?_ ?_
      · rintro i v Ha Ha' hi ⟨acc, s1, hB1, hr1⟩ ⟨rfl, hv⟩
        obtain ⟨q, hq, a1, p1, r1, rfl, g1, g2, g3⟩ := hfr.at' hv
        obtain ⟨Lq, lq⟩ := rch_lik G (lay.p.sub q (lay.s q (List.mem_of_getElem? hq)))
        refine ⟨rfl, ?_⟩
        have sH := sc.trans s1
        refine ⟨_, rfl, false, LL, rfl, ⟨_, .of (sH _ _ hL5)⟩, ?_⟩
        refine in_it (walk_seq (b := false) (xs := lv)) (fun j H' => ∃ acc, Same Hc H' ∧ H' B = some (.lst acc) ∧ Rep (Rq K) H' acc (Rc.beyond (gs.map oneT) (F.take i) ++ (gs.take j).map fun g => oneT g q)) ⟨acc, s1, hB1, by rw [List.take_zero, List.map_nil, List.append_nil]; exact hr1⟩ (fun j H' _ ⟨_, s, _⟩ => .of ((sc.trans s) _ _ hL5)) ?_ ?_
        · rintro j w1 Hb Hb' hj ⟨acc2, s2, hB2, hr2⟩ ⟨rfl, hw1⟩
          obtain ⟨g, hg1, a2, p2, r2, rfl, e1, e2, e3⟩ := hr5.at' hw1
          obtain ⟨Lg, lg⟩ := G.2.2 g (List.mem_of_getElem? hg1)
          refine ⟨rfl, ?_⟩
          have s52 := sc.trans s2
          refine ⟨_, rfl, _, rfl, a1, a2, p1, r1, p2, r2, q.1, q.2, g.1, g.2, rfl, Lq, Lg, lg.trans lq.symm, same_sqT s2 g1, same_sqT s52 e1, same_sqT s2 g2.sq, .of (s2 _ _ g3), same_sqT s52 e2, same_sqT s52 e3, fun r q1 q2 H3 s3 hr0 hq1 hq2 => ?_⟩
          have hB3 := s3 _ _ hB2
          have hx3 : Rq K H3 (.ref r) (oneT g q) := ⟨r, q1, q2, rfl, .of hr0, hq1, hq2⟩
          have hal : acc2.length < 1000 := by
            rw [hr2.1, List.length_append, beyond_len, List.length_map, List.length_map, List.length_take, List.length_take]
            have : min i F.length * gs.length ≤ 64 * 10 := Nat.mul_le_mul (by omega) (by omega)
            omega
          refine ⟨acc2, hB3, Nat.lt_of_lt_of_le hal (by decide), _, same_at hB3 (s2.trans s3) hB, upd_same, ?_⟩
          rw [take_snoc hg1, List.map_append, ← List.append_assoc]
          exact ((hr2.mono fun _ _ => Rq.same s3).mono fun _ _ => Rq.lst hB3).app (.one (hx3.lst hB3))
        · rintro Hb ⟨acc2, s2, hB2, hr2⟩
          refine ⟨acc2, s2, hB2, ?_⟩
          rw [beyond_snoc hq, List.map_map]
          rw [hr5l, List.take_length] at hr2
          exact hr2
      · rintro Ha ⟨acc, s1, hB1, hr1⟩
        rw [hnf, List.take_length, hBq] at hr1
        have sc2 := sc.trans s1
        have hD2 := s1 _ _ hDc
        have hk2 : ∀ e ∈ es, EnQ K Ha e := fun e he => (hkc e he).same s1
        have hBn : H5 B = none := sc.free hB
        clear hr5 hL5 hfr hfc hkc hDc hB s1 sc
        refine ⟨(by show 0 ≤ sizeLine; decide), fun bb hbb => ?_⟩
        have hbn : H5 bb = none := sc2.free hbb
        have nBb : B ≠ bb := fun z => by rw [z, hbb] at hB1; cases hB1
        have nDb : Dd ≠ bb := fun z => by rw [z, hbb] at hD2; cases hD2
        have nDB : Dd ≠ B := fun z => by rw [z, hB1] at hD2; cases hD2
        have s3 := same_upd (o := .lst []) hbb
        have hB3 := s3 _ _ hB1
        have hD3 := s3 _ _ hD2
        have hk3 : ∀ e ∈ es, EnQ K (upd Ha bb (.lst [])) e := fun e he => (hk2 e he).same s3
        have hr3 := hr1.mono fun _ _ => Rq.same s3
        have sc3 := sc2.trans s3
        have f3 : upd Ha bb (.lst []) bb = some (.lst []) := upd_same
        generalize upd Ha bb (.lst []) = Hb at hB3 hD3 hk3 hr3 sc3 f3 ⊢
        have hal := hr3.1
        refine ⟨_, rfl, false, B, rfl, ⟨_, .of hB3⟩, ?_⟩
        refine for_it (walk_seq (b := false) (xs := acc)) (fun i σ H' => ∃ u es fv', σ = [some (.ref p), some (.int (n : Nat)), some (.ref LL), none, some (.ref t), some (.ref Dd), some (.ref bb), some (.ref B), y, z, u] ∧ Same H5 H' ∧ H' B = some (.lst acc) ∧ Rep (Rq K) H' acc Bq ∧ H' Dd = some (DkO P w Dd es) ∧ (∀ e ∈ es, EnQ K H' e) ∧ es.map (·.1) = (M ++ Rc.fresh M (Bq.take i)).map kyQ ∧ H' bb = some (.lst fv') ∧ Rep (Rq K) H' fv' (Rc.fresh M (Bq.take i))) ⟨u, es, [], rfl, sc3, hB3, hr3, hD3, hk3, by rw [List.take_zero]; unfold Rc.fresh; rw [List.append_nil]; exact hec, f3, by rw [List.take_zero]; unfold Rc.fresh; exact .nil⟩ (fun i σ H' _ ⟨_, _, _, _, _, h, _⟩ => .of h) ?_ ?_
        · rintro i v σ H4 H4' hi ⟨u, es, fv', rfl, s4, hB4, hr4, hD4, hk4, he4, hf4, hg4⟩ ⟨rfl, hv⟩
          obtain ⟨q, hq, hx⟩ := hr4.at' hv
          obtain ⟨a1, p1, r1, rfl, g1, g2, g3⟩ := id hx
          have eb := at_keys (f := kyQ) (fun _ _ => kyQ_inj) he4 q
          have e1 : Bq.take (i + 1) = Bq.take i ++ [q] := take_snoc hq
          have e2 := Rc.fresh_snoc (Bq.take i) M q
          have hfl2 := fresh_le (Bq.take i) M
          rw [List.length_take] at hfl2
          refine ⟨_, rfl, _, rfl, Dd, a1, es, kyQ q, rfl, rfl, hD4, (fun e he => (hk4 e he).nk), hx.rp.nk, _, rfl, ?_⟩
          by_cases hm : q ∈ M ++ Rc.fresh M (Bq.take i)
          · rw [show (KdN.atN es (kyQ q)).isSome = true from eb.mpr hm]
            refine iteF ?_
            rw [if_pos hm] at e2
            exact ⟨_, es, fv', rfl, s4, hB4, hr4, hD4, hk4, by rw [e1, e2]; exact he4, hf4, by rw [e1, e2]; exact hg4⟩
          · have eb : (KdN.atN es (kyQ q)).isSome = false := Bool.eq_false_iff.mpr fun z => hm (eb.mp z)
            rw [eb]
            refine iteT ?_
            rw [if_neg hm] at e2
            have hn : KdN.atN es (kyQ q) = none := by simpa using eb
            have few : es.length < 100000 := by
              have := congrArg List.length he4
              rw [List.length_map, List.length_map, List.length_append] at this
              omega
            refine ⟨_, rfl, _, rfl, Dd, a1, es, kyQ q, rfl, rfl, hD4, (fun e he => (hk4 e he).nk), hx.rp.nk, hn, few, ?_⟩
            have hx5 : Rq K (upd H4' Dd (DkO P w Dd (es ++ [(kyQ q, a1, V.bl true)]))) (.ref a1) q := hx.ext (φ := fun h => Dk0 P w h Dd es) hD4
            have hr5 : Rep (Rq K) (upd H4' Dd (DkO P w Dd (es ++ [(kyQ q, a1, V.bl true)]))) acc Bq := hr4.mono fun _ _ => Rq.ext (φ := fun h => Dk0 P w h Dd es) hD4
            have hg5 : Rep (Rq K) (upd H4' Dd (DkO P w Dd (es ++ [(kyQ q, a1, V.bl true)]))) fv' (Rc.fresh M (Bq.take i)) := hg4.mono fun _ _ => Rq.ext (φ := fun h => Dk0 P w h Dd es) hD4
            have hk5 : ∀ e ∈ es ++ [(kyQ q, a1, V.bl true)], EnQ K (upd H4' Dd (DkO P w Dd (es ++ [(kyQ q, a1, V.bl true)]))) e := fun e he => by
              rcases List.mem_append.mp he with h | h
              · exact EnQ.ext (φ := fun h => Dk0 P w h Dd es) hD4 (hk4 e h)
              · rw [List.mem_singleton.mp h]
                exact ⟨q, rfl, hx5⟩
            have hD5 : upd H4' Dd (DkO P w Dd (es ++ [(kyQ q, a1, V.bl true)])) Dd = some (DkO P w Dd (es ++ [(kyQ q, a1, V.bl true)])) := upd_same
            have hB5 : upd H4' Dd (DkO P w Dd (es ++ [(kyQ q, a1, V.bl true)])) B = some (.lst acc) := by rw [upd_ne (Ne.symm nDB)]; exact hB4
            have hf5 : upd H4' Dd (DkO P w Dd (es ++ [(kyQ q, a1, V.bl true)])) bb = some (.lst fv') := by rw [upd_ne (Ne.symm nDb)]; exact hf4
            have s5 : Same H5 (upd H4' Dd (DkO P w Dd (es ++ [(kyQ q, a1, V.bl true)]))) := same_at hD4 s4 hDd
            generalize upd H4' Dd (DkO P w Dd (es ++ [(kyQ q, a1, V.bl true)])) = H5' at hx5 hr5 hg5 hk5 hD5 hB5 hf5 s5 ⊢
            have hfl5 := hg5.1
            refine ⟨_, rfl, .inl ⟨rfl, _, .of hf5⟩, _, rfl, bb, _, _, rfl, rfl, hf5, Nat.lt_of_lt_of_le (m := 1000) (by omega) (by decide), ?_⟩
            refine ⟨_, es ++ [(kyQ q, a1, V.bl true)], fv' ++ [.ref a1], rfl, same_at hf5 s5 hbn, by rw [upd_ne nBb]; exact hB5, hr5.mono fun _ _ => Rq.lst hf5, by rw [upd_ne nDb]; exact hD5, fun e he => (hk5 e he).lst hf5, ?_, upd_same, ?_⟩
            · rw [e1, e2, List.map_append, he4, ← List.append_assoc, List.map_append (l₁ := M ++ Rc.fresh M (Bq.take i))]
              rfl
            · rw [e1, e2]
              exact (hg5.mono fun _ _ => Rq.lst hf5).app (.one (hx5.lst hf5))
        · rintro σ H4 ⟨u, es, fv', rfl, s4, hB4, hr4, hD4, hk4, he4, hf4, hg4⟩
          rw [hal, List.take_length] at he4 hg4
          have hel : es.length = (M ++ Rc.fresh M Bq).length := by
            have := congrArg List.length he4
            rwa [List.length_map, List.length_map] at this
          refine ⟨_, rfl, Dd, es, rfl, hD4, (fun e he => (hk4 e he).nk), ?_⟩
          refine ⟨_, _, rfl, rfl, _, rfl, ?_⟩
          rw [hel]
          by_cases h64 : 64 < (M ++ Rc.fresh M Bq).length
          · rw [decide_eq_true (by omega : (64 : Int) < ((M ++ Rc.fresh M Bq).length : Nat))]
            exact iteT (fun dd H' h1 h2 s5 => (k1 _ lay'.p h64).same (s15.trans s4) dd H' h1 h2 s5)
          · rw [decide_eq_false (by omega : ¬ (64 : Int) < ((M ++ Rc.fresh M Bq).length : Nat))]
            exact iteF ⟨by omega, bb, _, _, _, _, es, fv', rfl, s4, hD4, hk4, he4, hf4, hg4⟩
end
end K0


set_option Elab.async false
set_option linter.all false
set_option maxRecDepth 100000
set_option maxHeartbeats 8000000
/-! likenesses_of -/
namespace K0
open PySem PySem.Spec PyProof.Rows L2 RZ K0z KdN
section
variable {P : Program} {w : World} {K : PySem.W.Frag} {mg : Str → Option Value} {base : Heap} {f g1 g2 g3 C CP CB CM CT : Addr} {fd : FuncData}
abbrev N_likenesses_of : List Str := ["points", "given", "places", "signs"]
theorem sc_lo : FnScope N_likenesses_of ["points", "given"] (defScope st_likenesses_of) := ⟨rfl, rfl, rfl, by decide +kernel, rfl, by decide +kernel, by decide +kernel⟩
theorem ok_lo (F : Fun K "likenesses_of" "likenesses_of" st_likenesses_of f fd) (T : Nm mg) (M : LikM P w K mg base C CB) (D__check_points_and_given : DnX P w K mg base 7 "_check_points_and_given" g1 ["points", "given"] (spChk K CP CB C)) (D__leads_of : DnX P w K mg base 8 "_leads_of" g2 ["points", "given"] (spLds K CM C)) (D__made_of : DnX P w K mg base 4 "_made_of" g3 ["given", "wide"] (spMdX K C CT)) : FnOk P w K mg base (L2.CX P w) 9 f fd ["points", "given"] (spLo K C CP CB CM CT) := by
  refine F.okX sc_lo (fun vs H Q E h => ?_) (fun cdv A outer s H vs Q E hr h => ?_)
  · obtain ⟨v1, v2, _, _, rfl, _⟩ := h
    rfl
  · obtain ⟨v1, v2, o1, o2, rfl, hv1, hv2, k1, k2⟩ := h
    refine ⟨_, (pss_cons (ps_expr (pe_dnE D__check_points_and_given (takes_of rfl rfl rfl rfl) (hr.mono (by decide)) rfl (pa_cons (pv 0) (pa_cons (pv 1) pa_nil))))
    (pss_cons (ps_expr (pe_dnE D__leads_of (takes_of rfl rfl rfl rfl) (hr.mono (by decide)) rfl (pa_cons (pv 0) (pa_cons (pv 1) pa_nil))))
    (pss_one (ps_ret (pe_callTy (call_tupK K) (by rfl) T.n_tuple (by decide +kernel) (pa_cons (pe_lc (own := [("places", 2), ("signs", 3)]) (g := gTup K 2 (gCons (gName 2) (gCons (gName 3) gNil))) (tt := tYes) rfl sc_lo.nd (pi_seqK K (pe_dnE D__made_of (takes_of rfl rfl rfl rfl) (hr.mono (by decide)) rfl (pa_cons (pv 1) (pa_cons (pe_callB (call_lenK K) (by rfl) T.n_len (by decide +kernel) (pa_cons (pe_ix (ix_K K) (pv 0) pe_int (fun _ _ => rfl)) pa_nil)) pa_nil)))) (blkOk_by (N := ["points", "given", "places", "signs"]) (sc := defScope st_likenesses_of) (by decide +kernel)) (fun _ _ _ _ _ => (pg_tup (by rfl) (pgs_cons (pg_name (i := 2) sc_lo.nd rfl (Or.inl rfl)) (pgs_cons (pg_name (i := 3) sc_lo.nd rfl (Or.inl rfl)) pgs_nil)))) (fun _ _ _ _ _ => pts_nil) (fun _ _ _ _ _ => (pe_likK P w K mg base M (hr.mono (by decide)) rfl (pa_cons (pv 2) (pa_cons (pv 3) pa_nil))))) pa_nil)))))), ?_⟩
    refine ⟨_, rfl, _, rfl, v1, v2, o1, o2, rfl, hv1, hv2, k1, fun os e hp => ?_⟩
    subst e
    obtain ⟨k3, k4⟩ := k2 os rfl hp
    refine ⟨k3, fun nd => ?_⟩
    obtain ⟨k5, k6⟩ := k4 nd
    refine ⟨k5, fun hg H1 s1 => ?_⟩
    obtain ⟨gs, e, hG⟩ := gv_giv hv2 hg
    obtain ⟨k7, k8⟩ := k6 gs e hg
    obtain ⟨n2, n6, hP, ne⟩ := val_pts hv1 hp
    generalize hks : ksOf os = ks at *
    generalize hn : (ks.headD []).length = n at *
    have hP1 := hP.same s1
    have hG1 := hG.same s1
    refine ⟨_, rfl, _, rfl, v1, v2, ks, gs, n, rfl, hP1, nd, hG1, fun z => (k7 z).same s1, fun z x2 H2 s2 => ?_⟩
    obtain ⟨k9, k10⟩ := k8 z
    have s12 := s1.trans s2
    obtain ⟨bp, ap, vp, rfl, hBp, hRp, hwp, fewp⟩ := hP.same s12
    have l0 : 0 < vp.length := by rw [hRp.1]; exact List.length_pos_iff.mpr ne
    obtain ⟨x0, e0⟩ : ∃ x, vp[0]? = some x := ⟨_, List.getElem?_eq_getElem l0⟩
    obtain ⟨k0, hk0, hx0⟩ := hRp.at' e0
    have hx0 : Seqs K H2 _ (some (k0.map V.int)) := hx0
    obtain ⟨b0, a0, rfl, hB0, _⟩ := hx0.sqB
    have hk0n : k0.length = n := hwp k0 (List.mem_of_getElem? hk0)
    refine ⟨_, rfl, _, rfl, bp, ap, vp, 0, _, rfl, rfl, hBp, atI_nat (j := 0) e0, b0, a0, _, rfl, hB0, v2, n, gs, ?_, n2, n6, hG.same s12, fun A p h64 => (k9 A p h64).same s12, fun A p cl h64 ys js r H3 s3 hr0 hrep hperm hsrt hH3 => ?_⟩
    · rw [List.length_map, hk0n]
    · obtain ⟨hlen, _⟩ := id hrep
      have hjl : js.length ≤ 64 := by rw [hperm.length_eq]; exact h64
      have G : GsOk n gs := ⟨n2, n6, fun g hg' => by
        obtain ⟨_, _, us, _, _, hR, hw, _⟩ := hG
        obtain ⟨i, hi⟩ := List.mem_iff_getElem?.mp hg'
        obtain ⟨x, hx, a, rfl, hL⟩ := hR.at hi
        exact ⟨hL.1, hw g hg'⟩⟩
      refine ⟨false, r, rfl, ⟨_, .of hH3⟩, fun D hD => lc_rel (fun i y H' => ∀ q, js[i]? = some q → RL C K H' y q) (walk_seq (b := false) (xs := ys)) hD (Nat.lt_of_le_of_lt (m := 64) (by omega) (by decide)) (fun H s => .of (s _ _ hH3)) (fun i y H2 H3 s h q e => (h q e).same s) ?_ ?_⟩
      · rintro i x H4 H4' hi s4 ⟨acc, hacc⟩ ⟨rfl, hx⟩ Rk kk
        obtain ⟨q, hq, t, p1, r1, rfl, g1, g2, g3⟩ := hrep.at' hx
        obtain ⟨L, l⟩ := rch_lik G (p.sub q (hperm.mem_iff.mp (List.mem_of_getElem? hq)))
        refine ⟨t, _, rfl, same_sqT s4 g1, rfl, _, _, rfl, _, _, rfl, rfl, rfl, ?_⟩
        refine ⟨_, rfl, _, rfl, ?_⟩
        have n6' := L.n6
        exact lik_way L ⟨by rw [List.length_map]; exact six n6', _, rfl, .inr (g2.same s4)⟩ (seqsT (s4 _ _ g3) (by rw [List.length_map, L.len]; exact six n6')) fun x H5 hx5 hL5 s5 => kk _ _ s5 fun q' e' => by
          rw [hq] at e'
          cases e'
          exact ⟨x, rfl, hL5.off (Same.refl _) (s5 _ _ hacc)⟩
      rintro H4 ⟨acc, la, hDa, s4, hac⟩
      refine ⟨false, D, acc, rfl, .of hDa, fun _ l hl => ?_, fun z => by cases z⟩
      have s5 := same_upd (o := .tup acc) hl
      exact k10 A p cl h64 l _ acc js (s12.trans (s3.trans (s4.trans s5))) ((s12.trans (s3.trans s4)).free hl) upd_same ⟨la.trans hlen, fun i y q hy hq => by
        obtain ⟨a, e, h⟩ := hac i y hy q hq
        exact ⟨a, e, h.same ((off_same D H4).trans s5)⟩⟩ hperm hsrt
end
end K0


set_option Elab.async false
set_option linter.all false
set_option maxRecDepth 100000
set_option maxHeartbeats 8000000
set_option exponentiation.threshold 100000
/-! a list of pairs shown; lists of lists of ints compared -/
namespace K0
open PySem PySem.Spec PyProof.Rows L2 RZ K0z KdN
structure ShN (B k : Nat) (d : PyData) : Prop where
  sh : d.showable = true
  dp : d.depth ≤ k
  ln : d.shown.length ≤ B
theorem ShN.short {B k : Nat} {d : PyData} (h : ShN B k d) (hB : B ≤ 1000000) (hk : k ≤ 20) : Short d := ⟨h.sh, Nat.le_trans h.dp hk, Nat.le_trans h.ln hB⟩
theorem ShN.more {B B' k k' : Nat} {d : PyData} (h : ShN B k d) (hB : B ≤ B') (hk : k ≤ k') : ShN B' k' d := ⟨h.sh, Nat.le_trans h.dp hk, Nat.le_trans h.ln hB⟩
theorem shN_none : ShN 100 0 .none := ⟨rfl, by decide, by simp only [PyData.shown]; decide⟩
theorem shN_bool (b : Bool) : ShN 100 0 (.bool b) := ⟨rfl, by simp [PyData.depth], by simp only [PyData.shown]; cases b <;> decide⟩
theorem shN_d0 : ShN 100 1 (.dict []) := ⟨rfl, by decide, by simp only [PyData.shown, PyData.shownKv]; decide⟩
theorem int_shown_len {n : Int} (h : n.natAbs < 10 ^ 60) : (PyData.int n).shown.length ≤ 61 := by
  have e := int_text_length_le10 (k := 60) (by decide) h
  simp only [PyData.shown]
  rw [PySem.ofString_length]
  omega
theorem lt60 {n : Int} (h : n.natAbs < 2 ^ 85) : n.natAbs < 10 ^ 60 := Nat.lt_trans h (by decide)
theorem shN_int {n : Int} (h : n.natAbs < 2 ^ 85) : ShN 100 0 (.int n) := by
  have h2 : n.natAbs.log2 < 1920 := by
    have e := PySem.Flt.log2_lt_of (by decide : 0 < 85) h
    omega
  exact ⟨by simpa [PyData.showable] using h2, by simp [PyData.depth], Nat.le_trans (int_shown_len (lt60 h)) (by decide)⟩
theorem shN_list {ds : List PyData} {B k n : Nat} (hn : ds.length ≤ n) (h : ∀ d ∈ ds, ShN B k d) : ShN (n * (B + 2) + 3) (k + 1) (.list ds) ∧ ShN (n * (B + 2) + 3) (k + 1) (.tuple ds) := by
  have a1 : PyData.showableAll ds = true := by
    clear hn
    induction ds with
    | nil => rfl
    | cons d ds ih =>
      simp only [PyData.showableAll, Bool.and_eq_true]
      exact ⟨(h d List.mem_cons_self).sh, ih fun d hd => h d (List.mem_cons_of_mem _ hd)⟩
  have a2 : PyData.depthAll ds ≤ k := by
    clear hn a1
    induction ds with
    | nil => exact Nat.zero_le _
    | cons d ds ih =>
      simp only [PyData.depthAll]
      exact Nat.max_le.mpr ⟨(h d List.mem_cons_self).dp, ih fun d hd => h d (List.mem_cons_of_mem _ hd)⟩
  have a3 : ((PyData.shownAll ds).map (·.length)).sum + 2 * (PyData.shownAll ds).length ≤ ds.length * (B + 2) := by
    clear hn a1 a2
    induction ds with
    | nil => simp [PyData.shownAll]
    | cons d ds ih =>
      have := ih fun d hd => h d (List.mem_cons_of_mem _ hd)
      have := (h d List.mem_cons_self).ln
      simp only [PyData.shownAll, List.map_cons, List.sum_cons, List.length_cons, Nat.succ_mul]
      omega
  have a4 : ds.length * (B + 2) ≤ n * (B + 2) := Nat.mul_le_mul_right _ hn
  have l1 := listText_len_le (PyData.shownAll ds)
  have l2 := tupleText_len_le (PyData.shownAll ds)
  exact ⟨⟨by simpa only [PyData.showable] using a1, by simp only [PyData.depth]; omega, by simp only [PyData.shown]; omega⟩, ⟨by simpa only [PyData.showable] using a1, by simp only [PyData.depth]; omega, by simp only [PyData.shown]; omega⟩⟩
def pairD (q : Q2) : PyData := .tuple [tupD q.1, tupD q.2]
theorem noD_ints : ∀ ns : List Int, PyData.hasDictAll ((ns.map V.int).map toD) = false
  | [] => rfl
  | n :: ns => by
    have ih := noD_ints ns
    simp only [List.map_cons, PyData.hasDictAll, toD, PyData.hasDict, ih, Bool.or_self]
theorem noD_tup (ns : List Int) : PyData.hasDict (tupD ns) = false := by
  unfold tupD
  simp only [PyData.hasDict]
  exact noD_ints ns
theorem noD_pairs : ∀ js : List Q2, PyData.hasDictAll (js.map pairD) = false
  | [] => rfl
  | q :: js => by
    have ih := noD_pairs js
    simp only [List.map_cons, PyData.hasDictAll, pairD, PyData.hasDict, noD_tup, ih, Bool.or_self]
theorem dp_pairs {K : PySem.W.Frag} {H : Hp} : ∀ {ys : List V} {js : List Q2}, Rep (Rp K) H ys js → DpAll K H ys (js.map pairD)
  | [], [], _ => .nil
  | [], _ :: _, h => absurd h.1 (by simp)
  | _ :: _, [], h => absurd h.1 (by simp)
  | y :: ys, q :: js, h => by
    obtain ⟨t, p, r, rfl, ht, hp, hr⟩ := h.2 0 y q rfl rfl
    exact .cons (.tup ht (.cons (dpT hp (flat_ints q.1)) (.cons (dpT hr (flat_ints q.2)) .nil))) (dp_pairs ⟨by simpa using h.1, fun i x a hx ha => h.2 (i + 1) x a hx ha⟩)
theorem sh_tup {ns : List Int} (l : ns.length ≤ 6) (b : ∀ n ∈ ns, n.natAbs < 2 ^ 85) : ShN (6 * (100 + 2) + 3) 1 (tupD ns) :=
  (shN_list (n := 6) (B := 100) (k := 0) (ds := (ns.map V.int).map toD) (by rw [List.length_map, List.length_map]; exact l) fun x hx => by
    obtain ⟨v, hv, rfl⟩ := List.mem_map.mp hx
    obtain ⟨n, hn, rfl⟩ := List.mem_map.mp hv
    exact shN_int (b n hn)).2
theorem sh_pair {q : Q2} (L : Lik q.1 q.2) : ShN (2 * ((6 * (100 + 2) + 3) + 2) + 3) 2 (pairD q) := by
  have n6 := L.n6
  have len := L.len
  have h1 := sh_tup n6 fun n hn => by
    obtain ⟨j, rfl, hj⟩ := L.at hn
    exact Nat.lt_of_le_of_lt (by omega : _ ≤ 6) (by decide)
  have h2 := sh_tup (ns := q.2) (by omega) fun n hn => by
    rcases L.sg n hn with rfl | rfl <;> decide
  exact (shN_list (n := 2) (ds := [tupD q.1, tupD q.2]) (by show 2 ≤ 2; decide) fun x hx => by
    rcases List.mem_cons.mp hx with e | hx
    · rw [e]; exact h1
    · rw [List.mem_singleton.mp hx]; exact h2).2
/-- a list of pairs, shown -/
theorem pairs_shown {K : PySem.W.Frag} {H : Hp} {l : Addr} {ys : List V} {js : List Q2} (hl : SqL K H l ys) (h : Rep (Rp K) H ys js) (L : ∀ q ∈ js, Lik q.1 q.2) (few : js.length ≤ 64) : It K H (.ref l) (.list (js.map pairD)) ∧ Short (.list (js.map pairD)) := by
  refine ⟨.dp (.lst hl (dp_pairs h)) (by simp only [PyData.hasDict]; exact noD_pairs js), ?_⟩
  exact (shN_list (n := 64) (B := 2 * ((6 * (100 + 2) + 3) + 2) + 3) (k := 2) (ds := js.map pairD) (by rw [List.length_map]; exact few) fun x hx => by
    obtain ⟨q, hq, rfl⟩ := List.mem_map.mp hx
    exact sh_pair (L q hq)).1.short (by decide) (by decide)
/-! ### lists of lists of ints -/
/-- x is a list of these ints -/
def RLi (K : PySem.W.Frag) (H : Hp) (x : V) (ns : List Int) : Prop := ∃ l, x = .ref l ∧ SqL K H l (ns.map V.int)
def lisD (k : List Int) : PyData := .list ((k.map V.int).map toD)
theorem dp_lists {K : PySem.W.Frag} {H : Hp} : ∀ {ys : List V} {ks : List (List Int)}, Rep (RLi K) H ys ks → DpAll K H ys (ks.map lisD)
  | [], [], _ => .nil
  | [], _ :: _, h => absurd h.1 (by simp)
  | _ :: _, [], h => absurd h.1 (by simp)
  | y :: ys, k :: ks, h => by
    obtain ⟨t, rfl, ht⟩ := h.2 0 y k rfl rfl
    exact .cons (dpL ht (flat_ints k)) (dp_lists ⟨by simpa using h.1, fun i x a hx ha => h.2 (i + 1) x a hx ha⟩)
theorem lay_lists : ∀ ks : List (List Int), PyData.canLayAll0 (ks.map lisD) = true
  | [] => rfl
  | k :: ks => by
    have h1 := lay_lists ks
    have h2 := layF (flat_ints k)
    simp only [List.map_cons, PyData.canLayAll0, lisD, PyData.canLay0, h2, h1, Bool.and_self]
theorem dep_lists : ∀ ks : List (List Int), PyData.depthAll (ks.map lisD) ≤ 1
  | [] => by simp [PyData.depthAll]
  | k :: ks => by
    have h1 := dep_lists ks
    have h2 := depF (k.map V.int)
    simp only [List.map_cons, PyData.depthAll, lisD, PyData.depth, h2]
    omega
theorem shaped_lists (ks : List (List Int)) : SeqAt.shaped (.list (ks.map lisD)) = true := by
  unfold SeqAt.shaped
  rw [Bool.and_eq_true]
  refine ⟨?_, ?_⟩
  · simp only [PyData.canLay0]
    exact lay_lists ks
  · have := dep_lists ks
    refine decide_eq_true ?_
    simp only [PyData.depth]
    omega
theorem eqv_lists (ks : List (List Int)) : PyData.eqv (.list (ks.map lisD)) (.list (ks.map lisD)) = true := SeqAt.eqv_refl _ (by simp only [PyData.canLay0]; exact lay_lists ks)
end K0


set_option Elab.async false
set_option linter.all false
set_option maxRecDepth 100000
set_option maxHeartbeats 4000000
/-! what is made is a group; sorted in two ways is the same -/
namespace K0
open PySem PySem.Spec PyProof.Rows L2
theorem lex_anti : ∀ {a b : List Int}, HT.lexLt a b = false → HT.lexLt b a = false → a = b
  | [], [], _, _ => rfl
  | [], b :: bs, h, _ => by rw [HT.lexLt_nil_cons] at h; cases h
  | a :: as, [], _, h => by rw [HT.lexLt_nil_cons] at h; cases h
  | a :: as, b :: bs, h1, h2 => by
    rw [HT.lexLt_cons] at h1 h2
    by_cases e : a = b
    · rw [if_pos e] at h1
      rw [if_pos e.symm] at h2
      rw [e, lex_anti h1 h2]
    · rw [if_neg e] at h1
      rw [if_neg (Ne.symm e)] at h2
      have := of_decide_eq_false h1
      have := of_decide_eq_false h2
      omega
theorem sorted_uniq : ∀ {l m : List (List Int)}, SrtO.Srtd HT.lexLt l → SrtO.Srtd HT.lexLt m → l.Perm m → l = m
  | [], m, _, _, h => (List.Perm.eq_nil h.symm).symm
  | x :: l, [], _, _, h => absurd h.length_eq (by simp)
  | x :: l, y :: m, hl, hm, h => by
    have e : x = y := by
      rcases List.mem_cons.mp (h.mem_iff.mp (List.mem_cons_self (a := x) (l := l))) with e | hx
      · exact e
      · rcases List.mem_cons.mp (h.mem_iff.mpr (List.mem_cons_self (a := y) (l := m))) with e | hy
        · exact e.symm
        · exact lex_anti (SrtO.srtd_head hm x hx) (SrtO.srtd_head hl y hy)
    subst e
    rw [sorted_uniq (List.pairwise_cons.mp hl).2 (List.pairwise_cons.mp hm).2 h.cons_inv]
theorem sorted_uniqQ {l m : List Q2} {n : Nat} (hl : SrtO.Srtd ltQ l) (hm : SrtO.Srtd ltQ m) (h : l.Perm m) (len : ∀ q ∈ l, q.1.length = n) : l = m := by
  have e := sorted_uniq (SrtO.srtd_map (f := SrtT.keyQ) (lt := HT.lexLt) hl) (SrtO.srtd_map (f := SrtT.keyQ) (lt := HT.lexLt) hm) (h.map SrtT.keyQ)
  have len2 : ∀ q ∈ m, q.1.length = n := fun q hq => len q (h.mem_iff.mpr hq)
  clear hl hm h
  induction l generalizing m with
  | nil =>
    cases m with
    | nil => rfl
    | cons y m => cases e
  | cons x l ih =>
    cases m with
    | nil => cases e
    | cons y m =>
      rw [List.map_cons, List.map_cons] at e
      obtain ⟨e1, e2⟩ := List.cons.inj e
      unfold SrtT.keyQ at e1
      obtain ⟨h1, h2⟩ := List.append_inj e1 ((len x List.mem_cons_self).trans (len2 y List.mem_cons_self).symm)
      rw [show x = y from Prod.ext h1 h2, ih (fun q hq => len q (List.mem_cons_of_mem _ hq)) e2 fun q hq => len2 q (List.mem_cons_of_mem _ hq)]
section
variable {α : Type} [DecidableEq α] {x0 : α} {fs fs' : List (α → α)}
theorem rch_sub (h : ∀ f ∈ fs, f ∈ fs') {x : α} (r : Rc.Rch x0 fs x) : Rc.Rch x0 fs' x := by
  induction r with
  | base => exact .base
  | step r hf ih => exact .step ih (h _ hf)
theorem part_sub {A : List α} (h : ∀ f ∈ fs, f ∈ fs') (p : Rc.Part x0 fs A) : Rc.Part x0 fs' A := ⟨p.nd, fun x hx => rch_sub h (p.sub x hx)⟩
theorem closed_sub {A : List α} (h : ∀ f ∈ fs', f ∈ fs) (c : Rc.Closed x0 fs A) : Rc.Closed x0 fs' A := ⟨c.1, fun x hx f hf => c.2 x hx f (h f hf)⟩
end
/-- a likeness of n, as a pair -/
def LkN (n : Nat) (q : Q2) : Prop := Lik q.1 q.2 ∧ q.1.length = n
theorem lkN_one {n : Nat} {g q : Q2} (hg : LkN n g) (hq : LkN n q) : LkN n (oneT g q) := ⟨hq.1.then hg.1 (hg.2.trans hq.2.symm), by show (thenP q.1 g.1).length = n; rw [then_len]; exact hg.2⟩
theorem led_one {n : Nat} {g q : Q2} (hg : LkN n g) (hq : LkN n q) (pt : List Int) : ledL (oneT g q).1 (oneT g q).2 pt = ledL g.1 g.2 (ledL q.1 q.2 pt) := led_then hq.1 hg.1 (hg.2.trans hq.2.symm)
theorem lk_ext {n : Nat} {a b : Q2} (ha : LkN n a) (hb : LkN n b) (h : ∀ pt, pt.length = n → ledL a.1 a.2 pt = ledL b.1 b.2 pt) : a = b := by
  obtain ⟨e1, e2⟩ := led_inj ha.1 hb.1 (hb.2.trans ha.2.symm) (by rw [ha.2]; exact h _ (cnt_len n))
  exact Prod.ext e1 e2
theorem lk_same {n : Nat} (h2 : 2 ≤ n) (h6 : n ≤ 6) : LkN n (same0 n) := ⟨Lik.same h2 h6, rng_len n⟩
theorem one_assoc {n : Nat} {a b c : Q2} (ha : LkN n a) (hb : LkN n b) (hc : LkN n c) : oneT (oneT c b) a = oneT c (oneT b a) :=
  lk_ext (lkN_one (lkN_one hc hb) ha) (lkN_one hc (lkN_one hb ha)) fun pt hp => by
    rw [led_one (lkN_one hc hb) ha, led_one hc hb, led_one hc (lkN_one hb ha), led_one hb ha]
theorem one_same {n : Nat} (h2 : 2 ≤ n) (h6 : n ≤ 6) {a : Q2} (ha : LkN n a) : oneT (same0 n) a = a :=
  lk_ext (lkN_one (lk_same h2 h6) ha) ha fun pt hp => by
    rw [led_one (lk_same h2 h6) ha]
    exact led_same (by rw [ledL_len]; exact ha.2)
theorem same_one {n : Nat} (h2 : 2 ≤ n) (h6 : n ≤ 6) {a : Q2} (ha : LkN n a) : oneT a (same0 n) = a :=
  lk_ext (lkN_one ha (lk_same h2 h6)) ha fun pt hp => by
    rw [led_one ha (lk_same h2 h6)]
    rw [show ledL (same0 n).1 (same0 n).2 pt = pt from led_same hp]
def bkQ (q : Q2) : Q2 := (backP q.1, backS q.1 q.2)
theorem lk_bk {n : Nat} {a : Q2} (ha : LkN n a) : LkN n (bkQ a) := ⟨ha.1.back, by show (backP a.1).length = n; rw [backP_len]; exact ha.2⟩
theorem bk_one {n : Nat} {a : Q2} (ha : LkN n a) : oneT (bkQ a) a = same0 n := by
  obtain ⟨e1, e2⟩ := then_back ha.1
  rw [ha.2] at e1 e2
  exact Prod.ext e1 e2
section
variable {n : Nat} {gs : List Q2} {A : List Q2}
theorem made_lk (G : GsOk n gs) (p : Rc.Part (same0 n) (gs.map oneT) A) {q : Q2} (hq : q ∈ A) : LkN n q := rch_lik G (p.sub q hq)
/-- one then another -/
theorem made_then (G : GsOk n gs) (p : Rc.Part (same0 n) (gs.map oneT) A) (c : Rc.Closed (same0 n) (gs.map oneT) A) {a b : Q2} (ha : a ∈ A) (hb : b ∈ A) : oneT b a ∈ A := by
  have la := made_lk G p ha
  have key : ∀ {b}, Rc.Rch (same0 n) (gs.map oneT) b → oneT b a ∈ A := fun {b} r => by
    induction r with
    | base => rw [one_same G.1 G.2.1 la]; exact ha
    | @step q f r hf ih =>
      obtain ⟨g, hg, rfl⟩ := List.mem_map.mp hf
      rw [one_assoc la (rch_lik G r) (G.2.2 g hg)]
      exact c.2 _ ih _ hf
  exact key (p.sub b hb)
/-- the given ones -/
theorem made_given (G : GsOk n gs) (c : Rc.Closed (same0 n) (gs.map oneT) A) {g : Q2} (hg : g ∈ gs) : g ∈ A := by
  have := c.2 _ c.1 _ (List.mem_map.mpr ⟨g, hg, rfl⟩)
  rwa [same_one G.1 G.2.1 (G.2.2 g hg)] at this
theorem map_nd {β : Type} {f : Q2 → β} : ∀ {B : List Q2}, B.Nodup → (∀ x ∈ B, ∀ y ∈ B, f x = f y → x = y) → (B.map f).Nodup
  | [], _, _ => List.nodup_nil
  | x :: B, h, hi => by
    obtain ⟨n1, n2⟩ := List.nodup_cons.mp h
    refine List.nodup_cons.mpr ⟨fun hm => ?_, map_nd n2 fun x hx y hy => hi x (List.mem_cons_of_mem _ hx) y (List.mem_cons_of_mem _ hy)⟩
    obtain ⟨y, hy, e⟩ := List.mem_map.mp hm
    rw [hi y (List.mem_cons_of_mem _ hy) x List.mem_cons_self e] at hy
    exact n1 hy
/-- the way back -/
theorem made_back (G : GsOk n gs) (p : Rc.Part (same0 n) (gs.map oneT) A) (c : Rc.Closed (same0 n) (gs.map oneT) A) {a : Q2} (ha : a ∈ A) : bkQ a ∈ A := by
  have la := made_lk G p ha
  have lb := lk_bk la
  have und : ∀ {x}, LkN n x → oneT (bkQ a) (oneT a x) = x := fun {x} lx => by rw [← one_assoc lx la lb, bk_one la, one_same G.1 G.2.1 lx]
  have nd : (A.map (oneT a)).Nodup := map_nd p.nd fun x hx y hy e => by
    have := congrArg (oneT (bkQ a)) e
    rwa [und (made_lk G p hx), und (made_lk G p hy)] at this
  have sub : ∀ x ∈ A.map (oneT a), x ∈ A := fun x hx => by
    obtain ⟨y, hy, rfl⟩ := List.mem_map.mp hx
    exact made_then G p c hy ha
  have hin : same0 n ∈ A.map (oneT a) := Decidable.byContradiction fun hno => by
    have h1 := (ScT.sub_len A (same0 n :: A.map (oneT a)) (List.nodup_cons.mpr ⟨hno, nd⟩) fun x hx => by
      rcases List.mem_cons.mp hx with e | hx
      · rw [e]; exact c.1
      · exact sub x hx).1
    rw [List.length_cons, List.length_map] at h1
    omega
  obtain ⟨x, hx, e⟩ := List.mem_map.mp hin
  have := congrArg (oneT (bkQ a)) e
  rw [und (made_lk G p hx), same_one G.1 G.2.1 lb] at this
  rw [← this]
  exact hx
/-- where no point strays, none is led away -/
theorem made_led (G : GsOk n gs) {ks : List (List Int)} (len : ∀ k ∈ ks, k.length = n) (hk : ∀ g ∈ gs, ∀ k ∈ ks, ledL g.1 g.2 k ∈ ks) {q : Q2} (r : Rc.Rch (same0 n) (gs.map oneT) q) : ∀ k ∈ ks, ledL q.1 q.2 k ∈ ks := by
  induction r with
  | base =>
    intro k h
    rw [show ledL (same0 n).1 (same0 n).2 k = k from led_same (len k h)]
    exact h
  | @step q f r hf ih =>
    intro k h
    obtain ⟨g, hg, rfl⟩ := List.mem_map.mp hf
    rw [led_one (G.2.2 g hg) (rch_lik G r)]
    exact hk g hg _ (ih k h)
end
end K0


set_option Elab.async false
set_option linter.all false
set_option maxRecDepth 100000
set_option maxHeartbeats 8000000
/-! what stays while the law draws and hears -/
namespace K0
open PySem PySem.Spec PyProof.Rows L2 RZ K0z KdN
theorem coil_lst {H : Hp} {c d : Addr} {ns : List Int} {m : Nat} (h : Coil H c d ns m) : ∃ l, H c = some (.lst l) := by
  obtain ⟨_, _, _, a, b, h, _⟩ := h
  exact ⟨_, h⟩
theorem Bs.offc {c : Addr} {HX H : Hp} (B : Bs c HX) (s : Same HX H) : Same HX (Off c H) := fun b o e => by
  rw [off_ne (fun z => by rw [z, B.hc] at e; cases e)]
  exact s b o e
theorem off_get {c b : Addr} {H : Hp} {o : HO} (h : Off c H b = some o) : b ≠ c ∧ H b = some o := by
  unfold Off at h
  by_cases e : b = c
  · rw [if_pos e] at h; cases h
  · rw [if_neg e] at h; exact ⟨e, h⟩
theorem Rep.imp {α : Type} {R R' : Hp → V → α → Prop} {H H' : Hp} {xs : List V} {as : List α} (h : Rep R H xs as) (hR : ∀ x a, R H x a → R' H' x a) : Rep R' H' xs as := ⟨h.1, fun i x a hx ha => hR _ _ (h.2 i x a hx ha)⟩
theorem rep_of {α : Type} {R : Hp → V → α → Prop} {H : Hp} : ∀ {acc : List V}, (∀ (j : Nat) y, acc[j]? = some y → ∃ a, R H y a) → ∃ as : List α, Rep R H acc as
  | [], _ => ⟨[], .nil⟩
  | y :: acc, h => by
    obtain ⟨a, ha⟩ := h 0 y rfl
    obtain ⟨as, hs⟩ := rep_of (acc := acc) fun j z hz => h (j + 1) z hz
    exact ⟨a :: as, hs.cons ha⟩
/-- y is a new pair of new lists -/
def Pl (H : Hp) (y : V) (q : Q2) : Prop := ∃ t p r, y = .ref t ∧ H t = some (.tup [.ref p, .ref r]) ∧ H p = some (.lst (q.1.map V.int)) ∧ H r = some (.lst (q.2.map V.int))
theorem Pl.same {H H' : Hp} {y : V} {q : Q2} (s : Same H H') (h : Pl H y q) : Pl H' y q := by
  obtain ⟨t, p, r, e, h1, h2, h3⟩ := h
  exact ⟨t, p, r, e, s _ _ h1, s _ _ h2, s _ _ h3⟩
theorem Pl.pr {K : PySem.W.Frag} {H : Hp} {y : V} {q : Q2} (h : Pl H y q) : Pr K H y q := by
  obtain ⟨t, p, r, e, h1, h2, h3⟩ := h
  exact ⟨t, p, r, false, false, e, .of h1, .of h2, .of h3⟩
/-- .. none of it at c or D -/
def RPc (c D : Addr) (H : Hp) (y : V) (q : Q2) : Prop := ∃ t p r, y = .ref t ∧ (t ≠ c ∧ p ≠ c ∧ r ≠ c) ∧ (t ≠ D ∧ p ≠ D ∧ r ≠ D) ∧ H t = some (.tup [.ref p, .ref r]) ∧ H p = some (.lst (q.1.map V.int)) ∧ H r = some (.lst (q.2.map V.int))
theorem notbl {o : HO} (h : ∀ ps, o ≠ .tbl ps) : ∀ ps, o ≠ .tbl ps := h
theorem RT.offT {K : PySem.W.Frag} {H : Hp} {c : Addr} {l : List V} {x : V} {ns : List Int} (h : RT K H x ns) (hc : H c = some (.lst l)) : RT K (OffT c H) x ns := by
  obtain ⟨t, e, h⟩ := h
  exact ⟨t, e, offT_get h (fun z => by rw [z, hc] at h; cases h) (fun ps z => by cases z)⟩
theorem Rp.offT {K : PySem.W.Frag} {H : Hp} {c : Addr} {l : List V} {x : V} {q : Q2} (h : Rp K H x q) (hc : H c = some (.lst l)) : Rp K (OffT c H) x q := by
  obtain ⟨t, p, r, e, h1, h2, h3⟩ := h
  exact ⟨t, p, r, e, sqT_offT h1 hc, sqT_offT h2 hc, sqT_offT h3 hc⟩
theorem LikAt.offT {K : PySem.W.Frag} {H : Hp} {a c C : Addr} {ps ss : List Int} {l : List V} (h : LikAt K H a C ps ss) (hc : H c = some (.lst l)) : LikAt K (OffT c H) a C ps ss := by
  obtain ⟨L, dx, p, q, fs, h1, ⟨o, h2, h2'⟩, h3, r⟩ := h
  exact ⟨L, dx, p, q, fs, offT_get h1 (fun z => by rw [z, hc] at h1; cases h1) (fun ps z => by cases z), ⟨o, offT_get h2 (fun z => by rw [z, hc] at h2; cases h2) (fun ps z => by cases z), h2'⟩, sqT_offT h3 hc, r⟩
theorem RL.offT {K : PySem.W.Frag} {H : Hp} {c C : Addr} {x : V} {q : Q2} {l : List V} (h : RL C K H x q) (hc : H c = some (.lst l)) : RL C K (OffT c H) x q := by
  obtain ⟨a, e, h⟩ := h
  exact ⟨a, e, h.offT hc⟩
theorem MadeV.same {K : PySem.W.Frag} {H H' : Hp} {gs : List Q2} {n : Nat} {v : V} (s : Same H H') (h : MadeV K H gs n v) : MadeV K H' gs n v := by
  rcases h with h | ⟨r, ys, js, e, h1, h2, h3⟩
  · exact .inl h
  · exact .inr ⟨r, ys, js, e, s _ _ h1, h2.mono fun _ _ => Rp.same s, h3⟩
theorem MadeV.offT {K : PySem.W.Frag} {H : Hp} {c : Addr} {l : List V} {gs : List Q2} {n : Nat} {v : V} (h : MadeV K H gs n v) (hc : H c = some (.lst l)) (n0 : ∀ r, v = .ref r → r ≠ c) : MadeV K (OffT c H) gs n v := by
  rcases h with h | ⟨r, ys, js, e, h1, h2, h3⟩
  · exact .inl h
  · exact .inr ⟨r, ys, js, e, offT_get h1 (n0 r e) (fun ps z => by cases z), h2.mono fun _ _ h => h.offT hc, h3⟩
theorem RT.ri {K : PySem.W.Frag} {H : Hp} {x : V} {ns : List Int} (h : RT K H x ns) (l : ns.length ≤ 6) : RI K H x ns := by
  obtain ⟨t, e, h⟩ := h
  rw [e]
  exact seqsT h (by rw [List.length_map]; exact six l)
theorem eq_pair (x y : V) (h : [x, y].all flat = true) : PyData.eqv (.tuple ([x, y].map toD)) (.tuple ([x, y].map toD)) = true := eqv_same h
/-- which of the classes hears -/
theorem raises_misfit {K : PySem.W.Frag} {CS CB CP CL CM CT R : Addr} {wd part : Str} {H : Hp} {Z : Addr → Hp → Prop} (hR : HrC K CS CB CP CL CM CT R wd) (k : ∀ p H', Same H H' → H' p = some (.tup [.str wd, .str part]) → Z p H') :
    raisesN R part H (fun cls d H' => (∃ (R dd : Addr) (v : V) (w : Str), HrC K CS CB CP CL CM CT R w ∧ cls = .ref R ∧ d = some dd ∧ H' dd = some (.xd (fs1 "part" [v])) ∧ ∀ p H'', Same H' H'' → H'' p = some (.tup [.str w, v]) → Z p H'') ∨
    ∃ (dd : Addr) (x y : V), cls = .ref CT ∧ d = some dd ∧ H' dd = some (.xd (fs2 [x, y])) ∧ ∀ p H'', Same H' H'' → H'' p = some (.tup [x, y]) → Z p H'') :=
  fun dd H2 h1 h2 s2 => .inl ⟨R, dd, .str part, wd, hR, rfl, rfl, h2, fun p H3 s3 z => k p H3 (s2.trans s3) z⟩
theorem raises_many {K : PySem.W.Frag} {CS CB CP CL CM CT : Addr} {wd : Str} {n : Int} {H : Hp} {Z : Addr → Hp → Prop} (k : ∀ p H', Same H H' → H' p = some (.tup [.str wd, .int n]) → Z p H') :
    raises2 CT wd n H (fun cls d H' => (∃ (R dd : Addr) (v : V) (w : Str), HrC K CS CB CP CL CM CT R w ∧ cls = .ref R ∧ d = some dd ∧ H' dd = some (.xd (fs1 "part" [v])) ∧ ∀ p H'', Same H' H'' → H'' p = some (.tup [.str w, v]) → Z p H'') ∨
    ∃ (dd : Addr) (x y : V), cls = .ref CT ∧ d = some dd ∧ H' dd = some (.xd (fs2 [x, y])) ∧ ∀ p H'', Same H' H'' → H'' p = some (.tup [x, y]) → Z p H'') :=
  fun dd H2 h1 h2 s2 => .inr ⟨dd, .str wd, .int n, rfl, rfl, h2, fun p H3 s3 z => k p H3 (s2.trans s3) z⟩
theorem cut_to (xs : List V) (k : Nat) : cutV xs none (some (k : Int)) = xs.take k := by
  show (xs.drop 0).take (HT.sIx xs.length xs.length (some (k : Int)) - 0) = _
  rw [HT.sIx_nat, List.drop_zero, Nat.sub_zero]
  by_cases h : k ≤ xs.length
  · rw [Nat.min_eq_left h]
  · rw [Nat.min_eq_right (by omega), List.take_length, List.take_of_length_le (by omega)]
/-- y is a new list of these ints -/
def RLd (H : Hp) (y : V) (ns : List Int) : Prop := ∃ l, y = .ref l ∧ H l = some (.lst (ns.map V.int))
theorem RLd.same {H H' : Hp} {y : V} {ns : List Int} (s : Same H H') (h : RLd H y ns) : RLd H' y ns := by
  obtain ⟨l, e, h⟩ := h
  exact ⟨l, e, s _ _ h⟩
theorem RLd.rli {K : PySem.W.Frag} {H : Hp} {y : V} {ns : List Int} (h : RLd H y ns) : RLi K H y ns := by
  obtain ⟨l, e, h⟩ := h
  exact ⟨l, e, .of h⟩
theorem RLd.ri {K : PySem.W.Frag} {H : Hp} {y : V} {ns : List Int} (h : RLd H y ns) (l : ns.length ≤ 6) : RI K H y ns := by
  obtain ⟨t, e, h⟩ := h
  rw [e]
  exact seqsL h (by rw [List.length_map]; exact six l)
theorem Rp.off {K : PySem.W.Frag} {H : Hp} {u : Addr} {l : List V} {x : V} {q : Q2} (hu : H u = some (.lst l)) (h : Rp K H x q) : Rp K (Off u H) x q := by
  obtain ⟨t, p, r, e, h1, h2, h3⟩ := h
  exact ⟨t, p, r, e, sqT_offL (Same.refl _) hu h1, sqT_offL (Same.refl _) hu h2, sqT_offL (Same.refl _) hu h3⟩
theorem Rep.take1 {α : Type} {R : Hp → V → α → Prop} {H : Hp} {xs : List V} {as : List α} (h : Rep R H xs as) (k : Nat) : Rep R H (xs.take k) (as.take k) := by
  refine ⟨by rw [List.length_take, List.length_take, h.1], fun i x a hx ha => ?_⟩
  rw [List.getElem?_take] at hx ha
  by_cases hi : i < k
  · rw [if_pos hi] at hx ha
    exact h.2 i x a hx ha
  · rw [if_neg hi] at hx
    cases hx
def qL : Str := ("_law_right.<locals>.<lambda>" : Str)
def qU : Str := ("_law_refused_right.<locals>.<lambda>" : Str)
theorem two_tabs {PT PU : Addr} {q u : Str} (h : PT ≠ PU) : ∀ p ∈ [(PT, q), (PU, u)], p.1 = PT → p.2 = q := fun p hp e => by
  rcases List.mem_cons.mp hp with z | hp
  · rw [z]
  · rw [List.mem_singleton.mp hp] at e
    exact absurd e.symm h
theorem two_tabs' {PT PU : Addr} {q u : Str} (h : PT ≠ PU) : ∀ p ∈ [(PT, q), (PU, u)], p.1 = PU → p.2 = u := fun p hp e => by
  rcases List.mem_cons.mp hp with z | hp
  · rw [z] at e
    exact absurd e h
  · rw [List.mem_singleton.mp hp]
end K0


set_option Elab.async false
set_option linter.all false
set_option maxRecDepth 100000
set_option maxHeartbeats 16000000
set_option exponentiation.threshold 100000
/-! _law_right -/
namespace K0
open PySem PySem.Spec PyProof.Rows L2 RZ K0z KdN
/-- the tables of the lambdas, and what stood before -/
structure TabW (c : Addr) (H0 : Hp) (T : List (Addr × Str)) (H : Hp) : Prop where
  b : SBN c H0 H
  t : LamX.Tabs T H
theorem TabW.ext {c : Addr} {H0 : Hp} {T : List (Addr × Str)} {H H' : Hp} (h : TabW c H0 T H) (s : Same H H') : TabW c H0 T H' := ⟨h.b.trans (.of (.of s)), h.t.ext s⟩
theorem TabW.but {c d : Addr} {H0 : Hp} {T : List (Addr × Str)} {H H' : Hp} {ns : List Int} {m : Nat} (h : TabW c H0 T H) (hC : Coil H c d ns m) (s : SameBut c H H') : TabW c H0 T H' := ⟨h.b.trans (.of s), tabs_but h.t hC s⟩
def spRi (K : PySem.W.Frag) (PT PU : Addr) : Sp := fun vs H Q _ => ∃ (c d : Addr) (ns : List Int) (m n : Nat), vs = [.ref c, .int n] ∧ Coil H c d ns m ∧ m ≤ 40000 ∧ 2 ≤ n ∧ n ≤ 6 ∧ LamX.Tabs [(PT, qL), (PU, qU)] H ∧
  ∀ H', SBN c H H' → Coil H' c d ns (m + 1000) → LamX.Tabs [(PT, qL), (PU, qU)] H' → Q (.bl true) H'
section
variable {P : Program} {w : World} {K : PySem.W.Frag} {mg : Str → Option Value} {base : Heap} {f f1 f2 f3 f4 f5 f6 f7 gl fh C CB CP CM CN CL CT CS PT PU cc : Addr} {fd fdh : FuncData}
abbrev N__law_right : List Str := ["keg", "wide", "given", "turn", "points", "made", "likenesses", "places", "signs", "mine", "its", "point", "told", "one", "again", "other"]
theorem sc_right : FnScope N__law_right ["keg", "wide"] (defScope st__law_right) := ⟨rfl, rfl, rfl, by decide +kernel, rfl, by decide +kernel, by decide +kernel⟩
theorem ok_right (F : FunC K "_law_right" "_law_right" st__law_right f fd cc) (T : Nm mg) (M : LikM P w K mg base C CB) (U : LikD K C) (mC : mg "Likeness" = some (.ref C)) (LX : LedX P w K mg base C CP) (MS : LkMs P w K mg base C CB CM CN) (EQ : EqQ P w K mg base C)
    (D__law_tap : Dn P w K mg base 1 "_law_tap" f1 ["keg", "many"] spTurn) (D__law_choose : Dn P w K mg base 2 "_law_choose" f2 ["keg", "some"] (spOne K)) (D__law_stirred : Dn P w K mg base 2 "_law_stirred" f3 ["keg", "some"] (spStir K)) (D__law_one : Dn P w K mg base 3 "_law_one" f4 ["keg", "wide"] spOnL)
    (D__law_points : Dn P w K mg base 4 "_law_points" f5 ["keg", "given", "wide"] (spPn K)) (D__law_made : Dn P w K mg base 3 "_law_made" f6 ["given", "wide"] (spMade K)) (D__law_strays : Dn P w K mg base 2 "_law_strays" f7 ["given", "points"] (spStr K))
    (D_likenesses_of : DnX P w K mg base 9 "likenesses_of" gl ["points", "given"] (spLo K C CP CB CM CT)) (K_likenesses_of : DnKX P w K mg base 9 "likenesses_of" gl ["points", "given"] ["points", "given"] kwA (spLo K C CP CB CM CT))
    (FH : Fun K "_law_heard" "_law_heard" st__law_heard fh fdh) (bh : Binds K fdh ["ask"] []) (mh : mg "_law_heard" = some (.ref fh)) (kh : PySem.W.keepIn K (.ref fh) = true) (TB : LamX.TabB base mg cc PT) (hPP : PT ≠ PU) (R : Errs mg CS CB CP CL CM CT) (hTm : TmC K CS CT) (hrM : HrC K CS CB CP CL CM CT CM "misfit") :
    FnG P w K mg base 12 f fd ["keg", "wide"] (spRi K PT PU) := by
  obtain ⟨och, odh, kVh, doch, pmh, anh, cdvh, cth, oslh, rfl, lkH, hcdH⟩ := FH.ex
  refine Fun_okC F sc_right (fun vs H Q E h => ?_) (fun A' outer s H vs Q E hG hr h => ?_)
  · obtain ⟨c, d, _, _, _, rfl, _⟩ := h
    rfl
  · obtain ⟨c, d, ns, m, n, rfl, hC, hm, n2, n6, hTb, k⟩ := h
    refine ⟨_, (pss_cons (ps_setLc (i := 2) (own := [("turn", 3)]) (g := gName 3) (tt := tYes) rfl sc_right.nd rfl rfl (sw_true rfl rfl rfl (by decide +kernel)) (pi_range1 (by rfl) T.n_range (pa_cons (pe_dn D__law_tap (hr.mono (by decide)) rfl (pa_cons (pv 0) (pa_cons pe_int pa_nil))) pa_nil)) (blkOk_by (N := ["keg", "wide", "given", "turn", "points", "made", "likenesses", "places", "signs", "mine", "its", "point", "told", "one", "again", "other"]) (sc := defScope st__law_right) (by decide +kernel)) (fun _ _ _ _ _ => (pg_name (i := 3) sc_right.nd rfl (Or.inl rfl))) (fun _ _ _ _ _ => pts_nil) (fun _ _ _ _ _ => (pe_dn D__law_one (hr.mono (by decide)) rfl (pa_cons (pv 0) (pa_cons (pv 1) pa_nil)))))
    (pss_cons (ps_asg (pe_tup (pa_cons (pe_dn D__law_points (hr.mono (by decide)) rfl (pa_cons (pv 0) (pa_cons (pv 2) (pa_cons (pv 1) pa_nil)))) (pa_cons (pe_dn D__law_made (hr.mono (by decide)) rfl (pa_cons (pv 2) (pa_cons (pv 1) pa_nil))) pa_nil))) (pg_tup (by rfl) (pgs_cons (pg_name (i := 4) sc_right.nd rfl (Or.inr rfl)) (pgs_cons (pg_name (i := 5) sc_right.nd rfl (Or.inl rfl)) pgs_nil))))
    (pss_cons (ps_set (i := 6) sc_right.nd rfl (Or.inr rfl) (pe_lc (own := [("places", 7), ("signs", 8)]) (g := gTup K 2 (gCons (gName 7) (gCons (gName 8) gNil))) (tt := tYes) rfl sc_right.nd (pi_seqK K (pv 2)) (blkOk_by (N := ["keg", "wide", "given", "turn", "points", "made", "likenesses", "places", "signs", "mine", "its", "point", "told", "one", "again", "other"]) (sc := defScope st__law_right) (by decide +kernel)) (fun _ _ _ _ _ => (pg_tup (by rfl) (pgs_cons (pg_name (i := 7) sc_right.nd rfl (Or.inl rfl)) (pgs_cons (pg_name (i := 8) sc_right.nd rfl (Or.inl rfl)) pgs_nil)))) (fun _ _ _ _ _ => pts_nil) (fun _ _ _ _ _ => (pe_likK P w K mg base M (hr.mono (by decide)) rfl (pa_cons (pe_callTy (call_listK K) (by rfl) T.n_list (by decide +kernel) (pa_cons (pv 7) pa_nil)) (pa_cons (pe_callTy (call_tupK K) (by rfl) T.n_tuple (by decide +kernel) (pa_cons (pv 8) pa_nil)) pa_nil))))))
    (pss_cons (ps_if (pt_val (pe_dn D__law_strays (hr.mono (by decide)) rfl (pa_cons (pv 2) (pa_cons (pv 4) pa_nil)))) (pss_one (ps_ret (pe_cmpR (op_eqD hr.units) (LamX.pe_lamcall (k := 9) (T := [(PT, qL), (PU, qU)]) (TT := THr K CS CB CP CL CM CT) (t := fun E => fun σ H Q => (L2.tCons (tVar 4) (L2.tCons (tVar 6) L2.tNil)) σ H fun vs H1 => spLo K C CP CB CM CT vs H1 Q E) rfl mh kh lkH hcdH bh sc_heard rfl (Or.inl rfl) (heard_gives R hTm T) TB rfl List.mem_cons_self (two_tabs hPP) (hr.mono (by decide)) (LamX.lamS_by (sc := defScope st__law_right) (by decide +kernel)) rfl (fun _ _ _ _ _ => rfl) (fun A outer s H E f c' hr2 => pe_dnE D_likenesses_of (takes_of rfl rfl rfl rfl) (hr2.mono (by decide)) rfl (pa_cons (pv 4) (pa_cons (pv 6) pa_nil)))) (pe_tup (pa_cons pe_str (pa_cons pe_str pa_nil))) (nomark _)))) pss_nil)
    (pss_cons (ps_if (pt_cmp (pc_isN (pv 5))) (pss_one (ps_ret (pe_cmpR (op_eqD hr.units) (LamX.pe_lamcall (k := 9) (T := [(PT, qL), (PU, qU)]) (TT := THr K CS CB CP CL CM CT) (t := fun E => fun σ H Q => (L2.tCons (tVar 4) (L2.tCons (tVar 6) L2.tNil)) σ H fun vs H1 => spLo K C CP CB CM CT vs H1 Q E) rfl mh kh lkH hcdH bh sc_heard rfl (Or.inl rfl) (heard_gives R hTm T) TB rfl List.mem_cons_self (two_tabs hPP) (hr.mono (by decide)) (LamX.lamS_by (sc := defScope st__law_right) (by decide +kernel)) rfl (fun _ _ _ _ _ => rfl) (fun A outer s H E f c' hr2 => pe_dnE D_likenesses_of (takes_of rfl rfl rfl rfl) (hr2.mono (by decide)) rfl (pa_cons (pv 4) (pa_cons (pv 6) pa_nil)))) (pe_tup (pa_cons pe_str (pa_cons pe_int pa_nil))) (nomark _)))) pss_nil)
    (pss_cons (ps_par (i := 9) (j := 10) (by rfl) sc_right.nd rfl rfl (by decide) rfl rfl (pa_cons (pe_lc (own := [("point", 11)]) (g := gName 11) (tt := tYes) rfl sc_right.nd (pi_seqK K (pv 4)) (blkOk_by (N := ["keg", "wide", "given", "turn", "points", "made", "likenesses", "places", "signs", "mine", "its", "point", "told", "one", "again", "other"]) (sc := defScope st__law_right) (by decide +kernel)) (fun _ _ _ _ _ => (pg_name (i := 11) sc_right.nd rfl (Or.inl rfl))) (fun _ _ _ _ _ => pts_nil) (fun _ _ _ _ _ => (pe_callTy (call_listK K) (by rfl) T.n_list (by decide +kernel) (pa_cons (pv 11) pa_nil)))) (pa_cons (pe_callTy (call_listK K) (by rfl) T.n_list (by decide +kernel) (pa_cons (pv 6) pa_nil)) pa_nil)) (by rfl))
    (pss_cons (ps_set (i := 12) sc_right.nd rfl (Or.inr rfl) (pe_dkx K_likenesses_of (hr.mono (by decide)) rfl (pk_cons (pv 9) (pk_cons (pv 10) pk_nil))))
    (pss_cons (ps_if (PW.pt (pw_or (pt_not (pt_val (pe_callB (call_isAK K) (by rfl) T.n_isinstance (by decide +kernel) (pa_cons (pv 12) (pa_cons (pe_tyn "tuple" (by rfl) T.n_tuple (by decide +kernel)) pa_nil))))) (pw_or (pt_cmpR (op_neNil K hr.units) (pe_lc (own := [("one", 13)]) (g := gName 13) rfl sc_right.nd (pi_seqK K (pv 12)) (blkOk_by (N := ["keg", "wide", "given", "turn", "points", "made", "likenesses", "places", "signs", "mine", "its", "point", "told", "one", "again", "other"]) (sc := defScope st__law_right) (by decide +kernel)) (fun _ _ _ _ _ => (pg_name (i := 13) sc_right.nd rfl (Or.inl rfl))) (fun _ _ _ _ _ => (pts_one (pt_not (pt_val (pe_callB (call_isAK K) (by rfl) T.n_isinstance (by decide +kernel) (pa_cons (pv 13) (pa_cons (pe_glob (v := .ref C) (by rfl) mC rfl (by decide)) pa_nil))))))) (fun _ _ _ _ _ => (pv 13))) (pe_lst pa_nil) (nomark _)) (pw_or1 (pt_cmpR op_ne (pe_callB (call_lenK K) (by rfl) T.n_len (by decide +kernel) (pa_cons (pv 10) pa_nil)) (pe_callB (call_lenK K) (by rfl) T.n_len (by decide +kernel) (pa_cons (pv 2) pa_nil)) (nomark _)))))) (pss_one (ps_ret pe_bl)) pss_nil)
    (pss_cons (ps_if (PW.pt (pw_or (pt_cmpR op_ne (pe_callB (call_repr hG hr.units) (by rfl) T.n_repr (by decide +kernel) (pa_cons (pe_lc (own := [("one", 13)]) (g := gName 13) (tt := tYes) rfl sc_right.nd (pi_seqK K (pv 12)) (blkOk_by (N := ["keg", "wide", "given", "turn", "points", "made", "likenesses", "places", "signs", "mine", "its", "point", "told", "one", "again", "other"]) (sc := defScope st__law_right) (by decide +kernel)) (fun _ _ _ _ _ => (pg_name (i := 13) sc_right.nd rfl (Or.inl rfl))) (fun _ _ _ _ _ => pts_nil) (fun _ _ _ _ _ => (pe_tup (pa_cons (pe_fldK K (pv 13) rfl) (pa_cons (pe_fldK K (pv 13) rfl) pa_nil))))) pa_nil)) (pe_callB (call_repr hG hr.units) (by rfl) T.n_repr (by decide +kernel) (pa_cons (pv 5) pa_nil)) (nomark _)) (pw_or1 (pt_cmpR (op_neD hr.units) (pv 9) (pe_lc (own := [("point", 11)]) (g := gName 11) (tt := tYes) rfl sc_right.nd (pi_seqK K (pv 4)) (blkOk_by (N := ["keg", "wide", "given", "turn", "points", "made", "likenesses", "places", "signs", "mine", "its", "point", "told", "one", "again", "other"]) (sc := defScope st__law_right) (by decide +kernel)) (fun _ _ _ _ _ => (pg_name (i := 11) sc_right.nd rfl (Or.inl rfl))) (fun _ _ _ _ _ => pts_nil) (fun _ _ _ _ _ => (pe_callTy (call_listK K) (by rfl) T.n_list (by decide +kernel) (pa_cons (pv 11) pa_nil)))) (nomark _))))) (pss_one (ps_ret pe_bl)) pss_nil)
    (pss_cons (ps_set (i := 14) sc_right.nd rfl (Or.inl rfl) (pe_dnx D_likenesses_of (hr.mono (by decide)) rfl (pa_cons (pe_callTy (call_tupK K) (by rfl) T.n_tuple (by decide +kernel) (pa_cons (pv 4) pa_nil)) (pa_cons (pe_callTy (call_tupK K) (by rfl) T.n_tuple (by decide +kernel) (pa_cons (pe_dn D__law_stirred (hr.mono (by decide)) rfl (pa_cons (pv 0) (pa_cons (pe_op op_cat (pv 6) (pe_slice sl_list (pv 6) po_none (po_some pe_int))) pa_nil))) pa_nil)) pa_nil))))
    (pss_cons (ps_if (PW.pt (pw_or (pt_cmpR (op_neT mon_DLk (eqB_lk EQ) (hr.mono (by decide))) (pv 14) (pv 12) (nomark _)) (pw_or1 (pt_cmpR (op_neNil K hr.units) (pe_lc (own := [("one", 13)]) (g := gName 13) rfl sc_right.nd (pi_seqK K (pv 6)) (blkOk_by (N := ["keg", "wide", "given", "turn", "points", "made", "likenesses", "places", "signs", "mine", "its", "point", "told", "one", "again", "other"]) (sc := defScope st__law_right) (by decide +kernel)) (fun _ _ _ _ _ => (pg_name (i := 13) sc_right.nd rfl (Or.inl rfl))) (fun _ _ _ _ _ => (pts_one (pt_cmpR (op_notInLk EQ (hr.mono (by decide)) K) (pv 13) (pv 12) (by rfl)))) (fun _ _ _ _ _ => (pv 13))) (pe_lst pa_nil) (nomark _))))) (pss_one (ps_ret pe_bl)) pss_nil)
    (pss_cons (ps_par3 (i := 13) (j := 15) (l := 11) (by rfl) sc_right.nd rfl rfl rfl (by decide) (by decide) (by decide) rfl rfl rfl (pa_cons (pe_dn D__law_choose (hr.mono (by decide)) rfl (pa_cons (pv 0) (pa_cons (pe_callTy (call_listK K) (by rfl) T.n_list (by decide +kernel) (pa_cons (pv 12) pa_nil)) pa_nil))) (pa_cons (pe_dn D__law_choose (hr.mono (by decide)) rfl (pa_cons (pv 0) (pa_cons (pe_callTy (call_listK K) (by rfl) T.n_list (by decide +kernel) (pa_cons (pv 12) pa_nil)) pa_nil))) (pa_cons (pe_dn D__law_choose (hr.mono (by decide)) rfl (pa_cons (pv 0) (pa_cons (pv 4) pa_nil))) pa_nil))) (by rfl))
    (pss_one (ps_ret (pe_and (pe_cmpR (op_inLk EQ (hr.mono (by decide)) K) (pe_thn MS U.cl (hr.mono (by decide)) (pv 13) (pa_cons (pv 15) pa_nil)) (pv 12) (by rfl)) (pe_and (pe_cmpR (op_inLk EQ (hr.mono (by decide)) K) (pe_back MS U.cl (hr.mono (by decide)) (pv 13)) (pv 12) (by rfl)) (pe_one (pe_cmpR (op_inT K (u65 hr)) (pe_ledK P w K mg base LX U.cl (hr.mono (by decide)) (pv 13) (pa_cons (pv 11) pa_nil)) (pv 4) (by rfl))))))))))))))))))), ?_⟩
    have hTb : TabW c H [(PT, qL), (PU, qU)] H := ⟨.of (SameBut.refl c H), hTb⟩
    have LT : ∀ {o : List V} (ps : Array Value), HO.lst o ≠ .tbl ps := fun ps e => by cases e
    -- given
    refine ⟨_, rfl, c, d, ns, m, 5, rfl, hC, by omega, by decide, small9000 (by decide), fun r0 H1 w0 w1 hC1 sb1 => ?_⟩
    obtain ⟨tn, rfl⟩ : ∃ j : Nat, r0 = (j : Int) := ⟨r0.toNat, by omega⟩
    have hT1 := TabW.but hTb hC sb1
    refine ⟨_, rfl, by omega, by omega, fun D hD => ?_⟩
    refine lc_drawW (walk_range (lo := 0) (n := tn)) (fun _ y H => ∃ q : Q2, LkN n q ∧ RPc c D H y q) (k := 20) (by omega) hD hC1 (fun _ _ => trivial) ?_ ?_ ?_ ?_
    · rintro i y H2 H3 sb ⟨q, lq, t, p, r, e, ⟨a1, a2, a3⟩, b, h1, h2, h3⟩
      exact ⟨q, lq, t, p, r, e, ⟨a1, a2, a3⟩, b, sb _ _ a1 h1, sb _ _ a2 h2, sb _ _ a3 h3⟩
    · rintro i y H2 acc o hDa ⟨q, lq, t, p, r, e, a, ⟨b1, b2, b3⟩, h1, h2, h3⟩
      exact ⟨q, lq, t, p, r, e, a, ⟨b1, b2, b3⟩, by rw [upd_ne b1]; exact h1, by rw [upd_ne b2]; exact h2, by rw [upd_ne b3]; exact h3⟩
    · rintro j x H2 H2' m' hj hm' hC2 sb2 ⟨acc, hacc⟩ ⟨rfl, rfl⟩ Rk kk
      refine ⟨rfl, ?_⟩
      refine ⟨_, rfl, _, rfl, c, d, ns, m', n, rfl, hC2, by omega, n2, n6, fun t p q ps ss H3 L l ht hp hq tc pc qc z1 z2 z3 hC3 sb3 => ?_⟩
      exact kk _ _ ⟨(ps, ss), ⟨L, l⟩, t, p, q, rfl, ⟨tc, pc, qc⟩, ⟨fun e => (by rw [e, hacc] at ht; cases ht), fun e => (by rw [e, hacc] at hp; cases hp), fun e => (by rw [e, hacc] at hq; cases hq)⟩, z1, z2, z3⟩ hC3 sb3
    intro H2 acc la hacc hD2 hC2 sb2
    obtain ⟨gs, hgr⟩ := rep_of (R := fun H y q => LkN n q ∧ RPc c D H y q) hacc
    have hgl : gs.length = tn := hgr.1.symm.trans la
    have hT2 := TabW.but hT1 hC1 sb2
    have nDc := (hC1.ne hD).1
    have G0 : GsOk n gs := ⟨n2, n6, fun g hg => by
      obtain ⟨i, hi⟩ := List.mem_iff_getElem?.mp hg
      obtain ⟨x, hx, h, _⟩ := hgr.at hi
      exact h⟩
    have B1 := bs_off c H2
    have g1 : OffT c H2 D = some (.lst acc) := offT_get hD2 nDc LT
    have gP : Rep Pl (OffT c H2) acc gs := hgr.imp fun x q ⟨_, t, p, r, e, ⟨a1, a2, a3⟩, _, h1, h2, h3⟩ => ⟨t, p, r, e, offT_get h1 a1 (fun ps e => by cases e), offT_get h2 a2 LT, offT_get h3 a3 LT⟩
    have sG : Same (OffT c H2) H2 := offT_same
    generalize OffT c H2 = Ga at B1 g1 gP sG
    have hgl4 : gs.length ≤ 4 := by omega
    have hC2 : Coil H2 c d ns (m + 101) := hC2.more (by omega)
    clear hgr hacc hD2 hD hC hTb sb1 sb2 w0 w1 hT1 hC1
    -- points, made
    refine ⟨_, rfl, _, rfl, _, rfl, c, d, ns, _, false, D, acc, gs, n, rfl, hC2, by omega, .of ((B1.offc sG) _ _ g1), gP.imp fun _ _ h => (h.same (B1.offc sG)).pr, G0, by omega, fun pl ys ks H3 hpl plc pld zpl rpt nd lens k1 k48 hC3 sb3 => ?_⟩
    have hT3 := TabW.but hT2 hC2 sb3
    have sG3 := B1.but sG sb3
    refine ⟨_, rfl, _, rfl, false, D, acc, gs, n, rfl, .of (sG3 _ _ g1), gP.imp fun _ _ h => (h.same sG3).pr, G0, by omega, fun mv H4 s4 hmn hmv => ?_⟩
    refine ⟨(by show 2 ≤ sizeLine; decide), fun t1 ht1 => ?_⟩
    have s5 := same_upd (o := .tup [.ref pl, mv]) ht1
    have z5 : upd H4 t1 (.tup [.ref pl, mv]) t1 = some (.tup [.ref pl, mv]) := upd_same
    have s35 := s4.trans s5
    have hC5 := hC3.but s35
    have hT5 := hT3.ext s35
    have hmv5 := hmv.same s5
    generalize upd H4 t1 (.tup [.ref pl, mv]) = H5 at s5 z5 s35 hC5 hT5 hmv5 ⊢
    refine ⟨t1, _, rfl, .of z5, rfl, _, _, rfl, _, _, rfl, rfl, ?_⟩
    obtain ⟨lc, hlc⟩ := coil_lst hC5
    have B5 := bs_off c H5
    have sB := B1.off (sG3.trans s35)
    have q1 := sB _ _ g1
    have qP : Rep Pl (OffT c H5) acc gs := gP.mono fun _ _ => Pl.same sB
    have q2 : OffT c H5 pl = some (.lst ys) := offT_get (s35 _ _ zpl) plc LT
    have q3 : Rep (RT K) (OffT c H5) ys ks := rpt.mono fun x k ⟨t, e, h⟩ => ⟨t, e, offT_get (s35 _ _ (off_get h).2) (off_get h).1 (fun ps z => by cases z)⟩
    have q4 : MadeV K (OffT c H5) gs n mv := hmv5.offT hlc fun r e => (hC3.ne (hmn r e)).1
    have sQ : Same (OffT c H5) H5 := offT_same
    generalize OffT c H5 = Gb at B5 q1 qP q2 q3 q4 sQ
    clear sB hmv5 hmv hmn hT3 hT2 hC3 sb3 hC2 z5 s5 s4 ht1 s35 sG3 sG gP g1 B1 zpl rpt hlc
    -- likenesses
    refine ⟨_, rfl, false, D, rfl, ⟨_, .of (sQ _ _ q1)⟩, fun D2 hD2 => ?_⟩
    refine lc_rel (fun i y H' => ∀ q, gs[i]? = some q → RL C K H' y q) (walk_seq (b := false) (xs := acc)) hD2 (Nat.lt_of_le_of_lt (m := 10) (by rw [qP.1]; omega) (by decide)) (fun H s => .of (s _ _ (sQ _ _ q1))) (fun i y H2 H3 s h q e => (h q e).same s) ?_ ?_
    · rintro i x H6 H6' hi s6 ⟨acc2, hacc2⟩ ⟨rfl, hx⟩ Rk kk
      obtain ⟨q, hq, t, p, r, rfl, e1, e2, e3⟩ := qP.at' hx
      obtain ⟨L, l⟩ := G0.2.2 q (List.mem_of_getElem? hq)
      have sq := sQ.trans s6
      refine ⟨t, _, rfl, .of (sq _ _ e1), rfl, _, _, rfl, _, _, rfl, rfl, rfl, ?_⟩
      refine ⟨_, rfl, false, p, _, rfl, .of (sq _ _ e2), fun x1 hx1 => ?_⟩
      have s7 := same_upd (o := .lst (q.1.map V.int)) hx1
      have z7 : upd H6' x1 (.lst (q.1.map V.int)) x1 = some (.lst (q.1.map V.int)) := upd_same
      generalize upd H6' x1 (.lst (q.1.map V.int)) = H7 at s7 z7 ⊢
      refine ⟨_, rfl, false, r, _, rfl, .of (s7 _ _ (sq _ _ e3)), fun _ x2 hx2 => ?_, fun z => by cases z⟩
      have s8 := same_upd (o := .tup (q.2.map V.int)) hx2
      have z8 : upd H7 x2 (.tup (q.2.map V.int)) x2 = some (.tup (q.2.map V.int)) := upd_same
      generalize upd H7 x2 (.tup (q.2.map V.int)) = H8 at s8 z8 ⊢
      have n6' := L.n6
      exact lik_way L ⟨by rw [List.length_map]; exact six n6', _, rfl, .inl (s8 _ _ z7)⟩ (seqsT z8 (by rw [List.length_map, L.len]; exact six n6')) fun x H9 hx9 hL9 s9 => kk _ _ (s7.trans (s8.trans s9)) fun q' e' => by
        rw [hq] at e'
        cases e'
        exact ⟨x, rfl, hL9.off (Same.refl _) ((s7.trans (s8.trans s9)) _ _ hacc2)⟩
    rintro H6 ⟨lks, llk, hD6, s6, hlk⟩
    have rl6 : Rep (RL C K) H6 lks gs := ⟨llk.trans qP.1, fun i y q hy hq => (hlk i y hy q hq).same (off_same D2 H6)⟩
    have hC6 := hC5.but s6
    have hT6 := hT5.ext s6
    have nD2c := (hC5.ne hD2).1
    have sQ6 := sQ.trans s6
    -- strays
    refine ⟨_, rfl, _, rfl, false, D, pl, acc, gs, ys, ks, n, rfl, .of (sQ6 _ _ q1), qP.imp fun _ _ h => (h.same sQ6).pr, G0, by omega, sQ6 _ _ q2, q3.mono fun _ _ => RT.same sQ6, lens, k48, fun H7 s7 => ?_⟩
    have hC7 := hC6.but s7
    have hT7 := hT6.ext s7
    obtain ⟨lc, hlc⟩ := coil_lst hC7
    have B7 := bs_off c H7
    have sB := B5.off (sQ6.trans s7)
    have u1 := sB _ _ q1
    have u2 := sB _ _ q2
    have u3 : Rep (RT K) (OffT c H7) ys ks := q3.mono fun _ _ => RT.same sB
    have u4 := q4.same sB
    have u5 : OffT c H7 D2 = some (.lst lks) := offT_get (s7 _ _ hD6) nD2c LT
    have u6 : Rep (RL C K) (OffT c H7) lks gs := rl6.mono fun _ _ h => (h.same s7).offT hlc
    have accl : acc.length = gs.length := qP.1
    have sU : Same (OffT c H7) H7 := offT_same
    generalize OffT c H7 = Gc at B7 u1 u2 u3 u4 u5 u6 sU
    clear sB hlc hC6 hT6 rl6 hlk s7 sQ6 s6 hD6 hD2 hC5 hT5 sQ q4 q3 q2 q1 qP B5
    have ne : ks ≠ [] := fun e => by rw [e] at k1; exact absurd k1 (by decide)
    have pts : ∀ {H : Hp}, Same Gc H → PtsAt K H (.ref pl) ks n := fun {H} s => ⟨false, pl, ys, rfl, .of (s _ _ u2), ⟨u3.1, fun i x k hx hk => ((u3.2 i x k hx hk).same s).ri (by rw [lens k (List.mem_of_getElem? hk)]; exact n6)⟩, lens, k48⟩
    have giv : ∀ {H : Hp}, Same Gc H → GivAt K C H (.ref D2) gs n := fun {H} s => ⟨false, D2, lks, rfl, .of (s _ _ u5), u6.mono fun _ _ => RL.same s, fun q hq => (G0.2.2 q hq).2, by omega⟩
    have hsl := str_leads ks gs
    refine ⟨_, rfl, ?_⟩
    cases hs : strB ks gs with
    | true =>
      rw [hs] at hsl
      refine iteT ⟨hT7.t, fun Hx eN Tx Qn => ?_⟩
      have sx := B7.ext sU eN
      have hCx := hC7.ext eN
      refine ⟨_, rfl, _, rfl, lo_good (Asks.lst (sx _ _ u2)) (Asks.lst (sx _ _ u5)) (pts sx) n2 n6 ne nd (giv sx) (fun _ => raises_misfit hrM fun p Hy sy zy => ?_) (fun z => by rw [hsl] at z; cases z)⟩
      refine ⟨(by show 2 ≤ sizeLine; decide), fun t ht => ?_⟩
      have s1 := same_upd (o := .tup [.str "misfit", .str "points"]) ht
      refine ⟨_, _, dpT (.of (s1 _ _ zy)) (by decide +kernel), dpT (.of upd_same) (by decide +kernel), shapedT (by decide +kernel), shapedT (by decide +kernel), ?_⟩
      rw [eq_pair (.str "misfit") (.str "points") (by decide +kernel)]
      exact k _ (hT7.b.trans ((SBN.ext eN).trans (.of (.of (sy.trans s1))))) ((hCx.but (sy.trans s1)).more (by omega)) (Tx.ext (sy.trans s1))
    | false =>
    rw [hs] at hsl
    refine iteF ?_
    have hall : gs.all (ldsB ks) = true := hsl
    rcases u4 with ⟨rfl, A0, pA0, lA0⟩ | ⟨mr, ms, js, rfl, um, ur, part, closed, j64, srt⟩
    · refine ⟨_, rfl, _, rfl, ?_⟩
      rw [decide_eq_true rfl]
      refine iteT ⟨hT7.t, fun Hx eN Tx Qn => ?_⟩
      have sx := B7.ext sU eN
      have hCx := hC7.ext eN
      refine ⟨_, rfl, _, rfl, lo_good (Asks.lst (sx _ _ u2)) (Asks.lst (sx _ _ u5)) (pts sx) n2 n6 ne nd (giv sx) (fun z => by rw [hall] at z; cases z) (fun _ => ⟨fun A _ _ => raises_many fun p Hy sy zy => ?_, fun A pA cA lA => absurd (pA0.le cA) (by omega)⟩)⟩
      refine ⟨(by show 2 ≤ sizeLine; decide), fun t ht => ?_⟩
      have s1 := same_upd (o := .tup [.str "likenesses", .int 64]) ht
      refine ⟨_, _, dpT (.of (s1 _ _ zy)) (by decide +kernel), dpT (.of upd_same) (by decide +kernel), shapedT (by decide +kernel), shapedT (by decide +kernel), ?_⟩
      rw [eq_pair (.str "likenesses") (.int 64) (by decide +kernel)]
      exact k _ (hT7.b.trans ((SBN.ext eN).trans (.of (.of (sy.trans s1))))) ((hCx.but (sy.trans s1)).more (by omega)) (Tx.ext (sy.trans s1))
    refine ⟨_, rfl, _, rfl, ?_⟩
    rw [decide_eq_false (fun z => by cases z)]
    refine iteF ?_
    -- mine, its
    have yl : ys.length = ks.length := u3.1
    have lkl : lks.length = gs.length := u6.1
    refine ⟨_, rfl, false, pl, rfl, ⟨_, .of (sU _ _ u2)⟩, fun D3 hD3 => ?_⟩
    refine lc_rel (fun i y H' => ∀ q, ks[i]? = some q → RLd H' y q) (walk_seq (b := false) (xs := ys)) hD3 (Nat.lt_of_le_of_lt (m := 48) (by omega) (by decide)) (fun H s => .of (s _ _ (sU _ _ u2))) (fun i y H2 H3 s h q e => (h q e).same s) ?_ ?_
    · rintro i x H8 H8' hi s8 ⟨acc2, hacc2⟩ ⟨rfl, hx⟩ Rk kk
      obtain ⟨q, hq, t, rfl, e1⟩ := u3.at' hx
      refine ⟨rfl, _, rfl, true, t, _, rfl, .of ((sU.trans s8) _ _ e1), fun l hl => ?_⟩
      refine kk _ _ (same_upd hl) fun q' e' => ⟨l, rfl, ?_⟩
      rw [hq] at e'
      cases e'
      rw [off_ne (fun z => by rw [z, hacc2] at hl; cases hl)]
      exact upd_same
    rintro H8 ⟨mns, lmn, hD8, s8, hmn⟩
    have sU8 := sU.trans s8
    have rm8 : Rep RLd H8 mns ks := ⟨lmn.trans u3.1, fun i y q hy hq => (hmn i y hy q hq).same (off_same D3 H8)⟩
    refine ⟨_, rfl, false, D2, lks, rfl, .of (sU8 _ _ u5), fun it hit => ⟨_, _, rfl, ?_⟩⟩
    have s9 := same_upd (o := .lst lks) hit
    have z9 : upd H8 it (.lst lks) it = some (.lst lks) := upd_same
    have zm9 := s9 _ _ hD8
    have rm9 : Rep RLd (upd H8 it (.lst lks)) mns ks := rm8.mono fun _ _ => RLd.same s9
    have sU9 := sU8.trans s9
    have hC9 := hC7.but (s8.trans s9)
    have hT9 := hT7.ext (s8.trans s9)
    generalize upd H8 it (.lst lks) = H9 at s9 z9 zm9 rm9 sU9 hC9 hT9 ⊢
    clear rm8 hmn hD8 s8 s9 sU8 hit hD3
    have mnl := rm9.1
    have ptsM : PtsAt K H9 (.ref D3) ks n := ⟨false, D3, mns, rfl, .of zm9, ⟨rm9.1, fun i x k hx hk => (rm9.2 i x k hx hk).ri (by rw [lens k (List.mem_of_getElem? hk)]; exact n6)⟩, lens, k48⟩
    have givM : GivAt K C H9 (.ref it) gs n := ⟨false, it, lks, rfl, .of z9, u6.mono fun _ _ => RL.same sU9, fun q hq => (G0.2.2 q hq).2, by omega⟩
    have jlk : ∀ q ∈ js, LkN n q := fun q hq => rch_lik G0 (part.sub q hq)
    -- told
    refine ⟨_, rfl, _, rfl, rfl, lo_good (Asks.lst zm9) (Asks.lst z9) ptsM n2 n6 ne nd givM (fun z => by rw [hall] at z; cases z) (fun _ => ⟨fun A pA lA => absurd (pA.le closed) (by omega), fun A pA cA lA r H10 txs js2 s10 hr hr10 hrep hperm hsrt => ?_⟩)⟩
    have ejs : js2 = js := sorted_uniqQ hsrt srt (hperm.trans (pA.perm part cA closed)) fun q hq => (rch_lik G0 (pA.sub q (hperm.mem_iff.mp hq))).2
    rw [ejs] at hrep
    clear hperm hsrt ejs js2 pA cA lA A ptsM givM
    have sU10 := sU9.trans s10
    have hC10 := hC9.but s10
    have hT10 := hT9.ext s10
    have hrc := (hC9.ne hr).1
    have zm10 := s10 _ _ zm9
    have rm10 : Rep RLd H10 mns ks := rm9.mono fun _ _ => RLd.same s10
    have z10 := s10 _ _ z9
    have tjl : txs.length = js.length := hrep.1
    -- isinstance(told, tuple)
    refine ⟨_, rfl, .ref r, .ty "tuple", .type "tuple", .type "tuple", true, rfl, .ty _, .base (.base (.tup hr10)), kit_ty (by decide +kernel), _, rfl, iteF ?_⟩
    refine ⟨_, rfl, true, r, rfl, ⟨_, .of hr10⟩, fun D4 hD4 => lc_funF (fun _ => false) (fun _ => .non) (walk_seq (b := true) (xs := txs)) hD4 (Nat.lt_of_le_of_lt (m := 64) (by omega) (by decide)) (fun H s => .of (s _ _ hr10)) ?_ ?_⟩
    · rintro i x H11 H12 hi s11 _ ⟨rfl, hx⟩ Rt Rk kf kt
      obtain ⟨q, hq, a, rfl, hL⟩ := hrep.at' hx
      obtain ⟨_, dx, _, _, fs, ha, _⟩ := hL.same s11
      exact ⟨rfl, _, rfl, _, .ref C, _, _, true, rfl, .own _, lik_ty U ha, U.me, _, rfl, iteF (kf rfl _ (Same.refl _))⟩
    intro H11 hD11 s11
    rw [show ((List.range txs.length).filter fun _ => false).map (fun _ => V.non) = [] from by rw [List.filter_eq_nil_iff.mpr (fun a _ => by decide)]; rfl] at hD11
    refine ⟨(by show 0 ≤ sizeLine; decide), fun p1 hp1 => ⟨D4, p1, [], rfl, rfl, .of (same_upd hp1 _ _ hD11), .of upd_same, _, rfl, iteF ?_⟩⟩
    have s12 := s11.trans (same_upd (o := .lst []) hp1)
    generalize upd H11 p1 (.lst []) = H12 at s12 ⊢
    have hC12 := hC10.but s12
    have hT12 := hT10.ext s12
    have sU12 := sU10.trans s12
    refine ⟨_, rfl, false, it, lks, rfl, .of (s12 _ _ z10), _, rfl, false, D, acc, rfl, .of (sU12 _ _ u1), rfl, ?_⟩
    rw [dec_int]
    refine ⟨_, rfl, ?_⟩
    rw [show (((lks.length : Nat) : Int) == ((acc.length : Nat) : Int)) = true from by rw [lkl, accl]; simp]
    refine iteF ?_
    clear hD11 hp1 s11 hD4
    -- repr(..)
    refine ⟨_, rfl, true, r, rfl, ⟨_, .of (s12 _ _ hr10)⟩, fun D5 hD5 => lc_rel (fun i y H' => ∀ q, js[i]? = some q → Rp K H' y q) (walk_seq (b := true) (xs := txs)) hD5 (Nat.lt_of_le_of_lt (m := 64) (by omega) (by decide)) (fun H s => .of (s _ _ (s12 _ _ hr10))) (fun i y H2 H3 s h q e => (h q e).same s) ?_ ?_⟩
    · rintro i x H13 H13' hi s13 ⟨acc2, hacc2⟩ ⟨rfl, hx⟩ Rk kk
      obtain ⟨q, hq, a, rfl, hL⟩ := hrep.at' hx
      obtain ⟨_, dx, pp, ss, fs, ha, hp, hs2, f1, f2, f3, _⟩ := hL.same (s12.trans s13)
      refine ⟨rfl, _, rfl, a, C, dx, fs, _, rfl, ha, U.cl, U.nP, f1, _, rfl, a, C, dx, fs, _, rfl, ha, U.cl, U.nS, f2, (by show 2 ≤ sizeLine; decide), fun t ht => ?_⟩
      have s14 := same_upd (o := .tup [.ref pp, .ref ss]) ht
      refine kk _ _ s14 fun q' e' => ?_
      rw [hq] at e'
      cases e'
      exact Rp.off (s14 _ _ hacc2) ⟨t, pp, ss, rfl, .of upd_same, (hp.same s14).sq, same_sqT s14 hs2⟩
    rintro H13 ⟨rxs, lrx, hD13, s13, hrx⟩
    have rr : Rep (Rp K) H13 rxs js := ⟨lrx.trans tjl, fun i y q hy hq => (hrx i y hy q hq).same (off_same D5 H13)⟩
    have sU13 := sU12.trans s13
    obtain ⟨i1, i2⟩ := pairs_shown (.of hD13) rr (fun q hq => (jlk q hq).1) j64
    obtain ⟨i3, i4⟩ := pairs_shown (K := K) (H := H13) (.of (sU13 _ _ um)) (ur.mono fun _ _ => Rp.same sU13) (fun q hq => (jlk q hq).1) j64
    refine ⟨_, _, rfl, i1, i2, _, rfl, _, _, rfl, i3, i4, rfl, ?_⟩
    refine ⟨_, rfl, ?_⟩
    rw [dec_str, show ((PyData.list (js.map pairD)).shown == (PyData.list (js.map pairD)).shown) = true from by simp]
    refine iteF ?_
    clear i1 i2 i3 i4 rr hrx
    -- mine != ..
    have hC13 := hC12.but s13
    have hT13 := hT12.ext s13
    refine ⟨_, rfl, _, rfl, false, pl, rfl, ⟨_, .of (sU13 _ _ u2)⟩, fun D6 hD6 => ?_⟩
    refine lc_rel (fun i y H' => ∀ q, ks[i]? = some q → RLd H' y q) (walk_seq (b := false) (xs := ys)) hD6 (Nat.lt_of_le_of_lt (m := 48) (by omega) (by decide)) (fun H s => .of (s _ _ (sU13 _ _ u2))) (fun i y H2 H3 s h q e => (h q e).same s) ?_ ?_
    · rintro i x H8 H8' hi s8 ⟨acc2, hacc2⟩ ⟨rfl, hx⟩ Rk kk
      obtain ⟨q, hq, t, rfl, e1⟩ := u3.at' hx
      refine ⟨rfl, _, rfl, true, t, _, rfl, .of ((sU13.trans s8) _ _ e1), fun l hl => ?_⟩
      refine kk _ _ (same_upd hl) fun q' e' => ⟨l, rfl, ?_⟩
      rw [hq] at e'
      cases e'
      rw [off_ne (fun z => by rw [z, hacc2] at hl; cases hl)]
      exact upd_same
    rintro H14 ⟨nns, lnn, hD14, s14, hnn⟩
    have rn : Rep RLd H14 nns ks := ⟨lnn.trans u3.1, fun i y q hy hq => (hnn i y hy q hq).same (off_same D6 H14)⟩
    have s1314 := s13.trans s14
    refine ⟨_, _, .lst (.of (s1314 _ _ (s12 _ _ zm10))) (dp_lists (rm10.imp fun _ _ h => (h.same (s12.trans s1314)).rli)), .lst (.of hD14) (dp_lists (rn.imp fun _ _ h => h.rli)), shaped_lists ks, shaped_lists ks, _, rfl, ?_⟩
    rw [eqv_lists]
    refine iteF ?_
    have sU14 := sU13.trans s14
    have hC14 := hC13.but s14
    have hT14 := hT13.ext s14
    -- a new frame
    obtain ⟨lc, hlc⟩ := coil_lst hC14
    have B14 := bs_off c H14
    have sB := B7.off sU14
    have v2 := sB _ _ u2
    have v3 : Rep (RT K) (OffT c H14) ys ks := u3.mono fun _ _ => RT.same sB
    have v5 := sB _ _ u5
    have v6 : Rep (RL C K) (OffT c H14) lks gs := u6.mono fun _ _ => RL.same sB
    have v7 : OffT c H14 r = some (.tup txs) := offT_get (s1314 _ _ (s12 _ _ hr10)) hrc (fun ps e => by cases e)
    have v8 : Rep (RL C K) (OffT c H14) txs js := hrep.mono fun _ _ h => (h.same (s12.trans s1314)).offT hlc
    have sV : Same (OffT c H14) H14 := offT_same
    generalize OffT c H14 = Gd at B14 v2 v3 v5 v6 v7 v8 sV
    clear pts giv sB hlc rn hnn hD14 hD6 s14 hD13 s13 sU13 s12 sU12 hC12 hT12 hC13 hT13 rm10 zm10 z10 hrep sU10 hC10 hT10 s10 rm9 zm9 z9 sU9 hC9 hT9 u1 u2 u3 u5 u6 um ur sU B7 hC7 hT7 sU14 s1314 hr hr10 hrc
    -- again
    refine ⟨_, rfl, false, pl, ys, rfl, .of (sV _ _ v2), fun _ pt hpt => ?_, fun z => by cases z⟩
    have s15 := same_upd (o := .tup ys) hpt
    have z15 : upd H14 pt (.tup ys) pt = some (.tup ys) := upd_same
    have npt := (hC14.ne hpt).1
    have hC15 := hC14.but s15
    have hT15 := hT14.ext s15
    have sV15 := sV.trans s15
    generalize upd H14 pt (.tup ys) = H15 at s15 z15 hC15 hT15 sV15 ⊢
    refine ⟨_, rfl, _, rfl, _, rfl, 1, rfl, D2, _, rfl, .of (sV15 _ _ v5), fun sl hsl => ?_⟩
    rw [show cutV lks none (some 1) = lks.take 1 from cut_to lks 1]
    have s16 := same_upd (o := .lst (lks.take 1)) hsl
    have z16 : upd H15 sl (.lst (lks.take 1)) sl = some (.lst (lks.take 1)) := upd_same
    have hC16 := hC15.but s16
    have hT16 := hT15.ext s16
    have sV16 := sV15.trans s16
    have zp16 := s16 _ _ z15
    generalize upd H15 sl (.lst (lks.take 1)) = H16 at s16 z16 hC16 hT16 sV16 zp16 ⊢
    have tl1 : (lks.take 1).length ≤ 1 := by rw [List.length_take]; omega
    refine ⟨D2, sl, _, _, rfl, rfl, sV16 _ _ v5, z16, Nat.le_trans (m := 10) (by omega) (by decide), fun ca hca => ?_⟩
    have s17 := same_upd (o := .lst (lks ++ lks.take 1)) hca
    have z17 : upd H16 ca (.lst (lks ++ lks.take 1)) ca = some (.lst (lks ++ lks.take 1)) := upd_same
    have nca := (hC16.ne hca).1
    have hC17 := hC16.but s17
    have hT17 := hT16.ext s17
    have sV17 := sV16.trans s17
    have zp17 := s17 _ _ zp16
    generalize upd H16 ca (.lst (lks ++ lks.take 1)) = H17 at s17 z17 hC17 hT17 sV17 zp17 ⊢
    have lcat : (lks ++ lks.take 1).length ≤ 5 := by rw [List.length_append]; omega
    refine ⟨c, d, ns, _, false, ca, _, rfl, hC17, by omega, .of (by rw [off_ne nca]; exact z17), by omega, fun sp zs H18 hperm hsp hspc hspd hz18 hC18 sb18 => ?_⟩
    have hT18 := TabW.but hT17 hC17 sb18
    have sV18 := B14.but sV17 sb18
    have zp18 := sb18 _ _ npt zp17
    have rcat : Rep (RL C K) H18 (lks ++ lks.take 1) (gs ++ gs.take 1) := (v6.app (v6.take1 1)).mono fun _ _ => RL.same sV18
    obtain ⟨gs2, pg2, rg2⟩ := rep_perm hperm rcat
    have gmem : ∀ g, g ∈ gs2 ↔ g ∈ gs := fun g => by
      rw [pg2.mem_iff, List.mem_append]
      exact ⟨fun h => h.elim id fun h => List.mem_of_mem_take h, .inl⟩
    have lg2 : gs2.length ≤ 5 := by
      have := pg2.length_eq
      have h2 := hperm.length_eq
      have h3 := rg2.1
      omega
    refine ⟨false, sp, zs, rfl, .of hz18, fun _ gt hgt => ?_, fun z => by cases z⟩
    have s19 := same_upd (o := .tup zs) hgt
    have z19 : upd H18 gt (.tup zs) gt = some (.tup zs) := upd_same
    have hC19 := hC18.but s19
    have hT19 := hT18.ext s19
    have sV19 := sV18.trans s19
    have zp19 := s19 _ _ zp18
    have rg19 : Rep (RL C K) (upd H18 gt (.tup zs)) zs gs2 := rg2.mono fun _ _ => RL.same s19
    generalize upd H18 gt (.tup zs) = H19 at s19 z19 hC19 hT19 sV19 zp19 rg19 ⊢
    have ptsT : PtsAt K H19 (.ref pt) ks n := ⟨true, pt, ys, rfl, .of zp19, ⟨v3.1, fun i x k hx hk => ((v3.2 i x k hx hk).same sV19).ri (by rw [lens k (List.mem_of_getElem? hk)]; exact n6)⟩, lens, k48⟩
    have givT : GivAt K C H19 (.ref gt) gs2 n := ⟨true, gt, zs, rfl, .of z19, rg19, fun q hq => (G0.2.2 q ((gmem q).mp hq)).2, by omega⟩
    have hall2 : gs2.all (ldsB ks) = true := by
      rw [List.all_eq_true] at hall ⊢
      exact fun g hg => hall g ((gmem g).mp hg)
    have f12 : ∀ f ∈ gs2.map oneT, f ∈ gs.map oneT := fun f hf => by
      obtain ⟨g, hg, rfl⟩ := List.mem_map.mp hf
      exact List.mem_map.mpr ⟨g, (gmem g).mp hg, rfl⟩
    have f21 : ∀ f ∈ gs.map oneT, f ∈ gs2.map oneT := fun f hf => by
      obtain ⟨g, hg, rfl⟩ := List.mem_map.mp hf
      exact List.mem_map.mpr ⟨g, (gmem g).mpr hg, rfl⟩
    refine lo_good (Asks.tup zp19) (Asks.tup z19) ptsT n2 n6 ne nd givT (fun z => by rw [hall2] at z; cases z) (fun _ => ⟨fun A pA lA => absurd ((part_sub f12 pA).le closed) (by omega), fun A pA cA lA ar H20 axs js2 s20 har zar hrep hperm2 hsrt => ?_⟩)
    have ejs : js2 = js := sorted_uniqQ hsrt srt (hperm2.trans ((part_sub f12 pA).perm part (closed_sub f21 cA) closed)) fun q hq => (rch_lik G0 ((part_sub f12 pA).sub q (hperm2.mem_iff.mp hq))).2
    rw [ejs] at hrep
    clear hperm2 hsrt ejs js2 pA cA lA A ptsT givT rg19 zp19 z19 s19 hgt hall2 f12 f21 lg2 gmem rg2 pg2 rcat
    have sV20 := sV19.trans s20
    have hC20 := hC19.but s20
    have hT20 := hT19.ext s20
    -- again != told
    refine ⟨_, rfl, _, rfl, ar, r, axs, txs, true, rfl, rfl, zar, sV20 _ _ v7, prs_lk hrep (v8.mono fun _ _ => RL.same sV20), fun H21 s21 => ⟨_, rfl, iteF ?_⟩⟩
    have s21 : Same H20 H21 := s21
    have sV21 := sV20.trans s21
    have hC21 := hC20.but s21
    have hT21 := hT20.ext s21
    -- each of the given ones is told
    refine ⟨_, rfl, false, D2, rfl, ⟨_, .of (sV21 _ _ v5)⟩, fun D7 hD7 => lc_funF (fun _ => false) (fun _ => .non) (walk_seq (b := false) (xs := lks)) hD7 (Nat.lt_of_le_of_lt (m := 10) (by omega) (by decide)) (fun H s => .of (s _ _ (sV21 _ _ v5))) ?_ ?_⟩
    · rintro i x H22 H22' hi s22 _ ⟨rfl, hx⟩ Rt Rk kf kt
      obtain ⟨q, hq, a, rfl, hL⟩ := v6.at' hx
      have s := sV21.trans s22
      exact ⟨rfl, _, rfl, _, rfl, a, r, q.1, q.2, txs, js, true, rfl, rfl, hL.same s, s _ _ v7, v8.mono fun _ _ => RL.same s, ⟨fun _ => made_given G0 closed (List.mem_of_getElem? hq), fun _ => rfl⟩, fun H' s' => ⟨_, rfl, iteF (kf rfl _ s')⟩⟩
    intro H22 hD22 s22
    rw [show ((List.range lks.length).filter fun _ => false).map (fun _ => V.non) = [] from by rw [List.filter_eq_nil_iff.mpr (fun a _ => by decide)]; rfl] at hD22
    refine ⟨(by show 0 ≤ sizeLine; decide), fun p1 hp1 => ⟨D7, p1, [], rfl, rfl, .of (same_upd hp1 _ _ hD22), .of upd_same, _, rfl, iteF ?_⟩⟩
    have s23 := s22.trans (same_upd (o := .lst []) hp1)
    generalize upd H22 p1 (.lst []) = H23 at s23 ⊢
    have hC23 := hC21.but s23
    have hT23 := hT21.ext s23
    have sV23 := sV21.trans s23
    clear hD22 hp1 s22 hD7 sV20 hC20 hT20 sV21 hC21 hT21 s21 hrep zar har s20
    have tl0 : 0 < txs.length := by rw [tjl]; exact List.length_pos_iff.mpr fun z => by have := closed.1; rw [z] at this; cases this
    -- one, other, point
    refine ⟨_, rfl, _, rfl, true, r, txs, rfl, .of (sV23 _ _ v7), fun l1 hl1 => ?_⟩
    have s24 := same_upd (o := .lst txs) hl1
    have z24 : upd H23 l1 (.lst txs) l1 = some (.lst txs) := upd_same
    have nl1 := (hC23.ne hl1).1
    have hC24 := hC23.but s24
    have hT24 := hT23.ext s24
    have sV24 := sV23.trans s24
    generalize upd H23 l1 (.lst txs) = H24 at s24 z24 hC24 hT24 sV24 ⊢
    refine ⟨c, d, ns, _, false, l1, txs, rfl, hC24, by omega, .of (by rw [off_ne nl1]; exact z24), tl0, by omega, fun ia ya H25 hya hC25 sb25 => ?_⟩
    have hT25 := TabW.but hT24 hC24 sb25
    have sV25 := B14.but sV24 sb25
    refine ⟨_, rfl, _, rfl, true, r, txs, rfl, .of (sV25 _ _ v7), fun l2 hl2 => ?_⟩
    have s26 := same_upd (o := .lst txs) hl2
    have z26 : upd H25 l2 (.lst txs) l2 = some (.lst txs) := upd_same
    have nl2 := (hC25.ne hl2).1
    have hC26 := hC25.but s26
    have hT26 := hT25.ext s26
    have sV26 := sV25.trans s26
    generalize upd H25 l2 (.lst txs) = H26 at s26 z26 hC26 hT26 sV26 ⊢
    refine ⟨c, d, ns, _, false, l2, txs, rfl, hC26, by omega, .of (by rw [off_ne nl2]; exact z26), tl0, by omega, fun ib yb H27 hyb hC27 sb27 => ?_⟩
    have hT27 := TabW.but hT26 hC26 sb27
    have sV27 := B14.but sV26 sb27
    refine ⟨_, rfl, _, rfl, c, d, ns, _, false, pl, ys, rfl, hC27, by omega, .of ((B14.offc sV27) _ _ v2), by omega, by omega, fun ic yc H28 hyc hC28 sb28 => ?_⟩
    have hT28 := TabW.but hT27 hC27 sb28
    have sV28 := B14.but sV27 sb28
    obtain ⟨qa, hqa, aa, rfl, hLa⟩ := v8.at' hya
    obtain ⟨qb, hqb, ab, rfl, hLb⟩ := v8.at' hyb
    obtain ⟨kc, hkc, tc, rfl, hkt⟩ := v3.at' hyc
    have ja := List.mem_of_getElem? hqa
    have jb := List.mem_of_getElem? hqb
    have jc := List.mem_of_getElem? hkc
    have la := jlk qa ja
    have lb := jlk qb jb
    have k28 : Coil H28 c d ns (m + 1000) := hC28.more (by omega)
    clear hC14 hT14 sV hC23 hT23 sV23 hl1 s24 z24 nl1 hC24 hT24 sV24 sb25 hC25 hT25 sV25 hl2 s26 z26 nl2 hC26 hT26 sV26 sb27 hC27 hT27 sV27 sb28 hC28
    refine ⟨_, _, _, rfl, ?_⟩
    refine ⟨_, rfl, ⟨aa, qa.1, qa.2, rfl, hLa.same sV28⟩, _, rfl, aa, .ref ab, qa.1, qa.2, rfl, hLa.same sV28, .inr ⟨ab, qb.1, qb.2, rfl, hLb.same sV28, fun z => absurd (lb.2.trans la.2.symm) z, fun _ rt H29 hrt hLt s29 => ?_⟩⟩
    have sV29 := sV28.trans s29
    refine ⟨_, rfl, rt, r, _, _, txs, js, true, rfl, rfl, hLt, sV29 _ _ v7, v8.mono fun _ _ => RL.same sV29, ⟨fun _ => made_then G0 part closed ja jb, fun _ => rfl⟩, fun H30 s30 => ?_⟩
    refine ⟨_, rfl, iteT ?_⟩
    have sV30 := sV29.trans s30
    refine ⟨_, rfl, ⟨aa, qa.1, qa.2, rfl, hLa.same sV30⟩, aa, qa.1, qa.2, rfl, hLa.same sV30, fun rb H31 hrb hLb2 s31 => ?_⟩
    have sV31 := sV30.trans s31
    refine ⟨_, rfl, rb, r, _, _, txs, js, true, rfl, rfl, hLb2, sV31 _ _ v7, v8.mono fun _ _ => RL.same sV31, ⟨fun _ => made_back G0 part closed ja, fun _ => rfl⟩, fun H32 s32 => ?_⟩
    refine ⟨_, rfl, iteT ?_⟩
    have sV32 := sV31.trans s32
    have hk6 : kc.length = n := lens kc jc
    refine ⟨_, rfl, ⟨aa, qa.1, qa.2, rfl, hLa.same sV32⟩, _, rfl, aa, .ref tc, qa.1, qa.2, some (kc.map V.int), rfl, hLa.same sV32, seqsT (sV32 _ _ hkt) (by rw [List.length_map, hk6]; exact six n6), itemsI kc, fun z => ?_, fun xs e _ q H33 s33 hq hz => ?_⟩
    · rw [lenB_self (by rw [List.length_map, hk6]; exact la.2.symm), intsB_map] at z
      cases z
    cases e
    rw [intsOf_map] at hz
    have sV33 := sV32.trans s33
    have hkk : ∀ g ∈ gs, ∀ k ∈ ks, ledL g.1 g.2 k ∈ ks := fun g hg k hk => by
      have h1 := List.all_eq_true.mp (List.all_eq_true.mp hall g hg) k hk
      obtain ⟨x, hx, e⟩ := List.any_eq_true.mp h1
      rw [← of_decide_eq_true e]
      exact hx
    refine ⟨_, rfl, pl, ys, ks, ledL qa.1 qa.2 kc, rfl, .of (sV33 _ _ v2), v3.mono fun _ _ => RT.same sV33, ⟨q, rfl, hz⟩, ?_⟩
    rw [show (if false = true then !decide (ledL qa.1 qa.2 kc ∈ ks) else decide (ledL qa.1 qa.2 kc ∈ ks)) = true from by
      rw [if_neg (by decide)]
      exact decide_eq_true (made_led G0 lens hkk (part.sub qa ja) kc jc)]
    have sz := s29.trans (s30.trans (s31.trans (s32.trans s33)))
    exact k _ (hT28.ext sz).b (k28.but sz) (hT28.ext sz).t
end
end K0


set_option Elab.async false
set_option linter.all false
set_option maxRecDepth 100000
set_option maxHeartbeats 8000000
/-! what is refused: points and likenesses that are none -/
namespace K0
open PySem PySem.Spec PyProof.Rows L2 RZ K0z KdN
theorem cut_last {xs : List V} (h : 1 ≤ xs.length) : cutV xs none (some (-1)) = xs.dropLast := by
  unfold cutV
  have e1 : HT.sIx xs.length 0 none = 0 := rfl
  have e2 : HT.sIx xs.length xs.length (some (-1)) = xs.length - 1 := by
    show (if (-1 : Int) < 0 then ((-1 : Int) + (xs.length : Nat)).toNat else min (-1 : Int).toNat xs.length) = _
    rw [if_pos (by decide)]
    omega
  rw [e1, e2, List.drop_zero, Nat.sub_zero, List.dropLast_eq_take]
theorem cut_drop (xs : List V) : cutV xs (some 1) none = xs.drop 1 := by
  show (xs.drop (HT.sIx xs.length 0 (some ((1 : Nat) : Int)))).take (xs.length - HT.sIx xs.length 0 (some ((1 : Nat) : Int))) = _
  rw [HT.sIx_nat]
  refine List.ext_getElem? fun i => ?_
  rw [List.getElem?_take, List.getElem?_drop, List.getElem?_drop]
  by_cases hl : xs.length = 0
  · have : xs = [] := List.eq_nil_of_length_eq_zero hl
    subst this
    simp
  · rw [Nat.min_eq_left (by omega)]
    by_cases hi : i < xs.length - 1
    · rw [if_pos hi]
    · rw [if_neg hi, List.getElem?_eq_none (by omega)]
theorem sl_listK {X : Cx} (K : PySem.W.Frag) (eK : X.K = K := by rfl) : SlR X (rSlL K) := by subst eK; exact sl_list
theorem grown {H G : Hp} {p : Addr} {o : HO} (e : upd H p o = G) (h : H p = none) : Same H G ∧ G p = some o := by subst e; exact nw h
theorem okp_len {os : List (Option (List V))} (h : within (.int (os.length : Nat)) (.int 1) (.int 48) = false) : okP (some os) = false := by
  show (within (.int (os.length : Nat)) (.int 1) (.int 48) && ptsB os (.int 2) (.int 6)) = false
  rw [h]
  rfl
theorem okp_first {o : Option (List V)} {r : List (Option (List V))} (h : lenB o (.int 2) (.int 6) = false) : okP (some (o :: r)) = false := by
  show (within (.int ((o :: r).length : Nat)) (.int 1) (.int 48) && (lenB o (.int 2) (.int 6) && (o :: r).all fun q => lenB q (.int (o.getD []).length) (.int (o.getD []).length) && intsB q)) = false
  rw [h, Bool.false_and, Bool.and_false]
theorem okp_some {o q : Option (List V)} {r : List (Option (List V))} (hq : q ∈ o :: r) (h : (lenB q (.int (o.getD []).length) (.int (o.getD []).length) && intsB q) = false) : okP (some (o :: r)) = false := by
  show (within (.int ((o :: r).length : Nat)) (.int 1) (.int 48) && (lenB o (.int 2) (.int 6) && (o :: r).all fun q => lenB q (.int (o.getD []).length) (.int (o.getD []).length) && intsB q)) = false
  have : ((o :: r).all fun q => lenB q (.int (o.getD []).length) (.int (o.getD []).length) && intsB q) = false := by
    refine Bool.eq_false_iff.mpr fun z => ?_
    have := List.all_eq_true.mp z q hq
    rw [h] at this
    cases this
  rw [this, Bool.and_false, Bool.and_false]
theorem lenB_not {xs : List V} {l m : Nat} (h : xs.length < l ∨ m < xs.length) : lenB (some xs) (.int (l : Nat)) (.int (m : Nat)) = false := by
  show (decide (((l : Nat) : Int) ≤ (xs.length : Nat)) && decide (((xs.length : Nat) : Int) ≤ (m : Nat))) = false
  rcases h with h | h
  · rw [decide_eq_false (by omega), Bool.false_and]
  · rw [decide_eq_false (p := ((xs.length : Nat) : Int) ≤ (m : Nat)) (by omega), Bool.and_false]
/-- v is refused as points -/
def BadP (K : PySem.W.Frag) (H : Hp) (v : V) : Prop := ∃ o1, ValAt K H v o1 ∧ ∀ os, o1 = some os → okP o1 = true → ¬ (ksOf os).Nodup
/-- v is refused as likenesses -/
def BadG (K : PySem.W.Frag) (C : Addr) (n : Nat) (H : Hp) (v : V) : Prop := ∃ o2, GvAt K C H v o2 ∧ okG n o2 = false
theorem BadP.same {K : PySem.W.Frag} {H H' : Hp} {v : V} (s : Same H H') (h : BadP K H v) : BadP K H' v := by
  obtain ⟨o, h1, h2⟩ := h
  exact ⟨o, h1.same s, h2⟩
theorem BadG.same {K : PySem.W.Frag} {C : Addr} {n : Nat} {H H' : Hp} {v : V} (s : Same H H') (h : BadG K C n H v) : BadG K C n H' v := by
  obtain ⟨o, h1, h2⟩ := h
  exact ⟨o, h1.same s, h2⟩
section
variable {K : PySem.W.Frag} {C : Addr} {H : Hp} {n : Nat}
/-- an item: a list or a tuple, or neither -/
def ItP (K : PySem.W.Frag) (H : Hp) (u : V) (o : Option (List V)) : Prop := Seqs K H u o ∧ Items K H o
theorem itP_ints {l : Addr} {ns : List Int} (h : H l = some (.lst (ns.map V.int))) (hz : ns.length ≤ 100) : ItP K H (.ref l) (some (ns.map V.int)) := ⟨seqsL h (Nat.lt_of_le_of_lt (m := 100) (by rw [List.length_map]; exact hz) (by decide)), itemsI ns⟩
theorem itP_lst {l : Addr} {xs : List V} (h : H l = some (.lst xs)) (hz : xs.length ≤ 100) (ha : ∀ x ∈ xs, ∃ q, Asks K H x q) : ItP K H (.ref l) (some xs) := ⟨seqsL h (Nat.lt_of_le_of_lt (m := 100) hz (by decide)), fun ys e x hx => by cases e; exact ha x hx⟩
theorem itP_tup {l : Addr} {ns : List Int} (h : H l = some (.tup (ns.map V.int))) (hz : ns.length ≤ 100) : ItP K H (.ref l) (some (ns.map V.int)) := ⟨seqsT h (Nat.lt_of_le_of_lt (m := 100) (by rw [List.length_map]; exact hz) (by decide)), itemsI ns⟩
theorem itP_no {u : V} (h : Asks K H u false) : ItP K H u none := ⟨h, fun ys e => by cases e⟩
theorem val_of {l : Addr} {us : List V} {os : List (Option (List V))} (h : H l = some (.lst us)) (hz : us.length ≤ 100) (hl : us.length = os.length) (hi : ∀ (i : Nat) u o, us[i]? = some u → os[i]? = some o → ItP K H u o) : ValAt K H (.ref l) (some os) :=
  ⟨us, seqsL h (Nat.lt_of_le_of_lt (m := 100) hz (by decide)), hl, hi⟩
theorem val_1 {l : Addr} {u : V} {o : Option (List V)} (h : H l = some (.lst [u])) (hu : ItP K H u o) : ValAt K H (.ref l) (some [o]) :=
  val_of h (by show 1 ≤ 100; decide) rfl fun i v p hv hp => by
    match i with
    | 0 => cases hv; cases hp; exact hu
    | i + 1 => cases hv
theorem val_2 {l : Addr} {u v : V} {o p : Option (List V)} (h : H l = some (.lst [u, v])) (hu : ItP K H u o) (hv : ItP K H v p) : ValAt K H (.ref l) (some [o, p]) :=
  val_of h (by show 2 ≤ 100; decide) rfl fun i x q hx hq => by
    match i with
    | 0 => cases hx; cases hq; exact hu
    | 1 => cases hx; cases hq; exact hv
    | i + 2 => cases hx
theorem badP_no {v : V} (h : Asks K H v false) : BadP K H v := ⟨none, h, fun os e => by cases e⟩
theorem badP_of {v : V} {os : List (Option (List V))} (h : ValAt K H v (some os)) (hb : okP (some os) = false) : BadP K H v := ⟨some os, h, fun os' e z => by rw [hb] at z; cases z⟩
theorem badG_no {v : V} (h : Asks K H v false) : BadG K C n H v := ⟨none, h, rfl⟩
/-- an item: a likeness or none -/
def ItG (K : PySem.W.Frag) (C : Addr) (H : Hp) (u : V) : Option Q2 → Prop
  | some q => ∃ a, u = .ref a ∧ LikAt K H a C q.1 q.2
  | none => NoLik K C H u
theorem gv_of {l : Addr} {us : List V} {os : List (Option Q2)} (h : H l = some (.lst us)) (hz : us.length ≤ 100) (hl : us.length = os.length) (hi : ∀ (i : Nat) u o, us[i]? = some u → os[i]? = some o → ItG K C H u o) : GvAt K C H (.ref l) (some os) :=
  ⟨us, seqsL h (Nat.lt_of_le_of_lt (m := 100) hz (by decide)), hl, fun i u o hu ho => by
    have := hi i u o hu ho
    cases o with
    | none => exact this
    | some q => exact this⟩
theorem badG_1 {l : Addr} {u : V} (h : H l = some (.lst [u])) (hu : NoLik K C H u) : BadG K C n H (.ref l) := by
  refine ⟨some [none], gv_of h (by show 1 ≤ 100; decide) rfl (fun i v p hv hp => ?_), rfl⟩
  match i with
  | 0 => cases hv; cases hp; exact hu
  | i + 1 => cases hv
theorem badG_2 {l : Addr} {u v : V} {p q : Q2} (h : H l = some (.lst [u, v])) (hu : RL C K H u p) (hv : RL C K H v q) (hq : q.1.length ≠ n) : BadG K C n H (.ref l) := by
  refine ⟨some [some p, some q], gv_of h (by show 2 ≤ 100; decide) rfl (fun i x o hx ho => ?_), ?_⟩
  · match i with
    | 0 => cases hx; cases ho; exact hu
    | 1 => cases hx; cases ho; exact hv
    | i + 2 => cases hx
  · have e : ([some p, some q].all fun o => decide ((o.getD ([], [])).1.length = n)) = false := by
      refine Bool.eq_false_iff.mpr fun z => hq ?_
      have := List.all_eq_true.mp z (some q) (by simp)
      exact of_decide_eq_true this
    show (within (.int (([some p, some q] : List (Option Q2)).length : Nat)) (.int 0) (.int 10) && (([some p, some q] : List (Option Q2)).all Option.isSome && ([some p, some q].all fun o => decide ((o.getD ([], [])).1.length = n)))) = false
    rw [e, Bool.and_false, Bool.and_false]
theorem badG_many {l : Addr} {u : V} {k : Nat} {p : Q2} (h : H l = some (.lst (List.replicate k u))) (hk : 10 < k) (hz : k ≤ 100) (hu : RL C K H u p) : BadG K C n H (.ref l) :=
  ⟨some (List.replicate k (some p)), gv_of h (by rw [List.length_replicate]; exact hz) (by rw [List.length_replicate, List.length_replicate]) fun i x o hx ho => by
    have e1 := List.eq_of_mem_replicate (List.mem_of_getElem? hx)
    have e2 := List.eq_of_mem_replicate (List.mem_of_getElem? ho)
    subst e1 e2
    exact hu, by
    show (within (.int ((List.replicate k (some p)).length : Nat)) (.int 0) (.int 10) && _) = false
    have : within (.int ((List.replicate k (some p)).length : Nat)) (.int 0) (.int 10) = false := by
      rw [List.length_replicate]
      show (decide ((0 : Int) ≤ (k : Nat)) && decide (((k : Nat) : Int) ≤ 10)) = false
      rw [decide_eq_false (p := ((k : Nat) : Int) ≤ 10) (by omega), Bool.and_false]
    rw [this, Bool.false_and]⟩
end
end K0


set_option Elab.async false
set_option linter.all false
set_option maxRecDepth 100000
set_option maxHeartbeats 4000000
/-! the lists of what is refused -/
namespace K0
open PySem PySem.Spec PyProof.Rows L2 RZ K0z KdN
section
variable {K : PySem.W.Frag} {C : Addr} {G : Hp} {n n' : Nat} {xs : List Int}
theorem bad_all {sa mo b1 b2 b4 b5 b6 b7 b8 b9 pp sg : Addr} (U : LikD K C) (hLs : LikAt K G sa C (rng n) (List.replicate n 1)) (hLm : LikAt K G mo C (rng n') (List.replicate n' 1)) (nne : n' ≠ n) (gb1 : G b1 = some (.lst [.non])) (gb2 : G b2 = some (.lst [.ref sa, .ref mo])) (gb4 : G b4 = some (.lst (List.replicate 11 (V.ref sa)))) (gb5 : G b5 = some (.lst [.int 0, .int 1])) (gb6 : G b6 = some (.lst [.ref b5])) (gb7 : G b7 = some (.tup [.ref pp, .ref sg])) (gb8 : G b8 = some (.lst [.ref b7])) (gb9 : G b9 = some (.dK [])) :
    ∀ v ∈ [V.non, .int 5, .ref sa, .ref b1, .ref b2, .ref b4, .ref b6, .str "same", .ref b8, .ref b9], BadG K C n G v := fun v hv => by
  obtain ⟨_, dx, _, _, fs, hia, _⟩ := id hLs
  simp only [List.mem_cons, List.not_mem_nil, or_false] at hv
  rcases hv with rfl | rfl | rfl | rfl | rfl | rfl | rfl | rfl | rfl | rfl
  · exact badG_no Asks.non
  · exact badG_no (Asks.int _)
  · exact badG_no (Asks.lik U hia)
  · exact badG_1 gb1 (NoLik.non U)
  · exact badG_2 (p := (rng n, List.replicate n 1)) (q := (rng n', List.replicate n' 1)) gb2 ⟨sa, rfl, hLs⟩ ⟨mo, rfl, hLm⟩ (by show (rng n').length ≠ n; rw [rng_len]; exact nne)
  · exact badG_many (k := 11) (p := (rng n, List.replicate n 1)) gb4 (by decide) (by decide) ⟨sa, rfl, hLs⟩
  · exact badG_1 gb6 (NoLik.lst U gb5)
  · exact badG_no (Asks.str _)
  · exact badG_1 gb8 (NoLik.tup U gb7)
  · exact badG_no (Asks.dict gb9)
theorem odd_all {D o1 o2 o3 o4 o7 o8 o9 o10 o11 o12 o13 o16 o17 o18 o20 o21 o22 : Addr} (n2 : 2 ≤ n) (n6 : n ≤ 6) (xl : xs.length = n) (gD : G D = some (.lst (xs.map V.int))) (go1 : G o1 = some (.lst [])) (go2 : G o2 = some (.lst [.ref D, .ref D])) (go3 : G o3 = some (.lst ((xs.dropLast).map V.int))) (go4 : G o4 = some (.lst [.ref D, .ref o3]))
    (go7 : G o7 = some (.lst ((xs ++ [0, 0, 0, 0, 0]).map V.int))) (go8 : G o8 = some (.lst [.ref o7])) (go9 : G o9 = some (.lst ((xs.take 1).map V.int))) (go10 : G o10 = some (.lst [.ref o9])) (go11 : G o11 = some (.lst [])) (go12 : G o12 = some (.lst [.ref o11])) (go13 : G o13 = some (.lst [.ref D, .non]))
    (go16 : G o16 = some (.lst ([.bl true] ++ (xs.map V.int).drop 1))) (go17 : G o17 = some (.lst [.ref o16])) (go18 : G o18 = some (.tup (xs.map V.int))) (go20 : G o20 = some (.lst (List.replicate n (V.str "1")))) (go21 : G o21 = some (.lst [.ref o18, .ref o20])) (h22 : BadP K G (.ref o22)) :
    ∀ v ∈ [V.non, .ref o1, .int 7, .str "12", .ref D, .ref o2, .ref o4, .ref o8, .ref o10, .ref o12, .ref o13, .ref o17, .ref o21, .ref o22], BadP K G v := fun v hv => by
  have xz : xs.length ≤ 100 := by omega
  have rowP := itP_ints (K := K) gD xz
  simp only [List.mem_cons, List.not_mem_nil, or_false] at hv
  rcases hv with rfl | rfl | rfl | rfl | rfl | rfl | rfl | rfl | rfl | rfl | rfl | rfl | rfl | rfl
  · exact badP_no Asks.non
  · exact badP_of (os := []) (val_of go1 (by decide) rfl fun i u o hu => by cases hu) rfl
  · exact badP_no (Asks.int _)
  · exact badP_no (Asks.str _)
  · refine badP_of (os := xs.map fun _ => none) (val_of gD (by rw [List.length_map]; exact xz) (by rw [List.length_map, List.length_map]) fun i u o hu ho => ?_) ?_
    · rw [List.getElem?_map] at hu ho
      obtain ⟨x, _, rfl⟩ := Option.map_eq_some_iff.mp hu
      obtain ⟨y, _, rfl⟩ := Option.map_eq_some_iff.mp ho
      exact itP_no (Asks.int _)
    · cases xs with
      | nil => rfl
      | cons x r => exact okp_first rfl
  · refine ⟨_, val_2 go2 rowP rowP, fun os e _ nd => ?_⟩
    cases e
    have nd : [intsOf (xs.map V.int), intsOf (xs.map V.int)].Nodup := nd
    exact (List.nodup_cons.mp nd).1 List.mem_cons_self
  · refine badP_of (val_2 go4 rowP (itP_ints go3 (by rw [List.length_dropLast]; omega))) (okp_some (q := some ((xs.dropLast).map V.int)) (by simp) ?_)
    have := lenB_not (xs := (xs.dropLast).map V.int) (l := (xs.map V.int).length) (m := (xs.map V.int).length) (.inl (by rw [List.length_map, List.length_map, List.length_dropLast]; omega))
    show (lenB (some ((xs.dropLast).map V.int)) (.int ((xs.map V.int).length : Nat)) (.int ((xs.map V.int).length : Nat)) && _) = false
    rw [this, Bool.false_and]
  · exact badP_of (val_1 go8 (itP_ints go7 (by rw [List.length_append]; show xs.length + 5 ≤ 100; omega))) (okp_first (lenB_not (l := 2) (m := 6) (.inr (by rw [List.length_map, List.length_append]; show 6 < xs.length + 5; omega))))
  · exact badP_of (val_1 go10 (itP_ints go9 (by rw [List.length_take]; omega))) (okp_first (lenB_not (l := 2) (m := 6) (.inl (by rw [List.length_map, List.length_take]; omega))))
  · exact badP_of (val_1 go12 (itP_lst go11 (by decide) fun x h => absurd h List.not_mem_nil)) (okp_first (lenB_not (l := 2) (m := 6) (.inl (by decide))))
  · exact badP_of (val_2 go13 rowP (itP_no Asks.non)) (okp_some (q := none) (by simp) rfl)
  · refine badP_of (val_1 go17 (itP_lst go16 (by rw [List.length_append, List.length_drop, List.length_map]; show 1 + (xs.length - 1) ≤ 100; omega) fun x hx => ?_)) (okp_some List.mem_cons_self ?_)
    · rcases List.mem_append.mp hx with h | h
      · rw [List.mem_singleton.mp h]; exact ⟨_, Asks.bl _⟩
      · obtain ⟨y, _, rfl⟩ := List.mem_map.mp (List.mem_of_mem_drop h)
        exact ⟨_, Asks.int _⟩
    · rw [show intsB (some ([V.bl true] ++ (xs.map V.int).drop 1)) = false from rfl, Bool.and_false]
  · refine badP_of (val_2 go21 (itP_tup go18 xz) (itP_lst go20 (by rw [List.length_replicate]; omega) fun x hx => ?_)) (okp_some (q := some (List.replicate n (V.str "1"))) (by simp) ?_)
    · rw [List.eq_of_mem_replicate hx]; exact ⟨_, Asks.str _⟩
    · have : intsB (some (List.replicate n (V.str "1"))) = false := by
        cases n with
        | zero => omega
        | succ k => rfl
      rw [this, Bool.and_false]
  · exact h22
theorem pts49 {o22 : Addr} {lxs : List V} {ys : List Int} (h : G o22 = some (.lst lxs)) (ll : lxs.length = 49) (hl : ∀ (i : Nat) y, lxs[i]? = some y → RLd G y ((0 + (i : Int)) :: ys)) (hy : ys.length ≤ 6) : BadP K G (.ref o22) := by
  refine badP_of (os := (List.range 49).map fun (i : Nat) => some (((0 + (i : Int)) :: ys).map V.int)) (val_of h (by omega) (by rw [List.length_map, List.length_range]; exact ll) fun i u o hu ho => ?_) (okp_len ?_)
  · have hi := (List.getElem?_eq_some_iff.mp hu).1
    rw [List.getElem?_map, List.getElem?_range (by omega)] at ho
    cases ho
    obtain ⟨l, rfl, z⟩ := hl i u hu
    exact itP_ints z (by rw [List.length_cons]; omega)
  · rw [List.length_map, List.length_range]
    rfl
/-- a call at points that are refused -/
theorem lo_badP {CP CB CM CT : Addr} {v1 v2 : V} {Q : VK} {E : XK} {m : Nat} (h1 : BadP K G v1) (h2 : BadG K C m G v2) (k : raisesN CP "points" G E) : spLo K C CP CB CM CT [v1, v2] G Q E := by
  obtain ⟨o1, w1, w2⟩ := h1
  obtain ⟨o2, w3, _⟩ := h2
  exact ⟨v1, v2, o1, o2, rfl, w1, w3, fun _ => k, fun os e hp => ⟨fun _ => k, fun nd => absurd nd (w2 os e hp)⟩⟩
/-- a call at likenesses that are refused -/
theorem lo_badG {CP CB CM CT : Addr} {v1 v2 : V} {Q : VK} {E : XK} {ks : List (List Int)} (A1 : Asks K G v1 true) (h1 : PtsAt K G v1 ks n) (n2 : 2 ≤ n) (n6 : n ≤ 6) (ne : ks ≠ []) (nd : ks.Nodup) (h2 : BadG K C n G v2) (k : raisesN CB "given" G E) : spLo K C CP CB CM CT [v1, v2] G Q E := by
  obtain ⟨a1, a2, a3⟩ := pts_val A1 h1 n2 n6 ne
  obtain ⟨o2, w3, w4⟩ := h2
  have hn : (ks.headD []).length = n := by
    cases ks with
    | nil => exact absurd rfl ne
    | cons k r =>
      obtain ⟨_, _, _, _, _, _, hw, _⟩ := h1
      exact hw k List.mem_cons_self
  refine ⟨v1, v2, _, o2, rfl, a1, w3, fun z => (by rw [a2] at z; cases z), fun os e _ => ?_⟩
  cases e
  rw [a3, hn]
  exact ⟨fun z => absurd nd z, fun _ => ⟨fun _ => k, fun gs e2 h => (by rw [w4] at h; cases h)⟩⟩
theorem two_nd {xs : List Int} (h : ∀ x ∈ xs, x ≤ 4) : [xs, 9 :: xs.drop 1].Nodup := by
  refine List.nodup_cons.mpr ⟨fun hm => ?_, List.nodup_cons.mpr ⟨List.not_mem_nil, List.nodup_nil⟩⟩
  have e := List.mem_singleton.mp hm
  have := h 9 (by rw [e]; exact List.mem_cons_self)
  omega
/-- the points of a row -/
def ks48 (ys : List Int) : List (List Int) := (List.range 48).map fun (i : Nat) => (0 + (i : Int)) :: ys
theorem ks48_nd (ys : List Int) : (ks48 ys).Nodup := by
  unfold ks48
  have key : ∀ {l : List Nat}, l.Nodup → (l.map fun (i : Nat) => (0 + (i : Int)) :: ys).Nodup := fun {l} => by
    induction l with
    | nil => exact fun _ => List.nodup_nil
    | cons x l ih =>
      intro h
      obtain ⟨h1, h2⟩ := List.nodup_cons.mp h
      refine List.nodup_cons.mpr ⟨fun hm => ?_, ih h2⟩
      obtain ⟨y, hy, e⟩ := List.mem_map.mp hm
      injection e with e _
      have : y = x := by omega
      rw [this] at hy
      exact h1 hy
  exact key List.nodup_range
theorem ks48_len (ys : List Int) : (ks48 ys).length = 48 := by unfold ks48; rw [List.length_map, List.length_range]
theorem ks48_w (ys : List Int) : ∀ k ∈ ks48 ys, k.length = ys.length + 1 := fun k hk => by
  obtain ⟨i, _, rfl⟩ := List.mem_map.mp hk
  rfl
theorem rep48 {lxs : List V} {ys : List Int} (ll : lxs.length = 48) (hl : ∀ (i : Nat) y, lxs[i]? = some y → RLd G y ((0 + (i : Int)) :: ys)) : Rep RLd G lxs (ks48 ys) := by
  refine ⟨by rw [ks48_len]; exact ll, fun i x k hx hk => ?_⟩
  have hi := (List.getElem?_eq_some_iff.mp hx).1
  unfold ks48 at hk
  rw [List.getElem?_map, List.getElem?_range (by omega)] at hk
  cases hk
  exact hl i x hx
/-- the same likeness again and again -/
theorem same_leads {ks : List (List Int)} {k : Nat} (h : ∀ p ∈ ks, p.length = n) : (List.replicate k (same0 n)).all (ldsB ks) = true := by
  rw [List.all_eq_true]
  intro g hg
  rw [List.eq_of_mem_replicate hg]
  unfold ldsB
  rw [List.all_eq_true]
  intro p hp
  rw [List.any_eq_true]
  exact ⟨p, hp, decide_eq_true (led_same (h p hp)).symm⟩
theorem same_made {k : Nat} (n2 : 2 ≤ n) (n6 : n ≤ 6) : Rc.Closed (same0 n) ((List.replicate k (same0 n)).map oneT) [same0 n] := by
  refine ⟨List.mem_cons_self, fun x hx f hf => ?_⟩
  rw [List.mem_singleton.mp hx]
  obtain ⟨g, hg, rfl⟩ := List.mem_map.mp hf
  rw [List.eq_of_mem_replicate hg, one_same n2 n6 (lk_same n2 n6)]
  exact List.mem_cons_self
theorem same_only {k : Nat} {A js : List Q2} (n2 : 2 ≤ n) (n6 : n ≤ 6) (p : Rc.Part (same0 n) ((List.replicate k (same0 n)).map oneT) A) (c : Rc.Closed (same0 n) ((List.replicate k (same0 n)).map oneT) A) (h : js.Perm A) : js = [same0 n] := by
  have l := p.le (same_made n2 n6)
  have : A = [same0 n] := by
    match A, c.1, l with
    | [x], hx, _ => rw [List.mem_singleton.mp hx]
    | x :: y :: r, _, l => simp at l
  rw [this] at h
  exact List.perm_singleton.mp h
end
end K0


set_option Elab.async false
set_option linter.all false
set_option maxRecDepth 100000
set_option maxHeartbeats 16000000
set_option exponentiation.threshold 100000
/-! _law_refused_right -/
namespace K0
open PySem PySem.Spec PyProof.Rows L2 RZ K0z KdN
def spRu (K : PySem.W.Frag) (PT PU : Addr) : Sp := fun vs H Q _ => ∃ (c d : Addr) (ns : List Int) (m : Nat), vs = [.ref c] ∧ Coil H c d ns m ∧ m ≤ 40000 ∧ LamX.Tabs [(PT, qL), (PU, qU)] H ∧ ∀ H', Q (.bl true) H'
section
variable {P : Program} {w : World} {K : PySem.W.Frag} {mg : Str → Option Value} {base : Heap} {f f1 f2 gl fh C CB CP CM CN CL CT CS PT PU cc : Addr} {fd fdh : FuncData}
abbrev N__law_refused_right : List Str := ["keg", "wide", "same", "more", "row", "place", "bad", "odd", "at", "value", "told"]
theorem sc_refused : FnScope N__law_refused_right ["keg"] (defScope st__law_refused_right) := ⟨rfl, rfl, rfl, by decide +kernel, rfl, by decide +kernel, by decide +kernel⟩
theorem ok_refused (F : FunC K "_law_refused_right" "_law_refused_right" st__law_refused_right f fd cc) (T : Nm mg) (M : LikM P w K mg base C CB) (U : LikD K C) (mC : mg "Likeness" = some (.ref C)) (MS : LkMs P w K mg base C CB CM CN) (ED : EqD P w K mg base C)
    (D__law_tap : Dn P w K mg base 1 "_law_tap" f1 ["keg", "many"] spTurn) (D__law_choose : Dn P w K mg base 2 "_law_choose" f2 ["keg", "some"] (spOne K)) (D_likenesses_of : DnX P w K mg base 9 "likenesses_of" gl ["points", "given"] (spLo K C CP CB CM CT))
    (FH : Fun K "_law_heard" "_law_heard" st__law_heard fh fdh) (bh : Binds K fdh ["ask"] []) (mh : mg "_law_heard" = some (.ref fh)) (kh : PySem.W.keepIn K (.ref fh) = true) (TB : LamX.TabB base mg cc PU) (hPP : PT ≠ PU) (R : Errs mg CS CB CP CL CM CT) (hTm : TmC K CS CT) (hrP : HrC K CS CB CP CL CM CT CP "point") (hrB : HrC K CS CB CP CL CM CT CB "likeness") :
    FnG P w K mg base 12 f fd ["keg"] (spRu K PT PU) := by
  obtain ⟨och, odh, kVh, doch, pmh, anh, cdvh, cth, oslh, rfl, lkH, hcdH⟩ := FH.ex
  refine Fun_okC F sc_refused (fun vs H Q E h => ?_) (fun A' outer s H vs Q E hG hr h => ?_)
  · obtain ⟨c, d, _, _, rfl, _⟩ := h
    rfl
  · obtain ⟨c, d, ns, m, rfl, hC, hm, hTb, k⟩ := h
    refine ⟨_, (pss_cons (ps_set (i := 1) sc_refused.nd rfl (Or.inl rfl) (pe_op op_add pe_int (pe_dn D__law_tap (hr.mono (by decide)) rfl (pa_cons (pv 0) (pa_cons pe_int pa_nil)))))
    (pss_cons (ps_par (i := 2) (j := 3) (by rfl) sc_refused.nd rfl rfl (by decide) rfl rfl (pa_cons (pe_same MS mC (hr.mono (by decide)) rfl (pa_cons (pv 1) pa_nil)) (pa_cons (pe_same MS mC (hr.mono (by decide)) rfl (pa_cons (pe_op op_add pe_int (pe_op op_mod (pe_callTy call_int1 (by rfl) T.n_int (by decide +kernel) (pa_cons (pe_op op_add (pe_op op_sub (pv 1) pe_int) (pe_dn D__law_tap (hr.mono (by decide)) rfl (pa_cons (pv 0) (pa_cons pe_int pa_nil)))) pa_nil)) pe_int)) pa_nil)) pa_nil)) (by rfl))
    (pss_cons (ps_set (i := 4) sc_refused.nd rfl (Or.inr rfl) (pe_lc (own := [("place", 5)]) (g := gName 5) (tt := tYes) rfl sc_refused.nd (pi_range1 (by rfl) T.n_range (pa_cons (pv 1) pa_nil)) (blkOk_by (N := ["keg", "wide", "same", "more", "row", "place", "bad", "odd", "at", "value", "told"]) (sc := defScope st__law_refused_right) (by decide +kernel)) (fun _ _ _ _ _ => (pg_name (i := 5) sc_refused.nd rfl (Or.inl rfl))) (fun _ _ _ _ _ => pts_nil) (fun _ _ _ _ _ => (pe_op op_sub (pe_dn D__law_tap (hr.mono (by decide)) rfl (pa_cons (pv 0) (pa_cons pe_int pa_nil))) pe_int))))
    (pss_cons (ps_set (i := 6) sc_refused.nd rfl (Or.inr rfl) (pe_lst (pa_cons pe_non (pa_cons pe_int (pa_cons (pv 2) (pa_cons (pe_lst (pa_cons pe_non pa_nil)) (pa_cons (pe_lst (pa_cons (pv 2) (pa_cons (pv 3) pa_nil))) (pa_cons (pe_op op_rep (pe_lst (pa_cons (pv 2) pa_nil)) pe_int) (pa_cons (pe_lst (pa_cons (pe_lst (pa_cons pe_int (pa_cons pe_int pa_nil))) pa_nil)) (pa_cons pe_str (pa_cons (pe_lst (pa_cons (pe_tup (pa_cons (pe_fld (pv 2) rfl) (pa_cons (pe_fld (pv 2) rfl) pa_nil))) pa_nil)) (pa_cons pe_dnewK pa_nil))))))))))))
    (pss_cons (ps_set (i := 7) sc_refused.nd rfl (Or.inl rfl) (pe_lst (pa_cons pe_non (pa_cons (pe_lst pa_nil) (pa_cons pe_int (pa_cons pe_str (pa_cons (pv 4) (pa_cons (pe_lst (pa_cons (pv 4) (pa_cons (pv 4) pa_nil))) (pa_cons (pe_lst (pa_cons (pv 4) (pa_cons (pe_slice (sl_listK K) (pv 4) po_none (po_some (pe_un un_neg pe_int))) pa_nil))) (pa_cons (pe_lst (pa_cons (pe_op op_cat (pv 4) (pe_op op_rep (pe_lst (pa_cons pe_int pa_nil)) pe_int)) pa_nil)) (pa_cons (pe_lst (pa_cons (pe_slice (sl_listK K) (pv 4) po_none (po_some pe_int)) pa_nil)) (pa_cons (pe_lst (pa_cons (pe_lst pa_nil) pa_nil)) (pa_cons (pe_lst (pa_cons (pv 4) (pa_cons pe_non pa_nil))) (pa_cons (pe_lst (pa_cons (pe_op op_cat (pe_lst (pa_cons pe_bl pa_nil)) (pe_slice (sl_listK K) (pv 4) (po_some pe_int) po_none)) pa_nil)) (pa_cons (pe_lst (pa_cons (pe_callTy (call_tupK K) (by rfl) T.n_tuple (by decide +kernel) (pa_cons (pv 4) pa_nil)) (pa_cons (pe_op op_rep (pe_lst (pa_cons pe_str pa_nil)) (pv 1)) pa_nil))) (pa_cons (pe_lc (own := [("at", 8)]) (g := gName 8) (tt := tYes) rfl sc_refused.nd (pi_range1 (by rfl) T.n_range (pa_cons pe_int pa_nil)) (blkOk_by (N := ["keg", "wide", "same", "more", "row", "place", "bad", "odd", "at", "value", "told"]) (sc := defScope st__law_refused_right) (by decide +kernel)) (fun _ _ _ _ _ => (pg_name (i := 8) sc_refused.nd rfl (Or.inl rfl))) (fun _ _ _ _ _ => pts_nil) (fun _ _ _ _ _ => (pe_op op_cat (pe_lst (pa_cons (pv 8) pa_nil)) (pe_slice (sl_listK K) (pv 4) (po_some pe_int) po_none)))) pa_nil))))))))))))))))
    (pss_cons (ps_for PassesOwn.never rfl (pi_seqK K (pv 7)) (pg_name (i := 9) sc_refused.nd rfl (Or.inr rfl))
      (pss_one (ps_if (pt_cmpR (op_neD hr.units) (LamX.pe_lamcall (k := 9) (T := [(PT, qL), (PU, qU)]) (TT := THr K CS CB CP CL CM CT) (t := fun E => fun σ H Q => (L2.tCons (tVar 9) (L2.tCons (tDn (spOne K) (L2.tCons (tVar 0) (L2.tCons (tVar 6) L2.tNil))) L2.tNil)) σ H fun vs H1 => spLo K C CP CB CM CT vs H1 Q E) rfl mh kh lkH hcdH bh sc_heard rfl (Or.inl rfl) (heard_gives R hTm T) TB rfl (List.mem_cons_of_mem _ List.mem_cons_self) (two_tabs' hPP) (hr.mono (by decide)) (LamX.lamS_by (sc := defScope st__law_refused_right) (by decide +kernel)) rfl (fun _ _ _ _ _ => rfl) (fun A outer s H E f c' hr2 => pe_dnE D_likenesses_of (takes_of rfl rfl rfl rfl) (hr2.mono (by decide)) rfl (pa_cons (pv 9) (pa_cons (pe_dn D__law_choose (hr2.mono (by decide)) rfl (pa_cons (pv 0) (pa_cons (pv 6) pa_nil))) pa_nil)))) (pe_tup (pa_cons pe_str (pa_cons pe_str pa_nil))) (nomark _)) (pss_one (ps_ret pe_bl)) pss_nil)))
    (pss_cons (ps_for PassesOwn.never rfl (pi_seqK K (pv 6)) (pg_name (i := 9) sc_refused.nd rfl (Or.inr rfl))
      (pss_one (ps_if (pt_cmpR (op_neD hr.units) (LamX.pe_lamcall (k := 9) (T := [(PT, qL), (PU, qU)]) (TT := THr K CS CB CP CL CM CT) (t := fun E => fun σ H Q => (L2.tCons (tLst (L2.tCons (tVar 4) (L2.tCons (tOp rCat (tLst (L2.tCons (tC (.int 9)) L2.tNil)) (tSl (rSlL K) (tVar 4) (tPart (tC (.int 1))) tNoPart)) L2.tNil))) (L2.tCons (tVar 9) L2.tNil)) σ H fun vs H1 => spLo K C CP CB CM CT vs H1 Q E) rfl mh kh lkH hcdH bh sc_heard rfl (Or.inl rfl) (heard_gives R hTm T) TB rfl (List.mem_cons_of_mem _ List.mem_cons_self) (two_tabs' hPP) (hr.mono (by decide)) (LamX.lamS_by (sc := defScope st__law_refused_right) (by decide +kernel)) rfl (fun _ _ _ _ _ => rfl) (fun A outer s H E f c' hr2 => pe_dnE D_likenesses_of (takes_of rfl rfl rfl rfl) (hr2.mono (by decide)) rfl (pa_cons (pe_lst (pa_cons (pv 4) (pa_cons (pe_op op_cat (pe_lst (pa_cons pe_int pa_nil)) (pe_slice (sl_listK K) (pv 4) (po_some pe_int) po_none)) pa_nil))) (pa_cons (pv 9) pa_nil)))) (pe_tup (pa_cons pe_str (pa_cons pe_str pa_nil))) (nomark _)) (pss_one (ps_ret pe_bl)) pss_nil)))
    (pss_cons (ps_set (i := 10) sc_refused.nd rfl (Or.inl rfl) (pe_dnx D_likenesses_of (hr.mono (by decide)) rfl (pa_cons (pe_lc (own := [("at", 8)]) (g := gName 8) (tt := tYes) rfl sc_refused.nd (pi_range1 (by rfl) T.n_range (pa_cons pe_int pa_nil)) (blkOk_by (N := ["keg", "wide", "same", "more", "row", "place", "bad", "odd", "at", "value", "told"]) (sc := defScope st__law_refused_right) (by decide +kernel)) (fun _ _ _ _ _ => (pg_name (i := 8) sc_refused.nd rfl (Or.inl rfl))) (fun _ _ _ _ _ => pts_nil) (fun _ _ _ _ _ => (pe_op op_cat (pe_lst (pa_cons (pv 8) pa_nil)) (pe_slice (sl_listK K) (pv 4) (po_some pe_int) po_none)))) (pa_cons (pe_op op_rep (pe_lst (pa_cons (pv 2) pa_nil)) (pe_dn D__law_choose (hr.mono (by decide)) rfl (pa_cons (pv 0) (pa_cons (pe_lst (pa_cons pe_int (pa_cons pe_int (pa_cons pe_int pa_nil)))) pa_nil)))) pa_nil))))
    (pss_one (ps_ret (pe_and (pe_cmpR op_eq (pe_callB (call_lenK K) (by rfl) T.n_len (by decide +kernel) (pa_cons (pv 10) pa_nil)) pe_int (nomark _)) (pe_one (pe_cmpR (op_eqL ED U (hr.mono (by decide)) K) (pe_ix (ix_K K) (pv 10) pe_int (fun _ _ => rfl)) (pv 2) (nomark _)))))))))))))), ?_⟩
    have LT : ∀ {o : List V} (ps : Array Value), HO.lst o ≠ .tbl ps := fun ps e => by cases e
    have TU : ∀ {o : List V} (ps : Array Value), HO.tup o ≠ .tbl ps := fun ps e => by cases e
    have wit : ∀ n : Nat, 2 ≤ n → n ≤ 6 → within (.int (n : Nat)) (.int 2) (.int 6) = true := fun n h2 h6 => by
      show (decide ((2 : Int) ≤ (n : Nat)) && decide (((n : Nat) : Int) ≤ 6)) = true
      rw [Bool.and_eq_true, decide_eq_true_eq, decide_eq_true_eq]
      omega
    refine ⟨_, rfl, c, d, ns, m, 5, rfl, hC, by omega, by decide, small9000 (by decide), fun r0 H1 w0 w1 hC1 sb1 => ⟨2, r0, rfl, rfl, ?_⟩⟩
    have hT1 := tabs_but hTb hC sb1
    obtain ⟨n, hn, n2, n6⟩ : ∃ n : Nat, (2 : Int) + r0 = (n : Nat) ∧ 2 ≤ n ∧ n ≤ 6 := ⟨(2 + r0).toNat, by omega, by omega, by omega⟩
    dsimp only
    rw [hn]
    refine ⟨_, rfl, .int (n : Nat), false, rfl, Asks.int _, fun z => (by rw [wit n n2 n6] at z; cases z), fun n' e' h2' h6' sa Ha hsa hLs sA => ?_⟩
    have en : n' = n := by
      injection e' with e'
      omega
    rw [en] at hLs
    clear e' en h2' h6'
    have hC1a := hC1.but sA
    have hT1a := hT1.ext sA
    refine ⟨_, rfl, _, 1, rfl, rfl, _, rfl, c, d, ns, _, 4, rfl, hC1a, by omega, by decide, small9000 (by decide), fun r1 H2 a0 a1 hC2 sb2 => ⟨_, _, rfl, rfl, ?_⟩⟩
    have hT2 := tabs_but hT1a hC1a sb2
    refine .inl ⟨_, rfl, _, 5, rfl, rfl, (by show (0 : Int) < 5; decide), 2, _, rfl, rfl, ?_⟩
    obtain ⟨n', hn', n2', n6', nne⟩ : ∃ n' : Nat, (2 : Int) + ((n : Int) - 1 + r1) % 5 = (n' : Nat) ∧ 2 ≤ n' ∧ n' ≤ 6 ∧ n' ≠ n := ⟨(2 + ((n : Int) - 1 + r1) % 5).toNat, by omega, by omega, by omega, by omega⟩
    dsimp only
    rw [hn']
    refine ⟨.int (n' : Nat), false, rfl, Asks.int _, fun z => (by rw [wit n' n2' n6'] at z; cases z), fun n'' e'' h2'' h6'' mo Hb hmo hLm sB => ?_⟩
    have en : n'' = n' := by
      injection e'' with e''
      omega
    rw [en] at hLm
    clear e'' en h2'' h6''
    refine ⟨_, _, rfl, ?_⟩
    obtain ⟨la, hla⟩ := coil_lst hC1a
    have Ba := bs_off c Ha
    have hLs := hLs.offT hla
    have sGa : Same (OffT c Ha) Ha := offT_same
    have sGb := (Ba.but sGa sb2).trans sB
    have hLs := hLs.same sGb
    have hC2b := hC2.but sB
    have hT2b := hT2.ext sB
    clear Ba sGa sGb hla hC1a hT1a hT2 hC2 sb2 sB sA hC1 hT1 sb1
    -- row
    refine ⟨_, rfl, _, rfl, by omega, by omega, fun D hD => ?_⟩
    have nD := (hC2b.ne hD).1
    refine lc_drawW (walk_range (lo := 0) (n := n)) (fun _ y _ => ∃ x, y = .int x ∧ x ≤ 4) (k := 1) (by omega) hD hC2b (fun _ _ => trivial) (fun _ _ _ _ _ h => h) (fun _ _ _ _ _ _ h => h) ?_ ?_
    · rintro j x H4 H4' m' hj hm' hC4 sb4 _ ⟨rfl, rfl⟩ R hR'
      refine ⟨rfl, ?_⟩
      exact ⟨_, rfl, c, d, ns, m', 9, rfl, hC4, by omega, by decide, small9000 (by decide), fun r H5 q0 q1 hC5 sb5 => ⟨r, 4, rfl, rfl, hR' _ _ ⟨r - 4, rfl, by omega⟩ hC5 sb5⟩⟩
    intro H3 acc0 la0 hacc zD hC3 sb3
    obtain ⟨xs, rfl, lx, hx4⟩ := ints_acc hacc
    have xl : xs.length = n := lx.trans la0
    have hT3 := tabs_but hT2b hC2b sb3
    obtain ⟨lb, hlb⟩ := coil_lst hC2b
    have Bb := bs_off c Hb
    have hLs := hLs.offT hlb
    have hLm := hLm.offT hlb
    have sJ := Bb.but (offT_same : Same (OffT c Hb) Hb) sb3
    generalize OffT c Hb = Gb at Bb hLs hLm sJ
    have hC3 : Coil H3 c d ns (m + 20) := hC3.more (by omega)
    clear hlb hC2b hT2b sb3 hacc hD lx la0
    refine ⟨_, rfl, (by show 1 ≤ sizeLine; decide), fun b1 hb1 => ?_⟩
    generalize e0 : upd _ b1 _ = J1
    obtain ⟨s0, zb1⟩ := grown e0 hb1
    clear e0
    have nb1 := (hC3.ne hb1).1
    have hJ1 := hC3.but s0
    have sJ := sJ.trans s0
    have sT := s0
    have zD := s0 _ _ zD
    clear s0 hb1 hC3
    refine ⟨_, rfl, _, rfl, (by show 2 ≤ sizeLine; decide), fun b2 hb2 => ?_⟩
    generalize e0 : upd _ b2 _ = J2
    obtain ⟨s0, zb2⟩ := grown e0 hb2
    clear e0
    have nb2 := (hJ1.ne hb2).1
    have hJ2 := hJ1.but s0
    have sJ := sJ.trans s0
    have sT := sT.trans s0
    have zD := s0 _ _ zD
    have zb1 := s0 _ _ zb1
    clear s0 hb2 hJ1
    refine ⟨_, rfl, (by show 1 ≤ sizeLine; decide), fun b3 hb3 => ?_⟩
    generalize e0 : upd _ b3 _ = J3
    obtain ⟨s0, zb3⟩ := grown e0 hb3
    clear e0
    have nb3 := (hJ2.ne hb3).1
    have hJ3 := hJ2.but s0
    have sJ := sJ.trans s0
    have sT := sT.trans s0
    have zD := s0 _ _ zD
    have zb1 := s0 _ _ zb1
    have zb2 := s0 _ _ zb2
    clear s0 hb3 hJ2
    refine ⟨b3, 11, _, rfl, rfl, zb3, by decide, by decide, (by show 1 * 11 ≤ sizeLine; decide), fun b4 hb4 => ?_⟩
    generalize e0 : upd _ b4 _ = J4
    obtain ⟨s0, zb4⟩ := grown e0 hb4
    clear e0
    have nb4 := (hJ3.ne hb4).1
    have hJ4 := hJ3.but s0
    have sJ := sJ.trans s0
    have sT := sT.trans s0
    have zD := s0 _ _ zD
    have zb1 := s0 _ _ zb1
    have zb2 := s0 _ _ zb2
    have zb3 := s0 _ _ zb3
    clear s0 hb4 hJ3
    refine ⟨(by show 2 ≤ sizeLine; decide), fun b5 hb5 => ?_⟩
    generalize e0 : upd _ b5 _ = J5
    obtain ⟨s0, zb5⟩ := grown e0 hb5
    clear e0
    have nb5 := (hJ4.ne hb5).1
    have hJ5 := hJ4.but s0
    have sJ := sJ.trans s0
    have sT := sT.trans s0
    have zD := s0 _ _ zD
    have zb1 := s0 _ _ zb1
    have zb2 := s0 _ _ zb2
    have zb3 := s0 _ _ zb3
    have zb4 := s0 _ _ zb4
    clear s0 hb5 hJ4
    refine ⟨(by show 1 ≤ sizeLine; decide), fun b6 hb6 => ?_⟩
    generalize e0 : upd _ b6 _ = J6
    obtain ⟨s0, zb6⟩ := grown e0 hb6
    clear e0
    have nb6 := (hJ5.ne hb6).1
    have hJ6 := hJ5.but s0
    have sJ := sJ.trans s0
    have sT := sT.trans s0
    have zD := s0 _ _ zD
    have zb1 := s0 _ _ zb1
    have zb2 := s0 _ _ zb2
    have zb3 := s0 _ _ zb3
    have zb4 := s0 _ _ zb4
    have zb5 := s0 _ _ zb5
    clear s0 hb6 hJ5
    obtain ⟨_, dx, pp, sg, fs, ha, hp, hs2, f1, f2, f3, _⟩ := hLs.same sJ
    refine ⟨_, rfl, sa, C, dx, fs, _, rfl, ha, U.cl, U.nP, f1, _, rfl, sa, C, dx, fs, _, rfl, ha, U.cl, U.nS, f2, (by show 2 ≤ sizeLine; decide), fun b7 hb7 => ?_⟩
    generalize e0 : upd _ b7 _ = J7
    obtain ⟨s0, zb7⟩ := grown e0 hb7
    clear e0
    have nb7 := (hJ6.ne hb7).1
    have hJ7 := hJ6.but s0
    have sJ := sJ.trans s0
    have sT := sT.trans s0
    have zD := s0 _ _ zD
    have zb1 := s0 _ _ zb1
    have zb2 := s0 _ _ zb2
    have zb3 := s0 _ _ zb3
    have zb4 := s0 _ _ zb4
    have zb5 := s0 _ _ zb5
    have zb6 := s0 _ _ zb6
    clear s0 hb7 hJ6
    refine ⟨(by show 1 ≤ sizeLine; decide), fun b8 hb8 => ?_⟩
    generalize e0 : upd _ b8 _ = J8
    obtain ⟨s0, zb8⟩ := grown e0 hb8
    clear e0
    have nb8 := (hJ7.ne hb8).1
    have hJ8 := hJ7.but s0
    have sJ := sJ.trans s0
    have sT := sT.trans s0
    have zD := s0 _ _ zD
    have zb1 := s0 _ _ zb1
    have zb2 := s0 _ _ zb2
    have zb3 := s0 _ _ zb3
    have zb4 := s0 _ _ zb4
    have zb5 := s0 _ _ zb5
    have zb6 := s0 _ _ zb6
    have zb7 := s0 _ _ zb7
    clear s0 hb8 hJ7
    refine fun b9 hb9 => ?_
    generalize e0 : upd _ b9 _ = J9
    obtain ⟨s0, zb9⟩ := grown e0 hb9
    clear e0
    have nb9 := (hJ8.ne hb9).1
    have hJ9 := hJ8.but s0
    have sJ := sJ.trans s0
    have sT := sT.trans s0
    have zD := s0 _ _ zD
    have zb1 := s0 _ _ zb1
    have zb2 := s0 _ _ zb2
    have zb3 := s0 _ _ zb3
    have zb4 := s0 _ _ zb4
    have zb5 := s0 _ _ zb5
    have zb6 := s0 _ _ zb6
    have zb7 := s0 _ _ zb7
    have zb8 := s0 _ _ zb8
    clear s0 hb9 hJ8
    refine ⟨(by show 10 ≤ sizeLine; decide), fun bl hbl => ?_⟩
    generalize e0 : upd _ bl _ = J10
    obtain ⟨s0, zbl⟩ := grown e0 hbl
    clear e0
    have nbl := (hJ9.ne hbl).1
    have hJ10 := hJ9.but s0
    have sJ := sJ.trans s0
    have sT := sT.trans s0
    have zD := s0 _ _ zD
    have zb1 := s0 _ _ zb1
    have zb2 := s0 _ _ zb2
    have zb3 := s0 _ _ zb3
    have zb4 := s0 _ _ zb4
    have zb5 := s0 _ _ zb5
    have zb6 := s0 _ _ zb6
    have zb7 := s0 _ _ zb7
    have zb8 := s0 _ _ zb8
    have zb9 := s0 _ _ zb9
    clear s0 hbl hJ9
    clear ha hp hs2 f1 f2 f3
    refine ⟨(by show 0 ≤ sizeLine; decide), fun o1 ho1 => ?_⟩
    generalize e0 : upd _ o1 _ = J11
    obtain ⟨s0, zo1⟩ := grown e0 ho1
    clear e0
    have no1 := (hJ10.ne ho1).1
    have hJ11 := hJ10.but s0
    have sJ := sJ.trans s0
    have sT := sT.trans s0
    have zD := s0 _ _ zD
    have zb1 := s0 _ _ zb1
    have zb2 := s0 _ _ zb2
    have zb3 := s0 _ _ zb3
    have zb4 := s0 _ _ zb4
    have zb5 := s0 _ _ zb5
    have zb6 := s0 _ _ zb6
    have zb7 := s0 _ _ zb7
    have zb8 := s0 _ _ zb8
    have zb9 := s0 _ _ zb9
    have zbl := s0 _ _ zbl
    clear s0 ho1 hJ10
    refine ⟨_, rfl, _, rfl, _, rfl, (by show 2 ≤ sizeLine; decide), fun o2 ho2 => ?_⟩
    generalize e0 : upd _ o2 _ = J12
    obtain ⟨s0, zo2⟩ := grown e0 ho2
    clear e0
    have no2 := (hJ11.ne ho2).1
    have hJ12 := hJ11.but s0
    have sJ := sJ.trans s0
    have sT := sT.trans s0
    have zD := s0 _ _ zD
    have zb1 := s0 _ _ zb1
    have zb2 := s0 _ _ zb2
    have zb3 := s0 _ _ zb3
    have zb4 := s0 _ _ zb4
    have zb5 := s0 _ _ zb5
    have zb6 := s0 _ _ zb6
    have zb7 := s0 _ _ zb7
    have zb8 := s0 _ _ zb8
    have zb9 := s0 _ _ zb9
    have zbl := s0 _ _ zbl
    have zo1 := s0 _ _ zo1
    clear s0 ho2 hJ11
    refine ⟨_, rfl, _, rfl, 1, rfl, _, rfl, D, _, rfl, .of zD, fun o3 ho3 => ?_⟩
    generalize e0 : upd _ o3 _ = J13
    obtain ⟨s0, zo3⟩ := grown e0 ho3
    clear e0
    have no3 := (hJ12.ne ho3).1
    have hJ13 := hJ12.but s0
    have sJ := sJ.trans s0
    have sT := sT.trans s0
    have zD := s0 _ _ zD
    have zb1 := s0 _ _ zb1
    have zb2 := s0 _ _ zb2
    have zb3 := s0 _ _ zb3
    have zb4 := s0 _ _ zb4
    have zb5 := s0 _ _ zb5
    have zb6 := s0 _ _ zb6
    have zb7 := s0 _ _ zb7
    have zb8 := s0 _ _ zb8
    have zb9 := s0 _ _ zb9
    have zbl := s0 _ _ zbl
    have zo1 := s0 _ _ zo1
    have zo2 := s0 _ _ zo2
    clear s0 ho3 hJ12
    refine ⟨(by show 2 ≤ sizeLine; decide), fun o4 ho4 => ?_⟩
    generalize e0 : upd _ o4 _ = J14
    obtain ⟨s0, zo4⟩ := grown e0 ho4
    clear e0
    have no4 := (hJ13.ne ho4).1
    have hJ14 := hJ13.but s0
    have sJ := sJ.trans s0
    have sT := sT.trans s0
    have zD := s0 _ _ zD
    have zb1 := s0 _ _ zb1
    have zb2 := s0 _ _ zb2
    have zb3 := s0 _ _ zb3
    have zb4 := s0 _ _ zb4
    have zb5 := s0 _ _ zb5
    have zb6 := s0 _ _ zb6
    have zb7 := s0 _ _ zb7
    have zb8 := s0 _ _ zb8
    have zb9 := s0 _ _ zb9
    have zbl := s0 _ _ zbl
    have zo1 := s0 _ _ zo1
    have zo2 := s0 _ _ zo2
    have zo3 := s0 _ _ zo3
    clear s0 ho4 hJ13
    refine ⟨_, rfl, (by show 1 ≤ sizeLine; decide), fun o5 ho5 => ?_⟩
    generalize e0 : upd _ o5 _ = J15
    obtain ⟨s0, zo5⟩ := grown e0 ho5
    clear e0
    have no5 := (hJ14.ne ho5).1
    have hJ15 := hJ14.but s0
    have sJ := sJ.trans s0
    have sT := sT.trans s0
    have zD := s0 _ _ zD
    have zb1 := s0 _ _ zb1
    have zb2 := s0 _ _ zb2
    have zb3 := s0 _ _ zb3
    have zb4 := s0 _ _ zb4
    have zb5 := s0 _ _ zb5
    have zb6 := s0 _ _ zb6
    have zb7 := s0 _ _ zb7
    have zb8 := s0 _ _ zb8
    have zb9 := s0 _ _ zb9
    have zbl := s0 _ _ zbl
    have zo1 := s0 _ _ zo1
    have zo2 := s0 _ _ zo2
    have zo3 := s0 _ _ zo3
    have zo4 := s0 _ _ zo4
    clear s0 ho5 hJ14
    refine ⟨o5, 5, _, rfl, rfl, zo5, by decide, by decide, (by show 1 * 5 ≤ sizeLine; decide), fun o6 ho6 => ?_⟩
    generalize e0 : upd _ o6 _ = J16
    obtain ⟨s0, zo6⟩ := grown e0 ho6
    clear e0
    have no6 := (hJ15.ne ho6).1
    have hJ16 := hJ15.but s0
    have sJ := sJ.trans s0
    have sT := sT.trans s0
    have zD := s0 _ _ zD
    have zb1 := s0 _ _ zb1
    have zb2 := s0 _ _ zb2
    have zb3 := s0 _ _ zb3
    have zb4 := s0 _ _ zb4
    have zb5 := s0 _ _ zb5
    have zb6 := s0 _ _ zb6
    have zb7 := s0 _ _ zb7
    have zb8 := s0 _ _ zb8
    have zb9 := s0 _ _ zb9
    have zbl := s0 _ _ zbl
    have zo1 := s0 _ _ zo1
    have zo2 := s0 _ _ zo2
    have zo3 := s0 _ _ zo3
    have zo4 := s0 _ _ zo4
    have zo5 := s0 _ _ zo5
    clear s0 ho6 hJ15
    have zo6 : _ = some (HO.lst (([0, 0, 0, 0, 0] : List Int).map V.int)) := zo6
    refine ⟨D, o6, _, _, rfl, rfl, zD, zo6, (by rw [List.length_map, xl]; exact Nat.le_trans (by show n + 5 ≤ 11; omega) (by decide)), fun o7 ho7 => ?_⟩
    generalize e0 : upd _ o7 _ = J17
    obtain ⟨s0, zo7⟩ := grown e0 ho7
    clear e0
    have no7 := (hJ16.ne ho7).1
    have hJ17 := hJ16.but s0
    have sJ := sJ.trans s0
    have sT := sT.trans s0
    have zD := s0 _ _ zD
    have zb1 := s0 _ _ zb1
    have zb2 := s0 _ _ zb2
    have zb3 := s0 _ _ zb3
    have zb4 := s0 _ _ zb4
    have zb5 := s0 _ _ zb5
    have zb6 := s0 _ _ zb6
    have zb7 := s0 _ _ zb7
    have zb8 := s0 _ _ zb8
    have zb9 := s0 _ _ zb9
    have zbl := s0 _ _ zbl
    have zo1 := s0 _ _ zo1
    have zo2 := s0 _ _ zo2
    have zo3 := s0 _ _ zo3
    have zo4 := s0 _ _ zo4
    have zo5 := s0 _ _ zo5
    have zo6 := s0 _ _ zo6
    clear s0 ho7 hJ16
    refine ⟨(by show 1 ≤ sizeLine; decide), fun o8 ho8 => ?_⟩
    generalize e0 : upd _ o8 _ = J18
    obtain ⟨s0, zo8⟩ := grown e0 ho8
    clear e0
    have no8 := (hJ17.ne ho8).1
    have hJ18 := hJ17.but s0
    have sJ := sJ.trans s0
    have sT := sT.trans s0
    have zD := s0 _ _ zD
    have zb1 := s0 _ _ zb1
    have zb2 := s0 _ _ zb2
    have zb3 := s0 _ _ zb3
    have zb4 := s0 _ _ zb4
    have zb5 := s0 _ _ zb5
    have zb6 := s0 _ _ zb6
    have zb7 := s0 _ _ zb7
    have zb8 := s0 _ _ zb8
    have zb9 := s0 _ _ zb9
    have zbl := s0 _ _ zbl
    have zo1 := s0 _ _ zo1
    have zo2 := s0 _ _ zo2
    have zo3 := s0 _ _ zo3
    have zo4 := s0 _ _ zo4
    have zo5 := s0 _ _ zo5
    have zo6 := s0 _ _ zo6
    have zo7 := s0 _ _ zo7
    clear s0 ho8 hJ17
    refine ⟨_, rfl, 1, rfl, D, _, rfl, .of zD, fun o9 ho9 => ?_⟩
    generalize e0 : upd _ o9 _ = J19
    obtain ⟨s0, zo9⟩ := grown e0 ho9
    clear e0
    have no9 := (hJ18.ne ho9).1
    have hJ19 := hJ18.but s0
    have sJ := sJ.trans s0
    have sT := sT.trans s0
    have zD := s0 _ _ zD
    have zb1 := s0 _ _ zb1
    have zb2 := s0 _ _ zb2
    have zb3 := s0 _ _ zb3
    have zb4 := s0 _ _ zb4
    have zb5 := s0 _ _ zb5
    have zb6 := s0 _ _ zb6
    have zb7 := s0 _ _ zb7
    have zb8 := s0 _ _ zb8
    have zb9 := s0 _ _ zb9
    have zbl := s0 _ _ zbl
    have zo1 := s0 _ _ zo1
    have zo2 := s0 _ _ zo2
    have zo3 := s0 _ _ zo3
    have zo4 := s0 _ _ zo4
    have zo5 := s0 _ _ zo5
    have zo6 := s0 _ _ zo6
    have zo7 := s0 _ _ zo7
    have zo8 := s0 _ _ zo8
    clear s0 ho9 hJ18
    refine ⟨(by show 1 ≤ sizeLine; decide), fun o10 ho10 => ?_⟩
    generalize e0 : upd _ o10 _ = J20
    obtain ⟨s0, zo10⟩ := grown e0 ho10
    clear e0
    have no10 := (hJ19.ne ho10).1
    have hJ20 := hJ19.but s0
    have sJ := sJ.trans s0
    have sT := sT.trans s0
    have zD := s0 _ _ zD
    have zb1 := s0 _ _ zb1
    have zb2 := s0 _ _ zb2
    have zb3 := s0 _ _ zb3
    have zb4 := s0 _ _ zb4
    have zb5 := s0 _ _ zb5
    have zb6 := s0 _ _ zb6
    have zb7 := s0 _ _ zb7
    have zb8 := s0 _ _ zb8
    have zb9 := s0 _ _ zb9
    have zbl := s0 _ _ zbl
    have zo1 := s0 _ _ zo1
    have zo2 := s0 _ _ zo2
    have zo3 := s0 _ _ zo3
    have zo4 := s0 _ _ zo4
    have zo5 := s0 _ _ zo5
    have zo6 := s0 _ _ zo6
    have zo7 := s0 _ _ zo7
    have zo8 := s0 _ _ zo8
    have zo9 := s0 _ _ zo9
    clear s0 ho10 hJ19
    refine ⟨(by show 0 ≤ sizeLine; decide), fun o11 ho11 => ?_⟩
    generalize e0 : upd _ o11 _ = J21
    obtain ⟨s0, zo11⟩ := grown e0 ho11
    clear e0
    have no11 := (hJ20.ne ho11).1
    have hJ21 := hJ20.but s0
    have sJ := sJ.trans s0
    have sT := sT.trans s0
    have zD := s0 _ _ zD
    have zb1 := s0 _ _ zb1
    have zb2 := s0 _ _ zb2
    have zb3 := s0 _ _ zb3
    have zb4 := s0 _ _ zb4
    have zb5 := s0 _ _ zb5
    have zb6 := s0 _ _ zb6
    have zb7 := s0 _ _ zb7
    have zb8 := s0 _ _ zb8
    have zb9 := s0 _ _ zb9
    have zbl := s0 _ _ zbl
    have zo1 := s0 _ _ zo1
    have zo2 := s0 _ _ zo2
    have zo3 := s0 _ _ zo3
    have zo4 := s0 _ _ zo4
    have zo5 := s0 _ _ zo5
    have zo6 := s0 _ _ zo6
    have zo7 := s0 _ _ zo7
    have zo8 := s0 _ _ zo8
    have zo9 := s0 _ _ zo9
    have zo10 := s0 _ _ zo10
    clear s0 ho11 hJ20
    refine ⟨(by show 1 ≤ sizeLine; decide), fun o12 ho12 => ?_⟩
    generalize e0 : upd _ o12 _ = J22
    obtain ⟨s0, zo12⟩ := grown e0 ho12
    clear e0
    have no12 := (hJ21.ne ho12).1
    have hJ22 := hJ21.but s0
    have sJ := sJ.trans s0
    have sT := sT.trans s0
    have zD := s0 _ _ zD
    have zb1 := s0 _ _ zb1
    have zb2 := s0 _ _ zb2
    have zb3 := s0 _ _ zb3
    have zb4 := s0 _ _ zb4
    have zb5 := s0 _ _ zb5
    have zb6 := s0 _ _ zb6
    have zb7 := s0 _ _ zb7
    have zb8 := s0 _ _ zb8
    have zb9 := s0 _ _ zb9
    have zbl := s0 _ _ zbl
    have zo1 := s0 _ _ zo1
    have zo2 := s0 _ _ zo2
    have zo3 := s0 _ _ zo3
    have zo4 := s0 _ _ zo4
    have zo5 := s0 _ _ zo5
    have zo6 := s0 _ _ zo6
    have zo7 := s0 _ _ zo7
    have zo8 := s0 _ _ zo8
    have zo9 := s0 _ _ zo9
    have zo10 := s0 _ _ zo10
    have zo11 := s0 _ _ zo11
    clear s0 ho12 hJ21
    refine ⟨_, rfl, (by show 2 ≤ sizeLine; decide), fun o13 ho13 => ?_⟩
    generalize e0 : upd _ o13 _ = J23
    obtain ⟨s0, zo13⟩ := grown e0 ho13
    clear e0
    have no13 := (hJ22.ne ho13).1
    have hJ23 := hJ22.but s0
    have sJ := sJ.trans s0
    have sT := sT.trans s0
    have zD := s0 _ _ zD
    have zb1 := s0 _ _ zb1
    have zb2 := s0 _ _ zb2
    have zb3 := s0 _ _ zb3
    have zb4 := s0 _ _ zb4
    have zb5 := s0 _ _ zb5
    have zb6 := s0 _ _ zb6
    have zb7 := s0 _ _ zb7
    have zb8 := s0 _ _ zb8
    have zb9 := s0 _ _ zb9
    have zbl := s0 _ _ zbl
    have zo1 := s0 _ _ zo1
    have zo2 := s0 _ _ zo2
    have zo3 := s0 _ _ zo3
    have zo4 := s0 _ _ zo4
    have zo5 := s0 _ _ zo5
    have zo6 := s0 _ _ zo6
    have zo7 := s0 _ _ zo7
    have zo8 := s0 _ _ zo8
    have zo9 := s0 _ _ zo9
    have zo10 := s0 _ _ zo10
    have zo11 := s0 _ _ zo11
    have zo12 := s0 _ _ zo12
    clear s0 ho13 hJ22
    refine ⟨(by show 1 ≤ sizeLine; decide), fun o14 ho14 => ?_⟩
    generalize e0 : upd _ o14 _ = J24
    obtain ⟨s0, zo14⟩ := grown e0 ho14
    clear e0
    have no14 := (hJ23.ne ho14).1
    have hJ24 := hJ23.but s0
    have sJ := sJ.trans s0
    have sT := sT.trans s0
    have zD := s0 _ _ zD
    have zb1 := s0 _ _ zb1
    have zb2 := s0 _ _ zb2
    have zb3 := s0 _ _ zb3
    have zb4 := s0 _ _ zb4
    have zb5 := s0 _ _ zb5
    have zb6 := s0 _ _ zb6
    have zb7 := s0 _ _ zb7
    have zb8 := s0 _ _ zb8
    have zb9 := s0 _ _ zb9
    have zbl := s0 _ _ zbl
    have zo1 := s0 _ _ zo1
    have zo2 := s0 _ _ zo2
    have zo3 := s0 _ _ zo3
    have zo4 := s0 _ _ zo4
    have zo5 := s0 _ _ zo5
    have zo6 := s0 _ _ zo6
    have zo7 := s0 _ _ zo7
    have zo8 := s0 _ _ zo8
    have zo9 := s0 _ _ zo9
    have zo10 := s0 _ _ zo10
    have zo11 := s0 _ _ zo11
    have zo12 := s0 _ _ zo12
    have zo13 := s0 _ _ zo13
    clear s0 ho14 hJ23
    refine ⟨_, rfl, 1, rfl, D, _, rfl, .of zD, fun o15 ho15 => ?_⟩
    generalize e0 : upd _ o15 _ = J25
    obtain ⟨s0, zo15⟩ := grown e0 ho15
    clear e0
    have no15 := (hJ24.ne ho15).1
    have hJ25 := hJ24.but s0
    have sJ := sJ.trans s0
    have sT := sT.trans s0
    have zD := s0 _ _ zD
    have zb1 := s0 _ _ zb1
    have zb2 := s0 _ _ zb2
    have zb3 := s0 _ _ zb3
    have zb4 := s0 _ _ zb4
    have zb5 := s0 _ _ zb5
    have zb6 := s0 _ _ zb6
    have zb7 := s0 _ _ zb7
    have zb8 := s0 _ _ zb8
    have zb9 := s0 _ _ zb9
    have zbl := s0 _ _ zbl
    have zo1 := s0 _ _ zo1
    have zo2 := s0 _ _ zo2
    have zo3 := s0 _ _ zo3
    have zo4 := s0 _ _ zo4
    have zo5 := s0 _ _ zo5
    have zo6 := s0 _ _ zo6
    have zo7 := s0 _ _ zo7
    have zo8 := s0 _ _ zo8
    have zo9 := s0 _ _ zo9
    have zo10 := s0 _ _ zo10
    have zo11 := s0 _ _ zo11
    have zo12 := s0 _ _ zo12
    have zo13 := s0 _ _ zo13
    have zo14 := s0 _ _ zo14
    clear s0 ho15 hJ24
    rw [cut_drop] at zo15
    refine ⟨o14, o15, _, _, rfl, rfl, zo14, zo15, (by rw [List.length_drop, List.length_map, xl]; exact Nat.le_trans (by show 1 + (n - 1) ≤ 11; omega) (by decide)), fun o16 ho16 => ?_⟩
    generalize e0 : upd _ o16 _ = J26
    obtain ⟨s0, zo16⟩ := grown e0 ho16
    clear e0
    have no16 := (hJ25.ne ho16).1
    have hJ26 := hJ25.but s0
    have sJ := sJ.trans s0
    have sT := sT.trans s0
    have zD := s0 _ _ zD
    have zb1 := s0 _ _ zb1
    have zb2 := s0 _ _ zb2
    have zb3 := s0 _ _ zb3
    have zb4 := s0 _ _ zb4
    have zb5 := s0 _ _ zb5
    have zb6 := s0 _ _ zb6
    have zb7 := s0 _ _ zb7
    have zb8 := s0 _ _ zb8
    have zb9 := s0 _ _ zb9
    have zbl := s0 _ _ zbl
    have zo1 := s0 _ _ zo1
    have zo2 := s0 _ _ zo2
    have zo3 := s0 _ _ zo3
    have zo4 := s0 _ _ zo4
    have zo5 := s0 _ _ zo5
    have zo6 := s0 _ _ zo6
    have zo7 := s0 _ _ zo7
    have zo8 := s0 _ _ zo8
    have zo9 := s0 _ _ zo9
    have zo10 := s0 _ _ zo10
    have zo11 := s0 _ _ zo11
    have zo12 := s0 _ _ zo12
    have zo13 := s0 _ _ zo13
    have zo14 := s0 _ _ zo14
    have zo15 := s0 _ _ zo15
    clear s0 ho16 hJ25
    refine ⟨(by show 1 ≤ sizeLine; decide), fun o17 ho17 => ?_⟩
    generalize e0 : upd _ o17 _ = J27
    obtain ⟨s0, zo17⟩ := grown e0 ho17
    clear e0
    have no17 := (hJ26.ne ho17).1
    have hJ27 := hJ26.but s0
    have sJ := sJ.trans s0
    have sT := sT.trans s0
    have zD := s0 _ _ zD
    have zb1 := s0 _ _ zb1
    have zb2 := s0 _ _ zb2
    have zb3 := s0 _ _ zb3
    have zb4 := s0 _ _ zb4
    have zb5 := s0 _ _ zb5
    have zb6 := s0 _ _ zb6
    have zb7 := s0 _ _ zb7
    have zb8 := s0 _ _ zb8
    have zb9 := s0 _ _ zb9
    have zbl := s0 _ _ zbl
    have zo1 := s0 _ _ zo1
    have zo2 := s0 _ _ zo2
    have zo3 := s0 _ _ zo3
    have zo4 := s0 _ _ zo4
    have zo5 := s0 _ _ zo5
    have zo6 := s0 _ _ zo6
    have zo7 := s0 _ _ zo7
    have zo8 := s0 _ _ zo8
    have zo9 := s0 _ _ zo9
    have zo10 := s0 _ _ zo10
    have zo11 := s0 _ _ zo11
    have zo12 := s0 _ _ zo12
    have zo13 := s0 _ _ zo13
    have zo14 := s0 _ _ zo14
    have zo15 := s0 _ _ zo15
    have zo16 := s0 _ _ zo16
    clear s0 ho17 hJ26
    refine ⟨_, rfl, false, D, _, rfl, .of zD, fun _ o18 ho18 => ?_, fun z => by cases z⟩
    generalize e0 : upd _ o18 _ = J28
    obtain ⟨s0, zo18⟩ := grown e0 ho18
    clear e0
    have no18 := (hJ27.ne ho18).1
    have hJ28 := hJ27.but s0
    have sJ := sJ.trans s0
    have sT := sT.trans s0
    have zD := s0 _ _ zD
    have zb1 := s0 _ _ zb1
    have zb2 := s0 _ _ zb2
    have zb3 := s0 _ _ zb3
    have zb4 := s0 _ _ zb4
    have zb5 := s0 _ _ zb5
    have zb6 := s0 _ _ zb6
    have zb7 := s0 _ _ zb7
    have zb8 := s0 _ _ zb8
    have zb9 := s0 _ _ zb9
    have zbl := s0 _ _ zbl
    have zo1 := s0 _ _ zo1
    have zo2 := s0 _ _ zo2
    have zo3 := s0 _ _ zo3
    have zo4 := s0 _ _ zo4
    have zo5 := s0 _ _ zo5
    have zo6 := s0 _ _ zo6
    have zo7 := s0 _ _ zo7
    have zo8 := s0 _ _ zo8
    have zo9 := s0 _ _ zo9
    have zo10 := s0 _ _ zo10
    have zo11 := s0 _ _ zo11
    have zo12 := s0 _ _ zo12
    have zo13 := s0 _ _ zo13
    have zo14 := s0 _ _ zo14
    have zo15 := s0 _ _ zo15
    have zo16 := s0 _ _ zo16
    have zo17 := s0 _ _ zo17
    clear s0 ho18 hJ27
    refine ⟨(by show 1 ≤ sizeLine; decide), fun o19 ho19 => ?_⟩
    generalize e0 : upd _ o19 _ = J29
    obtain ⟨s0, zo19⟩ := grown e0 ho19
    clear e0
    have no19 := (hJ28.ne ho19).1
    have hJ29 := hJ28.but s0
    have sJ := sJ.trans s0
    have sT := sT.trans s0
    have zD := s0 _ _ zD
    have zb1 := s0 _ _ zb1
    have zb2 := s0 _ _ zb2
    have zb3 := s0 _ _ zb3
    have zb4 := s0 _ _ zb4
    have zb5 := s0 _ _ zb5
    have zb6 := s0 _ _ zb6
    have zb7 := s0 _ _ zb7
    have zb8 := s0 _ _ zb8
    have zb9 := s0 _ _ zb9
    have zbl := s0 _ _ zbl
    have zo1 := s0 _ _ zo1
    have zo2 := s0 _ _ zo2
    have zo3 := s0 _ _ zo3
    have zo4 := s0 _ _ zo4
    have zo5 := s0 _ _ zo5
    have zo6 := s0 _ _ zo6
    have zo7 := s0 _ _ zo7
    have zo8 := s0 _ _ zo8
    have zo9 := s0 _ _ zo9
    have zo10 := s0 _ _ zo10
    have zo11 := s0 _ _ zo11
    have zo12 := s0 _ _ zo12
    have zo13 := s0 _ _ zo13
    have zo14 := s0 _ _ zo14
    have zo15 := s0 _ _ zo15
    have zo16 := s0 _ _ zo16
    have zo17 := s0 _ _ zo17
    have zo18 := s0 _ _ zo18
    clear s0 ho19 hJ28
    refine ⟨_, rfl, o19, (n : Nat), _, rfl, rfl, zo19, by omega, by omega, (by rw [Int.toNat_natCast]; show 1 * n ≤ sizeLine; exact Nat.le_trans (by omega : 1 * n ≤ 6) (by decide)), fun o20 ho20 => ?_⟩
    generalize e0 : upd _ o20 _ = J30
    obtain ⟨s0, zo20⟩ := grown e0 ho20
    clear e0
    have no20 := (hJ29.ne ho20).1
    have hJ30 := hJ29.but s0
    have sJ := sJ.trans s0
    have sT := sT.trans s0
    have zD := s0 _ _ zD
    have zb1 := s0 _ _ zb1
    have zb2 := s0 _ _ zb2
    have zb3 := s0 _ _ zb3
    have zb4 := s0 _ _ zb4
    have zb5 := s0 _ _ zb5
    have zb6 := s0 _ _ zb6
    have zb7 := s0 _ _ zb7
    have zb8 := s0 _ _ zb8
    have zb9 := s0 _ _ zb9
    have zbl := s0 _ _ zbl
    have zo1 := s0 _ _ zo1
    have zo2 := s0 _ _ zo2
    have zo3 := s0 _ _ zo3
    have zo4 := s0 _ _ zo4
    have zo5 := s0 _ _ zo5
    have zo6 := s0 _ _ zo6
    have zo7 := s0 _ _ zo7
    have zo8 := s0 _ _ zo8
    have zo9 := s0 _ _ zo9
    have zo10 := s0 _ _ zo10
    have zo11 := s0 _ _ zo11
    have zo12 := s0 _ _ zo12
    have zo13 := s0 _ _ zo13
    have zo14 := s0 _ _ zo14
    have zo15 := s0 _ _ zo15
    have zo16 := s0 _ _ zo16
    have zo17 := s0 _ _ zo17
    have zo18 := s0 _ _ zo18
    have zo19 := s0 _ _ zo19
    clear s0 ho20 hJ29
    refine ⟨(by show 2 ≤ sizeLine; decide), fun o21 ho21 => ?_⟩
    generalize e0 : upd _ o21 _ = J31
    obtain ⟨s0, zo21⟩ := grown e0 ho21
    clear e0
    have no21 := (hJ30.ne ho21).1
    have hJ31 := hJ30.but s0
    have sJ := sJ.trans s0
    have sT := sT.trans s0
    have zD := s0 _ _ zD
    have zb1 := s0 _ _ zb1
    have zb2 := s0 _ _ zb2
    have zb3 := s0 _ _ zb3
    have zb4 := s0 _ _ zb4
    have zb5 := s0 _ _ zb5
    have zb6 := s0 _ _ zb6
    have zb7 := s0 _ _ zb7
    have zb8 := s0 _ _ zb8
    have zb9 := s0 _ _ zb9
    have zbl := s0 _ _ zbl
    have zo1 := s0 _ _ zo1
    have zo2 := s0 _ _ zo2
    have zo3 := s0 _ _ zo3
    have zo4 := s0 _ _ zo4
    have zo5 := s0 _ _ zo5
    have zo6 := s0 _ _ zo6
    have zo7 := s0 _ _ zo7
    have zo8 := s0 _ _ zo8
    have zo9 := s0 _ _ zo9
    have zo10 := s0 _ _ zo10
    have zo11 := s0 _ _ zo11
    have zo12 := s0 _ _ zo12
    have zo13 := s0 _ _ zo13
    have zo14 := s0 _ _ zo14
    have zo15 := s0 _ _ zo15
    have zo16 := s0 _ _ zo16
    have zo17 := s0 _ _ zo17
    have zo18 := s0 _ _ zo18
    have zo19 := s0 _ _ zo19
    have zo20 := s0 _ _ zo20
    clear s0 ho21 hJ30
    -- the 49 points
    refine ⟨49, rfl, by decide, by decide, fun o22 ho22 => ?_⟩
    have no22 := (hJ31.ne ho22).1
    refine lc_rel (fun i y H' => RLd H' y ((0 + (i : Int)) :: xs.drop 1)) (walk_range (lo := 0) (n := 49)) ho22 (by decide) (fun _ _ => trivial) (fun i y H2 H3 s h => h.same s) ?_ ?_
    · rintro i x Q1 Q2' hi q1 ⟨acc2, hacc2⟩ ⟨rfl, rfl⟩ Rk kk
      have w1 := q1 _ _ zD
      refine ⟨rfl, ?_⟩
      refine ⟨_, rfl, (by show 1 ≤ sizeLine; decide), fun l1 hl1 => ?_⟩
      generalize e0 : upd _ l1 _ = Q2
      obtain ⟨q2, y1⟩ := grown e0 hl1
      clear e0
      refine ⟨_, rfl, 1, rfl, D, _, rfl, .of (q2 _ _ w1), fun l2 hl2 => ?_⟩
      rw [cut_drop]
      generalize e0 : upd _ l2 _ = Q3
      obtain ⟨q3, y2⟩ := grown e0 hl2
      clear e0
      refine ⟨l1, l2, _, _, rfl, rfl, q3 _ _ y1, y2, (by rw [List.length_drop, List.length_map, xl]; exact Nat.le_trans (by show 1 + (n - 1) ≤ 11; omega) (by decide)), fun l3 hl3 => ?_⟩
      refine kk _ _ (q2.trans (q3.trans (same_upd hl3))) ⟨l3, rfl, ?_⟩
      rw [off_ne (fun z => by rw [z, q3 _ _ (q2 _ _ hacc2)] at hl3; cases hl3), upd_same, ← List.map_drop]
      rfl
    rintro K6 ⟨lxs, llx, zo22, s6, hlx⟩
    have hlx : ∀ (i : Nat) y, lxs[i]? = some y → RLd K6 y ((0 + (i : Int)) :: xs.drop 1) := fun i y e => (hlx i y e).same (off_same o22 K6)
    have hC6 := hJ31.but s6
    have sJ := sJ.trans s6
    have zD := s6 _ _ zD
    have zb1 := s6 _ _ zb1
    have zb2 := s6 _ _ zb2
    have zb3 := s6 _ _ zb3
    have zb4 := s6 _ _ zb4
    have zb5 := s6 _ _ zb5
    have zb6 := s6 _ _ zb6
    have zb7 := s6 _ _ zb7
    have zb8 := s6 _ _ zb8
    have zb9 := s6 _ _ zb9
    have zbl := s6 _ _ zbl
    have zo1 := s6 _ _ zo1
    have zo2 := s6 _ _ zo2
    have zo3 := s6 _ _ zo3
    have zo4 := s6 _ _ zo4
    have zo5 := s6 _ _ zo5
    have zo6 := s6 _ _ zo6
    have zo7 := s6 _ _ zo7
    have zo8 := s6 _ _ zo8
    have zo9 := s6 _ _ zo9
    have zo10 := s6 _ _ zo10
    have zo11 := s6 _ _ zo11
    have zo12 := s6 _ _ zo12
    have zo13 := s6 _ _ zo13
    have zo14 := s6 _ _ zo14
    have zo15 := s6 _ _ zo15
    have zo16 := s6 _ _ zo16
    have zo17 := s6 _ _ zo17
    have zo18 := s6 _ _ zo18
    have zo19 := s6 _ _ zo19
    have zo20 := s6 _ _ zo20
    have zo21 := s6 _ _ zo21
    refine ⟨(by show 14 ≤ sizeLine; decide), fun ol hol => ?_⟩
    have nol := (hC6.ne hol).1
    generalize e0 : upd _ ol _ = K7
    obtain ⟨s7, zol⟩ := grown e0 hol
    clear e0
    have hC7 := hC6.but s7
    have hT7 := hT3.ext (sT.trans (s6.trans s7))
    have sJ := sJ.trans s7
    have zD := s7 _ _ zD
    have zb1 := s7 _ _ zb1
    have zb2 := s7 _ _ zb2
    have zb3 := s7 _ _ zb3
    have zb4 := s7 _ _ zb4
    have zb5 := s7 _ _ zb5
    have zb6 := s7 _ _ zb6
    have zb7 := s7 _ _ zb7
    have zb8 := s7 _ _ zb8
    have zb9 := s7 _ _ zb9
    have zbl := s7 _ _ zbl
    have zo1 := s7 _ _ zo1
    have zo2 := s7 _ _ zo2
    have zo3 := s7 _ _ zo3
    have zo4 := s7 _ _ zo4
    have zo5 := s7 _ _ zo5
    have zo6 := s7 _ _ zo6
    have zo7 := s7 _ _ zo7
    have zo8 := s7 _ _ zo8
    have zo9 := s7 _ _ zo9
    have zo10 := s7 _ _ zo10
    have zo11 := s7 _ _ zo11
    have zo12 := s7 _ _ zo12
    have zo13 := s7 _ _ zo13
    have zo14 := s7 _ _ zo14
    have zo15 := s7 _ _ zo15
    have zo16 := s7 _ _ zo16
    have zo17 := s7 _ _ zo17
    have zo18 := s7 _ _ zo18
    have zo19 := s7 _ _ zo19
    have zo20 := s7 _ _ zo20
    have zo21 := s7 _ _ zo21
    have zo22 := s7 _ _ zo22
    have hlx : ∀ (i : Nat) y, lxs[i]? = some y → RLd K7 y ((0 + (i : Int)) :: xs.drop 1) := fun i y e => (hlx i y e).same s7
    obtain ⟨l7, hl7⟩ := coil_lst hC7
    have B7 := bs_off c K7
    have gD := offT_get zD nD (fun ps e => by cases e)
    have gb1 := offT_get zb1 nb1 (fun ps e => by cases e)
    have gb2 := offT_get zb2 nb2 (fun ps e => by cases e)
    have gb3 := offT_get zb3 nb3 (fun ps e => by cases e)
    have gb4 := offT_get zb4 nb4 (fun ps e => by cases e)
    have gb5 := offT_get zb5 nb5 (fun ps e => by cases e)
    have gb6 := offT_get zb6 nb6 (fun ps e => by cases e)
    have gb7 := offT_get zb7 nb7 (fun ps e => by cases e)
    have gb8 := offT_get zb8 nb8 (fun ps e => by cases e)
    have gb9 := offT_get zb9 nb9 (fun ps e => by cases e)
    have gbl := offT_get zbl nbl (fun ps e => by cases e)
    have go1 := offT_get zo1 no1 (fun ps e => by cases e)
    have go2 := offT_get zo2 no2 (fun ps e => by cases e)
    have go3 := offT_get zo3 no3 (fun ps e => by cases e)
    have go4 := offT_get zo4 no4 (fun ps e => by cases e)
    have go5 := offT_get zo5 no5 (fun ps e => by cases e)
    have go6 := offT_get zo6 no6 (fun ps e => by cases e)
    have go7 := offT_get zo7 no7 (fun ps e => by cases e)
    have go8 := offT_get zo8 no8 (fun ps e => by cases e)
    have go9 := offT_get zo9 no9 (fun ps e => by cases e)
    have go10 := offT_get zo10 no10 (fun ps e => by cases e)
    have go11 := offT_get zo11 no11 (fun ps e => by cases e)
    have go12 := offT_get zo12 no12 (fun ps e => by cases e)
    have go13 := offT_get zo13 no13 (fun ps e => by cases e)
    have go14 := offT_get zo14 no14 (fun ps e => by cases e)
    have go15 := offT_get zo15 no15 (fun ps e => by cases e)
    have go16 := offT_get zo16 no16 (fun ps e => by cases e)
    have go17 := offT_get zo17 no17 (fun ps e => by cases e)
    have go18 := offT_get zo18 no18 (fun ps e => by cases e)
    have go19 := offT_get zo19 no19 (fun ps e => by cases e)
    have go20 := offT_get zo20 no20 (fun ps e => by cases e)
    have go21 := offT_get zo21 no21 (fun ps e => by cases e)
    have go22 := offT_get zo22 no22 (fun ps e => by cases e)
    have gol := offT_get zol nol (fun ps e => by cases e)
    clear zD zb1 zb2 zb3 zb4 zb5 zb6 zb7 zb8 zb9 zbl zo1 zo2 zo3 zo4 zo5 zo6 zo7 zo8 zo9 zo10 zo11 zo12 zo13 zo14 zo15 zo16 zo17 zo18 zo19 zo20 zo21 zo22 zol nD nb1 nb2 nb3 nb4 nb5 nb6 nb7 nb8 nb9 nbl no1 no2 no3 no4 no5 no6 no7 no8 no9 no10 no11 no12 no13 no14 no15 no16 no17 no18 no19 no20 no21 no22 nol
    have glx : ∀ (i : Nat) y, lxs[i]? = some y → RLd (OffT c K7) y ((0 + (i : Int)) :: xs.drop 1) := fun i y e => by
      obtain ⟨l, e1, e2⟩ := hlx i y e
      refine ⟨l, e1, offT_get e2 (fun z => ?_) LT⟩
      obtain ⟨_, _, _, i1, i2, hc, _⟩ := hC7
      rw [z, hc] at e2
      injection e2 with e2
      injection e2 with e2
      injection e2 with e2
      cases e2
    have hLs := (hLs.same sJ).offT hl7
    have hLm := (hLm.same sJ).offT hl7
    have sG : Same (OffT c K7) K7 := offT_same
    generalize OffT c K7 = G at B7 gD gb1 gb2 gb3 gb4 gb5 gb6 gb7 gb8 gb9 gbl go1 go2 go3 go4 go5 go6 go7 go8 go9 go10 go11 go12 go13 go14 go15 go16 go17 go18 go19 go20 go21 go22 gol glx hLs hLm sG
    clear sJ hl7 hlx Bb
    have go3 : G o3 = some (.lst ((xs.dropLast).map V.int)) := by
      rw [go3, cut_last (by rw [List.length_map]; omega), List.map_dropLast]
    have go7 : G o7 = some (.lst ((xs ++ [0, 0, 0, 0, 0]).map V.int)) := by rw [go7, List.map_append]
    have go9 : G o9 = some (.lst ((xs.take 1).map V.int)) := by
      rw [go9, show cutV (xs.map V.int) none (some 1) = (xs.map V.int).take 1 from cut_to _ 1, List.map_take]
    have go20 : G o20 = some (.lst (List.replicate n (V.str "1"))) := by
      rw [go20, Int.toNat_natCast, List.flatten_replicate_singleton]
    have gb4 : G b4 = some (.lst (List.replicate 11 (V.ref sa))) := by
      rw [gb4, List.flatten_replicate_singleton]
      rfl
    have hbad := bad_all U hLs hLm nne gb1 gb2 gb4 gb5 gb6 gb7 gb8 gb9
    have hodd := odd_all (K := K) n2 n6 xl gD go1 go2 go3 go4 go7 go8 go9 go10 go11 go12 go13 go16 go17 go18 go20 go21 (pts49 (K := K) go22 llx glx (by rw [List.length_drop]; omega))
    clear gb1 gb2 gb3 gb4 gb5 gb6 gb7 gb8 gb9 go1 go2 go3 go4 go5 go6 go7 go8 go9 go10 go11 go12 go13 go14 go15 go16 go17 go18 go19 go20 go21 go22 glx llx s6 s7 sT hT3 hC6
    refine ⟨_, rfl, false, ol, rfl, ⟨_, .of (sG _ _ gol)⟩, ?_⟩
    refine for_it (walk_seq (b := false) (xs := [V.non, .ref o1, .int 7, .str "12", .ref D, .ref o2, .ref o4, .ref o8, .ref o10, .ref o12, .ref o13, .ref o17, .ref o21, .ref o22])) (fun i σ Hc => ∃ x9 mm, σ = [some (V.ref c), some (V.int (n : Nat)), some (V.ref sa), some (V.ref mo), some (V.ref D), none, some (V.ref bl), some (V.ref ol), none, x9, none] ∧ mm ≤ m + 20 + i ∧ Coil Hc c d ns mm ∧ LamX.Tabs [(PT, qL), (PU, qU)] Hc ∧ Same G Hc) ⟨none, _, rfl, Nat.le_refl _, hC7, hT7, sG⟩ (fun i σ Hc _ ⟨_, _, _, _, _, _, s⟩ => .of (s _ _ gol)) ?_ ?_
    · rintro i v σ Hc Hc' hi ⟨x9, mm, rfl, hmm, hC, hT, sc⟩ ⟨rfl, hv⟩
      have hi : i < 14 := hi
      refine ⟨hT, fun H14 eN T14 Qn => ?_⟩
      have s14 := B7.ext sc eN
      have hC14 := hC.ext eN
      refine ⟨_, rfl, _, rfl, _, rfl, c, d, ns, mm, false, bl, _, rfl, hC14, by omega, .of ((B7.offc s14) _ _ gbl), (by show 0 < 10; decide), (by show 10 ≤ 100000; decide), fun j y H15 hy hC15 sb15 => ?_⟩
      have s15 := B7.but s14 sb15
      have T15 := tabs_but T14 hC14 sb15
      refine lo_badP ((hodd v (List.mem_of_getElem? hv)).same s15) ((hbad y (List.mem_of_getElem? hy)).same s15) (raises_misfit hrP fun p Hy sy zy => ?_)
      refine ⟨(by show 2 ≤ sizeLine; decide), fun t ht => ?_⟩
      have s1 := same_upd (o := .tup [.str "point", .str "points"]) ht
      refine ⟨_, _, dpT (.of (s1 _ _ zy)) (by decide +kernel), dpT (.of upd_same) (by decide +kernel), shapedT (by decide +kernel), shapedT (by decide +kernel), _, rfl, ?_⟩
      rw [eq_pair (.str "point") (.str "points") (by decide +kernel)]
      exact iteF ⟨_, mm + 1, rfl, by omega, hC15.but (sy.trans s1), T15.ext (sy.trans s1), s15.trans (sy.trans s1)⟩
    · rintro σ Hc ⟨x9, mm, rfl, hmm, hC, hT, sc⟩
      have hmm : mm ≤ m + 40 := Nat.le_trans hmm (by show m + 20 + 14 ≤ m + 40; omega)
      refine ⟨_, rfl, false, bl, rfl, ⟨_, .of (sc _ _ gbl)⟩, ?_⟩
      refine for_it (walk_seq (b := false) (xs := [V.non, .int 5, .ref sa, .ref b1, .ref b2, .ref b4, .ref b6, .str "same", .ref b8, .ref b9])) (fun i σ Hc => ∃ x9, σ = [some (V.ref c), some (V.int (n : Nat)), some (V.ref sa), some (V.ref mo), some (V.ref D), none, some (V.ref bl), some (V.ref ol), none, x9, none] ∧ Coil Hc c d ns mm ∧ LamX.Tabs [(PT, qL), (PU, qU)] Hc ∧ Same G Hc) ⟨x9, rfl, hC, hT, sc⟩ (fun i σ Hc _ ⟨_, _, _, _, s⟩ => .of (s _ _ gbl)) ?_ ?_
      · rintro i v σ Hd Hd' hi ⟨x9, rfl, hC, hT, sc⟩ ⟨rfl, hv⟩
        refine ⟨hT, fun H14 eN T14 Qn => ?_⟩
        have s14 := B7.ext sc eN
        have hC14 := hC.ext eN
        refine ⟨_, rfl, (by show 1 ≤ sizeLine; decide), fun l1 hl1 => ?_⟩
        generalize e0 : upd _ l1 _ = Q2
        obtain ⟨q2, y1⟩ := grown e0 hl1
        clear e0
        refine ⟨_, rfl, 1, rfl, D, _, rfl, .of (q2 _ _ (s14 _ _ gD)), fun l2 hl2 => ?_⟩
        rw [cut_drop]
        generalize e0 : upd _ l2 _ = Q3
        obtain ⟨q3, y2⟩ := grown e0 hl2
        clear e0
        refine ⟨l1, l2, _, _, rfl, rfl, q3 _ _ y1, y2, (by rw [List.length_drop, List.length_map, xl]; exact Nat.le_trans (by show 1 + (n - 1) ≤ 11; omega) (by decide)), fun l3 hl3 => ?_⟩
        generalize e0 : upd _ l3 _ = Q4
        obtain ⟨q4, y3⟩ := grown e0 hl3
        clear e0
        refine ⟨(by show 2 ≤ sizeLine; decide), fun l4 hl4 => ?_⟩
        generalize e0 : upd _ l4 _ = Q5
        obtain ⟨q5, y4⟩ := grown e0 hl4
        clear e0
        have q25 := q2.trans (q3.trans (q4.trans q5))
        have s15 := s14.trans q25
        have hC15 := hC14.but q25
        have T15 := T14.ext q25
        have y3' : Q5 l3 = some (.lst (((9 : Int) :: xs.drop 1).map V.int)) := by
          rw [q5 _ _ y3, ← List.map_drop]
          rfl
        have ld : ((9 : Int) :: xs.drop 1).length = n := by rw [List.length_cons, List.length_drop, xl]; omega
        have ptsW : PtsAt K Q5 (.ref l4) [xs, 9 :: xs.drop 1] n := ⟨false, l4, _, rfl, .of y4, .cons (seqsL (s15 _ _ gD) (by rw [List.length_map, xl]; exact six n6)) (.one (seqsL y3' (by rw [List.length_map, ld]; exact six n6))), (fun k hk => by
          rcases List.mem_cons.mp hk with e | hk
          · rw [e]; exact xl
          · rw [List.mem_singleton.mp hk]; exact ld), by show 2 ≤ 48; decide⟩
        refine ⟨_, rfl, lo_badG (Asks.lst y4) ptsW n2 n6 (fun z => by cases z) (two_nd hx4) ((hbad v (List.mem_of_getElem? hv)).same s15) (raises_misfit hrB fun p Hy sy zy => ?_)⟩
        refine ⟨(by show 2 ≤ sizeLine; decide), fun t ht => ?_⟩
        have s1 := same_upd (o := .tup [.str "likeness", .str "given"]) ht
        refine ⟨_, _, dpT (.of (s1 _ _ zy)) (by decide +kernel), dpT (.of upd_same) (by decide +kernel), shapedT (by decide +kernel), shapedT (by decide +kernel), _, rfl, ?_⟩
        rw [eq_pair (.str "likeness") (.str "given") (by decide +kernel)]
        exact iteF ⟨_, rfl, hC15.but (sy.trans s1), T15.ext (sy.trans s1), s15.trans (sy.trans s1)⟩
      · rintro σ Hd ⟨x9, rfl, hC, hT, sc⟩
        have zD := sc _ _ gD
        refine ⟨48, rfl, by decide, by decide, fun o23 ho23 => ?_⟩
        refine lc_rel (fun i y H' => RLd H' y ((0 + (i : Int)) :: xs.drop 1)) (walk_range (lo := 0) (n := 48)) ho23 (by decide) (fun _ _ => trivial) (fun i y H2 H3 s h => h.same s) ?_ ?_
        · rintro i x Q1 Q2' hi q1 ⟨acc2, hacc2⟩ ⟨rfl, rfl⟩ Rk kk
          have w1 := q1 _ _ zD
          refine ⟨rfl, ?_⟩
          refine ⟨_, rfl, (by show 1 ≤ sizeLine; decide), fun l1 hl1 => ?_⟩
          generalize e0 : upd _ l1 _ = Q2
          obtain ⟨q2, y1⟩ := grown e0 hl1
          clear e0
          refine ⟨_, rfl, 1, rfl, D, _, rfl, .of (q2 _ _ w1), fun l2 hl2 => ?_⟩
          rw [cut_drop]
          generalize e0 : upd _ l2 _ = Q3
          obtain ⟨q3, y2⟩ := grown e0 hl2
          clear e0
          refine ⟨l1, l2, _, _, rfl, rfl, q3 _ _ y1, y2, (by rw [List.length_drop, List.length_map, xl]; exact Nat.le_trans (by show 1 + (n - 1) ≤ 11; omega) (by decide)), fun l3 hl3 => ?_⟩
          refine kk _ _ (q2.trans (q3.trans (same_upd hl3))) ⟨l3, rfl, ?_⟩
          rw [off_ne (fun z => by rw [z, q3 _ _ (q2 _ _ hacc2)] at hl3; cases hl3), upd_same, ← List.map_drop]
          rfl
        rintro K8 ⟨pxs, lpx, z23, s8, hpx⟩
        have hpx : ∀ (i : Nat) y, pxs[i]? = some y → RLd K8 y ((0 + (i : Int)) :: xs.drop 1) := fun i y e => (hpx i y e).same (off_same o23 K8)
        have hC8 := hC.but s8
        have s08 := sc.trans s8
        refine ⟨_, rfl, (by show 1 ≤ sizeLine; decide), fun l1 hl1 => ?_⟩
        have n1 := (hC8.ne hl1).1
        generalize e0 : upd _ l1 _ = Q2
        obtain ⟨q2, y1⟩ := grown e0 hl1
        clear e0
        refine ⟨_, rfl, (by show 3 ≤ sizeLine; decide), fun l2 hl2 => ?_⟩
        have hC9 := hC8.but q2
        have n2' := (hC9.ne hl2).1
        generalize e0 : upd _ l2 _ = Q3
        obtain ⟨q3, y2⟩ := grown e0 hl2
        clear e0
        have n23 := (hC.ne ho23).1
        refine ⟨c, d, ns, mm, false, l2, _, rfl, hC9.but q3, by omega, .of (by rw [off_ne n2']; exact y2), (by show 0 < 3; decide), (by show 3 ≤ 100000; decide), fun j y Q4 hy hCa sba => ?_⟩
        have s0a := B7.but (s08.trans (q2.trans q3)) sba
        obtain ⟨kn, rfl, hkn⟩ : ∃ kn : Nat, y = .int (kn : Nat) ∧ kn ≤ 10 := by
          have := List.mem_of_getElem? hy
          simp only [List.mem_cons, List.not_mem_nil, or_false] at this
          rcases this with rfl | rfl | rfl
          · exact ⟨0, rfl, by decide⟩
          · exact ⟨1, rfl, by decide⟩
          · exact ⟨10, rfl, by decide⟩
        have y1a := sba _ _ n1 (q3 _ _ y1)
        have z23a := sba _ _ n23 (q3 _ _ (q2 _ _ z23))
        refine ⟨l1, (kn : Nat), _, rfl, rfl, y1a, by omega, by omega, (by rw [Int.toNat_natCast]; show 1 * kn ≤ sizeLine; exact Nat.le_trans (by omega : 1 * kn ≤ 10) (by decide)), fun l3 hl3 => ?_⟩
        rw [Int.toNat_natCast, List.flatten_replicate_singleton]
        generalize e0 : upd _ l3 _ = Q5
        obtain ⟨q5, y3⟩ := grown e0 hl3
        clear e0
        have s0b := s0a.trans q5
        have z23b := q5 _ _ z23a
        have ldr : ((0 : Int) :: xs.drop 1).length = n := by rw [List.length_cons, List.length_drop, xl]; omega
        have dl : (xs.drop 1).length + 1 = n := ldr
        have hpxb : Rep RLd Q5 pxs (ks48 (xs.drop 1)) := by
          refine rep48 lpx fun i y e => ?_
          obtain ⟨l, e1, e2⟩ := hpx i y e
          have nl : l ≠ c := fun z => by
            obtain ⟨_, _, _, i1, i2, hc, _⟩ := hC8
            rw [z, hc] at e2
            injection e2 with e2
            injection e2 with e2
            injection e2 with e2
            cases e2
          exact ⟨l, e1, q5 _ _ (sba _ _ nl (q3 _ _ (q2 _ _ e2)))⟩
        have w48 : ∀ k ∈ ks48 (xs.drop 1), k.length = n := fun k hk => (ks48_w _ k hk).trans dl
        have ptsZ : PtsAt K Q5 (.ref o23) (ks48 (xs.drop 1)) n := ⟨false, o23, pxs, rfl, .of z23b, ⟨hpxb.1, fun i x k hx hk => (hpxb.2 i x k hx hk).ri (by rw [w48 k (List.mem_of_getElem? hk)]; exact n6)⟩, w48, by rw [ks48_len]; decide⟩
        have hLb := hLs.same s0b
        have givZ : GivAt K C Q5 (.ref l3) (List.replicate kn (same0 n)) n := ⟨false, l3, _, rfl, .of y3, ⟨by rw [List.length_replicate, List.length_replicate], fun i x q hx hq => by
          rw [List.eq_of_mem_replicate (List.mem_of_getElem? hx), List.eq_of_mem_replicate (List.mem_of_getElem? hq)]
          exact ⟨sa, rfl, hLb⟩⟩, (fun q hq => by rw [List.eq_of_mem_replicate hq]; exact rng_len n), by rw [List.length_replicate]; exact hkn⟩
        refine lo_good (Asks.lst z23b) (Asks.lst y3) ptsZ n2 n6 (fun z => by have := ks48_len (xs.drop 1); rw [z] at this; cases this) (ks48_nd _) givZ (fun z => by rw [same_leads w48] at z; cases z) (fun _ => ⟨fun A pA lA => absurd (pA.le (same_made n2 n6)) (by show ¬ (A.length ≤ 1); omega), fun A pA cA lA r H20 txs js s20 hr zr hrep hperm _ => ?_⟩)
        rw [same_only n2 n6 pA cA hperm] at hrep
        have t1 : txs.length = 1 := hrep.1
        refine ⟨_, rfl, true, r, txs, rfl, .of zr, rfl, ?_⟩
        rw [dec_int, t1]
        obtain ⟨x, hx, a, rfl, hL⟩ := hrep.at (i := 0) (a := same0 n) rfl
        refine ⟨_, rfl, iteT ⟨_, rfl, true, r, txs, 0, _, rfl, rfl, .of zr, atI_nat (j := 0) hx, _, rfl, a, _, _, _, rfl, hL, .lik (hLs.same (s0b.trans s20)), ?_⟩⟩
        rw [show likEq (same0 n).1 (same0 n).2 (rng n) (List.replicate n 1) = true from likEq_iff.mpr rfl]
        exact k _
end
end K0


set_option Elab.async false
set_option linter.all false
set_option maxRecDepth 100000
set_option maxHeartbeats 8000000
set_option exponentiation.threshold 100000
/-! law -/
namespace K0
open PySem PySem.Spec PyProof.Rows L2 RZ K0z KdN
def spLaw (K : PySem.W.Frag) (PT PU : Addr) : Sp := fun vs H Q _ => ∃ (a : Addr) (ns : List Int), vs = [.ref a] ∧ SqL K H a (ns.map V.int) ∧ ns.length ≤ 63 ∧ LamX.Tabs [(PT, qL), (PU, qU)] H ∧ ∀ H', Q (.bl true) H'
section
variable {P : Program} {w : World} {K : PySem.W.Frag} {mg : Str → Option Value} {base : Heap} {f f1 f2 f3 f4 PT PU : Addr} {fd : FuncData}
abbrev N_law : List Str := ["script", "keg", "wide"]
theorem sc_law : FnScope N_law ["script"] (defScope st_law) := ⟨rfl, rfl, rfl, by decide +kernel, rfl, by decide +kernel, by decide +kernel⟩
theorem ok_law (F : Fun K "law" "law" st_law f fd) (T : Nm mg) (D__law_keg : Dn P w K mg base 1 "_law_keg" f1 ["script"] (spCoil K)) (D__law_tap : Dn P w K mg base 1 "_law_tap" f2 ["keg", "many"] spTurn)
    (D__law_right : DnG P w K mg base 12 "_law_right" f3 ["keg", "wide"] (spRi K PT PU)) (D__law_refused_right : DnG P w K mg base 12 "_law_refused_right" f4 ["keg"] (spRu K PT PU)) :
    FnG P w K mg base 13 f fd ["script"] (spLaw K PT PU) := by
  refine Fun_okN F sc_law (fun vs H Q E h => ?_) (fun cdv A outer s H vs Q E hG hr h => ?_)
  · obtain ⟨a, ns, rfl, _⟩ := h
    rfl
  · obtain ⟨a, ns, rfl, hS, hl, hT, k⟩ := h
    refine ⟨_, (pss_cons (ps_set (i := 1) sc_law.nd rfl (Or.inl rfl) (pe_dn D__law_keg (hr.mono (by decide)) rfl (pa_cons (pv 0) pa_nil)))
    (pss_cons (ps_for PassesOwn.never rfl (pi_seqK K (pe_tup (pa_cons pe_int (pa_cons pe_int (pa_cons (pe_op op_add pe_int (pe_dn D__law_tap (hr.mono (by decide)) rfl (pa_cons (pv 1) (pa_cons pe_int pa_nil)))) (pa_cons (pe_op op_add pe_int (pe_dn D__law_tap (hr.mono (by decide)) rfl (pa_cons (pv 1) (pa_cons pe_int pa_nil)))) pa_nil)))))) (pg_name (i := 2) sc_law.nd rfl (Or.inl rfl))
    (pss_one (ps_if (pt_not (pt_val (pe_dg D__law_right hG (hr.mono (by decide)) rfl (pa_cons (pv 1) (pa_cons (pv 2) pa_nil))))) (pss_one (ps_ret pe_bl)) pss_nil)))
    (pss_one (ps_ret (pe_dg D__law_refused_right hG (hr.mono (by decide)) rfl (pa_cons (pv 1) pa_nil)))))), ?_⟩
    refine ⟨_, rfl, a, ns, rfl, hS, hl, fun c d0 H1 hcn s1 hC => ?_⟩
    have hT1 := hT.ext s1
    refine ⟨_, rfl, c, d0, _, 0, 3, rfl, hC, by omega, by decide, small9000 (by decide), fun r H2 r0 r1 hC2 sb2 => ?_⟩
    obtain ⟨n, rfl⟩ : ∃ n : Nat, r = (n : Int) := ⟨r.toNat, by omega⟩
    refine ⟨4, n, rfl, rfl, ?_⟩
    have hT2 := tabs_but hT1 hC sb2
    refine ⟨_, rfl, c, d0, _, 1, 4, rfl, hC2, by omega, by decide, small9000 (by decide), fun q H3 q0 q1 hC3 sb3 => ?_⟩
    obtain ⟨m, rfl⟩ : ∃ n : Nat, q = (n : Int) := ⟨q.toNat, by omega⟩
    refine ⟨2, m, rfl, rfl, ?_⟩
    have hT3 := tabs_but hT2 hC2 sb3
    refine ⟨(by show 4 ≤ sizeLine; decide), fun t ht => ?_⟩
    generalize e0 : upd _ t _ = H4
    obtain ⟨s4, zt⟩ := grown e0 ht
    clear e0
    have ntc := (hC3.ne ht).1
    have hT4 := hT3.ext s4
    have hC4 := hC3.but s4
    have SL : ∀ {H : Hp}, H t = some (.tup [.int (2 : Nat), .int (3 : Nat), .int ((4 + n : Nat) : Int), .int ((2 + m : Nat) : Int)]) → SqB K true H t ([2, 3, 4 + n, 2 + m].map fun j : Nat => V.int j) := fun h => Or.inl (.of h)
    refine ⟨true, t, rfl, ⟨_, SL zt⟩, for_it (walk_seq (b := true) (xs := [2, 3, 4 + n, 2 + m].map fun j : Nat => V.int j)) (fun i σ H2 => ∃ (x2 : Option V) (m' : Nat), σ = [some (.ref a), some (.ref c), x2] ∧ m' ≤ 2 + 1000 * i ∧ Coil H2 c d0 (ns.take 61) m' ∧ H2 t = some (.tup [.int (2 : Nat), .int (3 : Nat), .int ((4 + n : Nat) : Int), .int ((2 + m : Nat) : Int)]) ∧ LamX.Tabs [(PT, qL), (PU, qU)] H2) ⟨none, 2, rfl, by omega, hC4, zt, hT4⟩ (fun _ _ _ _ ⟨_, _, _, _, _, h, _⟩ => SL h) ?_ ?_⟩
    · rintro i x σ H2 H3' hi ⟨x2, m', rfl, hm, hC2, z2, hT2⟩ ⟨rfl, hx⟩
      obtain ⟨j, rfl, j2, j6⟩ : ∃ j : Nat, x = .int j ∧ 2 ≤ j ∧ j ≤ 6 := by
        have e := hx
        have hi : i < 4 := hi
        match i, hi, e with
        | 0, _, e => exact ⟨2, (Option.some.inj e).symm, by omega, by omega⟩
        | 1, _, e => exact ⟨3, (Option.some.inj e).symm, by omega, by omega⟩
        | 2, _, e => exact ⟨4 + n, (Option.some.inj e).symm, by omega, by omega⟩
        | 3, _, e => exact ⟨2 + m, (Option.some.inj e).symm, by omega, by omega⟩
      have hi : i < 4 := hi
      refine ⟨_, rfl, _, rfl, c, d0, _, m', j, rfl, hC2, by omega, j2, j6, hT2, fun H5 sb5 hC5 hT5 => ⟨_, rfl, iteF ?_⟩⟩
      exact ⟨_, _, rfl, by omega, hC5, sb5 _ _ ntc z2 (fun ps e => by cases e), hT5⟩
    · rintro σ H2 ⟨x2, m', rfl, hm : m' ≤ 2 + 1000 * 4, hC2, z2, hT2⟩
      exact ⟨_, rfl, c, d0, _, m', rfl, hC2, by omega, hT2, k⟩
end
end K0


set_option Elab.async false
set_option linter.all false
set_option maxRecDepth 100000
set_option maxHeartbeats 4000000
/-! the head's facts of this row -/
namespace E32
open PySem PySem.Spec PyProof.Rows L2 He HZ K0
def fn : List DefD := [dd "is_integer" st_is_integer, dd "is_within" st_is_within, dd "is_list" st_is_list, dd "are_integers" st_are_integers, dd "is_point" st_is_point, dd "are_points" st_are_points, dd "_are_places" st__are_places, dd "likenesses_of" st_likenesses_of, dd "_check_points_and_given" st__check_points_and_given, dd "_leads_of" st__leads_of, dd "led_indexes" st_led_indexes, dd "_made_of" st__made_of, dd "_one_then" st__one_then, dd "_law_keg" st__law_keg, dd "_law_tap" st__law_tap, dd "_law_choose" st__law_choose, dd "_law_stirred" st__law_stirred, dd "_law_one" st__law_one, dd "_law_led" st__law_led, dd "_law_reached" st__law_reached, dd "_law_made" st__law_made, dd "_law_points" st__law_points, dd "_law_strays" st__law_strays, dd "_law_heard" st__law_heard, dd "_law_right" st__law_right, dd "_law_refused_right" st__law_refused_right, dd "law" st_law, dm "Likeness" "__init__" "Likeness.__init__" sm_init, dm "Likeness" "__eq__" "Likeness.__eq__" sm_eq, dm "Likeness" "led" "Likeness.led" sm_led, dm "Likeness" "then" "Likeness.then" sm_then, dm "Likeness" "back" "Likeness.back" sm_back, dm "BadNumber" "__init__" "BadNumber.__init__" si_BadNumber, dm "BadPoint" "__init__" "BadPoint.__init__" si_BadPoint, dm "BadLikeness" "__init__" "BadLikeness.__init__" si_BadLikeness, dm "Misfit" "__init__" "Misfit.__init__" si_Misfit, dm "TooMany" "__init__" "TooMany.__init__" si_TooMany]
def fa : List Fa := [.glo "is_integer", .glo "is_within", .glo "is_list", .glo "are_integers", .glo "is_point", .glo "are_points", .glo "_are_places", .glo "likenesses_of", .glo "_check_points_and_given", .glo "_leads_of", .glo "led_indexes", .glo "_made_of", .glo "_one_then", .glo "_law_keg", .glo "_law_tap", .glo "_law_choose", .glo "_law_stirred", .glo "_law_one", .glo "_law_led", .glo "_law_reached", .glo "_law_made", .glo "_law_points", .glo "_law_strays", .glo "_law_heard", .glo "_law_right", .glo "_law_refused_right", .glo "law", .glo "Likeness", .glo "SolidError", .glo "BadNumber", .glo "BadPoint", .glo "BadLot", .glo "BadLikeness", .glo "Misfit", .glo "TooMany", .int "LEAST_WIDE" 2, .int "MOST_WIDE" 6, .int "MOST_POINTS" 48, .int "MOST_GIVEN" 10, .int "MOST_MADE" 64, .cls "Likeness", .noat "Likeness" "places", .noat "Likeness" "signs", .noat "Likeness" "wide", .mkr "Likeness", .meth "Likeness" "led", .meth "Likeness" "then", .meth "Likeness" "back", .noat "BadNumber" "part", .noat "BadPoint" "part", .noat "BadLikeness" "part", .noat "Misfit" "part", .noat "TooMany" "what", .noat "TooMany" "most", .exm "BadPoint" "SolidError" true, .exm "BadLikeness" "SolidError" true, .exm "Misfit" "SolidError" true, .exm "TooMany" "SolidError" true, .free "isinstance", .free "int", .free "bool", .free "dict", .free "list", .free "tuple", .free "len", .free "abs", .free "repr", .free "range", .free "zip", .free "sorted", .free "all", .free "set"]
def tf : List Defn := [("_law_right", none), ("_law_refused_right", none)]
abbrev gr : Nat := 6
def mroB (C : Addr) : List Value → Bool
  | .ref C' :: bm => decide (C' = C) && PySem.HandSPX.refsVE bm
  | _ => false
theorem mroB_ok {C : Addr} : ∀ {l : List Value}, mroB C l = true → ∃ bm, l = .ref C :: bm ∧ PySem.HandSPX.refsVE bm = true
  | [], h => by cases h
  | m :: bm, h => by
    cases m with
    | ref C' =>
      obtain ⟨g1, g2⟩ := ba (show (decide (C' = C) && PySem.HandSPX.refsVE bm) = true from h)
      have e4 := of_decide_eq_true g1
      subst e4
      exact ⟨bm, rfl, g2⟩
    | _ => cases h
def slB : List (Option Value) → Bool
  | [_, _, _, _, some (.builtin s), _] => decide (s = "ValueError.__new__")
  | _ => false
theorem slB_ok {l : List (Option Value)} (h : slB l = true) : ∃ k0 k1 k2 k3 k5, l = [k0, k1, k2, k3, some (.builtin "ValueError.__new__"), k5] := by
  unfold slB at h
  split at h
  · rename_i k0 k1 k2 k3 s k5
    have e5 := of_decide_eq_true h
    subst e5
    exact ⟨k0, k1, k2, k3, k5, rfl⟩
  · cases h
/-- a class of exceptions, as it stands in the written part -/
def clsB (K : PySem.W.Frag) (C : Addr) : Bool := match K.lookup C with
  | some ⟨.type t, _, .cls cd, sl⟩ => decide (t = "type") && (cd.hasDict && (!cd.hasDel && (mroB C cd.mro && slB sl.toList)))
  | _ => false
theorem clsB_ok {K : PySem.W.Frag} {C : Addr} (h : clsB K C = true) : ∃ nm q N bs bm sn sub ab col dd k0 k1 k2 k3 k5, K.lookup C = some (excClassObj nm q C N bs bm true sn sub ab col dd k0 k1 k2 k3 k5 "ValueError.__new__") ∧ PySem.HandSPX.refsVE bm = true := by
  unfold clsB at h
  cases q : K.lookup C with
  | none =>
    rw [q] at h
    cases h
  | some o =>
    obtain ⟨oc, od, dt, sl⟩ := o
    rw [q] at h
    cases oc with
    | type t =>
      cases dt with
      | cls cd =>
        obtain ⟨nm, bs, mro, N, qn, hd, sn, sub, ab, col, dl⟩ := cd
        obtain ⟨h1, h⟩ := ba h
        obtain ⟨h2, h⟩ := ba h
        obtain ⟨h3, h⟩ := ba h
        obtain ⟨h4, h5⟩ := ba h
        have e1 : t = "type" := of_decide_eq_true h1
        have e2 : hd = true := h2
        have e3 : dl = false := by
          have h3' : (!dl) = true := h3
          cases dl with
          | false => rfl
          | true => cases h3'
        obtain ⟨bm, e4, g2⟩ := mroB_ok (show mroB C mro = true from h4)
        obtain ⟨l⟩ := sl
        obtain ⟨k0, k1, k2, k3, k5, e5⟩ := slB_ok (show slB l = true from h5)
        subst e1 e2 e3 e4 e5
        exact ⟨nm, qn, N, bs, bm, sn, sub, ab, col, od, k0, k1, k2, k3, k5, rfl, g2⟩
      | _ => cases h
    | _ => cases dt <;> cases h
/-- the def of the static method -/
def stA (K : PySem.W.Frag) : Addr := match PySem.W.recIn K (ma K (ga K "Likeness") "same") "staticmethod" with
  | some (.ref g :: _) => g
  | _ => 0
def smB (K : PySem.W.Frag) (C : Addr) (m : Str) : Bool := (match PySem.W.findCls K (.ref C) (.type "type") m with
  | some (.get (.builtin b) (.ref p) .none (.ref D)) => decide (b = "staticmethod.__get__") && (decide (p = ma K C m) && decide (D = C))
  | _ => false) && (match PySem.W.recIn K (ma K C m) "staticmethod" with
  | some (.ref g :: _) => decide (g = stA K) && PySem.W.keepIn K (.ref g)
  | _ => false)
theorem smB_ok {K : PySem.W.Frag} {C : Addr} {m : Str} (h : smB K C m = true) : SMet K C (.type "type") m (ma K C m) (stA K) := by
  unfold smB at h
  obtain ⟨h1, h2⟩ := ba h
  have k2 : (∃ rest, PySem.W.recIn K (ma K C m) "staticmethod" = some (.ref (stA K) :: rest)) ∧ PySem.W.keepIn K (.ref (stA K)) = true := by
    split at h2
    · rename_i g r q
      obtain ⟨e1, e2⟩ := ba h2
      have e := of_decide_eq_true e1
      subst e
      exact ⟨⟨r, q⟩, e2⟩
    · cases h2
  refine ⟨?_, k2.1, k2.2⟩
  split at h1
  · rename_i b p D q
    obtain ⟨e1, e⟩ := ba h1
    obtain ⟨e2, e3⟩ := ba e
    rw [q, of_decide_eq_true e1, of_decide_eq_true e2, of_decide_eq_true e3]
  · cases h1
def fnS (K : PySem.W.Frag) : FnY := match K.lookup (stA K) with
  | some ⟨_, _, .func fd, _⟩ => some (fd.name, fd.qualname, fd.params, fd.body, fd.scope, fd.globals, fd.closure.map (·.1), fd.defaults, fd.builtins)
  | _ => none
def fnV : FnY := some ("same", "Likeness.same", defArgs sm_same, .stmts (defBody sm_same), defScope sm_same, mainGlobals, [], Value.none, builtinsNs)
@[irreducible] def apY (K : PySem.W.Frag) : FnY := fnS K
@[irreducible] def apV : FnY := fnV
def cdS (K : PySem.W.Frag) : Bool := match K.lookup (stA K) with
  | some ⟨_, _, .func fd, _⟩ => PySem.W.codeIn K fd.code "Likeness.same"
  | _ => false
theorem cdS_ok {K : PySem.W.Frag} (h : cdS K = true) (y : fnS K = fnV) (k : PySem.W.keepIn K (.ref (stA K)) = true) : ∃ fd, Fun K "same" "Likeness.same" sm_same (stA K) fd := by
  unfold cdS at h
  unfold fnS at y
  cases q : K.lookup (stA K) with
  | none =>
    rw [q] at h
    cases h
  | some o =>
    obtain ⟨oc, od, dt, osl⟩ := o
    rw [q] at h y
    cases dt with
    | func fd =>
      obtain ⟨n1, n2, n3, n4, n5, n6, n7, n8, n9, n10, n11, n12, n13, n14, n15⟩ := fd
      have e2 : (some (n1, n2, n3, n4, n5, n6, n7.map (·.1), n8, n15) : FnY) = fnV := y
      unfold fnV at e2
      simp only [Option.some.injEq, Prod.mk.injEq] at e2
      obtain ⟨h1, h2, h3, h4, h5, h6, h7, h8, h9⟩ := e2
      have h7 : n7 = [] := List.map_eq_nil_iff.mp h7
      subst h1 h2 h3 h4 h5 h6 h7 h8 h9
      exact ⟨_, ⟨oc, od, n9, n10, n11, n12, n13, n14, osl, rfl, q, h⟩, k⟩
    | _ => cases h
theorem not_dec {p : Prop} [Decidable p] (h : (!decide p) = true) : ¬ p := fun e => by
  rw [decide_eq_true e] at h
  cases h
abbrev R : PySem.W.OpenRow := PySem.W.OpenLaw.row PySem.Challenge.rw_spindleway_k32_likenesses_that_given_one
def asks (K : PySem.W.Frag) : List Bool := [clsB K (ga K "BadNumber"),
  eqO (PySem.W.findIn K (.ref (ga K "BadNumber")) "__setattr__") (some (some (.builtin "object.__setattr__"))),
  decide (PySem.W.subIn K (.ref (ga K "BadNumber")) (.type "BaseException") = some true),
  decide (PySem.W.typeIn K (.ref (ga K "BadNumber")) = some (.type "type")),
  PySem.W.keepIn K (.ref (ga K "BadNumber")),
  eqO (PySem.W.findIn K (.ref (ga K "BadNumber")) "__init__") (some (some (.ref (ma K (ga K "BadNumber") "__init__")))),
  decide (PySem.W.typeIn K (.ref (ma K (ga K "BadNumber") "__init__")) = some (.type "function")),
  clsB K (ga K "BadPoint"),
  eqO (PySem.W.findIn K (.ref (ga K "BadPoint")) "__setattr__") (some (some (.builtin "object.__setattr__"))),
  decide (PySem.W.subIn K (.ref (ga K "BadPoint")) (.type "BaseException") = some true),
  decide (PySem.W.typeIn K (.ref (ga K "BadPoint")) = some (.type "type")),
  PySem.W.keepIn K (.ref (ga K "BadPoint")),
  eqO (PySem.W.findIn K (.ref (ga K "BadPoint")) "__init__") (some (some (.ref (ma K (ga K "BadPoint") "__init__")))),
  decide (PySem.W.typeIn K (.ref (ma K (ga K "BadPoint") "__init__")) = some (.type "function")),
  clsB K (ga K "BadLikeness"),
  eqO (PySem.W.findIn K (.ref (ga K "BadLikeness")) "__setattr__") (some (some (.builtin "object.__setattr__"))),
  decide (PySem.W.subIn K (.ref (ga K "BadLikeness")) (.type "BaseException") = some true),
  decide (PySem.W.typeIn K (.ref (ga K "BadLikeness")) = some (.type "type")),
  PySem.W.keepIn K (.ref (ga K "BadLikeness")),
  eqO (PySem.W.findIn K (.ref (ga K "BadLikeness")) "__init__") (some (some (.ref (ma K (ga K "BadLikeness") "__init__")))),
  decide (PySem.W.typeIn K (.ref (ma K (ga K "BadLikeness") "__init__")) = some (.type "function")),
  clsB K (ga K "Misfit"),
  eqO (PySem.W.findIn K (.ref (ga K "Misfit")) "__setattr__") (some (some (.builtin "object.__setattr__"))),
  decide (PySem.W.subIn K (.ref (ga K "Misfit")) (.type "BaseException") = some true),
  decide (PySem.W.typeIn K (.ref (ga K "Misfit")) = some (.type "type")),
  PySem.W.keepIn K (.ref (ga K "Misfit")),
  eqO (PySem.W.findIn K (.ref (ga K "Misfit")) "__init__") (some (some (.ref (ma K (ga K "Misfit") "__init__")))),
  decide (PySem.W.typeIn K (.ref (ma K (ga K "Misfit") "__init__")) = some (.type "function")),
  clsB K (ga K "TooMany"),
  eqO (PySem.W.findIn K (.ref (ga K "TooMany")) "__setattr__") (some (some (.builtin "object.__setattr__"))),
  decide (PySem.W.subIn K (.ref (ga K "TooMany")) (.type "BaseException") = some true),
  decide (PySem.W.typeIn K (.ref (ga K "TooMany")) = some (.type "type")),
  PySem.W.keepIn K (.ref (ga K "TooMany")),
  eqO (PySem.W.findIn K (.ref (ga K "TooMany")) "__init__") (some (some (.ref (ma K (ga K "TooMany") "__init__")))),
  decide (PySem.W.typeIn K (.ref (ma K (ga K "TooMany") "__init__")) = some (.type "function")),
  xfB K (ga K "BadPoint"),
  eqO (PySem.W.findIn K (.ref (ga K "BadPoint")) "__class__") (some (some (.builtin "object.__class__"))),
  decide (PySem.W.mroIn K (ga K "BadPoint") (.type "object") = some true),
  decide (PySem.W.kitOne K (.ref (ga K "BadPoint")) (.ref (ga K "BadLikeness")) = some false),
  decide (PySem.W.kitOne K (.ref (ga K "BadPoint")) (.ref (ga K "BadPoint")) = some true),
  decide (PySem.W.kitOne K (.ref (ga K "BadPoint")) (.ref (ga K "BadLot")) = some false),
  decide (PySem.W.kitOne K (.ref (ga K "BadPoint")) (.ref (ga K "Misfit")) = some false),
  decide (PySem.W.kitOne K (.ref (ga K "BadPoint")) (.ref (ga K "TooMany")) = some false),
  xfB K (ga K "BadLikeness"),
  eqO (PySem.W.findIn K (.ref (ga K "BadLikeness")) "__class__") (some (some (.builtin "object.__class__"))),
  decide (PySem.W.mroIn K (ga K "BadLikeness") (.type "object") = some true),
  decide (PySem.W.kitOne K (.ref (ga K "BadLikeness")) (.ref (ga K "BadLikeness")) = some true),
  decide (PySem.W.kitOne K (.ref (ga K "BadLikeness")) (.ref (ga K "BadPoint")) = some false),
  decide (PySem.W.kitOne K (.ref (ga K "BadLikeness")) (.ref (ga K "BadLot")) = some false),
  decide (PySem.W.kitOne K (.ref (ga K "BadLikeness")) (.ref (ga K "Misfit")) = some false),
  decide (PySem.W.kitOne K (.ref (ga K "BadLikeness")) (.ref (ga K "TooMany")) = some false),
  xfB K (ga K "Misfit"),
  eqO (PySem.W.findIn K (.ref (ga K "Misfit")) "__class__") (some (some (.builtin "object.__class__"))),
  decide (PySem.W.mroIn K (ga K "Misfit") (.type "object") = some true),
  decide (PySem.W.kitOne K (.ref (ga K "Misfit")) (.ref (ga K "BadLikeness")) = some false),
  decide (PySem.W.kitOne K (.ref (ga K "Misfit")) (.ref (ga K "BadPoint")) = some false),
  decide (PySem.W.kitOne K (.ref (ga K "Misfit")) (.ref (ga K "BadLot")) = some false),
  decide (PySem.W.kitOne K (.ref (ga K "Misfit")) (.ref (ga K "Misfit")) = some true),
  decide (PySem.W.kitOne K (.ref (ga K "Misfit")) (.ref (ga K "TooMany")) = some false),
  xfB K (ga K "TooMany"),
  eqO (PySem.W.findIn K (.ref (ga K "TooMany")) "__class__") (some (some (.builtin "object.__class__"))),
  decide (PySem.W.mroIn K (ga K "TooMany") (.type "object") = some true),
  decide (PySem.W.kitOne K (.ref (ga K "TooMany")) (.ref (ga K "TooMany")) = some true),
  eqO (PySem.W.findIn K (.ref (ga K "Likeness")) "__class__") (some (some (.builtin "object.__class__"))),
  decide (PySem.W.mroIn K (ga K "Likeness") (.type "object") = some true),
  eqO (PySem.W.findIn K (.ref (ga K "Likeness")) "__eq__") (some (some (.ref (ma K (ga K "Likeness") "__eq__")))),
  PySem.W.isFn K (.ref (ma K (ga K "Likeness") "__eq__")),
  eqO (PySem.W.findIn K (.ref (ga K "Likeness")) "__ne__") (some (some (.builtin "object.__ne__"))),
  eqO (PySem.W.specialIn K (.builtin "object.__class__") "__get__") (some (some (.builtin "getset_descriptor.__get__"))),
  decide (PySem.W.takesIn K (.builtin "object.__class__") = some true),
  decide (PySem.W.kitOne K (.ref (ga K "Likeness")) (.type "int") = some false),
  decide (PySem.W.kitOne K (.ref (ga K "Likeness")) (.type "bool") = some false),
  decide (PySem.W.kitOne K (.ref (ga K "Likeness")) (.type "list") = some false),
  decide (PySem.W.kitOne K (.ref (ga K "Likeness")) (.type "tuple") = some false),
  decide (PySem.W.kitOne K (.type "NoneType") (.ref (ga K "Likeness")) = some false),
  decide (PySem.W.kitOne K (.type "int") (.ref (ga K "Likeness")) = some false),
  decide (PySem.W.kitOne K (.type "list") (.ref (ga K "Likeness")) = some false),
  decide (PySem.W.kitOne K (.type "tuple") (.ref (ga K "Likeness")) = some false),
  decide (PySem.W.subIn K (.type "tuple") (.ref (ga K "Likeness")) = some false),
  decide (PySem.W.subIn K (.type "list") (.ref (ga K "Likeness")) = some false),
  PySem.W.readsIn K (ga K "Likeness") (.type "type"),
  eqO (PySem.W.specialIn K (.ref (ga K "Likeness")) "__getattribute__") (some (some (.builtin "type.__getattribute__"))),
  smB K (ga K "Likeness") "same",
  PySem.W.keepIn K (.ref (stA K)),
  cdS K,
  !decide ((cT K ("_law_right", none)).2 = (cT K ("_law_refused_right", none)).2)]
structure ClsF (K : PySem.W.Frag) : Prop where
  q0 : ∃ nm q N bs bm sn sub ab col dd k0 k1 k2 k3 k5, K.lookup (ga K "BadNumber") = some (excClassObj nm q (ga K "BadNumber") N bs bm true sn sub ab col dd k0 k1 k2 k3 k5 "ValueError.__new__") ∧ PySem.HandSPX.refsVE bm = true
  q1 : PySem.W.findIn K (.ref (ga K "BadNumber")) "__setattr__" = some (some (.builtin "object.__setattr__"))
  q2 : PySem.W.subIn K (.ref (ga K "BadNumber")) (.type "BaseException") = some true
  q3 : PySem.W.typeIn K (.ref (ga K "BadNumber")) = some (.type "type")
  q4 : PySem.W.keepIn K (.ref (ga K "BadNumber")) = true
  q5 : PySem.W.findIn K (.ref (ga K "BadNumber")) "__init__" = some (some (.ref (ma K (ga K "BadNumber") "__init__")))
  q6 : PySem.W.typeIn K (.ref (ma K (ga K "BadNumber") "__init__")) = some (.type "function")
  q7 : ∃ nm q N bs bm sn sub ab col dd k0 k1 k2 k3 k5, K.lookup (ga K "BadPoint") = some (excClassObj nm q (ga K "BadPoint") N bs bm true sn sub ab col dd k0 k1 k2 k3 k5 "ValueError.__new__") ∧ PySem.HandSPX.refsVE bm = true
  q8 : PySem.W.findIn K (.ref (ga K "BadPoint")) "__setattr__" = some (some (.builtin "object.__setattr__"))
  q9 : PySem.W.subIn K (.ref (ga K "BadPoint")) (.type "BaseException") = some true
  q10 : PySem.W.typeIn K (.ref (ga K "BadPoint")) = some (.type "type")
  q11 : PySem.W.keepIn K (.ref (ga K "BadPoint")) = true
  q12 : PySem.W.findIn K (.ref (ga K "BadPoint")) "__init__" = some (some (.ref (ma K (ga K "BadPoint") "__init__")))
  q13 : PySem.W.typeIn K (.ref (ma K (ga K "BadPoint") "__init__")) = some (.type "function")
  q14 : ∃ nm q N bs bm sn sub ab col dd k0 k1 k2 k3 k5, K.lookup (ga K "BadLikeness") = some (excClassObj nm q (ga K "BadLikeness") N bs bm true sn sub ab col dd k0 k1 k2 k3 k5 "ValueError.__new__") ∧ PySem.HandSPX.refsVE bm = true
  q15 : PySem.W.findIn K (.ref (ga K "BadLikeness")) "__setattr__" = some (some (.builtin "object.__setattr__"))
  q16 : PySem.W.subIn K (.ref (ga K "BadLikeness")) (.type "BaseException") = some true
  q17 : PySem.W.typeIn K (.ref (ga K "BadLikeness")) = some (.type "type")
  q18 : PySem.W.keepIn K (.ref (ga K "BadLikeness")) = true
  q19 : PySem.W.findIn K (.ref (ga K "BadLikeness")) "__init__" = some (some (.ref (ma K (ga K "BadLikeness") "__init__")))
  q20 : PySem.W.typeIn K (.ref (ma K (ga K "BadLikeness") "__init__")) = some (.type "function")
  q21 : ∃ nm q N bs bm sn sub ab col dd k0 k1 k2 k3 k5, K.lookup (ga K "Misfit") = some (excClassObj nm q (ga K "Misfit") N bs bm true sn sub ab col dd k0 k1 k2 k3 k5 "ValueError.__new__") ∧ PySem.HandSPX.refsVE bm = true
  q22 : PySem.W.findIn K (.ref (ga K "Misfit")) "__setattr__" = some (some (.builtin "object.__setattr__"))
  q23 : PySem.W.subIn K (.ref (ga K "Misfit")) (.type "BaseException") = some true
  q24 : PySem.W.typeIn K (.ref (ga K "Misfit")) = some (.type "type")
  q25 : PySem.W.keepIn K (.ref (ga K "Misfit")) = true
  q26 : PySem.W.findIn K (.ref (ga K "Misfit")) "__init__" = some (some (.ref (ma K (ga K "Misfit") "__init__")))
  q27 : PySem.W.typeIn K (.ref (ma K (ga K "Misfit") "__init__")) = some (.type "function")
  q28 : ∃ nm q N bs bm sn sub ab col dd k0 k1 k2 k3 k5, K.lookup (ga K "TooMany") = some (excClassObj nm q (ga K "TooMany") N bs bm true sn sub ab col dd k0 k1 k2 k3 k5 "ValueError.__new__") ∧ PySem.HandSPX.refsVE bm = true
  q29 : PySem.W.findIn K (.ref (ga K "TooMany")) "__setattr__" = some (some (.builtin "object.__setattr__"))
  q30 : PySem.W.subIn K (.ref (ga K "TooMany")) (.type "BaseException") = some true
  q31 : PySem.W.typeIn K (.ref (ga K "TooMany")) = some (.type "type")
  q32 : PySem.W.keepIn K (.ref (ga K "TooMany")) = true
  q33 : PySem.W.findIn K (.ref (ga K "TooMany")) "__init__" = some (some (.ref (ma K (ga K "TooMany") "__init__")))
  q34 : PySem.W.typeIn K (.ref (ma K (ga K "TooMany") "__init__")) = some (.type "function")
  q35 : XfC K (ga K "BadPoint")
  q36 : PySem.W.findIn K (.ref (ga K "BadPoint")) "__class__" = some (some (.builtin "object.__class__"))
  q37 : PySem.W.mroIn K (ga K "BadPoint") (.type "object") = some true
  q38 : PySem.W.kitOne K (.ref (ga K "BadPoint")) (.ref (ga K "BadLikeness")) = some false
  q39 : PySem.W.kitOne K (.ref (ga K "BadPoint")) (.ref (ga K "BadPoint")) = some true
  q40 : PySem.W.kitOne K (.ref (ga K "BadPoint")) (.ref (ga K "BadLot")) = some false
  q41 : PySem.W.kitOne K (.ref (ga K "BadPoint")) (.ref (ga K "Misfit")) = some false
  q42 : PySem.W.kitOne K (.ref (ga K "BadPoint")) (.ref (ga K "TooMany")) = some false
  q43 : XfC K (ga K "BadLikeness")
  q44 : PySem.W.findIn K (.ref (ga K "BadLikeness")) "__class__" = some (some (.builtin "object.__class__"))
  q45 : PySem.W.mroIn K (ga K "BadLikeness") (.type "object") = some true
  q46 : PySem.W.kitOne K (.ref (ga K "BadLikeness")) (.ref (ga K "BadLikeness")) = some true
  q47 : PySem.W.kitOne K (.ref (ga K "BadLikeness")) (.ref (ga K "BadPoint")) = some false
  q48 : PySem.W.kitOne K (.ref (ga K "BadLikeness")) (.ref (ga K "BadLot")) = some false
  q49 : PySem.W.kitOne K (.ref (ga K "BadLikeness")) (.ref (ga K "Misfit")) = some false
  q50 : PySem.W.kitOne K (.ref (ga K "BadLikeness")) (.ref (ga K "TooMany")) = some false
  q51 : XfC K (ga K "Misfit")
  q52 : PySem.W.findIn K (.ref (ga K "Misfit")) "__class__" = some (some (.builtin "object.__class__"))
  q53 : PySem.W.mroIn K (ga K "Misfit") (.type "object") = some true
  q54 : PySem.W.kitOne K (.ref (ga K "Misfit")) (.ref (ga K "BadLikeness")) = some false
  q55 : PySem.W.kitOne K (.ref (ga K "Misfit")) (.ref (ga K "BadPoint")) = some false
  q56 : PySem.W.kitOne K (.ref (ga K "Misfit")) (.ref (ga K "BadLot")) = some false
  q57 : PySem.W.kitOne K (.ref (ga K "Misfit")) (.ref (ga K "Misfit")) = some true
  q58 : PySem.W.kitOne K (.ref (ga K "Misfit")) (.ref (ga K "TooMany")) = some false
  q59 : XfC K (ga K "TooMany")
  q60 : PySem.W.findIn K (.ref (ga K "TooMany")) "__class__" = some (some (.builtin "object.__class__"))
  q61 : PySem.W.mroIn K (ga K "TooMany") (.type "object") = some true
  q62 : PySem.W.kitOne K (.ref (ga K "TooMany")) (.ref (ga K "TooMany")) = some true
  q63 : PySem.W.findIn K (.ref (ga K "Likeness")) "__class__" = some (some (.builtin "object.__class__"))
  q64 : PySem.W.mroIn K (ga K "Likeness") (.type "object") = some true
  q65 : PySem.W.findIn K (.ref (ga K "Likeness")) "__eq__" = some (some (.ref (ma K (ga K "Likeness") "__eq__")))
  q66 : PySem.W.isFn K (.ref (ma K (ga K "Likeness") "__eq__")) = true
  q67 : PySem.W.findIn K (.ref (ga K "Likeness")) "__ne__" = some (some (.builtin "object.__ne__"))
  q68 : PySem.W.specialIn K (.builtin "object.__class__") "__get__" = some (some (.builtin "getset_descriptor.__get__"))
  q69 : PySem.W.takesIn K (.builtin "object.__class__") = some true
  q70 : PySem.W.kitOne K (.ref (ga K "Likeness")) (.type "int") = some false
  q71 : PySem.W.kitOne K (.ref (ga K "Likeness")) (.type "bool") = some false
  q72 : PySem.W.kitOne K (.ref (ga K "Likeness")) (.type "list") = some false
  q73 : PySem.W.kitOne K (.ref (ga K "Likeness")) (.type "tuple") = some false
  q74 : PySem.W.kitOne K (.type "NoneType") (.ref (ga K "Likeness")) = some false
  q75 : PySem.W.kitOne K (.type "int") (.ref (ga K "Likeness")) = some false
  q76 : PySem.W.kitOne K (.type "list") (.ref (ga K "Likeness")) = some false
  q77 : PySem.W.kitOne K (.type "tuple") (.ref (ga K "Likeness")) = some false
  q78 : PySem.W.subIn K (.type "tuple") (.ref (ga K "Likeness")) = some false
  q79 : PySem.W.subIn K (.type "list") (.ref (ga K "Likeness")) = some false
  q80 : PySem.W.readsIn K (ga K "Likeness") (.type "type") = true
  q81 : PySem.W.specialIn K (.ref (ga K "Likeness")) "__getattribute__" = some (some (.builtin "type.__getattribute__"))
  q82 : SMet K (ga K "Likeness") (.type "type") "same" (ma K (ga K "Likeness") "same") (stA K)
  q83 : PySem.W.keepIn K (.ref (stA K)) = true
  q84 : cdS K = true
  q85 : (cT K ("_law_right", none)).2 ≠ (cT K ("_law_refused_right", none)).2
theorem asks_ok {K : PySem.W.Frag} (h : (asks K).all id = true) : ClsF K := by
  have g : ∀ (i : Nat) {b : Bool}, (asks K)[i]? = some b → b = true := fun i {b} e => List.all_eq_true.mp h b (List.mem_of_getElem? e)
  exact ⟨clsB_ok (g 0 rfl), eqO_ok (g 1 rfl), of_decide_eq_true (g 2 rfl), of_decide_eq_true (g 3 rfl), (g 4 rfl), eqO_ok (g 5 rfl), of_decide_eq_true (g 6 rfl), clsB_ok (g 7 rfl), eqO_ok (g 8 rfl), of_decide_eq_true (g 9 rfl), of_decide_eq_true (g 10 rfl), (g 11 rfl), eqO_ok (g 12 rfl), of_decide_eq_true (g 13 rfl), clsB_ok (g 14 rfl), eqO_ok (g 15 rfl), of_decide_eq_true (g 16 rfl), of_decide_eq_true (g 17 rfl), (g 18 rfl), eqO_ok (g 19 rfl), of_decide_eq_true (g 20 rfl), clsB_ok (g 21 rfl), eqO_ok (g 22 rfl), of_decide_eq_true (g 23 rfl), of_decide_eq_true (g 24 rfl), (g 25 rfl), eqO_ok (g 26 rfl), of_decide_eq_true (g 27 rfl), clsB_ok (g 28 rfl), eqO_ok (g 29 rfl), of_decide_eq_true (g 30 rfl), of_decide_eq_true (g 31 rfl), (g 32 rfl), eqO_ok (g 33 rfl), of_decide_eq_true (g 34 rfl), xfB_ok (g 35 rfl), eqO_ok (g 36 rfl), of_decide_eq_true (g 37 rfl), of_decide_eq_true (g 38 rfl), of_decide_eq_true (g 39 rfl), of_decide_eq_true (g 40 rfl), of_decide_eq_true (g 41 rfl), of_decide_eq_true (g 42 rfl), xfB_ok (g 43 rfl), eqO_ok (g 44 rfl), of_decide_eq_true (g 45 rfl), of_decide_eq_true (g 46 rfl), of_decide_eq_true (g 47 rfl), of_decide_eq_true (g 48 rfl), of_decide_eq_true (g 49 rfl), of_decide_eq_true (g 50 rfl), xfB_ok (g 51 rfl), eqO_ok (g 52 rfl), of_decide_eq_true (g 53 rfl), of_decide_eq_true (g 54 rfl), of_decide_eq_true (g 55 rfl), of_decide_eq_true (g 56 rfl), of_decide_eq_true (g 57 rfl), of_decide_eq_true (g 58 rfl), xfB_ok (g 59 rfl), eqO_ok (g 60 rfl), of_decide_eq_true (g 61 rfl), of_decide_eq_true (g 62 rfl), eqO_ok (g 63 rfl), of_decide_eq_true (g 64 rfl), eqO_ok (g 65 rfl), (g 66 rfl), eqO_ok (g 67 rfl), eqO_ok (g 68 rfl), of_decide_eq_true (g 69 rfl), of_decide_eq_true (g 70 rfl), of_decide_eq_true (g 71 rfl), of_decide_eq_true (g 72 rfl), of_decide_eq_true (g 73 rfl), of_decide_eq_true (g 74 rfl), of_decide_eq_true (g 75 rfl), of_decide_eq_true (g 76 rfl), of_decide_eq_true (g 77 rfl), of_decide_eq_true (g 78 rfl), of_decide_eq_true (g 79 rfl), (g 80 rfl), eqO_ok (g 81 rfl), smB_ok (g 82 rfl), (g 83 rfl), (g 84 rfl), not_dec (g 85 rfl)⟩
def ex (g : Addr → Option Obj) : Bool := (asks (frT g (asZ gr g))).all id
def Tb (K : PySem.W.Frag) : Prop := ClsF K ∧ apY K = apV
theorem ex_ok (g : Addr → Option Obj) (e : ex g = true) (y : apY (frT g (asZ gr g)) = apV) : Tb (frT g (asZ gr g)) := ⟨asks_ok e, y⟩
abbrev hk : PySem.W.Hook := hookY gr fa fn tf ex apY apV Tb ex_ok
def ob (s : PySem.W.SharedT) : AlZ := obsY gr fa fn tf ex apY (HandSHeadRun.getT s)
theorem ob_eq (s : PySem.W.SharedT) : ob s = hk.obs s.abs := obsY_eq (HandSHeadRun.getT_eq s)
def names : List PySem.Str := [("__name__" : PySem.Str), ("SolidError" : PySem.Str), ("BadNumber" : PySem.Str), ("BadPoint" : PySem.Str), ("BadLot" : PySem.Str), ("BadLikeness" : PySem.Str), ("Misfit" : PySem.Str), ("TooMany" : PySem.Str), ("is_integer" : PySem.Str), ("is_within" : PySem.Str), ("is_list" : PySem.Str), ("are_integers" : PySem.Str), ("is_point" : PySem.Str), ("are_points" : PySem.Str), ("LEAST_WIDE" : PySem.Str), ("MOST_WIDE" : PySem.Str), ("MOST_POINTS" : PySem.Str), ("MOST_GIVEN" : PySem.Str), ("MOST_MADE" : PySem.Str), ("Likeness" : PySem.Str), ("_are_places" : PySem.Str), ("likenesses_of" : PySem.Str), ("_check_points_and_given" : PySem.Str), ("_leads_of" : PySem.Str), ("led_indexes" : PySem.Str), ("_made_of" : PySem.Str), ("_one_then" : PySem.Str), ("_law_keg" : PySem.Str), ("_law_tap" : PySem.Str), ("_law_choose" : PySem.Str), ("_law_stirred" : PySem.Str), ("_law_one" : PySem.Str), ("_law_led" : PySem.Str), ("_law_reached" : PySem.Str), ("_law_made" : PySem.Str), ("_law_points" : PySem.Str), ("_law_strays" : PySem.Str), ("_law_heard" : PySem.Str), ("_law_right" : PySem.Str), ("_law_refused_right" : PySem.Str)]
end E32


set_option Elab.async false
set_option linter.all false
set_option maxRecDepth 100000
set_option maxHeartbeats 4000000
/-! the top's run in parts, each a declaration -/
namespace SG
open PySem PySem.W HandSHeadRun PyProof.Rows
abbrev STp : Type := SharedT → Thread → Option (SharedT × Thread)
noncomputable def exQ : List Stmt → Env → Sem Flow := PySem.W.Fast.tw12563942051412417395
theorem exQ_eq : @PySem.execs = exQ := PySem.W.Fast.te12563942051412417395
noncomputable def bsQ : List Stmt → Env → Sem Unit := PySem.W.Fast.tw1066825118222455980
theorem bsQ_eq : @PySem.blockStart = bsQ := PySem.W.Fast.te1066825118222455980
/-- k steps -/
def itF (st : STp) (n0 : Nat) (ann : Option Value) : Nat → SharedT → Thread → Option (SharedT × Thread)
  | 0, s, t => some (s, t)
  | k + 1, s, t => match through t with
    | true => none
    | false => match stepOk n0 ann t with
      | false => none
      | true => match st s t with
        | some (s1, t1) => frS s1 fun s2 => itF st n0 ann k s2 t1
        | none => none
/-- a part of the top -/
def segF (st : STp) (n0 : Nat) (ann : Option Value) : Nat → SharedT → Thread → Option (Flow × SharedT × Code × Pos)
  | 0, _, _ => none
  | k + 1, s, t => match endAt 1 t with
    | some f => some (f, s, t.code, t.pos)
    | none => match stepOk n0 ann t with
      | false => none
      | true => match st s t with
        | some (s1, t1) => frS s1 fun s2 => segF st n0 ann k s2 t1
        | none => none
section
variable {tb : String → Option Builtin} {p : Program} {w : World} {n0 : Nat} {ann : Option Value}
theorem it_top {N : Nat} {r : Shared} : ∀ {k : Nat} {s s' : SharedT} {t t' : Thread}, itF (stepT (denote tb) p w) n0 ann k s t = some (s', t') → topRun tb p w n0 ann N s'.abs t' = some r → topRun tb p w n0 ann (N + k) s.abs t = some r
  | 0, s, s', t, t', h, hr => by
    have h2 : some (s, t) = some (s', t') := h
    cases h2
    exact hr
  | k + 1, s, s', t, t', h, hr => by
    unfold itF at h
    show topRun tb p w n0 ann ((N + k) + 1) s.abs t = some r
    rw [topRun.eq_2]
    cases e1 : through t with
    | true =>
      rw [e1] at h
      cases h
    | false =>
      rw [e1] at h
      cases e2 : stepOk n0 ann t with
      | false =>
        rw [e2] at h
        cases h
      | true =>
        rw [e2] at h
        cases e3 : stepT (denote tb) p w s t with
        | none =>
          rw [e3] at h
          cases h
        | some z =>
          rw [e3] at h
          obtain ⟨s1, t1⟩ := z
          have h2 : (frS s1 fun s2 => itF (stepT (denote tb) p w) n0 ann k s2 t1) = some (s', t') := h
          rw [frS_eq] at h2
          dsimp only
          rw [stepT_spec e3]
          exact it_top h2 hr
theorem seg_run : ∀ {k : Nat} {s s' : SharedT} {t : Thread} {f : Flow} {c : Code} {x : Pos}, segF (stepT (denote tb) p w) n0 ann k s t = some (f, s', c, x) → segRun tb p w n0 ann 1 k s.abs t = some (f, s'.abs, c, x)
  | 0, _, _, _, _, _, _, h => by cases h
  | k + 1, s, s', t, f, c, x, h => by
    unfold segF at h
    rw [segRun.eq_2]
    cases e1 : endAt 1 t with
    | some g =>
      rw [e1] at h
      have h2 : some (g, s, t.code, t.pos) = some (f, s', c, x) := h
      cases h2
      rfl
    | none =>
      rw [e1] at h
      cases e2 : stepOk n0 ann t with
      | false =>
        rw [e2] at h
        cases h
      | true =>
        rw [e2] at h
        cases e3 : stepT (denote tb) p w s t with
        | none =>
          rw [e3] at h
          cases h
        | some z =>
          rw [e3] at h
          obtain ⟨s1, t1⟩ := z
          have h2 : (frS s1 fun s2 => segF (stepT (denote tb) p w) n0 ann k s2 t1) = some (f, s', c, x) := h
          rw [frS_eq] at h2
          dsimp only
          rw [stepT_spec e3]
          exact seg_run h2
end
/-- the boot's tree -/
noncomputable def bt (w : World) : PySem.W.BT × Nat := (putAll (boot_heap w.params).objs.toList .nil 0).getD (.nil, 0)
theorem bt_ok {w : World} (h : (putAll (boot_heap w.params).objs.toList .nil 0).isSome = true) (os : OsState) : (bootT w os (bt w)).abs = ⟨boot_heap w.params, #[], boot_drawn, boot_toks, os⟩ ∧ (boot_heap w.params).objs.size = (bt w).2 := by
  obtain ⟨z, e⟩ := Option.isSome_iff_exists.mp h
  obtain ⟨t, n⟩ := z
  have eb : bt w = (t, n) := by
    unfold bt
    rw [e]
    rfl
  have eh := putAll_heap e
  rw [eb]
  refine ⟨?_, ?_⟩
  · show (⟨absHeap t n (boot_heap w.params).life, #[], boot_drawn, boot_toks, os⟩ : Shared) = _
    rw [eh]
  · conv => lhs; rw [← eh]
    exact absHeap_size t n _
/-- what the top leaves, by a run of M steps -/
theorem left_by {p q : Program} {loose : List PySem.Str} {Xt : Shared → Bool} {α : Type} {Yf : Shared → α} {Ya : World → α} {N M : Nat}
    (e : opening p = plainProg p.main.scope.names) (hN : Nat.ble 600 N = true) (f : ∀ s, fenceModules? p s = some s) (le : Nat.ble M N = true)
    (run : ∀ (w : World) (os : OsState), ∃ s : SharedT, topRun treeTable p w (boot_heap w.params).objs.size (bootAnn w) M ⟨boot_heap w.params, #[], boot_drawn, boot_toks, os⟩ (topStub p) = some s.abs ∧ looksF p (boot_heap w.params) s.abs = true ∧ openSeen q loose (importedModules p.main.body) Xt true s.abs = openGood q loose ∧ Yf s.abs = Ya w) :
    LeftO p q loose Xt Yf Ya N true := fun w => by
  obtain ⟨⟨hp, ga, da, ka, os⟩, a1, a2⟩ := Option.map_eq_some_iff.mp (boot_open e hN f w)
  obtain ⟨rfl, rfl, rfl, rfl⟩ : hp = boot_heap w.params ∧ ga = Array.mk [] ∧ da = boot_drawn ∧ ka = boot_toks := by simpa using a2
  obtain ⟨s, hs, g1, g2, g3⟩ := run w os
  have more := topRun_mono (N - M) _ _ _ _ hs
  have le2 := Nat.le_of_ble_eq_true le
  rw [show M + (N - M) = N from by omega] at more
  have top : topFrom treeTable p w N ⟨boot_heap w.params, Array.mk [], boot_drawn, boot_toks, os⟩ = some s.abs := by
    unfold topFrom
    dsimp only
    rw [boot_ns]
    unfold bootAnn at more
    unfold looksF at g1
    rw [show (topRun treeTable p w (boot_heap w.params).objs.size ((boot_heap w.params).nsMap mainGlobals "__annotations__") N ⟨boot_heap w.params, Array.mk [], boot_drawn, boot_toks, os⟩ (topStub p)) = some s.abs from more]
    show (match staticsOk (importedModules p.main.body) (boot_heap w.params) s.abs.heap && namesBound p s.abs.heap && gensDone s.abs && laidKept (boot_heap w.params) s.abs.heap with
      | true => some s.abs
      | false => none) = some s.abs
    rw [g1]
  unfold openEnds
  rw [a1]
  show Option.map _ (topFrom treeTable p w N _) = _
  rw [top]
  exact congrArg some (Prod.ext g2 g3)
end SG
namespace SG
open PySem PySem.W HandSHeadRun PyProof.Rows
/-! ### a table at the top, told -/
def itemsN : List Nat → Nat → List Value
  | [], _ => []
  | n :: r, t => .int (n : Int) t :: itemsN r (t + 1)
def tupOf (its : List Value) : Obj := { cls := .type "tuple", data := .seq its.toArray }
def addTo (P : Params) (x : PySem.Str) (tk : Nat) (v : Value) (o : Obj) : Obj := match o with
  | ⟨c, d, .dict es n, sl⟩ => ⟨c, d, .dict (es.push ⟨PyData.keyHash P x, .str x tk, v⟩) (n + 1), sl⟩
  | o => o
def putRows {α : Type} : List (List Nat) → PySem.W.BT → Nat → Nat → (PySem.W.BT → Nat → Nat → α) → α
  | [], T, n, t, k => k T n t
  | r :: rs, T, n, t, k => frNat (n + 1) fun n2 => frNat (t + r.length) fun t2 => putRows rs (T.ins n (tupOf (itemsN r t))) n2 t2 k
def refsFrom : Nat → Nat → List Value
  | 0, _ => []
  | k + 1, a => .ref a :: refsFrom k (a + 1)
/-- the state behind: x = a tuple of rows of numbers -/
noncomputable def tabled (w : World) (x : PySem.Str) (rows : List (List Nat)) (s : SharedT) : SharedT := frS s fun s =>
  putRows rows s.tree s.n s.toks fun T n t => ⟨(T.ins n (tupOf (refsFrom rows.length s.n))).set 3 (addTo w.params x t (.ref n)), n + 1, s.life, s.gens, s.drawn, t + 1, s.os⟩
/-- .. x = a tuple of numbers -/
noncomputable def rowed (w : World) (x : PySem.Str) (r : List Nat) (s : SharedT) : SharedT := frS s fun s =>
  frNat (s.toks + r.length) fun t => ⟨(s.tree.ins s.n (tupOf (itemsN r s.toks))).set 3 (addTo w.params x t (.ref s.n)), s.n + 1, s.life, s.gens, s.drawn, t + 1, s.os⟩
end SG


set_option Elab.async false
set_option linter.all false
set_option maxRecDepth 100000
set_option maxHeartbeats 0
/-! this row's top, its parts -/
namespace E32
open PySem PySem.W HandSHeadRun PyProof.Rows SG
noncomputable def stp (w : World) : STp := stepQ (denQ tabQ) R.prog w
abbrev ann0 : Option Value := some (.ref 6)
def Bp : List Stmt := behindTheImports R.prog
def env : Env := { scope := R.prog.main.scope, locals := 3, globals := 3, cells := [], code := .ref 13, frame := some 14 }
def c0 : Code := .body Bp env
def p0 : Pos := ⟨0, 0, 0, 0⟩
def posT : Stmt → Pos
  | .Assign (.Name _ p :: _) _ _ => p
  | _ => p0
noncomputable def blk : Thread := { cur := Sem.wrap (fun _ => doneF Flow.next) deadEnd id id (bsQ Bp env), code := c0, pos := p0, stack := [topFrame p0] }
noncomputable def pcs (l : List Stmt) (p : Pos) : Thread := { cur := Sem.wrap doneF deadEnd id id (exQ l env), code := c0, pos := p, stack := [topFrame p0] }
noncomputable def rst (l : List Stmt) (p : Pos) : Thread := { cur := Sem.wrap doneF (leaveH env) id id (exQ l env), code := c0, pos := p, stack := [topFrame p0] }
abbrev Q4 : Type := Flow × SharedT × Code × Pos
noncomputable def sB (w : World) (os : OsState) : SharedT := bootT w os (bt w)
noncomputable def sP (w : World) (os : OsState) : SharedT := ((itF (stp w) 11 ann0 12 (sB w os) (topStub R.prog)).getD (sB w os, topStub R.prog)).1
noncomputable def sK (w : World) (os : OsState) : SharedT := ((segF (stp w) 11 ann0 100 (sP w os) blk).getD (.brk, sP w os, c0, p0)).2.1
noncomputable def s0 (w : World) (os : OsState) : SharedT := ((segF (stp w) 11 ann0 2000 (sK w os) (pcs (Bp.take 1) p0)).getD (.brk, sP w os, c0, p0)).2.1
theorem bt_is (w : World) : ((putAll (boot_heap w.params).objs.toList .nil 0).isSome, (bt w).2, bootAnn w) = (true, 11, ann0) := by kernel_rfl
theorem run_P (w : World) (os : OsState) : itF (stp w) 11 ann0 12 (sB w os) (topStub R.prog) = some (sP w os, { cur := denQ tabQ (.body Bp env), code := c0, pos := p0, stack := [topFrame p0] }) := by kernel_rfl
theorem run_K (w : World) (os : OsState) : segF (stp w) 11 ann0 100 (sP w os) blk = some (.next, sK w os, c0, p0) := by kernel_rfl
theorem run_0 (w : World) (os : OsState) : segF (stp w) 11 ann0 2000 (sK w os) (pcs (Bp.take 1) p0) = some (.next, s0 w os, c0, posT (K0.topS 0)) := by kernel_rfl
end E32


set_option Elab.async false
set_option linter.all false
set_option maxRecDepth 100000
set_option maxHeartbeats 0
namespace E32
open PySem PySem.W HandSHeadRun PyProof.Rows SG
noncomputable def endAtW (w : World) (os : OsState) : Option SharedT := goF (stp w) 11 ann0 100000 (s0 w os) (rst (Bp.drop 1) (posT (K0.topS 0)))
theorem run_E (w : World) (os : OsState) : (endAtW w os).map (fun s => (looksF R.prog (boot_heap w.params) s.abs, seenQ (view R.prog [43]) names (importedModules R.prog.main.body) (fun s => xlAt (view R.prog [43]) [] s && recOk R.toRowW.records s) s.abs)) = some (true, openGood (view R.prog [43]) names) := by kernel_rfl
theorem run_F (w : World) (os : OsState) : (endAtW w os).map (fun s => He.obsD fa fn (He.frT (getT s) (HZ.asZ gr (getT s)))) = some (He.valD fn) := by kernel_rfl
theorem run_X (w : World) (os : OsState) : (endAtW w os).map (fun s => ex (getT s) && He.tabsB (getT s) tf (He.frT (getT s) (HZ.asZ gr (getT s)))) = some true := by kernel_rfl
theorem run_Y (w : World) (os : OsState) : (endAtW w os).map (fun s => apY (He.frT (getT s) (HZ.asZ gr (getT s)))) = some apV := by kernel_rfl
end E32


set_option Elab.async false
set_option linter.all false
set_option maxRecDepth 100000
set_option maxHeartbeats 4000000
/-! from the head's facts to the law's promise -/
namespace E32
open PySem PySem.Spec PyProof.Rows L2 He HZ K0 K0z KdN
section
variable {P : Program} {w : World} {K : PySem.W.Frag} {mg : Str → Option Value} {gr : Heap} {f : Addr} {fd : FuncData} {k : Nat} {ps : List Str} {sp : Sp}
theorem dn_at {x : Str} {st : Stmt} (m : mg x = some (.ref f)) (F : Fun K x x st f fd) (o : FnOk P w K mg gr CX0 k f fd ps sp)
    (b : ∀ (kV doc pm : Value) (an : Option Addr) (cdv ct : Value) (us : List Value), us.length = ps.length → bindArgs (PySem.W.fnOf x x (defArgs st) (defBody st) (defScope st) .none kV doc pm an cdv ct) ⟨us, []⟩ = pure (ps.zip us)) : Dn P w K mg gr k x f ps sp := ⟨⟨fd, o, F.binds b⟩, m, F.kp⟩
theorem dg_at {x : Str} {st : Stmt} (m : mg x = some (.ref f)) (F : Fun K x x st f fd) (o : FnG P w K mg gr k f fd ps sp)
    (b : ∀ (kV doc pm : Value) (an : Option Addr) (cdv ct : Value) (us : List Value), us.length = ps.length → bindArgs (PySem.W.fnOf x x (defArgs st) (defBody st) (defScope st) .none kV doc pm an cdv ct) ⟨us, []⟩ = pure (ps.zip us)) : DnG P w K mg gr k x f ps sp := ⟨⟨fd, o, F.binds b⟩, m, F.kp⟩
theorem dx_at {x : Str} {st : Stmt} (m : mg x = some (.ref f)) (F : Fun K x x st f fd) (o : FnOk P w K mg gr (L2.CX P w) k f fd ps sp)
    (b : ∀ (kV doc pm : Value) (an : Option Addr) (cdv ct : Value) (us : List Value), us.length = ps.length → bindArgs (PySem.W.fnOf x x (defArgs st) (defBody st) (defScope st) .none kV doc pm an cdv ct) ⟨us, []⟩ = pure (ps.zip us)) : DnX P w K mg gr k x f ps sp := ⟨⟨fd, o, F.binds b⟩, m, F.kp⟩
/-- a def by keywords -/
theorem kb_0 {x q : Str} {st : Stmt} {f : Addr} {fd : FuncData} {ps ks : List Str} (F : Fun K x q st f fd)
    (b : ∀ (kV doc pm : Value) (an : Option Addr) (cdv ct : Value) (ws : List Value), ws.length = ks.length → bindArgs (PySem.W.fnOf x q (defArgs st) (defBody st) (defScope st) .none kV doc pm an cdv ct) ⟨[], ks.zip ws⟩ = pure (ps.zip ws)) : KBn K fd ps 0 ks (fun us ws => us ++ ws) kwA := by
  obtain ⟨oc, od, kV, doc, pm, an, cdv, ct, osl, rfl, lk, hcd⟩ := F.ex
  refine ⟨fun s us ws _ l1 l2 => ?_, fun r1 r2 => r1.append r2⟩
  match us, l1 with
  | [], _ => exact .of_eq (b kV doc pm an cdv ct ws l2)
/-- a method by keywords -/
theorem kb_m {x q : Str} {st : Stmt} {f : Addr} {fd : FuncData} {ps ks : List Str} (F : Fun K x q st f fd)
    (b : ∀ (kV doc pm : Value) (an : Option Addr) (cdv ct : Value) (u : Value) (ws : List Value), ws.length = ks.length → bindArgs (PySem.W.fnOf x q (defArgs st) (defBody st) (defScope st) .none kV doc pm an cdv ct) ⟨[u], ks.zip ws⟩ = pure (ps.zip (u :: ws))) : KBn K fd ps 1 ks (fun us ws => us ++ ws) kwA := by
  obtain ⟨oc, od, kV, doc, pm, an, cdv, ct, osl, rfl, lk, hcd⟩ := F.ex
  refine ⟨fun s us ws _ l1 l2 => ?_, fun r1 r2 => r1.append r2⟩
  match us, l1 with
  | [u], _ => exact .of_eq (b kV doc pm an cdv ct u ws l2)
/-- the def, its code object told -/
theorem funC_at {x : Str} {st : Stmt} (F : Fun K x x st (ga K x) fd) : FunC K x x st (ga K x) fd (codeOf K (x, none)) := by
  obtain ⟨oc, od, kV, doc, pm, an, cdv, ct, osl, rfl, lk, hcd⟩ := F.ex
  obtain ⟨c, rfl⟩ := codeIn_ref hcd
  have e : codeOf K (x, none) = c := codeOf_eq (p := (x, none)) (fd := PySem.W.fnOf x x (defArgs st) (defBody st) (defScope st) .none kV doc pm an (.ref c) ct) lk rfl
  rw [e]
  exact ⟨oc, od, kV, doc, pm, an, ct, osl, rfl, lk, hcd⟩
end
section
variable {P : Program} {w : World} {K : PySem.W.Frag} {mg : Str → Option Value} {h : Heap}
theorem names_ok (X : K.In h) (G : h.Ns mainGlobals mg) (c : SaysD fa fn K) : Nm mg :=
  ⟨free_ok X G (c.fact 58 rfl), free_ok X G (c.fact 59 rfl), free_ok X G (c.fact 60 rfl), free_ok X G (c.fact 61 rfl), free_ok X G (c.fact 62 rfl), free_ok X G (c.fact 63 rfl), free_ok X G (c.fact 64 rfl), free_ok X G (c.fact 65 rfl), free_ok X G (c.fact 66 rfl), free_ok X G (c.fact 67 rfl), free_ok X G (c.fact 68 rfl), free_ok X G (c.fact 69 rfl), free_ok X G (c.fact 70 rfl), free_ok X G (c.fact 71 rfl), int_ok X G (c.fact 35 rfl), int_ok X G (c.fact 36 rfl), int_ok X G (c.fact 37 rfl), int_ok X G (c.fact 38 rfl), int_ok X G (c.fact 39 rfl)⟩
theorem facts {f : Addr} (X : K.In h) (G : h.Ns mainGlobals mg) (hfa : mg ("law" : Str) = some (.ref f)) (c : SaysD fa fn K) (e : Tb K) :
    ∃ fd : FuncData, (∀ (s : Shared) (v : Value), BindsTo s fd ⟨[v], []⟩ [("script", v)]) ∧ ∀ gr : Heap, K.In gr → gr.Ns mainGlobals mg → (∀ p ∈ tf, LamX.TabB gr mg (cT K p).1 (cT K p).2) → FnG P w K mg gr 13 f fd ["script"] (spLaw K (cT K ("_law_right", none)).2 (cT K ("_law_refused_right", none)).2) := by
  obtain ⟨z, y⟩ := e
  unfold apY apV at y
  have T := names_ok X G c
  have LC : LikC K (ga K "Likeness") := ⟨cls_ok (c.fact 40 rfl), noat_ok (c.fact 41 rfl), noat_ok (c.fact 42 rfl), noat_ok (c.fact 43 rfl)⟩
  have U : LikD K (ga K "Likeness") := ⟨LC, ⟨z.q70, z.q71, z.q72, z.q73⟩, z.q63, z.q68, z.q69, z.q64, if_pos (beq_iff_eq.mpr rfl), z.q74, z.q75, z.q76, z.q77⟩
  have Mled : Meth K (ga K "Likeness") "led" (ma K (ga K "Likeness") "led") := meth_ok (c.fact 45 rfl)
  have Mthen : Meth K (ga K "Likeness") "then" (ma K (ga K "Likeness") "then") := meth_ok (c.fact 46 rfl)
  have Mback : Meth K (ga K "Likeness") "back" (ma K (ga K "Likeness") "back") := meth_ok (c.fact 47 rfl)
  have MK : Mk K (ga K "Likeness") (ma K (ga K "Likeness") "__init__") := mkr_ok (c.fact 44 rfl)
  obtain ⟨d0, F0⟩ := fun_at c 0 (x := "is_integer") (st := st_is_integer) rfl
  obtain ⟨d1, F1⟩ := fun_at c 1 (x := "is_within") (st := st_is_within) rfl
  obtain ⟨d2, F2⟩ := fun_at c 2 (x := "is_list") (st := st_is_list) rfl
  obtain ⟨d3, F3⟩ := fun_at c 3 (x := "are_integers") (st := st_are_integers) rfl
  obtain ⟨d4, F4⟩ := fun_at c 4 (x := "is_point") (st := st_is_point) rfl
  obtain ⟨d5, F5⟩ := fun_at c 5 (x := "are_points") (st := st_are_points) rfl
  obtain ⟨d6, F6⟩ := fun_at c 6 (x := "_are_places") (st := st__are_places) rfl
  obtain ⟨d7, F7⟩ := fun_at c 7 (x := "likenesses_of") (st := st_likenesses_of) rfl
  obtain ⟨d8, F8⟩ := fun_at c 8 (x := "_check_points_and_given") (st := st__check_points_and_given) rfl
  obtain ⟨d9, F9⟩ := fun_at c 9 (x := "_leads_of") (st := st__leads_of) rfl
  obtain ⟨d10, F10⟩ := fun_at c 10 (x := "led_indexes") (st := st_led_indexes) rfl
  obtain ⟨d11, F11⟩ := fun_at c 11 (x := "_made_of") (st := st__made_of) rfl
  obtain ⟨d12, F12⟩ := fun_at c 12 (x := "_one_then") (st := st__one_then) rfl
  obtain ⟨d13, F13⟩ := fun_at c 13 (x := "_law_keg") (st := st__law_keg) rfl
  obtain ⟨d14, F14⟩ := fun_at c 14 (x := "_law_tap") (st := st__law_tap) rfl
  obtain ⟨d15, F15⟩ := fun_at c 15 (x := "_law_choose") (st := st__law_choose) rfl
  obtain ⟨d16, F16⟩ := fun_at c 16 (x := "_law_stirred") (st := st__law_stirred) rfl
  obtain ⟨d17, F17⟩ := fun_at c 17 (x := "_law_one") (st := st__law_one) rfl
  obtain ⟨d18, F18⟩ := fun_at c 18 (x := "_law_led") (st := st__law_led) rfl
  obtain ⟨d19, F19⟩ := fun_at c 19 (x := "_law_reached") (st := st__law_reached) rfl
  obtain ⟨d20, F20⟩ := fun_at c 20 (x := "_law_made") (st := st__law_made) rfl
  obtain ⟨d21, F21⟩ := fun_at c 21 (x := "_law_points") (st := st__law_points) rfl
  obtain ⟨d22, F22⟩ := fun_at c 22 (x := "_law_strays") (st := st__law_strays) rfl
  obtain ⟨d23, F23⟩ := fun_at c 23 (x := "_law_heard") (st := st__law_heard) rfl
  obtain ⟨d24, F24⟩ := fun_at c 24 (x := "_law_right") (st := st__law_right) rfl
  obtain ⟨d25, F25⟩ := fun_at c 25 (x := "_law_refused_right") (st := st__law_refused_right) rfl
  obtain ⟨dl, FD⟩ := c.def_ 26 (d := dd "law" st_law) rfl
  have Fl : Fun K "law" "law" st_law _ dl := funD FD
  obtain ⟨e0, E0⟩ := met_at c 27 (C := "Likeness") (m := "__init__") (q := "Likeness.__init__") (st := sm_init) rfl
  obtain ⟨e1, E1⟩ := met_at c 28 (C := "Likeness") (m := "__eq__") (q := "Likeness.__eq__") (st := sm_eq) rfl
  obtain ⟨e2, E2⟩ := met_at c 29 (C := "Likeness") (m := "led") (q := "Likeness.led") (st := sm_led) rfl
  obtain ⟨e3, E3⟩ := met_at c 30 (C := "Likeness") (m := "then") (q := "Likeness.then") (st := sm_then) rfl
  obtain ⟨e4, E4⟩ := met_at c 31 (C := "Likeness") (m := "back") (q := "Likeness.back") (st := sm_back) rfl
  obtain ⟨e5, E5⟩ := met_at c 32 (C := "BadNumber") (m := "__init__") (q := "BadNumber.__init__") (st := si_BadNumber) rfl
  obtain ⟨e6, E6⟩ := met_at c 33 (C := "BadPoint") (m := "__init__") (q := "BadPoint.__init__") (st := si_BadPoint) rfl
  obtain ⟨e7, E7⟩ := met_at c 34 (C := "BadLikeness") (m := "__init__") (q := "BadLikeness.__init__") (st := si_BadLikeness) rfl
  obtain ⟨e8, E8⟩ := met_at c 35 (C := "Misfit") (m := "__init__") (q := "Misfit.__init__") (st := si_Misfit) rfl
  obtain ⟨e9, E9⟩ := met_at c 36 (C := "TooMany") (m := "__init__") (q := "TooMany.__init__") (st := si_TooMany) rfl
  obtain ⟨es, Es⟩ := cdS_ok z.q84 y z.q83
  have g : ∀ (i : Nat) {x : Str}, fa[i]? = some (.glo x) → mg x = some (.ref (ga K x)) := fun i {x} hi => glo_ok X G (c.fact i hi)
  have el := hfa.symm.trans (g 26 (x := "law") rfl)
  cases el
  refine ⟨dl, fun s v => ?_, fun gr _ _ TB => ?_⟩
  · exact FunD.bindsA (ps := ["script"]) FD (fun _ _ _ _ _ _ us hl => match us, hl with | [_], _ => rfl) s [v] rfl
  · have D_is_integer : Dn P w K mg gr 1 "is_integer" _ ["value"] (spIsInt K) := dn_at (g 0 rfl) F0 (ok_is_integer F0 T) (fun _ _ _ _ _ _ us hl => match us, hl with | [_], _ => rfl)
    have D_is_within : Dn P w K mg gr 2 "is_within" _ ["value", "least", "most"] (spWithin K) := dn_at (g 1 rfl) F1 (ok_is_within F1 T D_is_integer) (fun _ _ _ _ _ _ us hl => match us, hl with | [_, _, _], _ => rfl)
    have D_is_list : Dn P w K mg gr 3 "is_list" _ ["value", "least", "most"] (spIsList K) := dn_at (g 2 rfl) F2 (ok_is_list F2 T D_is_within) (fun _ _ _ _ _ _ us hl => match us, hl with | [_, _, _], _ => rfl)
    have D_are_integers : Dn P w K mg gr 4 "are_integers" _ ["value"] (spAreInts K) := dn_at (g 3 rfl) F3 (ok_are_integers F3 T D_is_integer D_is_list) (fun _ _ _ _ _ _ us hl => match us, hl with | [_], _ => rfl)
    have D_is_point : Dn P w K mg gr 5 "is_point" _ ["value", "wide"] (spIsPoint K) := dn_at (g 4 rfl) F4 (ok_is_point F4 D_are_integers D_is_list) (fun _ _ _ _ _ _ us hl => match us, hl with | [_, _], _ => rfl)
    have D_are_points : Dn P w K mg gr 6 "are_points" _ ["value", "least_wide", "most_wide"] (spPts K) := dn_at (g 5 rfl) F5 (ok_are_points F5 T D_is_list D_is_point) (fun _ _ _ _ _ _ us hl => match us, hl with | [_, _, _], _ => rfl)
    have D__are_places : Dn P w K mg gr 5 "_are_places" _ ["value"] (spPlc K) := dn_at (g 6 rfl) F6 (ok_plc F6 T D_is_list D_are_integers) (fun _ _ _ _ _ _ us hl => match us, hl with | [_], _ => rfl)
    have D__one_then : Dn P w K mg gr 1 "_one_then" _ ["one", "other"] (spThen2 K) := dn_at (g 12 rfl) F12 (ok_one_then F12 T) (fun _ _ _ _ _ _ us hl => match us, hl with | [_, _], _ => rfl)
    have O_BadNumber : OexC K (ga K "BadNumber") := ⟨z.q0, z.q1, z.q2, z.q3, z.q4⟩
    have R_BadNumber : RaiseC P w K mg gr "BadNumber" (ga K "BadNumber") "part" := ⟨(ma K (ga K "BadNumber") "__init__"), e5, ["self", "part"], z.q5, z.q6, oki_BadNumber E5 O_BadNumber (noat_ok (c.fact 48 rfl)), E5.binds (ps := ["self", "part"]) (fun _ _ _ _ _ _ us hl => match us, hl with | [_, _], _ => rfl), O_BadNumber, g 29 rfl⟩
    have O_BadPoint : OexC K (ga K "BadPoint") := ⟨z.q7, z.q8, z.q9, z.q10, z.q11⟩
    have R_BadPoint : RaiseC P w K mg gr "BadPoint" (ga K "BadPoint") "part" := ⟨(ma K (ga K "BadPoint") "__init__"), e6, ["self", "part"], z.q12, z.q13, oki_BadPoint E6 O_BadPoint (noat_ok (c.fact 49 rfl)), E6.binds (ps := ["self", "part"]) (fun _ _ _ _ _ _ us hl => match us, hl with | [_, _], _ => rfl), O_BadPoint, g 30 rfl⟩
    have O_BadLikeness : OexC K (ga K "BadLikeness") := ⟨z.q14, z.q15, z.q16, z.q17, z.q18⟩
    have R_BadLikeness : RaiseC P w K mg gr "BadLikeness" (ga K "BadLikeness") "part" := ⟨(ma K (ga K "BadLikeness") "__init__"), e7, ["self", "part"], z.q19, z.q20, oki_BadLikeness E7 O_BadLikeness (noat_ok (c.fact 50 rfl)), E7.binds (ps := ["self", "part"]) (fun _ _ _ _ _ _ us hl => match us, hl with | [_, _], _ => rfl), O_BadLikeness, g 32 rfl⟩
    have O_Misfit : OexC K (ga K "Misfit") := ⟨z.q21, z.q22, z.q23, z.q24, z.q25⟩
    have R_Misfit : RaiseC P w K mg gr "Misfit" (ga K "Misfit") "part" := ⟨(ma K (ga K "Misfit") "__init__"), e8, ["self", "part"], z.q26, z.q27, oki_Misfit E8 O_Misfit (noat_ok (c.fact 51 rfl)), E8.binds (ps := ["self", "part"]) (fun _ _ _ _ _ _ us hl => match us, hl with | [_, _], _ => rfl), O_Misfit, g 33 rfl⟩
    have O_TooMany : OexC K (ga K "TooMany") := ⟨z.q28, z.q29, z.q30, z.q31, z.q32⟩
    have R_TooMany : RaiseC2 P w K mg gr "TooMany" (ga K "TooMany") := ⟨(ma K (ga K "TooMany") "__init__"), e9, ["self", "what", "most"], z.q33, z.q34, oki_TooMany E9 O_TooMany (noat_ok (c.fact 52 rfl)) (noat_ok (c.fact 53 rfl)), E9.binds (ps := ["self", "what", "most"]) (fun _ _ _ _ _ _ us hl => match us, hl with | [_, _, _], _ => rfl), O_TooMany, g 34 rfl⟩
    have M : LikM P w K mg gr (ga K "Likeness") (ga K "BadLikeness") := ⟨⟨_, e0, MK, ok_init E0 T LC D_is_point D__are_places R_BadLikeness, E0.binds (ps := ["self", "places", "signs"]) (fun _ _ _ _ _ _ us hl => match us, hl with | [_, _, _], _ => rfl)⟩, g 27 rfl⟩
    have LX : LedX P w K mg gr (ga K "Likeness") (ga K "BadPoint") := ⟨⟨_, e2, Mled, ok_led E2 T LC D_is_point R_BadPoint, E2.binds (ps := ["self", "point"]) (fun _ _ _ _ _ _ us hl => match us, hl with | [_, _], _ => rfl)⟩⟩
    have CR : ClX.CRead K (ga K "Likeness") (.type "type") := ⟨z.q80, z.q81⟩
    have MS : LkMs P w K mg gr (ga K "Likeness") (ga K "BadLikeness") (ga K "Misfit") (ga K "BadNumber") := ⟨⟨_, e3, Mthen, ok_then E3 T U M D__one_then R_BadLikeness R_Misfit, E3.binds (ps := ["self", "other"]) (fun _ _ _ _ _ _ us hl => match us, hl with | [_, _], _ => rfl)⟩, ⟨_, e4, Mback, ok_back E4 T U M, E4.binds (ps := ["self"]) (fun _ _ _ _ _ _ us hl => match us, hl with | [_], _ => rfl)⟩, ⟨_, _, es, _, CR, z.q82, ok_same Es T M D_is_within R_BadNumber, Es.binds (ps := ["wide"]) (fun _ _ _ _ _ _ us hl => match us, hl with | [_], _ => rfl)⟩⟩
    have EQ : EqQ P w K mg gr (ga K "Likeness") := ⟨⟨_, e1, ok_leq E1 T U (g 27 rfl), z.q65, z.q66, E1.binds (ps := ["self", "other"]) (fun _ _ _ _ _ _ us hl => match us, hl with | [_, _], _ => rfl)⟩⟩
    have ED : EqD P w K mg gr (ga K "Likeness") := ⟨⟨_, e1, ok_leq E1 T U (g 27 rfl), z.q65, z.q66, E1.binds (ps := ["self", "other"]) (fun _ _ _ _ _ _ us hl => match us, hl with | [_, _], _ => rfl)⟩, z.q67, z.q64, z.q78, z.q79⟩
    have D_led_indexes : Dn P w K mg gr 7 "led_indexes" _ ["points", "likeness"] (spLx K (ga K "Likeness")) := dn_at (g 10 rfl) F10 (ok_led_indexes F10 T U.cl LX) (fun _ _ _ _ _ _ us hl => match us, hl with | [_, _], _ => rfl)
    have D__check_points_and_given : DnX P w K mg gr 7 "_check_points_and_given" _ ["points", "given"] (spChk K (ga K "BadPoint") (ga K "BadLikeness") (ga K "Likeness")) := dx_at (g 8 rfl) F8 (ok_check F8 T U (g 27 rfl) D_is_list D_are_points R_BadPoint R_BadLikeness) (fun _ _ _ _ _ _ us hl => match us, hl with | [_, _], _ => rfl)
    have D__leads_of : DnX P w K mg gr 8 "_leads_of" _ ["points", "given"] (spLds K (ga K "Misfit") (ga K "Likeness")) := dx_at (g 9 rfl) F9 (ok_leads_of F9 T D_led_indexes R_Misfit) (fun _ _ _ _ _ _ us hl => match us, hl with | [_, _], _ => rfl)
    have D__made_of : DnX P w K mg gr 4 "_made_of" _ ["given", "wide"] (spMdX K (ga K "Likeness") (ga K "TooMany")) := dx_at (g 11 rfl) F11 (ok_made_of F11 T U D__one_then R_TooMany) (fun _ _ _ _ _ _ us hl => match us, hl with | [_, _], _ => rfl)
    have OL := ok_lo (P := P) (w := w) (base := gr) F7 T M D__check_points_and_given D__leads_of D__made_of
    have D_likenesses_of : DnX P w K mg gr 9 "likenesses_of" _ ["points", "given"] (spLo K (ga K "Likeness") (ga K "BadPoint") (ga K "BadLikeness") (ga K "Misfit") (ga K "TooMany")) := dx_at (g 7 rfl) F7 (OL) (fun _ _ _ _ _ _ us hl => match us, hl with | [_, _], _ => rfl)
    have K_likenesses_of : DnKX P w K mg gr 9 "likenesses_of" _ ["points", "given"] ["points", "given"] kwA (spLo K (ga K "Likeness") (ga K "BadPoint") (ga K "BadLikeness") (ga K "Misfit") (ga K "TooMany")) := ⟨⟨_, _, OL, kb_0 (ps := ["points", "given"]) (ks := ["points", "given"]) F7 (fun _ _ _ _ _ _ ws hl => match ws, hl with | [_, _], _ => rfl)⟩, g 7 rfl, F7.kp⟩
    have D__law_keg : Dn P w K mg gr 1 "_law_keg" _ ["script"] (spCoil K) := dn_at (g 13 rfl) F13 (ok_coil F13 T) (fun _ _ _ _ _ _ us hl => match us, hl with | [_], _ => rfl)
    have D__law_tap : Dn P w K mg gr 1 "_law_tap" _ ["keg", "many"] spTurn := dn_at (g 14 rfl) F14 (ok_turn F14 T) (fun _ _ _ _ _ _ us hl => match us, hl with | [_, _], _ => rfl)
    have D__law_choose : Dn P w K mg gr 2 "_law_choose" _ ["keg", "some"] (spOne K) := dn_at (g 15 rfl) F15 (ok_one_of F15 T D__law_tap) (fun _ _ _ _ _ _ us hl => match us, hl with | [_, _], _ => rfl)
    have D__law_stirred : Dn P w K mg gr 2 "_law_stirred" _ ["keg", "some"] (spStir K) := dn_at (g 16 rfl) F16 (ok_stirred F16 T D__law_tap) (fun _ _ _ _ _ _ us hl => match us, hl with | [_, _], _ => rfl)
    have D__law_one : Dn P w K mg gr 3 "_law_one" _ ["keg", "wide"] spOnL := dn_at (g 17 rfl) F17 (ok_law_one F17 T D__law_tap D__law_choose D__law_stirred) (fun _ _ _ _ _ _ us hl => match us, hl with | [_, _], _ => rfl)
    have D__law_led : Dn P w K mg gr 1 "_law_led" _ ["one", "point"] (spLw K) := dn_at (g 18 rfl) F18 (ok_lled F18 T) (fun _ _ _ _ _ _ us hl => match us, hl with | [_, _], _ => rfl)
    have D__law_reached : Dn P w K mg gr 2 "_law_reached" _ ["given", "points", "most"] (spRch K) := dn_at (g 19 rfl) F19 (ok_law_reached F19 T D__law_led) (fun _ _ _ _ _ _ us hl => match us, hl with | [_, _, _], _ => rfl)
    have D__law_made : Dn P w K mg gr 3 "_law_made" _ ["given", "wide"] (spMade K) := dn_at (g 20 rfl) F20 (ok_law_made F20 T D__law_reached) (fun _ _ _ _ _ _ us hl => match us, hl with | [_, _], _ => rfl)
    have D__law_points : Dn P w K mg gr 4 "_law_points" _ ["keg", "given", "wide"] (spPn K) := dn_at (g 21 rfl) F21 (ok_law_points F21 T D__law_tap D__law_choose D__law_stirred D__law_reached) (fun _ _ _ _ _ _ us hl => match us, hl with | [_, _, _], _ => rfl)
    have D__law_strays : Dn P w K mg gr 2 "_law_strays" _ ["given", "points"] (spStr K) := dn_at (g 22 rfl) F22 (ok_law_strays F22 T D__law_led) (fun _ _ _ _ _ _ us hl => match us, hl with | [_, _], _ => rfl)
    have RR : Errs mg (ga K "SolidError") (ga K "BadLikeness") (ga K "BadPoint") (ga K "BadLot") (ga K "Misfit") (ga K "TooMany") := ⟨g 28 rfl, g 32 rfl, g 30 rfl, g 31 rfl, g 33 rfl, g 34 rfl⟩
    have xf_BadPoint := z.q35
    have ec_BadPoint : ExcC K (ga K "BadPoint") := ⟨xf_BadPoint.ga, xf_BadPoint.gg, xf_BadPoint.exC, xf_BadPoint.hdC, z.q36, z.q68, z.q69, z.q37⟩
    have H_BadPoint : HrC K (ga K "SolidError") (ga K "BadLikeness") (ga K "BadPoint") (ga K "BadLot") (ga K "Misfit") (ga K "TooMany") (ga K "BadPoint") "point" := ⟨⟨_, _, _, _, Kd.pnt, z.q38, z.q39, z.q40, z.q41⟩, z.q42, of_decide_eq_true (c.fact 54 rfl), ec_BadPoint, xf_BadPoint, eqO_ok (c.fact 49 rfl)⟩
    have xf_BadLikeness := z.q43
    have ec_BadLikeness : ExcC K (ga K "BadLikeness") := ⟨xf_BadLikeness.ga, xf_BadLikeness.gg, xf_BadLikeness.exC, xf_BadLikeness.hdC, z.q44, z.q68, z.q69, z.q45⟩
    have H_BadLikeness : HrC K (ga K "SolidError") (ga K "BadLikeness") (ga K "BadPoint") (ga K "BadLot") (ga K "Misfit") (ga K "TooMany") (ga K "BadLikeness") "likeness" := ⟨⟨_, _, _, _, Kd.lik, z.q46, z.q47, z.q48, z.q49⟩, z.q50, of_decide_eq_true (c.fact 55 rfl), ec_BadLikeness, xf_BadLikeness, eqO_ok (c.fact 50 rfl)⟩
    have xf_Misfit := z.q51
    have ec_Misfit : ExcC K (ga K "Misfit") := ⟨xf_Misfit.ga, xf_Misfit.gg, xf_Misfit.exC, xf_Misfit.hdC, z.q52, z.q68, z.q69, z.q53⟩
    have H_Misfit : HrC K (ga K "SolidError") (ga K "BadLikeness") (ga K "BadPoint") (ga K "BadLot") (ga K "Misfit") (ga K "TooMany") (ga K "Misfit") "misfit" := ⟨⟨_, _, _, _, Kd.mis, z.q54, z.q55, z.q56, z.q57⟩, z.q58, of_decide_eq_true (c.fact 56 rfl), ec_Misfit, xf_Misfit, eqO_ok (c.fact 51 rfl)⟩
    have xf_TooMany := z.q59
    have ec_TooMany : ExcC K (ga K "TooMany") := ⟨xf_TooMany.ga, xf_TooMany.gg, xf_TooMany.exC, xf_TooMany.hdC, z.q60, z.q68, z.q69, z.q61⟩
    have H_TooMany : TmC K (ga K "SolidError") (ga K "TooMany") := ⟨z.q62, of_decide_eq_true (c.fact 57 rfl), ec_TooMany, xf_TooMany, eqO_ok (c.fact 52 rfl), eqO_ok (c.fact 53 rfl)⟩
    have D__law_right : DnG P w K mg gr 12 "_law_right" _ ["keg", "wide"] (spRi K (cT K ("_law_right", none)).2 (cT K ("_law_refused_right", none)).2) := dg_at (g 24 rfl) F24 (ok_right (funC_at F24) T M U (g 27 rfl) LX MS EQ D__law_tap D__law_choose D__law_stirred D__law_one D__law_points D__law_made D__law_strays D_likenesses_of K_likenesses_of F23 (F23.binds (ps := ["ask"]) (fun _ _ _ _ _ _ us hl => match us, hl with | [_], _ => rfl)) (g 23 rfl) F23.kp (TB ("_law_right", none) List.mem_cons_self) z.q85 RR H_TooMany H_Misfit) (fun _ _ _ _ _ _ us hl => match us, hl with | [_, _], _ => rfl)
    have D__law_refused_right : DnG P w K mg gr 12 "_law_refused_right" _ ["keg"] (spRu K (cT K ("_law_right", none)).2 (cT K ("_law_refused_right", none)).2) := dg_at (g 25 rfl) F25 (ok_refused (funC_at F25) T M U (g 27 rfl) MS ED D__law_tap D__law_choose D_likenesses_of F23 (F23.binds (ps := ["ask"]) (fun _ _ _ _ _ _ us hl => match us, hl with | [_], _ => rfl)) (g 23 rfl) F23.kp (TB ("_law_refused_right", none) (List.mem_cons_of_mem _ List.mem_cons_self)) z.q85 RR H_TooMany H_BadPoint H_BadLikeness) (fun _ _ _ _ _ _ us hl => match us, hl with | [_], _ => rfl)
    exact ok_law Fl T D__law_keg D__law_tap D__law_right D__law_refused_right
end
end E32


set_option Elab.async false
set_option linter.all false
set_option maxRecDepth 100000
set_option maxHeartbeats 400000
namespace E32
open PySem PySem.W HandSHeadRun PyProof.Rows SG
theorem trip {s : SharedT} {w : World} (f1 : He.obsD fa fn (He.frT (getT s) (HZ.asZ gr (getT s))) = He.valD fn) (f2 : (ex (getT s) && He.tabsB (getT s) tf (He.frT (getT s) (HZ.asZ gr (getT s)))) = true) (f3 : apY (He.frT (getT s) (HZ.asZ gr (getT s))) = apV) : ob s = hk.val w := by
  show (He.obsD fa fn (He.frT (getT s) (HZ.asZ gr (getT s))), ex (getT s) && He.tabsB (getT s) tf (He.frT (getT s) (HZ.asZ gr (getT s))), apY (He.frT (getT s) (HZ.asZ gr (getT s)))) = (He.valD fn, true, apV)
  rw [f1, f2, f3]
theorem tops : behindTheImports R.prog = Bp.take 1 ++ Bp.drop 1 := by kernel_rfl
theorem stp_is (w : World) : stp w = stepT (denote treeTable) R.prog w := by
  unfold stp
  rw [stepQ_eq, denQ_eq, tabQ_eq]
theorem pcs_is (l : List Stmt) (p : Pos) : pcs l p = piecesOf l env c0 p [topFrame p0] := by
  unfold pcs piecesOf
  rw [exQ_eq]
theorem rst_is (l : List Stmt) (p : Pos) : rst l p = restOf l env c0 p [topFrame p0] := by
  unfold rst restOf
  rw [exQ_eq]
theorem blk_is : blk = blockOf Bp env c0 p0 [topFrame p0] := by
  unfold blk blockOf
  rw [bsQ_eq]
theorem top_run (w : World) (os : OsState) : ∃ s : SharedT, topRun treeTable R.prog w (boot_heap w.params).objs.size (bootAnn w) 200000 ⟨boot_heap w.params, #[], boot_drawn, boot_toks, os⟩ (topStub R.prog) = some s.abs ∧
    looksF R.prog (boot_heap w.params) s.abs = true ∧ openSeen (view R.prog [43]) names (importedModules R.prog.main.body) (fun s => xlAt (view R.prog [43]) [] s && recOk R.toRowW.records s) true s.abs = openGood (view R.prog [43]) names ∧ hk.obs s.abs = hk.val w := by
  obtain ⟨s, hs, hv⟩ := Option.map_eq_some_iff.mp (run_E w os)
  obtain ⟨g1, g2⟩ := Prod.mk.inj hv
  have g3 : ob s = hk.val w := by
    have f1 := run_F w os
    have f2 := run_X w os
    have f3 := run_Y w os
    rw [hs] at f1 f2 f3
    have f1 := Option.some.inj f1
    have f2 := Option.some.inj f2
    have f3 := Option.some.inj f3
    exact trip f1 f2 f3
  have hs : goF (stp w) 11 ann0 100000 (s0 w os) (rst (Bp.drop 1) (posT (K0.topS 0))) = some s := hs
  refine ⟨s, ?_, g1, by rw [seenQ_eq]; exact g2, by rw [← ob_eq]; exact g3⟩
  have b := bt_is w
  simp only [Prod.mk.injEq] at b
  obtain ⟨b1, b2, b3⟩ := b
  obtain ⟨z1, z2⟩ := bt_ok b1 os
  rw [z2, b2, b3, ← z1]
  have rP := run_P w os
  have rK := run_K w os
  have r0 := run_0 w os
  rw [stp_is] at rP rK r0 hs
  rw [pcs_is] at r0
  rw [rst_is] at hs
  rw [blk_is] at rK
  rw [← denQ_eq, ← tabQ_eq] at rP
  have e : 200000 = (100 + (2000 + (100000 + 97888))) + 12 := rfl
  rw [e]
  refine it_top rP ?_
  refine piece_block (seg_run rK) ?_
  rw [show Bp = _ from tops]
  refine piece_app (seg_run r0) ?_
  have fin0 := goF_ok (tb := treeTable) (p := R.prog) (w := w) (n0 := 11) (ann := ann0) (m := 100000) (s := s0 w os) (s' := s) (t := restOf (Bp.drop 1) env c0 (posT (K0.topS 0)) [topFrame p0]) hs
  have fin := topRun_mono 97888 100000 _ _ _ fin0
  exact fin
end E32


set_option Elab.async false
set_option linter.all false
set_option maxRecDepth 100000
set_option maxHeartbeats 0
namespace E32
open PySem PySem.W HandSHeadRun PyProof.Rows SG
abbrev qv : Program := view R.prog [43]
theorem names_are : opening R.prog = plainProg R.prog.main.scope.names := by kernel_rfl
theorem left_32 : LeftO R.prog qv names (fun s => xlAt qv [] s && recOk R.toRowW.records s) hk.obs hk.val 200600 true :=
  left_by (M := 200000) names_are (by decide) (fun s => by kernel_rfl) (by decide +kernel) fun w os => top_run w os
theorem law_top : (topDef R.prog 43).name = ("law" : PySem.Str) := by kernel_rfl
end E32
open PySem PySem.W PySem.Calls PyProof.Rows
theorem PySem.Challenge.cw_spindleway_k32_likenesses_that_given_one_holds : PySem.Challenge.rw_spindleway_k32_likenesses_that_given_one.Holds := by
  w_on; o_law
  refine holds_open (r := E32.R) (q := E32.qv) (loose := E32.names) (XP := XL E32.qv []) (YP := E32.hk.says) (d := HandSHeadRun.topDef E32.R.prog 43) (kwd := []) E32.left_32 E32.hk.of E32.hk.keeps (fun s z => xl_of s (Bool.and_eq_true_iff.mp z).1) XL.keeps
    (by kernel_rfl) (by kernel_rfl) (by kernel_rfl) (fun s z => recFacts_of (Bool.and_eq_true_iff.mp z).2) (by rfl) (by first | assumption | decide +kernel) (by decide +kernel) ⟨rfl, rfl, rfl, rfl, rfl, by decide +kernel⟩ ?hw ?hc
  case hw => w_witness2
  case hc =>
    refine HZ.walk_G (l := PySem.Challenge.rw_spindleway_k32_likenesses_that_given_one) (n := 63) (k := 13) (x := "script") rfl (by decide) (by kernel_rfl) ⟨rfl, by decide, by decide⟩ ?F
    intro w mg fa h Y G hmg0
    obtain ⟨K, KX, c, e, te⟩ := Y
    have hmg : mg ("law" : PySem.Str) = some (.ref fa) := by
      rw [← E32.law_top]
      exact hmg0
    obtain ⟨fd, hb, hF⟩ := E32.facts (P := (PySem.Challenge.rw_spindleway_k32_likenesses_that_given_one).prog) (w := w) KX G hmg c e
    refine ⟨K, fd, E32.tf.map (He.cT K), K0.spLaw K (He.cT K ("_law_right", none)).2 (He.cT K ("_law_refused_right", none)).2, KX, fun p hp => ?_, hb, fun Hx a ns hl hT hS => ⟨a, ns, rfl, hS, hl, fun p hp => ?_, fun _ => rfl⟩, fun gr g1 g2 TB => hF gr g1 g2 fun p hp => TB _ (List.mem_map_of_mem hp)⟩
    · obtain ⟨p2, hp2, rfl⟩ := List.mem_map.mp hp
      have tl := te p2 hp2
      exact ⟨tl.empty, tl.out, PySem.W.codeHd_of_K KX tl.hd⟩
    · rcases List.mem_cons.mp hp with rfl | hp
      · exact LamX.TabS.nil (hT (He.cT K ("_law_right", none)) (List.mem_map_of_mem List.mem_cons_self))
      · cases List.mem_singleton.mp hp
        exact LamX.TabS.nil (hT (He.cT K ("_law_refused_right", none)) (List.mem_map_of_mem (List.mem_cons_of_mem _ List.mem_cons_self)))

