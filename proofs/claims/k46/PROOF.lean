import PyProof.Rows.All
import Wide.All
import OpenK.AllK
import Wide.FinOn
import HandS.ForMost
import HandS.ForExc
import HandS.ExcInit
import HandS.ExcValue
import HandS.IsInst
import HandS.Wide
import HandS.Gcd
import HandS.Lambda
import HandS.ExcIs
import HandS.ExcField
import HandS.Defaults
import HandS.ExcOwn
import HandS.Words
import HandS.Nested
import HandS.More
import HandS.Star
import KE.KSuper
import HandS.OwnEq
import PyProof.Conv_bool
import KE.KTypeOf
import HandS.Style
import HandS.TupAny
import HandS.RevRange
import PySem.Challenge.RW_spindleway_k46_plans_by_sums
import PyProof.ZipIter
import HandS.Zip
import HandS.Walk
import PyProof.NeKinds
import HandS.LawCells
import PyProof.StrLawsRepr
import PyProof.ReprLen
import HandS.EndTab
import HandS.Ends
import KE.RegKSuper
set_option Elab.async false
set_option linter.all false
set_option maxRecDepth 100000
set_option maxHeartbeats 2000000
namespace K0
open PySem PySem.Spec PyProof.Rows L2

/-- a def's promise where no repr is under way around the call -/
structure FnG (P : Program) (w : World) (K : PySem.W.Frag) (mg : Str → Option Value) (base : Heap)
    (k : Nat) (f : Addr) (fd : FuncData) (ps : List Str) (sp : Sp) : Prop where
  len : ∀ vs H Q E, sp vs H Q E → vs.length = ps.length
  go : ∀ (A : Around) (outer : List Env) (s : Shared) (H : Hp) (args : Args) (us : List Value)
    (vs : List V) (Q : VK) (E : XK), A.guards = some [] → Room k A → Env0 P w K mg base A outer s H →
    BindsTo s fd args (ps.zip us) → Vals vs us → sp vs H Q E →
    codeAny (model P w) A (.call (.ref f) args) (CR CX0 outer P w H s Q E) s

theorem FnG.of {P : Program} {w : World} {K : PySem.W.Frag} {mg : Str → Option Value} {base : Heap}
    {k : Nat} {f : Addr} {fd : FuncData} {ps : List Str} {sp : Sp}
    (F : FnOk P w K mg base CX0 k f fd ps sp) : FnG P w K mg base k f fd ps sp :=
  ⟨F.len, fun A outer s H args us vs Q E _ => F.run A outer s H args us vs Q E⟩

theorem Fun_okG {P : Program} {w : World} {K : PySem.W.Frag} {mg : Str → Option Value} {base : Heap}
    {x qual : Str} {st : Stmt} {f : Addr} {fd : FuncData} {N ps : List Str} {k : Nat} {sp : Sp}
    (F : Fun K x qual st f fd) (S : FnScope N ps (defScope st))
    (len : ∀ vs H Q E, sp vs H Q E → vs.length = ps.length)
    (hbody : ∀ (cdv : Value) (A : Around) (outer : List Env) (s : Shared) (H : Hp) (vs : List V) (Q : VK) (E : XK),
      A.guards = some [] → Room k (A.deeper (envOfC qual (defScope st) s.heap.objs.size f cdv)) → sp vs H Q E →
      ∃ t, PSs (cxOf CX0 P w K mg base N qual (defScope st) f cdv A outer s H E) (defBody st) t ∧
        t { nx := fun _ H' => Q .non H', rt := Q } (start N vs) H) :
    FnG P w K mg base (k + 1) f fd ps sp := by
  obtain ⟨oc, od, kV, doc, pm, an, cdv, ct, osl, rfl, lk, hcd⟩ := F.ex
  refine ⟨len, ?_⟩
  intro A outer s H args us vs Q E hg hr e0 hb r hsp
  have kept : ∀ b o, base.get? b = some o → s.heap.get? b = some o := fun b o e => (e0.bs b o e).1
  have KX : K.In s.heap := e0.mod.kin.keeps kept
  have lim : s.heap.NoLimit := e0.mod.nolimit.keeps kept
  refine codeAny_call_function hr.depth (KX _ _ lk) rfl S.co S.gen rfl
    (PySem.W.codeRec_of KX hcd) (hb _ _ _ _ ?_)
  refine wpAny_newFunctionEnv_cells S.kind ?_ ?_
  · rintro ⟨n, v⟩ hy
    cases S.par n (List.of_mem_zip hy).1 with
    | inl q => exact Or.inl q
    | inr q => exact Or.inr ⟨q, PySem.W.cellsFrom_some _ _ _ (Or.inl q)⟩
  · intro env he s1 x
    subst he
    obtain ⟨t, ht, hq⟩ := hbody cdv A outer s H vs Q E hg (hr.deeper _) hsp
    refine ⟨lim.keeps x.toInCall.keep, codeAny_func ?_⟩
    have I := inv_start (CX := CX0) (E := E) (N := N) (cd := cdv) S hr.hd e0 (len _ _ _ _ hsp) r x
    refine wpAny_mono (ht.run [] s1 (start N vs) H _ I hq) ?_ (fun _ _ z => z)
    intro fl s' hs
    cases fl with
    | ret u =>
      obtain ⟨v, σ', H', J, rv, q⟩ := hs
      exact ⟨v, H', J.os, J.bare, J.base, J.hok, rv, q⟩
    | next =>
      obtain ⟨σ', H', J, q⟩ := hs
      exact ⟨.non, H', J.os, J.bare, J.base, J.hok, rfl, q⟩
    | brk =>
      obtain ⟨_, _, _, q⟩ := hs
      cases q
    | cont =>
      obtain ⟨_, _, _, q⟩ := hs
      cases q

section
variable {X : Cx} {k : Nat} {f : Addr} {fd : FuncData} {ps : List Str} {sp : Sp} {x : Str} {p pos : Pos} {e : Expr} {es : List Expr} {t : TA}
/-- a call of such a def, by place -/
theorem pe_callG (F : FnG X.prog X.w X.K X.mg X.base k f fd ps sp) (hG : X.A.guards = some []) (hr : Room k X.A) (hg : Gl X x)
    (hm : X.mg x = some (.ref f)) (hk : PySem.W.keepIn X.K (.ref f) = true) (hb : Binds X.K fd ps []) (ha : PA X (e :: es) t)
    (hdb : (x == ("__debug__" : Str)) = false := by decide)
    (he : starEach (e :: es) X.env = (false, eval e X.env) :: starEach es X.env := by rfl)
    (hpl : (backTo pos (starEach es X.env)).any (·.1) = false := by rfl) :
    PE X (.Call (.Name x p) (e :: es) [] pos) (fun σ H Q => t σ H fun vs H1 => sp vs H1 Q E0) := by
  refine ⟨fun pins s σ H Q I h => wpAny_Call_Name_kw (ld_glob I hg hm ?_ hdb)⟩
  refine PySem.W.callWith_K (h₀ := X.base) I.ok.mod.kin hk
    (thn (ha.run pos pins s σ H _ I h) ?_) he hpl
  rintro us s1 ⟨vs, H1, I1, r, q⟩
  have hl : us.length = ps.length := r.length.symm.trans (F.len _ _ _ _ q)
  have hb1 := hb s1 us I1.kIn (by rw [List.append_nil]; exact hl)
  rw [List.append_nil] at hb1
  refine ⟨I1.kIn, wpAny_call (codeAny_mono (F.go X.A X.stack s1 H1 ⟨us, []⟩ us vs Q E0 hG hr I1.env0 hb1 r q) ?_)⟩
  intro r' s' hq
  cases r' with
  | error e' => cases hq
  | ok fl =>
    cases fl with
    | ret u => exact I1.after hq
    | next => cases hq
    | brk => cases hq
    | cont => cases hq
end
end K0


set_option Elab.async false
set_option linter.all false
set_option maxRecDepth 100000
set_option maxHeartbeats 2000000
namespace K0
open PySem PySem.Spec PyProof.Rows L2

/-- what a value of the law's own draws shows: data without dicts, or a dict of no or one pair -/
inductive It (K : PySem.W.Frag) (H : Hp) : V → PyData → Prop
  | dp {v : V} {d : PyData} (h : Dp K H v d) (n : d.hasDict = false) : It K H v d
  | d0 {a : Addr} (h : H a = some (.dK [])) : It K H (.ref a) (.dict [])
  | d1 {a : Addr} {n : Int} {x : Str} (h : H a = some (.dK [(Sum.inl n, .str x)])) : It K H (.ref a) (.dict [(.int n, .str x)])

section
variable {X : Cx} {pins : List (Addr × Obj)} {σ : L2.St} {H : Hp} {s : Shared}
theorem It.rd (I : Inv X pins σ H s) {v : V} {d : PyData} {u : Value} (h : It X.K H v d) (r : RelV v u) :
    ∃ as, Reads s.heap u d as ∧ (d.hasDict = true → sysModules ∉ as) := by
  cases h with
  | dp hd hn =>
    obtain ⟨as, q⟩ := Dp.reads I d v u hd r
    exact ⟨as, q, fun z => by rw [hn] at z; cases z⟩
  | @d0 a h =>
    cases r
    obtain ⟨_, hsm, vs, kv, o, es, ep, ho, hx, hd, _, hp, _⟩ := I.hok a _ h
    cases kv
    have e : es.toList = [] := List.eq_nil_of_length_eq_zero hp.length
    refine ⟨_, Reads.dict (kvs := []) (as := []) (bs := []) ho hx.1 hd (by rw [e]; exact .nil) (by rw [e]; exact .nil), fun _ => ?_⟩
    have hne : a ≠ sysModules := by simpa using hsm
    simpa using Ne.symm hne
  | @d1 a n x h =>
    cases r
    obtain ⟨_, hsm, vs, kv, o, es, ep, ho, hx, hd, _, hp, _⟩ := I.hok a _ h
    have hne : a ≠ sysModules := by simpa using hsm
    cases kv with
    | @cons _ y _ _ q qs =>
      cases qs
      obtain ⟨q1, q2⟩ := q
      have q1' : y.1 = Sum.inl n := q1.symm
      obtain ⟨t, q2'⟩ := q2
      obtain ⟨l⟩ := es
      cases hp with
      | @cons en _ _ _ p1 p2 p3 =>
        cases p3
        rw [q1', mixKind_is] at p1
        obtain ⟨t', e'⟩ := Value.isInt_shape (k := n) (v := en.key) p1
        refine ⟨_, Reads.dict (kvs := [(.int n, .str x)]) (as := []) (bs := []) ho hx.1 hd ?_ ?_, fun _ => ?_⟩
        · show ReadsAll s.heap [en.key] [.int n] []
          rw [e']
          exact ReadsAll.cons (as := []) (bs := []) (.int n t') .nil
        · show ReadsAll s.heap [en.val] [.str x] []
          rw [p2, q2']
          exact ReadsAll.cons (as := []) (bs := []) (.str x t) .nil
        · simpa using Ne.symm hne
end

/-- what a shown value asks: its numbers not too long, not too deep, its text not too long -/
structure Short (d : PyData) : Prop where
  sh : d.showable = true
  dp : d.depth ≤ 20
  ln : d.shown.length ≤ 1000000

theorem lineOk : 1000000 ≤ sizeLine := by rw [sizeLine_eq]; decide

/-- repr(x), x as told -/
def rRepr (K : PySem.W.Frag) : List V → Hp → VK → Prop := fun xs H Q => ∃ (v : V) (d : PyData), xs = [v] ∧ It K H v d ∧ Short d ∧ Q (.str d.shown) H
/-- repr of a list of two -/
def rRepr2 (K : PySem.W.Frag) : List V → Hp → VK → Prop := fun xs H Q => ∃ (l : Addr) (v1 v2 : V) (d1 d2 : PyData), xs = [.ref l] ∧ H l = some (.lst [v1, v2]) ∧
  It K H v1 d1 ∧ It K H v2 d2 ∧ Short d1 ∧ Short d2 ∧ Q (.str (listText [d1.shown, d2.shown])) H

section
variable {X : Cx}
theorem call_repr (hg : X.A.guards = some []) (hu : X.A.units + 64 < cLine) : CallR X (.builtin "repr") (rRepr X.K) := by
  intro pins s σ H xs us Q I r h
  obtain ⟨v, d, rfl, hd, ⟨hs, hdp, hz⟩, q⟩ := h
  have hz' : d.shown.length ≤ sizeLine := Nat.le_trans hz lineOk
  obtain ⟨u, rfl, ru⟩ := vals1 r
  have fin : ∀ tk t, EP X pins σ Q (.str d.shown t) { s with toks := tk } := fun tk t => ⟨.str d.shown, H, I.tok tk, ⟨t, rfl⟩, q⟩
  obtain ⟨as, rd, hn⟩ := It.rd I hd ru
  have big : ∀ a, u = .ref a → wpAny (model X.prog X.w) X.A (call (.builtin "repr") [u]) (EP X pins σ Q) X.xe s := by
    intro a e
    subst e
    refine PySem.repr_of_reads' rd hs hn hg (by omega) (fun _ _ z => z) (fun h' t tk hk => ?_) hz'
    exact ⟨.str d.shown, H, I.kept (t' := tk) hk, ⟨t, rfl⟩, q⟩
  cases rd with
  | none => exact PySem.P.repr_of_none (by simpa only [PyData.shown] using fin _ _)
  | bool b => exact PySem.P.repr_of_bool (by simpa only [PyData.shown] using fin _ _)
  | int i t =>
    refine PySem.P.repr_of_int ?_ (by simpa only [PyData.shown] using fin _ _)
    simpa only [PyData.showable, decide_eq_true_eq] using hs
  | str x t => exact PySem.P.repr_of_str (by simpa only [PyData.shown] using fin _ _) (by simpa only [PyData.shown] using hz')
  | list => exact big _ rfl
  | tuple => exact big _ rfl
  | dict => exact big _ rfl

theorem pair_len (x y : Str) : (listText [x, y]).length = x.length + y.length + 4 := by
  show (((Str.ofString "[" ++ Str.ofString "" ++ x) ++ Str.ofString ", " ++ y) ++ Str.ofString "]").length = _
  have e0 : (Str.ofString "").length = 0 := by decide
  have e1 : (Str.ofString "[").length = 1 := by decide
  have e2 : (Str.ofString "]").length = 1 := by decide
  have e3 : (Str.ofString ", ").length = 2 := by decide
  simp only [Str.length_append, e0, e1, e2, e3]
  omega

theorem call_repr2 (hg : X.A.guards = some []) (hu : X.A.units + 64 < cLine) : CallR X (.builtin "repr") (rRepr2 X.K) := by
  intro pins s σ H xs us Q I r h
  obtain ⟨l, v1, v2, d1, d2, rfl, hl, t1, t2, ⟨a1, a2, a3⟩, ⟨b1, b2, b3⟩, q⟩ := h
  obtain ⟨u, rfl, ru⟩ := vals1 r
  cases ru
  obtain ⟨its, rv, ⟨o, n, ho, hc, _, hd⟩, _⟩ := I.list (SqL.of hl)
  obtain ⟨u1, u2, rfl, r1, r2⟩ := vals2 rv
  obtain ⟨as1, rd1, n1⟩ := It.rd I t1 r1
  obtain ⟨as2, rd2, n2⟩ := It.rd I t2 r2
  have z1 : d1.shown.length ≤ sizeLine := Nat.le_trans a3 lineOk
  have z2 : d2.shown.length ≤ sizeLine := Nat.le_trans b3 lineOk
  obtain ⟨bs1, m1, k1⟩ := ReprK.of_reads (prog := X.prog) (w := X.w) rd1 a1 n1 z1
  obtain ⟨bs2, m2, k2⟩ := ReprK.of_reads (prog := X.prog) (w := X.w) rd2 b1 n2 z2
  have rl : Reads s.heap (.ref l) (.list [d1, d2]) _ := Reads.list ho hc hd (.cons rd1 (.cons rd2 .nil))
  have hm : ReadAtMost s.heap (max d1.depth d2.depth) (bs1 ++ bs2) := by
    intro b hb
    cases List.mem_append.mp hb with
    | inl e =>
      obtain ⟨d', as', r', le⟩ := m1 b e
      exact ⟨d', as', r', Nat.le_trans le (Nat.le_max_left _ _)⟩
    | inr e =>
      obtain ⟨d', as', r', le⟩ := m2 b e
      exact ⟨d', as', r', Nat.le_trans le (Nat.le_max_right _ _)⟩
  have hna : l ∉ bs1 ++ bs2 := not_mem_of_deeper rl (by simp only [PyData.depth, PyData.depthAll]; omega) hm
  have ka : ReprK X.prog X.w (bs1 ++ bs2) s.heap (max d1.depth d2.depth) u1 d1.shown :=
    (k1.more fun b hb => List.mem_append_left _ hb).level_le (Nat.le_max_left _ _)
  have kb : ReprK X.prog X.w (bs1 ++ bs2) s.heap (max d1.depth d2.depth) u2 d2.shown :=
    (k2.more fun b hb => List.mem_append_right _ hb).level_le (Nat.le_max_right _ _)
  have hsz : (listText [d1.shown, d2.shown]).length ≤ sizeLine := by
    rw [pair_len, sizeLine_eq]
    omega
  have hmax : max d1.depth d2.depth ≤ 20 := Nat.max_le.mpr ⟨a2, b2⟩
  refine call_repr_slot (by omega) ⟨o, ho, hc⟩ F.slot_list_repr.toG ?_
  refine call_list_reprK (A := X.A.in1) (as := bs1 ++ bs2) (d := max d1.depth d2.depth) (ts := [d1.shown, d2.shown]) ho hc hd hna (by simp) ?_ hg
    (fun b _ => Clear.nil b) (by show X.A.units + 1 + _ < cLine; omega) (fun _ _ z => z) (fun h' t tk hk => ⟨_, _, rfl, ⟨.str _, H, I.kept (t' := tk) hk, ⟨t, rfl⟩, q⟩⟩) hsz
  intro i y hy
  match i, hy with
  | 0, hy =>
    have e : u1 = y := by simpa using hy
    exact ⟨_, rfl, e ▸ ka⟩
  | 1, hy =>
    have e : u2 = y := by simpa using hy
    exact ⟨_, rfl, e ▸ kb⟩
  | i + 2, hy => simp at hy
end
end K0


set_option Elab.async false
set_option linter.all false
set_option maxRecDepth 100000
set_option maxHeartbeats 4000000
namespace PySem
namespace K0x
open PySem.W PySem.Calls PyProof.Rows PySem.HandSPX
section
variable {M : Model} {prog : Program} {w : World} {A : Around} {E : Value → Shared → Prop} {R : Result → Shared → Prop}
  {h : Heap} {g : Array GenState} {d : Drawn} {t : Nat} {os : OsState}
variable {nm q : Str} {C N : Addr} {bs bm bmB : List Value} {hdct : Bool} {sn : List Str} {sub : List Value} {ab : Bool}
  {col : Option Bool} {dd : Option Addr} {k0 k1 k2 k3 k5 : Option Value} {B newId initId : String}

/-- an own exception class asked to make one, with keywords: the check of the built-in maker -/
theorem chk_new (F : ExcBaseFacts B newId initId bmB) (hT : ∀ X : String, bm.contains (.type X) = bmB.contains (.type X))
    {rest : List Value} {kw : List (Str × Value)} {Q : Unit → Shared → Prop}
    (hC : h.get? C = some (excClassObj nm q C N bs bm hdct sn sub ab col dd k0 k1 k2 k3 k5 newId)) (hq : Q () ⟨h, g, d, t, os⟩) :
    wpAny M A (checkBuiltinCall newId ⟨.ref C :: rest, kw⟩) Q E ⟨h, g, d, t, os⟩ := by
  have c1 : (Value.ref C :: bm).contains (.type B) = true := by
    rw [List.contains_cons, hT, F.hasB, Bool.or_true]
  have c2 := F.noStar
  simp only [checkBuiltinCall, F.newKind, F.newSplit, F.newRow]
  repeat (first
    | refine wpAny_loadPart_at hC ?_
    | (refine wpAny_isSubtype_exc hC ?_
       rw [c1])
    | refine wpAny_staticBase_exc hC ?_
    | refine wpAny_madeBy_exc hC ?_
    | simp only [bne_self_eq_false, Bool.false_eq_true, if_false]
    | wp_step)
  exact hq

theorem new_kw (F : ExcBaseFacts B newId initId bmB) (hT : ∀ X : String, bm.contains (.type X) = bmB.contains (.type X))
    {rest : List Value} {kw : List (Str × Value)}
    (hC : h.get? C = some (excClassObj nm q C N bs bm hdct sn sub ab col dd k0 k1 k2 k3 k5 newId))
    (hq : R (.ok (.ret (.ref (h.objs.size + 1)))) ⟨(h.push (kdv_tup rest)).push (excO C h.objs.size), g, d, t, os⟩)
    (hrest : rest.length ≤ sizeLine) :
    codeAny (model prog w) A (.builtin newId ⟨.ref C :: rest, kw⟩) R ⟨h, g, d, t, os⟩ := by
  have ends := F.ends
  have i1 : (Value.ref C :: bm).contains (.type B) = true := by
    rw [List.contains_cons, hT, F.hasB, Bool.or_true]
  have i2 : (Value.ref C :: bm).contains (.type "AttributeError") = false := by
    rw [List.contains_cons, hT, F.noAttr]
    rfl
  have i3 : (Value.ref C :: bm).contains (.type "NameError") = false := by
    rw [List.contains_cons, hT, F.noName]
    rfl
  refine codeAny_builtinAt F.entry ?_
  unfold Builtin.«BaseException.__new__»
  refine wpAt_bind ?_
  show wpAt _ _ _ (stack >>= _) _ _ _
  refine wpAt_bind (wpAt_stack fun p below => wpAt_of_wpAny ?_)
  wp_walk
  refine wpAt_of_wpAny ?_
  rw [F.owner]
  repeat (first
    | with_reducible refine wpAny_madeHere_exc F.canon hC ?_
    | with_reducible refine wpAny_loadPart_at hC ?_
    | (with_reducible refine wpAny_isSubtype_exc hC ?_
       first | rw [i1] | rw [i2] | rw [i3])
    | wp_step)
  show R _ _
  rw [Heap.size_push]
  exact hq

theorem type_kw (F : ExcBaseFacts B newId initId bmB) (hT : ∀ X : String, bm.contains (.type X) = bmB.contains (.type X))
    {rest : List Value} {kw : List (Str × Value)} {fI : Addr} {Q : Fin → Shared → Prop}
    (hC : h.get? C = some (excClassObj nm q C N bs bm hdct sn sub ab col dd k0 k1 k2 k3 k5 newId))
    (hi : W.Looks (model prog w) h (typeLookup (.ref C) "__init__") (some (.ref fI)))
    (hb : ∀ self, W.Looks (model prog w) h (bindSpecial (.ref fI) self) (.ref fI, [self])) (hrest : rest.length ≤ sizeLine)
    (hq : codeAny (model prog w) A (.call (.ref fI) ⟨.ref (h.objs.size + 1) :: rest, kw⟩)
      (fun r s' => match r with
        | .ok (.ret v) => v = .none ∧ Q (.done (.ret (.ref (h.objs.size + 1)))) s'
        | .ok _ => False
        | .error e => E e s')
      ⟨(h.push (kdv_tup rest)).push (excO C h.objs.size), g, d, t, os⟩) :
    wpAny (model prog w) A (Builtin.«type.__call__» ⟨.ref C :: rest, kw⟩) Q E ⟨h, g, d, t, os⟩ := by
  repeat (first
    | with_reducible refine wpAny_loadPart_at hC ?_
    | with_reducible refine wpAny_madeBy_exc hC ?_
    | wp_step)
  refine codeAny_call_builtin_code (Code.quiet_builtin _ F.quiet) (chk_new F hT hC ?_)
  refine new_kw F hT hC ?_ hrest
  show wpAny _ _ _ _ _ _
  have kp : ∀ b o, h.get? b = some o → ((h.push (kdv_tup rest)).push (excO C h.objs.size)).get? b = some o :=
    fun b o e => Heap.get?_push_of_some _ (Heap.get?_push_of_some _ e)
  have hC1 := kp _ _ hC
  have hx : ((h.push (kdv_tup rest)).push (excO C h.objs.size)).get? (h.objs.size + 1) = some (excO C h.objs.size) := by
    heap_get
  have self_in : (Value.ref C :: bm).contains (.ref C) = true := by
    simp
  have j1 := hi.keeps kp
  have j2 := (hb (.ref (h.objs.size + 1))).keeps kp
  unfold isInstance
  repeat (first
    | with_reducible refine wpAny_loadPart_at hx ?_
    | (with_reducible refine wpAny_isSubtype_exc hC1 ?_
       rw [self_in])
    | wp_step)
  show wpAny _ _ (typeLookup (.ref C) _) _ _ _
  refine j1.at ?_
  refine wpAny_holding (wpAny_bind (j2.at ?_))
  refine wpAny_bind (wpAny_call (codeAny_mono hq ?_))
  intro r s' z
  rcases r with e | (v | _ | _ | _) <;> first | exact z | exact z.elim | skip
  obtain ⟨rfl, z⟩ := z
  first
    | exact wpAny_pure (wpAny_pure z)
    | (wp_walk
       exact z)

theorem chk_type {rest : List Value} {kw : List (Str × Value)} {Q : Unit → Shared → Prop}
    (hC : h.get? C = some (excClassObj nm q C N bs bm hdct sn sub ab col dd k0 k1 k2 k3 k5 newId)) (hq : Q () ⟨h, g, d, t, os⟩) :
    wpAny M A (checkBuiltinCall "type.__call__" ⟨.ref C :: rest, kw⟩) Q E ⟨h, g, d, t, os⟩ := by
  have f3 := tc_sub
  have hTy : (⟨h, g, d, t, os⟩ : Shared).TypeIs (.ref C) "type" := ⟨_, hC, rfl⟩
  simp only [checkBuiltinCall, tc_kind, tc_split]
  repeat (any_goals (first
    | assumption
    | with_reducible refine wpAny_loadPart_at hC ?_
    | with_reducible refine wpAny_onRaise ?_
    | with_reducible refine wpAny_map ?_
    | wp_step))

theorem call_kw (F : ExcBaseFacts B newId initId bmB) (hT : ∀ X : String, bm.contains (.type X) = bmB.contains (.type X))
    {rest : List Value} {kw : List (Str × Value)} {fI : Addr}
    (hC : h.get? C = some (excClassObj nm q C N bs bm hdct sn sub ab col dd k0 k1 k2 k3 k5 newId))
    (hi : W.Looks (model prog w) h (typeLookup (.ref C) "__init__") (some (.ref fI)))
    (hb : ∀ self, W.Looks (model prog w) h (bindSpecial (.ref fI) self) (.ref fI, [self])) (hrest : rest.length ≤ sizeLine)
    (hq : codeAny (model prog w) (A.under (.builtin "type.__call__" ⟨.ref C :: rest, kw⟩))
      (.call (.ref fI) ⟨.ref (h.objs.size + 1) :: rest, kw⟩) (W.InitBack (h.objs.size + 1) R)
      ⟨(h.push (kdv_tup rest)).push (excO C h.objs.size), g, d, t, os⟩) :
    codeAny (model prog w) A (.call (.ref C) ⟨rest, kw⟩) R ⟨h, g, d, t, os⟩ := by
  have f1 := tc_lookup
  have f2 := tc_bind (.ref C)
  have hTy : (⟨h, g, d, t, os⟩ : Shared).TypeIs (.ref C) "type" := ⟨_, hC, rfl⟩
  refine codeAny_of_tree ?_
  show wpAny _ _ (callAny (.ref C) _) _ _ _
  repeat (any_goals (first
    | assumption
    | with_reducible refine wpAny_loadPart_at hC ?_
    | wp_step))
  refine ⟨rfl, ?_⟩
  refine codeAny_call_builtin_at (Code.quiet_builtin _ (by decide +kernel)) entry_typeCall (chk_type hC ?_)
  refine type_kw F hT hC hi hb hrest (codeAny_mono hq ?_)
  intro r s' z
  rcases r with e | (v | _ | _ | _) <;> exact z
end
end K0x
end PySem


set_option Elab.async false
set_option linter.all false
set_option maxRecDepth 100000
set_option maxHeartbeats 4000000
namespace PySem
namespace K0x
open PySem.W PySem.Calls PyProof.Rows PySem.HandSPX
section
variable {prog : Program} {w : World} {A : Around} {E : Value → Shared → Prop} {s : Shared} {K : Frag} {x D : Addr} {ox : Obj} {od : Option Obj}
/-- x.__class__ of an instance of an own exception class, whatever its own dict holds -/
theorem cls_asked {Q : Option Value → Shared → Prop}
    (h1 : findIn K (.ref D) "__getattribute__" = some (some (.builtin "BaseException.__getattribute__")))
    (h2 : findIn K (.ref D) "__getattr__" = some none) (h3 : subIn K (.ref D) (.type "BaseException") = some true)
    (h4 : hasDictIn K D = true) (h5 : findIn K (.ref D) "__class__" = some (some (.builtin "object.__class__")))
    (h6 : specialIn K (.builtin "object.__class__") "__get__" = some (some (.builtin "getset_descriptor.__get__")))
    (h7 : takesIn K (.builtin "object.__class__") = some true) (h8 : mroIn K D (.type "object") = some true)
    (X : K.In s.heap) (I : W.InstAt s.heap x ox D od) (h : Q (some (.ref D)) { s with toks := s.toks + 1 }) :
    wpAny (model prog w) A (getAttr? (.ref x) "__class__") Q E s := by
  have found : findObj K D od "__class__" = some (.bind (.builtin "getset_descriptor.__get__") (.builtin "object.__class__")) := by
    obtain ⟨cd, hc, _⟩ := any_some h4
    unfold findObj
    rw [hc, Option.bind_some, h5, Option.bind_some]
    simp [h6, h7]
  obtain ⟨hp, g, d, t, os⟩ := s
  have l0 := I.type (M := model prog w)
  have l1 := looks_findIn (M := model prog w) X h1
  have l2 := looks_findIn (M := model prog w) X h2
  have l3 := looks_find (M := model prog w) X I found
  have under : Looks (model prog w) hp (isInstance (.ref x) (.type "BaseException")) true :=
    l0.andThen (looks_subIn X h3)
  have n0 : (false && onTheHeap (Value.builtin "BaseException.__getattribute__")) = false := rfl
  have n2 : (Value.builtin "BaseException.__getattribute__" == Value.builtin "object.__getattribute__") = false := by
    decide +kernel
  have n1 : (onTheHeap (Value.ref D) &&
      Value.builtin "BaseException.__getattribute__" == Value.builtin "object.__getattribute__") = false := by
    rw [n2]
    rfl
  unfold getAttr? getAttrBy? getAttrBy
  refine wpAny_bind (wpAny_mkText (wpAny_bind (wpAny_attempt (wpAny_holding
    (wpAny_bind (l0.at (wpAny_bind (l1.at ?_))))))))
  show wpAny _ _ (if (onTheHeap (Value.ref D) &&
    Value.builtin "BaseException.__getattribute__" == Value.builtin "object.__getattribute__") = true then _ else _) _ _ _
  rw [n1, if_neg Bool.false_ne_true]
  unfold getAttrByItsOwn hookBefore
  refine wpAny_bind ?_
  rw [if_pos (show onTheHeap (Value.ref D) = true from rfl)]
  refine l2.at (wpAny_bind (wpAny_attempt (wpAny_holding ?_)))
  unfold callGetattribute
  rw [n0, if_neg Bool.false_ne_true]
  unfold boundAndCalled
  rw [PySem.F.excAttr_ValueError.ga.bind (.ref x)]
  refine wpAny_bind (wpAny_pure ?_)
  show wpAny _ _ (call (.builtin "BaseException.__getattribute__") [.ref x, .str "__class__" t]) _ _ _
  refine wpAny_call (codeAny_call_builtin PySem.F.excAttr_ValueError.ga.plain
    PySem.F.entry_bexc_ga ?_)
  refine @check_slot (model prog w) _ _ ⟨hp, g, d, t + 1, os⟩ "BaseException.__getattribute__" "BaseException"
    "__getattribute__" (.ref x) [.str "__class__" t] [] _ (by decide +kernel) (by decide +kernel) under
    (PySem.F.args_bexc_ga (.ref x) (.str "__class__" t)) ?_
  unfold Builtin.«object.__getattribute__»
  refine wpAny_bind (wpAny_of_eq (a := ((Value.ref x : Value), [Value.str "__class__" t]))
    (by first | rfl | (simp only [slotArgs]; rfl)) ?_)
  refine wpAny_bind (wpAny_pure (wpAny_bind (l0.at (wpAny_bind (l3.at ?_)))))
  show wpAny _ _ (holding [Value.builtin "object.__class__"]
    (call (.builtin "getset_descriptor.__get__") [.builtin "object.__class__", .ref x, .ref D]) >>= ret) _ _ _
  refine wpAny_bind (wpAny_holding (wpAny_call
    (class_get (s := ⟨hp, g, d, t + 1, os⟩) (ox := ox) (od := od) X I h8 ?_)))
  refine wpAny_pure ?_
  show wpAny _ _ (handedOut (.ref D)) _ _ _
  rw [handedOut_of (v := .ref D) rfl]
  first
    | exact wpAny_pure (wpAny_pure h)
    | exact wpAny_pure h
    | exact wpAny_pure (wpAny_bind (wpAny_pure (wpAny_pure h)))

theorem kit_exc
    (h1 : findIn K (.ref D) "__getattribute__" = some (some (.builtin "BaseException.__getattribute__")))
    (h2 : findIn K (.ref D) "__getattr__" = some none) (h3 : subIn K (.ref D) (.type "BaseException") = some true)
    (h4 : hasDictIn K D = true) (h5 : findIn K (.ref D) "__class__" = some (some (.builtin "object.__class__")))
    (h6 : specialIn K (.builtin "object.__class__") "__get__" = some (some (.builtin "getset_descriptor.__get__")))
    (h7 : takesIn K (.builtin "object.__class__") = some true) (h8 : mroIn K D (.type "object") = some true) :
    KitX K (.ref x) (.ref D) (fun h => ∃ ox od, W.InstAt h x ox D od) := by
  obtain ⟨cd, hcd, _⟩ := any_some h4
  have data : ∃ c' d' sl', K.lookup D = some ⟨c', d', .cls cd, sl'⟩ := by
    unfold clsIn at hcd
    split at hcd
    · rename_i c' d' cd' sl' ho
      cases hcd
      exact ⟨c', d', sl', ho⟩
    · cases hcd
  obtain ⟨c', d', sl', ho⟩ := data
  refine ⟨fun M h X I => ?_, fun M h X I => ?_, fun h tp dd its n sl X htp => ?_, fun X I k => ?_⟩
  · obtain ⟨ox, od, I⟩ := I
    exact I.type
  · intro A' Q' E' s' k q
    unfold isType loadHead
    exact wpAny_bind (wpAny_loadPart (k _ _ (X _ _ ho)) (wpAny_pure q))
  · refine Bool.eq_false_iff.mpr fun q => ?_
    have e : D = tp := Value.ref.inj (beq_iff_eq.mp q)
    subst e
    have z := (X _ _ ho).symm.trans htp
    cases z
  · obtain ⟨ox, od, I⟩ := I
    exact cls_asked h1 h2 h3 h4 h5 h6 h7 h8 X I k
end
end K0x
end PySem


set_option Elab.async false
set_option linter.all false
set_option maxRecDepth 100000
set_option maxHeartbeats 4000000
namespace K0
open PySem PySem.Spec PyProof.Rows L2

/-- a value's class, the instances of own exception classes among them -/
inductive TyE (K : PySem.W.Frag) (H : Hp) : V → Value → Prop where
  | base {x : V} {t : Value} (h : TyX K H x t) : TyE K H x t
  | err {a C : Addr} {d : Option Addr} (e : H a = some (exo a C d)) (hd : ∀ dd, d = some dd → ∃ o, H dd = some o) (T : ExcC K C) : TyE K H (.ref a) (.ref C)
  | err0 {a C : Addr} (e : H a = some (ExO (.ref C) a)) (T : ExcC K C) : TyE K H (.ref a) (.ref C)

section
variable {X : Cx} {pins : List (Addr × Obj)} {σ : L2.St} {H : Hp} {s : Shared}
theorem inst_exo {a C : Addr} {d : Option Addr} (I : Inv X pins σ H s) (e : H a = some (exo a C d)) (hd : ∀ dd, d = some dd → ∃ o, s.heap.get? dd = some o) :
    ∃ ox od, PySem.W.InstAt s.heap a ox C od := by
  obtain ⟨t1, ho⟩ := exo_at I.hok e
  cases d with
  | none => exact ⟨_, none, ho, rfl, rfl, trivial⟩
  | some dd =>
    obtain ⟨o, q⟩ := hd dd rfl
    exact ⟨_, some o, ho, rfl, rfl, q⟩
theorem obj_there {dd : Addr} {o : HO} (I : Inv X pins σ H s) (q : H dd = some o) : ∃ u, s.heap.get? dd = some u := by
  have hlt := (I.hok dd o q)
  cases o with
  | lst xs => obtain ⟨_, its, n, _, z⟩ := hlt; exact ⟨_, z⟩
  | tup xs => obtain ⟨_, its, _, o, z, _⟩ := hlt; exact ⟨_, z⟩
  | dK kvs => obtain ⟨_, _, vs, _, o, es, ep, z, _⟩ := hlt; exact ⟨_, z⟩
  | dT kvs => obtain ⟨_, _, vs, _, o, es, ep, z, _⟩ := hlt; exact ⟨_, z⟩
  | set S n => obtain ⟨o, _, _, _, z, _⟩ := hlt; exact ⟨_, z⟩
  | ins C' dx fs => obtain ⟨_, _, _, z, _⟩ := hlt; exact ⟨_, z⟩
  | own y => exact hlt
  | xd fs => obtain ⟨_, ⟨o, _, _, z, _⟩, _⟩ := hlt; exact ⟨_, z⟩
  | rng lo hi => obtain ⟨_, _, _, z⟩ := hlt; exact ⟨_, z⟩
  | frz o u => exact ⟨_, hlt.1⟩
  | tbl ps => exact ⟨_, hlt⟩
  | met f y => exact ⟨_, hlt⟩
  | ext φ => exact hlt.2.1
theorem kit_of' {x : V} {u t : Value} (I : Inv X pins σ H s) (rx : RelV x u) (ty : TyE X.K H x t) :
    ∃ P : Heap → Prop, PySem.W.KitX X.K u t P ∧ P s.heap ∧ u ≠ .builtin "__main__.__loader__#opaque" := by
  cases ty with
  | base h => exact kit_of I rx h
  | @err a C d e hd T =>
    cases rx
    refine ⟨_, PySem.K0x.kit_exc T.hg T.hk T.hs T.hd T.ha T.hn T.ht T.hm, ?_, fun z => nomatch z⟩
    refine inst_exo I e fun dd q => ?_
    obtain ⟨o, h⟩ := hd dd q
    exact obj_there I h
  | @err0 a C e T =>
    cases rx
    refine ⟨_, PySem.K0x.kit_exc T.hg T.hk T.hs T.hd T.ha T.hn T.ht T.hm, ?_, fun z => nomatch z⟩
    obtain ⟨⟨oe, vs, ho, hz, hv, _⟩, _, _⟩ := I.hok a _ e
    obtain ⟨oc, od, oda, osl⟩ := oe
    obtain ⟨z1, z2⟩ := hz
    dsimp only at z1 z2 hv
    subst z1 z2 hv
    exact ⟨_, none, ho, rfl, rfl, trivial⟩
end

def rIsA (K : PySem.W.Frag) : List V → Hp → VK → Prop := fun xs H Q => ∃ (x c : V) (t u : Value) (b : Bool),
  xs = [x, c] ∧ ClsV c u ∧ TyE K H x t ∧ PySem.W.kitOne K t u = some b ∧ Q (.bl b) H
def rIsT (K : PySem.W.Frag) : List V → Hp → VK → Prop := fun xs H Q => ∃ (x : V) (tp : Addr) (cs : List V) (t : Value) (us : List Value) (b : Bool),
  xs = [x, .ref tp] ∧ H tp = some (.tup cs) ∧ Paired ClsV cs us ∧ TyE K H x t ∧ PySem.W.kitAny K t us = some b ∧ Q (.bl b) H
section
variable {X : Cx}
theorem call_isA : CallR X (.builtin "isinstance") (rIsA X.K) := by
  intro pins s σ H xs us Q I r h
  obtain ⟨x, c, t, u, b, rfl, k, ty, e, q⟩ := h
  obtain ⟨u1, u2, rfl, r1, r2⟩ := vals2 r
  have e2 := k.eq r2
  subst e2
  obtain ⟨P, Z, p, hx⟩ := kit_of' I r1 ty
  exact PySem.W.kia_one Z I.kIn p e hx fun tk => ⟨.bl b, H, I.tok tk, rfl, q⟩
theorem call_isT : CallR X (.builtin "isinstance") (rIsT X.K) := by
  intro pins s σ H xs us Q I r h
  obtain ⟨x, tp, cs, t, ws, b, rfl, hT, k, ty, e, q⟩ := h
  obtain ⟨u1, u2, rfl, r1, r2⟩ := vals2 r
  cases (show u2 = Value.ref tp from r2)
  obtain ⟨P, Z, p, hx⟩ := kit_of' I r1 ty
  obtain ⟨_, its, rv, o, g1, g2, n, g3⟩ := I.hok tp _ hT
  have e3 := ClsV.all k rv
  subst e3
  obtain ⟨oc, od, dt, sl⟩ := o
  simp only at g2 g3
  subst g2 g3
  exact PySem.W.kia_tup Z I.kIn p g1 e hx fun tk => ⟨.bl b, H, I.tok tk, rfl, q⟩
end

/-! ### making an exception of an own class with an __init__ of its own -/
/-- C(e, ..) or C(k = v, ..) as a value; sp: what its __init__ promises -/
def tMkE (C : Addr) (sp : Sp) (g : List V → List V → List V) (t tk : TA) (n m : Nat) : TE := fun σ H Q => t σ H fun vs H1 => tk σ H1 fun zs H2 =>
  vs.length = n ∧ zs.length = m ∧ n ≤ 1000 ∧ ∀ a, H2 a = none → sp (g (.ref a :: vs) zs) (upd H2 a (exo a C none)) (fun v H3 => v = .non ∧ Q (.ref a) H3) E0
section
variable {X : Cx} {C fI : Addr} {k n : Nat} {fd : FuncData} {ps ks : List Str} {sp : Sp} {x : Str} {p pos : Pos} {e : Expr} {es : List Expr} {kws : List Keyword} {t tk : TA}
  {g : List Value → List Value → List Value} {gV : List V → List V → List V}
theorem run_mkE {pins : List (Addr × Obj)} {σ : L2.St} {H : Hp} {s : Shared} {Q : VK} {us ws : List Value} {vs zs : List V} (T : OexC X.K C)
    (iC : PySem.W.findIn X.K (.ref C) "__init__" = some (some (.ref fI))) (tI : PySem.W.typeIn X.K (.ref fI) = some (.type "function"))
    (F : FnOk X.prog X.w X.K X.mg X.base CX0 k fI fd ps sp) (hr : Room (k + 1) X.A) (hb : KBn X.K fd ps (n + 1) ks g gV)
    (I : Inv X pins σ H s) (r : Vals vs us) (rz : Vals zs ws) (l1 : vs.length = n) (l2 : zs.length = ks.length) (ln : n ≤ 1000)
    (h : ∀ a, H a = none → sp (gV (.ref a :: vs) zs) (upd H a (exo a C none)) (fun v H3 => v = .non ∧ Q (.ref a) H3) E0) :
    wpAny (model X.prog X.w) X.A (call (.ref C) us (ks.zip ws)) (EP X pins σ Q) X.xe s := by
  obtain ⟨nm, q, N, bs, bm, sn, sub, ab, col, dd, k0, k1, k2, k3, k5, hC, hbm⟩ := T.cls
  obtain ⟨hp, gg, dr, tk, os⟩ := s
  have hsz : hp.objs.size ≤ hp.objs.size + 1 := Nat.le_succ _
  have hq := h (hp.objs.size + 1) (I.hok.fresh hsz)
  have kk : ∀ b o, hp.get? b = some o →
      ((hp.push (PySem.W.kdv_tup us)).push (PySem.HandSPX.excO C hp.objs.size)).get? b = some o :=
    fun b o e => Heap.get?_push_of_some _ (Heap.get?_push_of_some _ e)
  have hget : ((hp.push (PySem.W.kdv_tup us)).push (PySem.HandSPX.excO C hp.objs.size)).get? (hp.objs.size + 1) =
      some (PySem.HandSPX.excO C hp.objs.size) := by
    heap_get
  have I2 : Inv X pins σ (upd H (hp.objs.size + 1) (exo (hp.objs.size + 1) C none))
      ⟨(hp.push (PySem.W.kdv_tup us)).push (PySem.HandSPX.excO C hp.objs.size), gg, dr, tk, os⟩ :=
    I.laid (t' := tk) (h' := (hp.push (PySem.W.kdv_tup us)).push (PySem.HandSPX.excO C hp.objs.size)) kk hsz (exo_ok hget)
  have ra : Vals (V.ref (hp.objs.size + 1) :: vs) (Value.ref (hp.objs.size + 1) :: us) := .cons rfl r
  have r2 := hb.rel ra rz
  have lu : us.length ≤ sizeLine := by
    have := Paired.length r
    rw [sizeLine_eq]
    omega
  have lu1 : (Value.ref (hp.objs.size + 1) :: us).length = n + 1 := by
    rw [List.length_cons, ← Paired.length r, l1]
  refine wpAny_call (PySem.K0x.call_kw PySem.F.excBase_ValueError (fun Y => PySem.HandSPX.refsVE_contains Y bm hbm) (I.kIn _ _ hC)
    (PySem.W.looks_findIn I.kIn iC) (fun self => PySem.W.bind_fn I.kIn self tI) lu
    (codeAny_mono (F.run _ X.stack _ _ ⟨Value.ref (hp.objs.size + 1) :: us, ks.zip ws⟩ _ _ _ E0 (hr.make C us (ks.zip ws))
      (I2.env0.make C us (ks.zip ws)) (hb.to _ _ ws I2.kIn lu1 ((Paired.length rz).symm.trans l2)) r2 hq) ?_))
  intro r' s' hq'
  cases r' with
  | error er => cases hq'
  | ok fl =>
    cases fl with
    | ret u =>
      obtain ⟨v, H3, I3, rv, ev, q3⟩ := I2.after hq'
      subst ev
      exact ⟨rv, V.ref (hp.objs.size + 1), H3, I3, rfl, q3⟩
    | next => cases hq'
    | brk => cases hq'
    | cont => cases hq'

/-- C(e, ..) -/
theorem pe_mkE (T : OexC X.K C)
    (iC : PySem.W.findIn X.K (.ref C) "__init__" = some (some (.ref fI))) (tI : PySem.W.typeIn X.K (.ref fI) = some (.type "function"))
    (F : FnOk X.prog X.w X.K X.mg X.base CX0 k fI fd ps sp) (hr : Room (k + 1) X.A) (hb : KBn X.K fd ps (n + 1) [] g gV)
    (hg : Gl X x) (hm : X.mg x = some (.ref C)) (ha : PA X (e :: es) t)
    (hdb : (x == ("__debug__" : Str)) = false := by decide)
    (he : starEach (e :: es) X.env = (false, eval e X.env) :: starEach es X.env := by rfl)
    (hpl : (backTo pos (starEach es X.env)).any (·.1) = false := by rfl) :
    PE X (.Call (.Name x p) (e :: es) [] pos) (tMkE C sp gV t tNil n 0) := by
  refine ⟨fun pins s σ H Q I h => wpAny_Call_Name_kw (ld_glob I hg hm ?_ hdb)⟩
  refine PySem.W.callWith_K (h₀ := X.base) I.ok.mod.kin T.kC
    (thn (ha.run pos pins s σ H _ I h) ?_) he hpl
  rintro us s1 ⟨vs, H1, I1, r, l1, _, ln, q⟩
  exact ⟨I1.kIn, run_mkE (ws := []) (zs := []) (ks := []) T iC tI F hr hb I1 r .nil l1 rfl ln q⟩
/-- C(k = v, ..) -/
theorem pe_mkEK (T : OexC X.K C)
    (iC : PySem.W.findIn X.K (.ref C) "__init__" = some (some (.ref fI))) (tI : PySem.W.typeIn X.K (.ref fI) = some (.type "function"))
    (F : FnOk X.prog X.w X.K X.mg X.base CX0 k fI fd ps sp) (hr : Room (k + 1) X.A) (hb : KBn X.K fd ps 1 ks g gV)
    (hg : Gl X x) (hm : X.mg x = some (.ref C)) (hkw : PK X kws tk)
    (hall : (backToKw pos (keywordEach kws X.env)).all (·.1.isSome) = true := by rfl)
    (hks : (backToKw pos (keywordEach kws X.env)).filterMap (·.1) = ks := by rfl)
    (hdb : (x == ("__debug__" : Str)) = false := by decide)
    (hpl : ((backTo pos (starEach [] X.env)).any (·.1) || (backToKw pos (keywordEach kws X.env)).any (·.1.isNone)) = false := by rfl) :
    PE X (.Call (.Name x p) [] kws pos) (tMkE C sp gV tNil tk 0 ks.length) := by
  refine ⟨fun pins s σ H Q I h => wpAny_Call_Name_kw (ld_glob I hg hm ?_ hdb)⟩
  refine PySem.W.callWith_KW0 (h₀ := X.base) I.ok.mod.kin T.kC hall
    (thn (hkw.run pos pins s σ H _ I h) ?_) hpl
  rintro ws s2 ⟨zs, H2, I2, rz, l1, l2, ln, q2⟩
  refine ⟨I2.kIn, ?_⟩
  rw [hks]
  exact run_mkE (us := []) (vs := []) T iC tI F hr hb I2 .nil rz rfl l2 ln q2
/-- f(k = v, ..) of a def, no value by place -/
theorem pe_kw0 {f : Addr} (F : FnOk X.prog X.w X.K X.mg X.base CX0 k f fd ps sp) (hr : Room k X.A) (hg : Gl X x) (hm : X.mg x = some (.ref f))
    (hk : PySem.W.keepIn X.K (.ref f) = true) (hb : KBn X.K fd ps 0 ks g gV) (hkw : PK X kws tk)
    (hall : (backToKw pos (keywordEach kws X.env)).all (·.1.isSome) = true := by rfl)
    (hks : (backToKw pos (keywordEach kws X.env)).filterMap (·.1) = ks := by rfl)
    (hdb : (x == ("__debug__" : Str)) = false := by decide)
    (hpl : ((backTo pos (starEach [] X.env)).any (·.1) || (backToKw pos (keywordEach kws X.env)).any (·.1.isNone)) = false := by rfl) :
    PE X (.Call (.Name x p) [] kws pos) (fun σ H Q => tk σ H fun zs H1 => zs.length = ks.length ∧ sp (gV [] zs) H1 Q E0) := by
  refine ⟨fun pins s σ H Q I h => wpAny_Call_Name_kw (ld_glob I hg hm ?_ hdb)⟩
  refine PySem.W.callWith_KW0 (h₀ := X.base) I.ok.mod.kin hk hall
    (thn (hkw.run pos pins s σ H _ I h) ?_) hpl
  rintro ws s2 ⟨zs, H2, I2, rz, l2, q2⟩
  refine ⟨I2.kIn, ?_⟩
  rw [hks]
  exact run_fnN (us := []) (vs := []) F hr hb pass0 I2 .nil rz rfl l2 q2
/-- e.f, e an exception that is held as a value -/
theorem pe_fldE {te : TE} {f : Str} {pos : Pos} {o : Expr} (he : PE X o te) (hb : attributeBase o f X.env (eval o X.env) = eval o X.env := by rfl) :
    PE X (.Attribute o f pos) (fun σ H Q => te σ H fun y H1 => ∃ (a C d : Addr) (fs : List (Str × V)) (v : V), y = .ref a ∧ H1 a = some (exo a C (some d)) ∧ H1 d = some (exd d fs) ∧
      XfC X.K C ∧ PySem.W.findIn X.K (.ref C) f = some none ∧ fs.lookup f = some v ∧ Q v H1) := by
  refine ⟨fun pins s σ H Q I h => attr_of hb (thn (he.run pins s σ H _ I h) ?_)⟩
  rintro u s1 ⟨y, H1, I1, rx, a, C, d, fs, v, rfl, ea, ed, T, hno, l, q⟩
  obtain rfl : u = Value.ref a := rx
  obtain ⟨t1, ho⟩ := exo_at I1.hok ea
  obtain ⟨mA, hns, hr⟩ := exd_at I1.hok ed
  obtain ⟨od, hod, hl⟩ := lookIn_ns hns
  obtain ⟨u, hu, ru⟩ := RelO.some_of (v := v) (o := mA f) (by rw [← l]; exact hr f)
  have J : PySem.W.InstAt s1.heap a _ C (some od) := ⟨ho, rfl, rfl, hod⟩
  exact HandSPX.exc_get I1.kIn J T.ga T.gg T.exC
    (PySem.W.findObj_own T.hdC hno rfl (by rw [hl, hu])) (handed_of ru) ⟨v, H1, I1.tok _, ru, q⟩
end
end K0


set_option Elab.async false
set_option linter.all false
set_option maxRecDepth 100000
set_option maxHeartbeats 4000000
namespace K0
open PySem PySem.Spec PyProof.Rows L2 NdefX

/-! ### super().m(e, ..) as the first statement of a method -/
section
variable {X : Cx} {pins : List (Addr × Obj)} {σ : L2.St} {H : Hp} {s : Shared} {f cc cda D C dx a f2 : Addr} {fs : List (Str × V)} {oc of cl ccl : Value} {od cld cdd cdo : Option Addr} {osl csl ccs : Array (Option Value)} {fd : FuncData} {ar : Arg}
  {vs : Array Value} {file : Str} {tf : Tok} {cdD : ClassData} {m : Str} {p0 p1 ap cpos epos : Pos} {e : Expr} {es : List Expr} {t : TA} {CX : CXT} {k : Nat} {spS : Sp} {E : XK} {body : List Stmt} {pl : Sem Bool} {a0 : Str}
/-- what the frame and the written part tell -/
structure SupF (X : Cx) (f cc cda D C f2 : Addr) (a0 m : Str) : Prop where
  ks : X.env.kindOf "super" = some .globalImplicit
  kc : X.env.kindOf "__class__" = some .free
  cel : X.env.cells.lookup ("__class__" : Str) = some cc
  fu : X.env.func = some f
  lk : ∃ oc od fd osl ar, X.K.lookup f = some ⟨oc, od, .func fd, osl⟩ ∧ (fd.params.posonlyargs ++ fd.params.args).head? = some ar ∧ ar.arg = a0
  co : X.env.code = .ref cda
  lc : ∃ ccl cdd vs ccs file tf, X.K.lookup cda = some ⟨ccl, cdd, .fields vs, ccs⟩ ∧ vs[2]? = some (Value.str file tf) ∧ ((X.prog.main.file : Str) == file) = true
  top : (X.prog.main.scope.names.lookup ("super" : Str)).isSome = false
  n0 : X.N[0]? = some a0
  k0 : X.env.scope.names.lookup a0 = some .local
  cell : ∃ cl cld csl, X.K.lookup cc = some ⟨cl, cld, .cell (some (.ref D)), csl⟩
  cls : ∃ cd, PySem.W.clsIn X.K D = some cd
  sub : PySem.W.mroIn X.K C (.ref D) = some true
  sup : X.mg "super" = none
  opq : PySem.W.nsIn X.K cStatics "thirdparty.any" = some none
  at_ : PySem.W.ks_superIn X.K C D m = some (some (.ref f2))
  ty : PySem.W.typeIn X.K (.ref f2) = some (.type "function")
  nm : (m == ("__class__" : Str)) = false
  fn : PySem.W.fnIn X.K f2 = true
theorem wp_sup (T : SupF X f cc cda D C f2 a0 m) (FS : FnR X.prog X.w X.K X.mg X.base CX k f2 spS) (hr : Room k X.A) (hx : Passes CX X E) (ha : PA X (e :: es) t) (I : Inv X pins σ H s) (h0 : σ[0]? = some (some (.ref a))) (hA : H a = some (.ins C dx fs))
    {R : Hp → Prop} (hq : ∀ q, H q = none → t σ (upd H q (.met f2 a)) fun ws H1 => H1 q = some (.met f2 a) ∧ spS (.ref a :: ws) H1 (fun _ H2 => R H2) E)
    (he : eval (.Call (.Attribute (.Call (.Name "super" p0) [] [] p1) m ap) (e :: es) [] cpos) X.env = (do
      let ov ← attributeBase (.Call (.Name "super" p0) [] [] p1) m X.env (eval (.Call (.Name "super" p0) [] [] p1) X.env)
      standAt ap.atName
      let (f, first) ← holding [ov] (getMethod ov m pl)
      callWith cpos f first (backTo cpos (starEach (e :: es) X.env)) []))
    (hst : starEach (e :: es) X.env = (false, eval e X.env) :: starEach es X.env) (hpl : (backTo cpos (starEach es X.env)).any (·.1) = false)
    (hi : interactive X.env = false) (hs : swapsWith (.Call (.Attribute (.Call (.Name "super" p0) [] [] p1) m ap) (e :: es) [] cpos) none epos.line X.env = pure false) :
    _root_.PySem.wpAt (model X.prog X.w) X.A (.func body X.env) (exec (.Expr (.Call (.Attribute (.Call (.Name "super" p0) [] [] p1) m ap) (e :: es) [] cpos) epos) X.env) (fun fl s' => fl = .next ∧ ∃ H', Inv X pins σ H' s' ∧ R H') X.xe s := by
  obtain ⟨oc, od, fd, osl, ar, lk, hp, rfl⟩ := T.lk
  obtain ⟨ccl, cdd, vs, ccs, file, tf, lc, hvs, hfile⟩ := T.lc
  obtain ⟨cl, cld, csl, lcell⟩ := T.cell
  obtain ⟨cdD, hD⟩ := T.cls
  have Xi : X.K.In s.heap := I.kIn
  obtain ⟨mL, hn, hl⟩ := I.loc
  obtain ⟨u, ru, lku⟩ := hl 0 _ _ T.n0 h0 (.inl T.k0)
  cases (show u = Value.ref a from ru)
  have hv : mL ar.arg = some (.ref a) := by
    rcases lku with ⟨_, z⟩ | ⟨z, _⟩
    · exact z
    · have e : X.env.kindOf ar.arg = some .local := T.k0
      rw [e] at z
      rcases z with z | z <;> cases z
  obtain ⟨oD, hD1, hD2⟩ : ∃ oD, s.heap.get? D = some oD ∧ oD.data = .cls cdD := by
    unfold PySem.W.clsIn at hD
    split at hD
    · rename_i c d cd' sl ho
      cases hD
      exact ⟨_, Xi _ _ ho, rfl⟩
    · cases hD
  obtain ⟨mA, O, _⟩ := ins_get I.hok hA
  obtain ⟨odx, J, _⟩ := O.look
  obtain ⟨mb, hb1, hb2⟩ := I.mod.blt
  have nm1 : ∀ c : ClassData, (PySem.W.instObj C dx).data ≠ .cls c := fun c z => by cases z
  obtain ⟨cdC, hC⟩ : ∃ cd, PySem.W.clsIn X.K C = some cd := by
    have h := T.at_
    unfold PySem.W.ks_superIn at h
    cases hc : PySem.W.clsIn X.K C with
    | none => rw [hc] at h; cases h
    | some cd => exact ⟨cd, rfl⟩
  have hxC : a ≠ C := PySem.W.ks_ne Xi J hC
  obtain ⟨of, hof, hofc⟩ : ∃ of, s.heap.get? f2 = some of ∧ of.cls = .type "function" := by
    have ht' : (X.K.lookup f2).map (·.cls) = some (.type "function") := T.ty
    cases z : X.K.lookup f2 with
    | none => rw [z] at ht'; cases ht'
    | some of => rw [z] at ht'; exact ⟨of, Xi _ _ z, Option.some.inj ht'⟩
  refine ks_wpAt_Expr_any (ks_wpAt_MethodCall (pl := pl) (ks_wpAt_mono (ks_wpAt_super_base T.ks T.kc T.nm T.fu (Xi _ _ lk) rfl hp T.co (Xi _ _ lc) rfl hvs hfile T.top ?_) (fun _ _ z => z) fun _ _ z => z) he) hi hs
  refine PySem.W.ks_loadName_global I.ok.kind T.ks (Calls.loadGlobal_builtin (by rw [I.ok.glob]; exact I.mod.glob.keeps I.bk) T.sup (by rw [I.ok.blt]; exact hb1.keeps I.bk) ((hb2 _ (by decide)).trans (by first | rfl | decide +kernel)) ⟨rfl, ?_⟩)
  refine wpAny_loadName_free I.ok.kind T.kc T.cel ⟨_, Xi _ _ lcell, rfl⟩ ?_
  refine wpAny_loadName_local I.ok.kind T.k0 hn hv ?_
  obtain ⟨hh, g, d, tk, os⟩ := s
  refine ks_wpAny_isType_cls hD1 hD2 ⟨rfl, ?_⟩
  refine ks_wpAny_call_super hD1 hD2 O.obj rfl nm1 (PySem.W.looks_mroIn Xi T.sub) (fun h1 e1 k1 => ?_)
  have I1 : Inv X pins σ H ⟨h1, g, d, tk, os⟩ := I.kept (t' := tk) k1
  have Xi1 := I1.kIn
  have h := T.at_
  unfold PySem.W.ks_superIn at h
  rw [hC, Option.bind_some] at h
  refine ks_wpAny_getMethod_super e1 (PySem.W.looks_opaque Xi1 T.opq) (l₀ := cdC.mro) ?_ rfl Xi1 h (k1 _ _ hof) hofc hxC T.nm ?_
  · exact fun A Q E s k q => wpAny_bind ((PySem.W.looks_clsIn Xi1 hC) A _ E s k (wpAny_pure q))
  have hfr : H h1.objs.size = none := I1.hok.fresh (Nat.le_refl _)
  have I2 : Inv X pins σ (upd H h1.objs.size (.met f2 a)) ⟨h1.push (PySem.W.methodObj (.ref f2) (.ref a)), g, d, tk + 1, os⟩ :=
    I1.laid (t' := tk + 1) (a := h1.objs.size) (o := .met f2 a) (fun b u z => Heap.get?_push_of_some _ z) (Nat.le_refl _) (show (h1.push (PySem.W.methodObj (.ref f2) (.ref a))).get? h1.objs.size = some (PySem.W.methodObj (.ref f2) (.ref a)) from Heap.get?_push_size h1 rfl)
  have hq' := hq _ hfr
  show wpAny _ _ (callWith cpos (.ref h1.objs.size) [] (backTo cpos (starEach (e :: es) X.env)) []) _ _ _
  have hpl2 : ((backTo cpos (starEach (e :: es) X.env)).any (·.1) || ([] : List (Option Str × Sem Value)).any (·.1.isNone)) = false := by
    rw [hst]
    show ((false || (backTo cpos (starEach es X.env)).any (·.1)) || false) = false
    rw [hpl]
    rfl
  refine callwith_met (g := f2) (a := a) hpl2 T.fn ?_
  have ha2 := ha.run cpos pins _ σ _ _ I2 hq'
  rw [hst] at ha2 ⊢
  refine Calls.evalArgs_plain (thn ha2 fun us s1 ⟨ws, H1, J1, rw1, hm1, q1⟩ => ⟨met_P J1 hm1, ?_⟩)
  refine thn (Q := EP X pins σ fun _ H2 => R H2) (wpAny_call (call_met J1 hm1 (run_fnR (us := .ref a :: us) (vs := .ref a :: ws) FS hr hx J1 (.cons rfl rw1) q1))) ?_
  rintro u2 s2 ⟨_, H2, J2, _, r2⟩
  exact ⟨rfl, H2, J2, r2⟩
end

/-- what else stands in the frame -/
structure SupE (F : NF) (f : Addr) (m : Str) (p0 p1 ap cpos epos : Pos) (e : Expr) (es : List Expr) : Prop where
  he : ∀ L, ∃ pl : Sem Bool, eval (.Call (.Attribute (.Call (.Name "super" p0) [] [] p1) m ap) (e :: es) [] cpos) (envF F f L) = (do
      let ov ← attributeBase (.Call (.Name "super" p0) [] [] p1) m (envF F f L) (eval (.Call (.Name "super" p0) [] [] p1) (envF F f L))
      standAt ap.atName
      let (g, first) ← holding [ov] (getMethod ov m pl)
      callWith cpos g first (backTo cpos (starEach (e :: es) (envF F f L))) [])
  hst : ∀ L, starEach (e :: es) (envF F f L) = (false, eval e (envF F f L)) :: starEach es (envF F f L)
  hpl : ∀ L, (backTo cpos (starEach es (envF F f L))).any (·.1) = false
  hi : ∀ L, interactive (envF F f L) = false
  hs : ∀ L, swapsWith (.Call (.Attribute (.Call (.Name "super" p0) [] [] p1) m ap) (e :: es) [] cpos) none epos.line (envF F f L) = pure false
section
variable {P : Program} {w : World} {K : PySem.W.Frag} {mg : Str → Option Value} {base : Heap} {N ps : List Str} {F : NF} {f cc D C f2 : Addr} {k : Nat} {sp spS : Sp} {a0 m : Str} {p0 p1 ap cpos epos : Pos} {e : Expr} {es : List Expr} {rest : List Stmt}
  {kV doc pm ct oc : Value} {an od : Option Addr} {osl : Array (Option Value)}
/-- a def whose first statement is super().m(e, ..) -/
theorem fn_sup (lk : K.lookup f = some ⟨oc, od, .func (PySem.W.fnX F.name F.qual F.params F.body F.scope F.cl .none kV doc pm an (.ref F.c) ct), osl⟩) (hcd : PySem.W.codeIn K (.ref F.c) F.qual = true)
    (S : NScope N ps ["__class__"] F.scope) (hcl : F.cl = [(("__class__" : Str), cc)]) (len : ∀ vs H Q E, sp vs H Q E → vs.length = ps.length)
    (hT : ∀ A outer s H E, SupF (ncx CX0 P w K mg base N F f A outer s H E) f cc F.c D C f2 a0 m) (hE : SupE F f m p0 p1 ap cpos epos e es)
    (hbo : F.body = .Expr (.Call (.Attribute (.Call (.Name "super" p0) [] [] p1) m ap) (e :: es) [] cpos) epos :: rest)
    (FS : FnR P w K mg base CX0 k f2 spS)
    (hbody : ∀ (A : Around) (outer : List Env) (s : Shared) (H : Hp) (vs : List V) (Q : VK) (E : XK), Room k (A.deeper (envF F f s.heap.objs.size)) → sp vs H Q E →
      ∃ a dx fs t tr, vs[0]? = some (.ref a) ∧ H a = some (.ins C dx fs) ∧ PA (ncx CX0 P w K mg base N F f A outer s H E) (e :: es) t ∧ PSs (ncx CX0 P w K mg base N F f A outer s H E) rest tr ∧
        ∀ q, H q = none → t (startF N vs [none]) (upd H q (.met f2 a)) fun ws H1 => H1 q = some (.met f2 a) ∧ spS (.ref a :: ws) H1 (fun _ H2 => tr { nx := fun _ H' => Q .non H', rt := Q } (startF N vs [none]) H2) E0) :
    FnOk P w K mg base CX0 (k + 1) f (PySem.W.fnX F.name F.qual F.params F.body F.scope F.cl .none kV doc pm an (.ref F.c) ct) ps sp := by
  refine ⟨len, fun A outer s H args us vs Q E hr e0 hb r hsp => ?_⟩
  have hl := len _ _ _ _ hsp
  have kept : ∀ b o, base.get? b = some o → s.heap.get? b = some o := fun b o e => (e0.bs b o e).1
  have KX : K.In s.heap := e0.mod.kin.keeps kept
  have lim : s.heap.NoLimit := e0.mod.nolimit.keeps kept
  refine codeAny_call_function hr.depth (KX _ _ lk) rfl S.co S.gen rfl (PySem.W.codeRec_of KX hcd) (hb _ _ _ _ ?_)
  refine wpAny_newFunctionEnv S.nocell (fun ⟨n, _⟩ hy => S.par n (List.of_mem_zip hy).1) (fun h₁ hns hsb => ⟨lim.fresh _ hsb, ?_⟩) S.kind
  show codeAny _ _ (.func F.body (envF F f s.heap.objs.size)) _ _
  have kp : ∀ b o, s.heap.get? b = some o → h₁.get? b = some o := fun b o e => hsb.extBut b o (Nat.ne_of_lt (Heap.lt_size e)) (Heap.get?_push_of_some _ e)
  obtain ⟨a, dx, fs, t, tr, h0, hA, ha, ht, hq⟩ := hbody A outer s H vs Q E (hr.deeper _) hsp
  have T := hT A outer s H E
  obtain ⟨cl, cld, csl, lcell⟩ := T.cell
  have bcc := e0.mod.kin _ _ lcell
  have Cs : CellsAt F.cl ["__class__"] [none] s.heap H := by
    refine ⟨rfl, fun y c e => ?_, fun x y c e1 e2 => ?_, fun i y hy => ?_⟩
    · rw [hcl] at e
      simp only [List.lookup_cons] at e
      split at e
      · cases e
        exact ⟨(e0.bs _ _ bcc).2, _, _, (e0.bs _ _ bcc).1, rfl⟩
      · cases e
    · rw [hcl] at e1 e2
      simp only [List.lookup_cons] at e1 e2
      split at e1
      · rename_i q1
        split at e2
        · rename_i q2
          exact (beq_iff_eq.mp q1).trans (beq_iff_eq.mp q2).symm
        · cases e2
      · cases e1
    · cases i with
      | zero =>
        cases hy
        refine ⟨cc, by rw [hcl]; rfl, fun v hv => by cases hv⟩
      | succ i => cases hy
  have I : Inv (ncx CX0 P w K mg base N F f A outer s H E) [] (startF N vs [none]) H { s with heap := h₁, toks := s.toks + (ps.zip us).length } := inv_startN S hr.hd e0 hl r Cs hns kp
  have h0' : (startF N vs [none])[0]? = some (some (.ref a)) := by
    cases vs with
    | nil => cases h0
    | cons v vs => cases h0; rfl
  refine ks_codeAny_funcAt ?_
  rw [hbo]
  obtain ⟨pl, hpl⟩ := hE.he s.heap.objs.size
  have hsup := wp_sup (body := F.body) (epos := epos) (E := E0) T FS (hr.deeper _) pass0 ha I h0' hA hq hpl (hE.hst _) (hE.hpl _) (hE.hi _) (hE.hs _)
  rw [hbo] at hsup
  refine ks_wpAt_execs_cons (ks_wpAt_mono hsup ?_ fun _ _ z => z)
  rintro fl s1 ⟨rfl, H1, I1, q1⟩
  refine _root_.PySem.wpAt_of_wpAny (wpAny_mono (ht.run [] _ _ _ _ I1 q1) (fun fl s' hs => ?_) fun e s' hs => hs)
  have fin : ∀ {σ' : L2.St} {H' : Hp} {v : V} {u : Value}, Inv (ncx CX0 P w K mg base N F f A outer s H E) [] σ' H' s' → L2.RelV v u → Q v H' → CE outer P w H s Q u s' :=
    fun {σ' H' v u} J rv q => ⟨v, H', J.os, J.bare, J.base, J.hok, rv, q⟩
  cases fl with
  | ret u =>
    obtain ⟨v, σ', H', J, rv, q⟩ := hs
    exact fin J rv q
  | next =>
    obtain ⟨σ', H', J, q⟩ := hs
    exact fin (v := V.non) (u := Value.none) J rfl q
  | brk =>
    obtain ⟨_, _, _, q⟩ := hs
    exact False.elim q
  | cont =>
    obtain ⟨_, _, _, q⟩ := hs
    exact False.elim q
end
end K0


set_option Elab.async false
set_option linter.all false
set_option maxRecDepth 100000
set_option maxHeartbeats 4000000
namespace K0
open PySem PySem.Spec PyProof.Rows L2 NdefX

section
variable {prog : Program} {w : World} {A : Around} {E : Value → Shared → Prop} {s : Shared} {K : PySem.W.Frag} {x C f : Addr} {ox : Obj} {od : Option Obj} {b : Value}
theorem ifBound_objNe {M : Model} {args : List Value} {Q : Option Value → Shared → Prop} (X : K.In s.heap) (I : PySem.W.InstAt s.heap x ox C od) (hs : PySem.W.findIn K (.ref C) "__ne__" = some (some (.builtin "object.__ne__")))
    (h : wpAny M A (call (.builtin "object.__ne__") (.ref x :: args)) (fun v => Q (some v)) E s) : wpAny M A (callSpecialIfBound? (.ref x) "__ne__" args) Q E s := by
  simp only [callSpecialIfBound?, bindSpecialIfBound?]
  refine wpAny_holding (wpAny_bind (wpAny_bind (wpAny_bind (I.type.here ((PySem.W.looks_findIn X hs).here ?_)))))
  refine wpAny_bind (wpAny_askSetting (wpAny_ite ?_))
  have fin : wpAny M A (call (.builtin "object.__ne__") ([.ref x] ++ args) >>= fun v => pure (some v)) Q E s := wpAny_bind (wpAny_mono h (fun v s' h' => wpAny_pure h') fun _ _ h' => h')
  split
  · exact wpAny_bind (wpAny_of_eq (F.cmp_object.ne.bind _) (wpAny_pure (by exact fin)))
  · exact wpAny_tryCatch (wpAny_bind (wpAny_of_eq (F.cmp_object.ne.bind _) (wpAny_pure (by exact fin))))
theorem objNe_K {Q : Fin → Shared → Prop} (hu : A.units < cLine) (X : K.In s.heap) (I : PySem.W.InstAt s.heap x ox C od) (hs : PySem.W.findIn K (.ref C) "__eq__" = some (some (.ref f))) (hf : PySem.W.isFn K (.ref f) = true)
    (hcall : wpAny (model prog w) A (call (.ref f) [.ref x, b]) (fun v s' => ∃ r, v = .bool r ∧ Q (.done (.ret (.bool (!r)))) s') E s) :
    wpAny (model prog w) A (Builtin.«object.__ne__» ⟨[.ref x, b], []⟩) Q E s := by
  unfold Builtin.«object.__ne__»
  repeat (first
    | with_reducible refine wpAny_cRoomFor hu ?_
    | (refine wpAny_bind (m := callSpecialIfBound? (.ref x) (Str.ofString "__eq__") [b])
        (PySem.W.ifBound_K X I hs hf (wpAny_mono hcall (fun r s' hr => by
          obtain ⟨b, rfl, hq⟩ := hr
          repeat (first | exact hq | exact wpAny_pure hq | exact wpAny_truthy_bool hq | (refine wpAny_bind (m := truthy (.bool _)) (wpAny_truthy_bool ?_)) | wp_step)) fun _ _ e => e)))
    | wp_step)
theorem ne_K {Q : Value → Shared → Prop} {y : Addr} (hu : A.units + 1 < cLine) (X : K.In s.heap) (I : PySem.W.InstAt s.heap x ox C od) {oy : Obj} {ody : Option Obj} (J : PySem.W.InstAt s.heap y oy C ody) (hn : PySem.W.findIn K (.ref C) "__ne__" = some (some (.builtin "object.__ne__")))
    (hm : PySem.W.mroIn K C (.type "object") = some true) (hs : PySem.W.findIn K (.ref C) "__eq__" = some (some (.ref f))) (hf : PySem.W.isFn K (.ref f) = true)
    (hcall : wpAny (model prog w) A.in1 (call (.ref f) [.ref x, .ref y]) (fun v s' => ∃ r, v = .bool r ∧ Q (.bool (!r)) s') E s) : wpAny (model prog w) A (richCompare .NotEq (.ref x) (.ref y)) Q E s := by
  have one : wpAny (model prog w) A (tryCompare (.ref x) "__ne__" (.ref y)) (fun r s' => ∃ v, r = some v ∧ Q v s') E s := by
    unfold tryCompare
    refine wpAny_bind (ifBound_objNe X I hn (wpAny_call (codeAny_call_builtin F.cmp_object.ne.plain F.cmpEntry_ne (PySem.W.check_slot F.cmpKind_ne F.cmpSplit_ne (I.type.andThen (PySem.W.looks_mroIn X hm)) (F.cmpArgs_ne _ _) ?_))))
    refine objNe_K (A := A.in1) hu X I hs hf (wpAny_mono hcall (fun v s' hv => ?_) fun _ _ z => z)
    obtain ⟨r, rfl, q⟩ := hv
    exact ⟨r, rfl, wpAny_pure ⟨_, rfl, q⟩⟩
  simp only [richCompare, cmpInfo_NotEq, oneThing_ref]
  refine wpAny_holding (wpAny_bind (wpAny_cRoomFor (Nat.lt_of_succ_lt hu) ?_))
  refine wpAny_bind (I.type.here (wpAny_bind (J.type.here ?_)))
  rw [show (Value.ref C != Value.ref C) = false from by simp]
  simp only [Bool.false_eq_true, if_false]
  refine wpAny_bind (wpAny_pure ?_)
  simp only [Bool.false_eq_true, if_false]
  refine wpAny_bind (wpAny_mono one (fun r s' z => ?_) fun _ _ e => e)
  obtain ⟨v, rfl, hq⟩ := z
  exact wpAny_pure hq
end
section
variable {X : Cx} {CX : CXT} {k : Nat} {f C : Addr} {fd : FuncData} {ps : List Str} {sp : Sp} {E : XK}
/-- the type of what == is asked of -/
def CmpTy (K : PySem.W.Frag) (H : Hp) (C : Addr) (y : V) : Prop := (∃ b dy gs, y = .ref b ∧ H b = some (.ins C dy gs)) ∨ ((∃ b xs, y = .ref b ∧ H b = some (.tup xs)) ∧ PySem.W.subIn K (.type "tuple") (.ref C) = some false)
/-- x == y, x of the class at C with the program's own __eq__ -/
theorem op_eqI (F : FnOk X.prog X.w X.K X.mg X.base CX k f fd ps sp) (hr : Room k X.A) (hs : PySem.W.findIn X.K (.ref C) "__eq__" = some (some (.ref f))) (hf : PySem.W.isFn X.K (.ref f) = true) (hb : Binds X.K fd ps []) (hx : Passes CX X E) :
    OpR X (compareOp .Eq) (fun x y H Q => ∃ a dx fs, x = .ref a ∧ H a = some (.ins C dx fs) ∧ CmpTy X.K H C y ∧ sp [x, y] H (fun v H' => ∃ b, v = .bl b ∧ Q (.bl b) H') E) := by
  intro pins s σ H x y v u Q I rx ry h
  obtain ⟨a, dx, fs, rfl, ha, hy, h⟩ := h
  cases rx
  obtain ⟨mA, J, _⟩ := ins_get I.hok ha
  obtain ⟨od, J, _⟩ := J.look
  obtain ⟨m, hF⟩ := I.fr
  have run : wpAny (model X.prog X.w) X.A (call (.ref f) [.ref a, u]) (EP X pins σ fun v H' => ∃ b, v = .bl b ∧ Q (.bl b) H') X.xe s := by
    have := run_fn (us := [.ref a, u]) (vs := [.ref a, y]) F hr hb .nil hx I (.cons rfl (.cons ry .nil)) (by simpa using h)
    simpa using this
  have back : ∀ v s', EP X pins σ (fun v H' => ∃ b, v = V.bl b ∧ Q (.bl b) H') v s' → PySem.W.CmpBack (EP X pins σ Q) v s' := by
    rintro v s' ⟨z, H', I', rz, b, rfl, q⟩
    cases rz
    show EP X pins σ Q (.bool b) s'
    exact ⟨.bl b, H', I', rfl, q⟩
  show wpAny (model X.prog X.w) X.A (richCompare .Eq _ u) (EP X pins σ Q) X.xe s
  rcases hy with ⟨b, dy, gs, rfl, hb'⟩ | ⟨⟨b, xs, rfl, hb'⟩, hsub⟩
  · cases ry
    obtain ⟨mB, J', _⟩ := ins_get I.hok hb'
    obtain ⟨od', J', _⟩ := J'.look
    exact PySem.W.cmp_K (op := .Eq) (tb := .ref C) hr.units0 hF I.ok.mod.kin J J'.type (by simp [PySem.W.notFirst]) hs hf (wpAny_mono run back fun _ _ z => z)
  · cases ry
    obtain ⟨_, its, _, o, ho, hc, _⟩ := I.hok b _ hb'
    refine PySem.W.cmp_K (op := .Eq) (tb := .type "tuple") hr.units0 hF I.ok.mod.kin J (hc ▸ (PySem.W.Looks.ld ho).andThen .now) ?_ hs hf (wpAny_mono run back fun _ _ z => z)
    unfold PySem.W.notFirst
    rw [hsub]
    simp
/-- x != y of two of the class at C -/
theorem op_neI (F : FnOk X.prog X.w X.K X.mg X.base CX k f fd ps sp) (hr : Room (k + 1) X.A) (hs : PySem.W.findIn X.K (.ref C) "__eq__" = some (some (.ref f))) (hf : PySem.W.isFn X.K (.ref f) = true) (hn : PySem.W.findIn X.K (.ref C) "__ne__" = some (some (.builtin "object.__ne__")))
    (hm : PySem.W.mroIn X.K C (.type "object") = some true) (hb : Binds X.K fd ps []) (hx : Passes CX X E) :
    OpR X (compareOp .NotEq) (fun x y H Q => ∃ a dx fs b dy gs, x = .ref a ∧ H a = some (.ins C dx fs) ∧ y = .ref b ∧ H b = some (.ins C dy gs) ∧ sp [x, y] H (fun v H' => ∃ b, v = .bl b ∧ Q (.bl (!b)) H') E) := by
  intro pins s σ H x y v u Q I rx ry h
  obtain ⟨a, dx, fs, b, dy, gs, rfl, ha, rfl, hb', h⟩ := h
  cases rx
  cases ry
  obtain ⟨mA, J, _⟩ := ins_get I.hok ha
  obtain ⟨od, J, _⟩ := J.look
  obtain ⟨mB, J', _⟩ := ins_get I.hok hb'
  obtain ⟨od', J', _⟩ := J'.look
  have hl : ([Value.ref a, Value.ref b] ++ []).length = ps.length := by
    have := F.len _ _ _ _ h
    simpa using this
  have run : wpAny (model X.prog X.w) X.A.in1 (call (.ref f) [.ref a, .ref b]) (EP X pins σ fun v H' => ∃ b, v = .bl b ∧ Q (.bl (!b)) H') X.xe s := by
    refine wpAny_call (codeAny_mono (F.run X.A.in1 X.stack s H ⟨[.ref a, .ref b], []⟩ [.ref a, .ref b] [.ref a, .ref b] _ E hr.in1 I.env0.in1 (by
      have := hb s [.ref a, .ref b] I.kIn hl
      simpa using this) (.cons rfl (.cons rfl .nil)) h) fun r s' hq => ?_)
    cases r with
    | error e => exact hx pins σ H s e s' I hq
    | ok fl =>
      cases fl with
      | ret u => exact I.after hq
      | next => exact False.elim hq
      | brk => exact False.elim hq
      | cont => exact False.elim hq
  show wpAny (model X.prog X.w) X.A (richCompare .NotEq _ _) (EP X pins σ Q) X.xe s
  refine ne_K (by have := hr.units; omega) I.kIn J J' hn hm hs hf (wpAny_mono run ?_ fun _ _ z => z)
  rintro v s' ⟨z, H', I', rz, c, rfl, q⟩
  cases rz
  exact ⟨c, rfl, .bl (!c), H', I', rfl, q⟩
end
end K0


set_option Elab.async false
set_option linter.all false
set_option maxRecDepth 100000
set_option maxHeartbeats 4000000
namespace K0
open PySem PySem.Spec PyProof.Rows L2 NdefX

theorem meets_bool_new_inst (a : Addr) : Meets (Builtin.«bool.__new__» ⟨[.type "bool", .ref a], []⟩) (fun A R s => (∀ (M : Model) (A' : Around) (Q : Bool → Shared → Prop) (E : Value → Shared → Prop), Q true s → wpAny M A' (truthy (.ref a)) Q E s) ∧ R (.ok (.ret (.bool true))) s) :=
  Meets.of_wp fun prog w A R s hs => by
    obtain ⟨ht, hs⟩ := hs
    obtain ⟨hp, g, d, tk, os⟩ := s
    have f1 := PySem.F.conv_sub_bool
    repeat (any_goals (first | assumption | with_reducible refine ht _ _ _ _ ?_ | wp_step))
    all_goals first | exact ⟨_, rfl, hs⟩ | skip
section
variable {X : Cx}
/-- bool(o), o an instance without __bool__, __len__ -/
theorem call_boolI : CallR X (.type "bool") (fun xs H Q => ∃ a C dx fs, xs = [.ref a] ∧ H a = some (.ins C dx fs) ∧ PySem.W.findIn X.K (.ref C) "__bool__" = some none ∧ PySem.W.findIn X.K (.ref C) "__len__" = some none ∧ Q (.bl true) H) := by
  intro pins s σ H xs us Q I r h
  obtain ⟨a, C, dx, fs, rfl, ha, hs, hl, q⟩ := h
  rw [Vals.ref1 r]
  obtain ⟨mA, O, _⟩ := ins_get I.hok ha
  obtain ⟨od, J, _⟩ := O.look
  obtain ⟨m, hF⟩ := I.fr
  exact call_bool_1 (meets_bool_new_inst a) ⟨fun M A' Q E h => PySem.W.truthy_K0 hF I.ok.mod.kin J hs hl h, rfl, .bl true, H, I, rfl, q⟩
/-- type(x) of an instance, of a tuple -/
theorem cr_typeI : CallR X (.type "type") (fun xs H Q => ∃ a, xs = [V.ref a] ∧ ((∃ C dx fs, H a = some (.ins C dx fs) ∧ Q (.ref C) H) ∨ (∃ ys, H a = some (.tup ys) ∧ Q (.ty "tuple") H))) := by
  intro pins s σ H xs us Q I r h
  obtain ⟨a, rfl, ⟨C, dx, fs, ha, q⟩ | ⟨ys, ha, q⟩⟩ := h
  · rw [Vals.ref1 r]
    obtain ⟨mA, O, _⟩ := ins_get I.hok ha
    obtain ⟨od, J, _⟩ := O.look
    exact PySem.W.kto_own J ⟨.ref C, H, I, rfl, q⟩
  · rw [Vals.ref1 r]
    obtain ⟨_, its, _, o, ho, hc, _⟩ := I.hok a _ ha
    exact PySem.W.kto_cont (T := "tuple") ⟨o, ho, hc⟩ (by decide +kernel) ⟨.ty "tuple", H, I, rfl, q⟩
/-- a class is itself, and no built-in type -/
theorem op_isC : OpR X (compareOp .Is) (fun x y H Q => ∃ a, x = V.ref a ∧ ((y = .ref a ∧ Q (.bl true) H) ∨ (∃ n, y = .ty n ∧ Q (.bl false) H))) := by
  intro pins s σ H x y v u Q I rx ry h
  obtain ⟨a, rfl, ⟨rfl, q⟩ | ⟨n, rfl, q⟩⟩ := h
  · cases rx
    cases ry
    exact wpAny_is_ref_self ⟨.bl true, H, I, rfl, q⟩
  · cases rx
    cases ry
    unfold compareOp
    exact wpAny_bind (wpAny_of_eq (a := false) (by rfl) (wpAny_pure ⟨.bl false, H, I, rfl, q⟩))
/-- x is not True -/
theorem op_isnotB : OpR X (compareOp .IsNot) (fun x y H Q => ∃ a b : Bool, x = .bl a ∧ y = .bl b ∧ Q (.bl (!decide (a = b))) H) := op_notBl
end
end K0


set_option Elab.async false
set_option linter.all false
set_option maxRecDepth 100000
set_option maxHeartbeats 4000000
namespace K0
open PySem PySem.Spec PyProof.Rows L2

/-! ### defs, bundled -/
/-- the def x of the module stands at f and keeps sp -/
structure Dn (P : Program) (w : World) (K : PySem.W.Frag) (mg : Str → Option Value) (base : Heap) (k : Nat) (x : Str) (f : Addr) (ps : List Str) (sp : Sp) : Prop where
  ex : ∃ fd, FnOk P w K mg base CX0 k f fd ps sp ∧ Binds K fd ps []
  mg : mg x = some (.ref f)
  kp : PySem.W.keepIn K (.ref f) = true
/-- .. and what is bound where keywords ks are given -/
structure DnK (P : Program) (w : World) (K : PySem.W.Frag) (mg : Str → Option Value) (base : Heap) (k : Nat) (x : Str) (f : Addr) (ps ks : List Str) (gV : List V → List V → List V) (sp : Sp) : Prop where
  ex : ∃ fd g, FnOk P w K mg base CX0 k f fd ps sp ∧ KBn K fd ps 0 ks g gV
  mg : mg x = some (.ref f)
  kp : PySem.W.keepIn K (.ref f) = true
structure DnG (P : Program) (w : World) (K : PySem.W.Frag) (mg : Str → Option Value) (base : Heap) (k : Nat) (x : Str) (f : Addr) (ps : List Str) (sp : Sp) : Prop where
  ex : ∃ fd, FnG P w K mg base k f fd ps sp ∧ Binds K fd ps []
  mg : mg x = some (.ref f)
  kp : PySem.W.keepIn K (.ref f) = true
section
variable {X : Cx} {k : Nat} {f : Addr} {ps ks : List Str} {sp : Sp} {x : Str} {p pos : Pos} {e : Expr} {es : List Expr} {kws : List Keyword} {t tk : TA} {gV : List V → List V → List V}
def tDn (sp : Sp) (t : TA) : TE := fun σ H Q => t σ H fun vs H1 => sp vs H1 Q E0
theorem pe_dn (D : Dn X.prog X.w X.K X.mg X.base k x f ps sp) (hr : Room k X.A) (hg : Gl X x) (ha : PA X (e :: es) t)
    (hdb : (x == ("__debug__" : Str)) = false := by decide)
    (he : starEach (e :: es) X.env = (false, eval e X.env) :: starEach es X.env := by rfl)
    (hpl : (backTo pos (starEach es X.env)).any (·.1) = false := by rfl) :
    PE X (.Call (.Name x p) (e :: es) [] pos) (tDn sp t) := by
  obtain ⟨⟨fd, F, B⟩, m, kp⟩ := D
  have h := pe_call (p := p) F hr hg m kp B .nil pass0 ha hdb he hpl
  refine ⟨fun pins s σ H Q I q => h.run pins s σ H Q I ?_⟩
  have e1 : tCall sp [] E0 t σ H Q = tDn sp t σ H Q := by
    show t σ H (fun vs H1 => sp (vs ++ []) H1 Q E0) = _
    simp only [List.append_nil]
    rfl
  rw [e1]
  exact q
theorem pe_dk (D : DnK X.prog X.w X.K X.mg X.base k x f ps ks gV sp) (hr : Room k X.A) (hg : Gl X x) (hkw : PK X kws tk)
    (hall : (backToKw pos (keywordEach kws X.env)).all (·.1.isSome) = true := by rfl)
    (hks : (backToKw pos (keywordEach kws X.env)).filterMap (·.1) = ks := by rfl)
    (hdb : (x == ("__debug__" : Str)) = false := by decide)
    (hpl : ((backTo pos (starEach [] X.env)).any (·.1) || (backToKw pos (keywordEach kws X.env)).any (·.1.isNone)) = false := by rfl) :
    PE X (.Call (.Name x p) [] kws pos) (fun σ H Q => tk σ H fun zs H1 => zs.length = ks.length ∧ sp (gV [] zs) H1 Q E0) := by
  obtain ⟨⟨fd, g, F, B⟩, m, kp⟩ := D
  exact pe_kw0 F hr hg m kp B hkw hall hks hdb hpl
theorem pe_dg (D : DnG X.prog X.w X.K X.mg X.base k x f ps sp) (hG : X.A.guards = some []) (hr : Room k X.A) (hg : Gl X x) (ha : PA X (e :: es) t)
    (hdb : (x == ("__debug__" : Str)) = false := by decide)
    (he : starEach (e :: es) X.env = (false, eval e X.env) :: starEach es X.env := by rfl)
    (hpl : (backTo pos (starEach es X.env)).any (·.1) = false := by rfl) :
    PE X (.Call (.Name x p) (e :: es) [] pos) (tDn sp t) := by
  obtain ⟨⟨fd, F, B⟩, m, kp⟩ := D
  exact pe_callG F hG hr hg m kp B ha hdb he hpl
end

/-! ### exceptions, bundled -/
/-- an exception of the class at C with these fields stands at a -/
def ErrAt (H : Hp) (a C : Addr) (fs : List (Str × V)) : Prop := ∃ d, H a = some (exo a C (some d)) ∧ H d = some (exd d fs)
theorem ErrAt.same {H H' : Hp} {a C : Addr} {fs : List (Str × V)} (h : ErrAt H a C fs) (s : Same H H') : ErrAt H' a C fs := by
  obtain ⟨d, h1, h2⟩ := h
  exact ⟨d, s _ _ h1, s _ _ h2⟩
/-- what __init__ promises: the fields named are stored -/
def spI (C : Addr) (n : Nat) (fs : List V → List (Str × V)) : Sp := fun vs H Q _ => ∃ (a : Addr) (ws : List V), vs = .ref a :: ws ∧ ws.length = n ∧ H a = some (exo a C none) ∧
  ∀ (d : Addr) (H' : Hp), H d = none → d ≠ a → H' a = some (exo a C (some d)) → H' d = some (exd d (fs ws)) → (∀ b o, b ≠ a → H b = some o → H' b = some o) → Q .non H'
/-- the class x of the module stands at C; its maker binds by place, and by the keywords ks -/
structure Ec (P : Program) (w : World) (K : PySem.W.Frag) (mg : Str → Option Value) (base : Heap) (x : Str) (C : Addr) (n : Nat) (ks : List Str) (gV : List V → List V) (fs : List V → List (Str × V)) : Prop where
  ox : OexC K C
  xf : XfC K C
  ec : ExcC K C
  ex : ∃ fI fd ps g1 g2, PySem.W.findIn K (.ref C) "__init__" = some (some (.ref fI)) ∧ PySem.W.typeIn K (.ref fI) = some (.type "function") ∧ FnOk P w K mg base CX0 1 fI fd ps (spI C n fs) ∧
    KBn K fd ps (n + 1) [] g1 (fun vs _ => vs) ∧ KBn K fd ps 1 ks g2 (fun vs zs => vs ++ gV zs)
  len : ∀ zs : List V, zs.length = ks.length → (gV zs).length = n
  nk : n ≤ 1000
  mg : mg x = some (.ref C)
  no : ∀ ws : List V, ws.length = n → ∀ q ∈ fs ws, PySem.W.findIn K (.ref C) q.1 = some none
section
variable {X : Cx} {C : Addr} {n : Nat} {ks : List Str} {x : Str} {p pos : Pos} {e : Expr} {es : List Expr} {kws : List Keyword} {t tk : TA} {gV : List V → List V} {fs : List V → List (Str × V)}
/-- the reading of C(e, ..) -/
def tEc (C : Addr) (n : Nat) (fs : List V → List (Str × V)) (t : TA) : TE := fun σ H Q => t σ H fun vs H1 => vs.length = n ∧
  ∀ (a : Addr) (H2 : Hp), H1 a = none → ErrAt H2 a C (fs vs) → Same H1 H2 → Q (.ref a) H2
theorem ini_way {H1 : Hp} {Q : VK} {ws : List V} (hl : ws.length = n) (h : ∀ (a : Addr) (H2 : Hp), H1 a = none → ErrAt H2 a C (fs ws) → Same H1 H2 → Q (.ref a) H2) :
    ∀ a, H1 a = none → spI C n fs (.ref a :: ws) (upd H1 a (exo a C none)) (fun v H3 => v = .non ∧ Q (.ref a) H3) E0 := by
  intro a ha
  refine ⟨a, ws, rfl, hl, upd_same, fun d H' hd hda h1 h2 hk => ⟨rfl, h a H' ha ⟨d, h1, h2⟩ fun b o hb => ?_⟩⟩
  have hba : b ≠ a := ne_of_none hb ha
  exact hk b o hba (by rw [upd_ne hba]; exact hb)
theorem pe_ec (D : Ec X.prog X.w X.K X.mg X.base x C n ks gV fs) (hr : Room 2 X.A) (hg : Gl X x) (ha : PA X (e :: es) t)
    (hdb : (x == ("__debug__" : Str)) = false := by decide)
    (he : starEach (e :: es) X.env = (false, eval e X.env) :: starEach es X.env := by rfl)
    (hpl : (backTo pos (starEach es X.env)).any (·.1) = false := by rfl) :
    PE X (.Call (.Name x p) (e :: es) [] pos) (tEc C n fs t) := by
  obtain ⟨fI, fd, ps, g1, g2, h1, h2, F, b1, b2⟩ := D.ex
  refine ⟨fun pins s σ H Q I q => wpAny_Call_Name_kw (ld_glob I hg D.mg ?_ hdb)⟩
  refine PySem.W.callWith_K (h₀ := X.base) I.ok.mod.kin D.ox.kC
    (thn (ha.run pos pins s σ H _ I q) ?_) he hpl
  rintro us s1 ⟨vs, H1, I1, r, l1, q1⟩
  exact ⟨I1.kIn, run_mkE (ws := []) (zs := []) (ks := []) D.ox h1 h2 F hr b1 I1 r .nil l1 rfl D.nk (ini_way l1 q1)⟩
theorem pe_eck (D : Ec X.prog X.w X.K X.mg X.base x C n ks gV fs) (hr : Room 2 X.A) (hg : Gl X x) (hkw : PK X kws tk)
    (hall : (backToKw pos (keywordEach kws X.env)).all (·.1.isSome) = true := by rfl)
    (hks : (backToKw pos (keywordEach kws X.env)).filterMap (·.1) = ks := by rfl)
    (hdb : (x == ("__debug__" : Str)) = false := by decide)
    (hpl : ((backTo pos (starEach [] X.env)).any (·.1) || (backToKw pos (keywordEach kws X.env)).any (·.1.isNone)) = false := by rfl) :
    PE X (.Call (.Name x p) [] kws pos) (fun σ H Q => tk σ H fun zs H1 => zs.length = ks.length ∧
      ∀ (a : Addr) (H2 : Hp), H1 a = none → ErrAt H2 a C (fs (gV zs)) → Same H1 H2 → Q (.ref a) H2) := by
  obtain ⟨fI, fd, ps, g1, g2, h1, h2, F, b1, b2⟩ := D.ex
  refine ⟨fun pins s σ H Q I h => wpAny_Call_Name_kw (ld_glob I hg D.mg ?_ hdb)⟩
  refine PySem.W.callWith_KW0 (h₀ := X.base) I.ok.mod.kin D.ox.kC hall
    (thn (hkw.run pos pins s σ H _ I h) ?_) hpl
  rintro ws s2 ⟨zs, H2, I2, rz, l2, q2⟩
  refine ⟨I2.kIn, ?_⟩
  rw [hks]
  exact run_mkE (us := []) (vs := []) (n := 0) D.ox h1 h2 F hr b2 I2 .nil rz rfl l2 (Nat.zero_le _) (ini_way (D.len zs l2) q2)
/-- e.f of such an exception -/
theorem fld_err {K : PySem.W.Frag} {H : Hp} {a : Addr} {f : Str} {v : V} {ws : List V} {Q : VK} {P : Program} {w : World} {mg : Str → Option Value} {base : Heap} (D : Ec P w K mg base x C n ks gV fs) (h : ErrAt H a C (fs ws)) (hn : ws.length = n)
    (hl : (fs ws).lookup f = some v) (q : Q v H) :
    ∃ (b C' d : Addr) (fs' : List (Str × V)) (v' : V), V.ref a = .ref b ∧ H b = some (exo b C' (some d)) ∧ H d = some (exd d fs') ∧
      XfC K C' ∧ PySem.W.findIn K (.ref C') f = some none ∧ fs'.lookup f = some v' ∧ Q v' H := by
  obtain ⟨d, h1, h2⟩ := h
  refine ⟨a, C, d, fs ws, v, rfl, h1, h2, D.xf, ?_, hl, q⟩
  have key : ∀ (l : List (Str × V)), l.lookup f = some v → ∃ q ∈ l, q.1 = f := by
    intro l
    induction l with
    | nil => intro h; cases h
    | cons p l ih =>
      intro h
      obtain ⟨f', z⟩ := p
      rw [lookup_put] at h
      by_cases e : f = f'
      · exact ⟨_, List.mem_cons_self, e.symm⟩
      · rw [if_neg e] at h
        obtain ⟨q, hq, hf⟩ := ih h
        exact ⟨q, List.mem_cons_of_mem _ hq, hf⟩
  obtain ⟨q', hq, hf⟩ := key _ hl
  rw [← hf]
  exact D.no ws hn q' hq
end
end K0


set_option Elab.async false
set_option linter.all false
set_option maxRecDepth 100000
set_option maxHeartbeats 4000000
namespace K0
open PySem PySem.Spec PyProof.Rows L2

def topS (i : Nat) : Stmt := PySem.Challenge.pw_spindleway_k46_plans_by_sums.main.body.getD i (.Pass ⟨0, 0, 0, 0⟩)
abbrev st_is_integer : Stmt := topS 8
abbrev st_is_within : Stmt := topS 9
abbrev st_fixed : Stmt := topS 11
abbrev st__are_alike : Stmt := topS 12
abbrev st_plan : Stmt := topS 18
abbrev st__law_slate : Stmt := topS 20
abbrev st__law_chalk : Stmt := topS 21
abbrev st__law_one : Stmt := topS 22
abbrev st__law_heard : Stmt := topS 23
abbrev st__law_refusals_right : Stmt := topS 24
abbrev st__law_is_due : Stmt := topS 25
abbrev st_law : Stmt := topS 26
abbrev si_BadNumber : Stmt := inClass (topS 2) 0
abbrev si_Paper : Stmt := inClass (topS 13) 0
abbrev se_Paper : Stmt := inClass (topS 13) 1
abbrev si_Plan : Stmt := inClass (topS 17) 0

/-- names of the module that are the built-ins still -/
structure Nm (mg : Str → Option Value) : Prop where
  n_isinstance : mg "isinstance" = none
  n_int : mg "int" = none
  n_bool : mg "bool" = none
  n_list : mg "list" = none
  n_tuple : mg "tuple" = none
  n_len : mg "len" = none
  n_abs : mg "abs" = none
  n_repr : mg "repr" = none
  n_range : mg "range" = none
  n_type : mg "type" = none
  n_super : mg "super" = none
  c_LEAST : ∃ t, mg "LEAST" = some (.int 2 t)
/-! ### kinds of values -/
def isI : V → Bool
  | .int _ => true
  | _ => false
/-- what isinstance tells of v: of int, of bool, of list and tuple -/
def Asks (K : PySem.W.Frag) (H : Hp) (v : V) (q : Bool) : Prop := ∃ (t : Value) (i b : Bool), TyE K H v t ∧
  PySem.W.kitOne K t (.type "int") = some i ∧ PySem.W.kitOne K t (.type "bool") = some b ∧ (i && !b) = isI v ∧
  PySem.W.kitAny K t [.type "list", .type "tuple"] = some q
section
variable {K : PySem.W.Frag} {H : Hp}
theorem any2 {t : Value} {b1 b2 : Bool} (h1 : PySem.W.kitOne K t (.type "list") = some b1) (h2 : PySem.W.kitOne K t (.type "tuple") = some b2) :
    PySem.W.kitAny K t [.type "list", .type "tuple"] = some (b1 || b2) :=
  kitAny_cons h1 (fun e => by
    subst e
    exact kitAny_cons h2 (fun e => by subst e; exact kitAny_nil) (fun e => by subst e; rfl)) (fun e => by subst e; rfl)
theorem Asks.int (n : Int) : Asks K H (.int n) false :=
  ⟨.type "int", true, false, .base (.base (.int n)), kit_ty (by decide +kernel), kit_ty (by decide +kernel), rfl,
    any2 (kit_ty (r := false) (by decide +kernel)) (kit_ty (r := false) (by decide +kernel))⟩
theorem Asks.bl (b : Bool) : Asks K H (.bl b) false :=
  ⟨.type "bool", true, true, .base (.base (.bl b)), kit_ty (by decide +kernel), kit_ty (by decide +kernel), rfl,
    any2 (kit_ty (r := false) (by decide +kernel)) (kit_ty (r := false) (by decide +kernel))⟩
theorem Asks.non : Asks K H .non false :=
  ⟨.type "NoneType", false, false, .base (.base .non), kit_ty (by decide +kernel), kit_ty (by decide +kernel), rfl,
    any2 (kit_ty (r := false) (by decide +kernel)) (kit_ty (r := false) (by decide +kernel))⟩
theorem Asks.str (x : Str) : Asks K H (.str x) false :=
  ⟨.type "str", false, false, .base (.base (.str x)), kit_ty (by decide +kernel), kit_ty (by decide +kernel), rfl,
    any2 (kit_ty (r := false) (by decide +kernel)) (kit_ty (r := false) (by decide +kernel))⟩
theorem Asks.lst {a : Addr} {xs : List V} (h : H a = some (.lst xs)) : Asks K H (.ref a) true :=
  ⟨.type "list", false, false, .base (.base (.lst h)), kit_ty (by decide +kernel), kit_ty (by decide +kernel), rfl,
    any2 (kit_ty (r := true) (by decide +kernel)) (kit_ty (r := false) (by decide +kernel))⟩
theorem Asks.tup {a : Addr} {xs : List V} (h : H a = some (.tup xs)) : Asks K H (.ref a) true :=
  ⟨.type "tuple", false, false, .base (.base (.tup h)), kit_ty (by decide +kernel), kit_ty (by decide +kernel), rfl,
    any2 (kit_ty (r := false) (by decide +kernel)) (kit_ty (r := true) (by decide +kernel))⟩
theorem Asks.dict {a : Addr} {kvs : List (Key × V)} (h : H a = some (.dK kvs)) : Asks K H (.ref a) false :=
  ⟨.type "dict", false, false, .base (.base (.dK h)), kit_ty (by decide +kernel), kit_ty (by decide +kernel), rfl,
    any2 (kit_ty (r := false) (by decide +kernel)) (kit_ty (r := false) (by decide +kernel))⟩
/-- what an own class of errors, at C, tells of its instances -/
structure KindsC (K : PySem.W.Frag) (C : Addr) : Prop where
  ki : PySem.W.kitOne K (.ref C) (.type "int") = some false
  kb : PySem.W.kitOne K (.ref C) (.type "bool") = some false
  kl : PySem.W.kitOne K (.ref C) (.type "list") = some false
  kt : PySem.W.kitOne K (.ref C) (.type "tuple") = some false
theorem Asks.err0 {a C : Addr} (h : H a = some (ExO (.ref C) a)) (T : ExcC K C) (k : KindsC K C) : Asks K H (.ref a) false :=
  ⟨.ref C, false, false, .err0 h T, k.ki, k.kb, rfl, any2 k.kl k.kt⟩
end
theorem pe_tyn {X : Cx} {x : Str} {pos : Pos} (n : String) (hg : Gl X x) (hm : X.mg x = none) (hv : bootBuiltins x = some (.type n)) (hn : x ≠ "__name__" := by decide)
    (hd : (x == ("__debug__" : Str)) = false := by decide) : PE X (.Name x pos) (tC (.ty n)) := pe_bltn hg hm hv rfl hn hd
end K0


set_option Elab.async false
set_option linter.all false
set_option maxRecDepth 100000
set_option maxHeartbeats 4000000
namespace K0
open PySem PySem.Spec PyProof.Rows L2

theorem TyOf.same {K : PySem.W.Frag} {H H' : Hp} {v : V} {t : Value} (s : Same H H') (h : TyOf K H v t) : TyOf K H' v t := by
  cases h with
  | non => exact .non
  | bl x => exact .bl x
  | int i => exact .int i
  | str x => exact .str x
  | flt x => exact .flt x
  | lst e => exact .lst (s _ _ e)
  | frz e => exact .frz (s _ _ e)
  | tup e => exact .tup (s _ _ e)
  | dK e => exact .dK (s _ _ e)
  | dT e => exact .dT (s _ _ e)
  | ins e cl ha hn htk hm => exact .ins (s _ _ e) cl ha hn htk hm
theorem TyX.same {K : PySem.W.Frag} {H H' : Hp} {v : V} {t : Value} (s : Same H H') (h : TyX K H v t) : TyX K H' v t := by
  cases h with
  | base h => exact .base (TyOf.same s h)
  | byt b => exact .byt b
  | set e => exact .set (s _ _ e)
  | kList e c => exact .kList e c
  | kTuple e c => exact .kTuple e c
  | kDict e c => exact .kDict e c
  | fTuple e => exact .fTuple (s _ _ e)
  | fDict e => exact .fDict (s _ _ e)
theorem TyE.same {K : PySem.W.Frag} {H H' : Hp} {v : V} {t : Value} (s : Same H H') (h : TyE K H v t) : TyE K H' v t := by
  cases h with
  | base h => exact .base (TyX.same s h)
  | err e hd T => exact .err (s _ _ e) (fun dd q => let ⟨o, z⟩ := hd dd q; ⟨o, s _ _ z⟩) T
  | err0 e T => exact .err0 (s _ _ e) T
theorem Asks.same {K : PySem.W.Frag} {H H' : Hp} {v : V} {q : Bool} (s : Same H H') (h : Asks K H v q) : Asks K H' v q := by
  obtain ⟨t, i, b, ty, r⟩ := h
  exact ⟨t, i, b, ty.same s, r⟩

/-! ### is_integer, is_within -/
def spIsInt (K : PySem.W.Frag) : Sp := fun vs H Q _ => ∃ (v : V) (q : Bool), vs = [v] ∧ Asks K H v q ∧ ∀ H', Same H H' → Q (.bl (isI v)) H'
def leB : V → Int → Bool
  | .int k, n => decide (k ≤ n)
  | _, _ => true
def geB : V → Int → Bool
  | .int k, n => decide (n ≤ k)
  | _, _ => true
/-- whether v is an integer from l to m -/
def within : V → V → V → Bool
  | .int n, l, m => leB l n && geB m n
  | _, _, _ => false
def Bd (l : V) : Prop := l = .non ∨ ∃ k, l = .int k
def spWithin (K : PySem.W.Frag) : Sp := fun vs H Q _ => ∃ (v l m : V) (q : Bool), vs = [v, l, m] ∧ Asks K H v q ∧ Bd l ∧ Bd m ∧ ∀ H', Same H H' → Q (.bl (within v l m)) H'

section
variable {P : Program} {w : World} {K : PySem.W.Frag} {mg : Str → Option Value} {base : Heap} {f g : Addr} {fd : FuncData}
theorem sc_is_integer : FnScope ["value"] ["value"] (defScope st_is_integer) := ⟨rfl, rfl, rfl, by decide +kernel, rfl, by decide +kernel, by decide +kernel⟩
theorem ok_is_integer (F : Fun K "is_integer" "is_integer" st_is_integer f fd) (T : Nm mg) : FnOk P w K mg base CX0 1 f fd ["value"] (spIsInt K) := by
  refine F.ok sc_is_integer (fun vs H Q E h => ?_) (fun cdv A outer s H vs Q E hr h => ?_)
  · obtain ⟨v, q, rfl, _⟩ := h
    rfl
  · obtain ⟨v, q, rfl, ⟨t, i, b, ty, hi, hb, hib, _⟩, k⟩ := h
    refine ⟨_, (pss_one (ps_ret (pe_and (pe_callB call_isA (by rfl) T.n_isinstance (by decide +kernel) (pa_cons (pv 0) (pa_cons (pe_tyn "int" (by rfl) T.n_int (by decide +kernel)) pa_nil))) (pe_one (pe_not (pe_callB call_isA (by rfl) T.n_isinstance (by decide +kernel) (pa_cons (pv 0) (pa_cons (pe_tyn "bool" (by rfl) T.n_bool (by decide +kernel)) pa_nil)))))))), ?_⟩
    refine ⟨_, rfl, v, .ty "int", t, .type "int", i, rfl, .ty _, ty, hi, i, rfl, ?_⟩
    cases i with
    | false =>
      refine iteF ?_
      have e : isI v = false := hib.symm
      rw [← e]
      exact k H (Same.refl H)
    | true =>
      refine iteT ?_
      refine ⟨_, rfl, v, .ty "bool", t, .type "bool", b, rfl, .ty _, ty, hb, b, rfl, ?_⟩
      have e : isI v = !b := hib.symm
      rw [← e]
      exact k H (Same.refl H)
theorem sc_is_within : FnScope ["value", "least", "most"] ["value", "least", "most"] (defScope st_is_within) := ⟨rfl, rfl, rfl, by decide +kernel, rfl, by decide +kernel, by decide +kernel⟩
theorem ok_is_within (F : Fun K "is_within" "is_within" st_is_within f fd) (T : Nm mg) (D_is_integer : Dn P w K mg base 1 "is_integer" g ["value"] (spIsInt K)) :
    FnOk P w K mg base CX0 2 f fd ["value", "least", "most"] (spWithin K) := by
  refine F.ok sc_is_within (fun vs H Q E h => ?_) (fun cdv A outer s H vs Q E hr h => ?_)
  · obtain ⟨v, l, m, q, rfl, _⟩ := h
    rfl
  · obtain ⟨v, l, m, q, rfl, av, bl, bm, k⟩ := h
    refine ⟨_, (pss_cons (ps_if (pt_not (pt_val (pe_dn D_is_integer (hr.mono (by decide)) rfl (pa_cons (pv 0) pa_nil)))) (pss_one (ps_ret pe_bl)) pss_nil)
    (pss_one (ps_ret (pe_and (pe_or (pe_cmp (pc_isN (pv 1)) rfl) (pe_one (pe_cmpR op_le (pv 1) (pv 0) (nomark _)))) (pe_one (pe_or (pe_cmp (pc_isN (pv 2)) rfl) (pe_one (pe_cmpR op_le (pv 0) (pv 2) (nomark _))))))))), ?_⟩
    refine ⟨_, rfl, v, q, rfl, av, fun H1 s1 => ⟨_, rfl, ?_⟩⟩
    cases v with
    | int n =>
      refine iteF ?_
      have low : ∀ R : VK, R (.bl (leB l n)) H1 → (tOrV (tIsN (tVar 1)) (tOp (rI0 fun i j => .bl (decide (i ≤ j))) (tVar 1) (tVar 0))) [some (.int n), some l, some m] H1 R := by
        intro R hR
        refine ⟨l, rfl, _, rfl, ?_⟩
        rcases bl with rfl | ⟨k1, rfl⟩
        · exact iteT hR
        · exact iteF ⟨_, rfl, _, rfl, _, _, rfl, rfl, hR⟩
      have high : ∀ R : VK, R (.bl (geB m n)) H1 → (tOrV (tIsN (tVar 2)) (tOp (rI0 fun i j => .bl (decide (i ≤ j))) (tVar 0) (tVar 2))) [some (.int n), some l, some m] H1 R := by
        intro R hR
        refine ⟨m, rfl, _, rfl, ?_⟩
        rcases bm with rfl | ⟨k1, rfl⟩
        · exact iteT hR
        · exact iteF ⟨_, rfl, _, rfl, _, _, rfl, rfl, hR⟩
      refine low _ ⟨_, rfl, ?_⟩
      have hk : Q (.bl (leB l n && geB m n)) H1 := k H1 s1
      cases e : leB l n with
      | false =>
        rw [e] at hk
        exact iteF hk
      | true =>
        rw [e] at hk
        exact iteT (high _ hk)
    | non => exact iteT (k H1 s1)
    | bl b => exact iteT (k H1 s1)
    | str x => exact iteT (k H1 s1)
    | byt x => exact iteT (k H1 s1)
    | flt x => exact iteT (k H1 s1)
    | ref x => exact iteT (k H1 s1)
    | ty x => exact iteT (k H1 s1)
end
end K0


set_option Elab.async false
set_option linter.all false
set_option maxRecDepth 100000
set_option maxHeartbeats 4000000
namespace K0
open PySem PySem.Spec PyProof.Rows L2

theorem same_upd {H : Hp} {p : Addr} {o : HO} (h : H p = none) : Same H (upd H p o) := fun b u e => by
  rw [upd_ne (ne_of_none e h)]
  exact e
theorem same_at {H : Hp} {p : Addr} {o o' : HO} (h : H p = some o) {H0 : Hp} (s : Same H0 H) (hn : H0 p = none) : Same H0 (upd H p o') := fun b u e => by
  rw [upd_ne (ne_of_none e hn)]
  exact s b u e
theorem same_sqT {K : PySem.W.Frag} {H H' : Hp} {a : Addr} {xs : List V} (e : Same H H') (h : SqT K H a xs) : SqT K H' a xs := by
  rcases h with (h | ⟨o, h⟩) | h
  · exact .inl (.inl (e _ _ h))
  · exact .inl (.inr ⟨o, e _ _ h⟩)
  · exact .inr h

/-- what a comprehension holds behind i items, all else as it was -/
def LcI (H1 : Hp) (D : Addr) (l : List V) (H : Hp) : Prop := H D = some (.lst l) ∧ Same H1 H
theorem take_get {α : Type} : ∀ {l : List α} {i : Nat} {x : α}, l[i]? = some x → l.take (i + 1) = l.take i ++ [x]
  | [], i, x, h => by simp at h
  | a :: l, 0, x, h => by
    have e : a = x := Option.some.inj h
    subst e
    rfl
  | a :: l, i + 1, x, h => by
    have ih := take_get (l := l) (i := i) (x := x) h
    show a :: l.take (i + 1) = a :: l.take i ++ [x]
    rw [ih]
    rfl
section
variable {K : PySem.W.Frag} {a D : Addr} {xs : List V} {i0 : Nat} {tt : TT} {te : TE} {vs : List Nat} {σ : L2.St} {H1 : Hp} {Qd : Hp → Prop} (sel : V → Option V)
/-- one turn of a comprehension that only looks -/
theorem lc_turn (hD : H1 D = none) (hz : xs.length < sizeLine) (hw : ∀ x, wipe ((wipe σ vs).set i0 (some x)) vs = wipe σ vs)
    (ht : ∀ x ∈ xs, ∀ H, Same H1 H → ∀ R : Bool → Hp → Prop, (∀ H', Same H H' → R (sel x).isSome H') → tt ((wipe σ vs).set i0 (some x)) H R)
    (he : ∀ x ∈ xs, ∀ y, sel x = some y → ∀ H, Same H1 H → ∀ R : VK, (∀ H', Same H H' → R y H') → te ((wipe σ vs).set i0 (some x)) H R)
    {i : Nat} {x : V} {H : Hp} (hx : xs[i]? = some x) (p : LcI H1 D ((xs.take i).filterMap sel) H) :
    gName i0 x (wipe σ vs) H fun σ2 H2 => wipe σ2 vs = wipe σ vs ∧ tt σ2 H2 fun b H3 =>
      if b = true then te σ2 H3 fun y H4 => ∃ acc, H4 D = some (.lst acc) ∧ acc.length < sizeLine ∧ LcI H1 D ((xs.take (i + 1)).filterMap sel) (upd H4 D (.lst (acc ++ [y])))
      else LcI H1 D ((xs.take (i + 1)).filterMap sel) H3 := by
  have hm : x ∈ xs := List.mem_of_getElem? hx
  obtain ⟨pd, ps⟩ := p
  refine ⟨hw x, ht x hm H ps _ fun H3 s3 => ?_⟩
  rw [take_get hx, List.filterMap_append]
  cases e : sel x with
  | none =>
    refine iteF ⟨?_, ps.trans s3⟩
    simp only [List.filterMap_cons, e, List.filterMap_nil, List.append_nil]
    exact s3 _ _ pd
  | some y =>
    refine iteT (he x hm y e H3 (ps.trans s3) _ fun H4 s4 => ⟨_, s4 _ _ (s3 _ _ pd), ?_, ?_, ?_⟩)
    · refine Nat.lt_of_le_of_lt (List.length_filterMap_le ..) (Nat.lt_of_le_of_lt ?_ hz)
      rw [List.length_take]
      exact Nat.min_le_right _ _
    · rw [upd_same]
      simp only [List.filterMap_cons, e, List.filterMap_nil]
    · exact same_at (s4 _ _ (s3 _ _ pd)) ((ps.trans s3).trans s4) hD
theorem lcl (hD : H1 D = none) (hS : SqL K H1 a xs) (hz : xs.length < sizeLine) (hw : ∀ x, wipe ((wipe σ vs).set i0 (some x)) vs = wipe σ vs)
    (ht : ∀ x ∈ xs, ∀ H, Same H1 H → ∀ R : Bool → Hp → Prop, (∀ H', Same H H' → R (sel x).isSome H') → tt ((wipe σ vs).set i0 (some x)) H R)
    (he : ∀ x ∈ xs, ∀ y, sel x = some y → ∀ H, Same H1 H → ∀ R : VK, (∀ H', Same H H' → R y H') → te ((wipe σ vs).set i0 (some x)) H R)
    (hd : ∀ H, LcI H1 D (xs.filterMap sel) H → Qd H) :
    ∃ W : Nat → Nat → Hp → Prop, (∃ m, W 0 m (upd H1 D (.lst []))) ∧ ∀ i m H, W i m H →
      ((Itl K a).stop i H ∧ Qd H) ∨ ((Itl K a).go i H ∧ ∃ Nx : Hp → Prop, (∀ H', Nx H' → ∃ m', m' < m ∧ W (i + 1) m' H') ∧ ∀ x H', (Itl K a).yld i H x H' →
        gName i0 x (wipe σ vs) H' fun σ2 H2 => wipe σ2 vs = wipe σ vs ∧ tt σ2 H2 fun b H3 =>
          if b = true then te σ2 H3 fun y H4 => ∃ acc, H4 D = some (.lst acc) ∧ acc.length < sizeLine ∧ Nx (upd H4 D (.lst (acc ++ [y]))) else Nx H3) := by
  refine lc_list (xs := xs) (fun i H => LcI H1 D ((xs.take i).filterMap sel) H) ⟨upd_same, same_upd hD⟩ (fun i H _ p => p.2.seq hS)
    (fun i x H hx p => lc_turn sel hD hz hw ht he hx p) fun H p => hd H ?_
  rw [List.take_length] at p
  exact p
theorem lct (hD : H1 D = none) (hS : SqT K H1 a xs) (hz : xs.length < sizeLine) (hw : ∀ x, wipe ((wipe σ vs).set i0 (some x)) vs = wipe σ vs)
    (ht : ∀ x ∈ xs, ∀ H, Same H1 H → ∀ R : Bool → Hp → Prop, (∀ H', Same H H' → R (sel x).isSome H') → tt ((wipe σ vs).set i0 (some x)) H R)
    (he : ∀ x ∈ xs, ∀ y, sel x = some y → ∀ H, Same H1 H → ∀ R : VK, (∀ H', Same H H' → R y H') → te ((wipe σ vs).set i0 (some x)) H R)
    (hd : ∀ H, LcI H1 D (xs.filterMap sel) H → Qd H) :
    ∃ W : Nat → Nat → Hp → Prop, (∃ m, W 0 m (upd H1 D (.lst []))) ∧ ∀ i m H, W i m H →
      ((Itt K a).stop i H ∧ Qd H) ∨ ((Itt K a).go i H ∧ ∃ Nx : Hp → Prop, (∀ H', Nx H' → ∃ m', m' < m ∧ W (i + 1) m' H') ∧ ∀ x H', (Itt K a).yld i H x H' →
        gName i0 x (wipe σ vs) H' fun σ2 H2 => wipe σ2 vs = wipe σ vs ∧ tt σ2 H2 fun b H3 =>
          if b = true then te σ2 H3 fun y H4 => ∃ acc, H4 D = some (.lst acc) ∧ acc.length < sizeLine ∧ Nx (upd H4 D (.lst (acc ++ [y]))) else Nx H3) := by
  refine lc_tup (xs := xs) (fun i H => LcI H1 D ((xs.take i).filterMap sel) H) ⟨upd_same, same_upd hD⟩ (fun i H _ p => same_sqT p.2 hS)
    (fun i x H hx p => lc_turn sel hD hz hw ht he hx p) fun H p => hd H ?_
  rw [List.take_length] at p
  exact p
/-- the ints from lo on, n of them -/
def ups (lo : Int) (n : Nat) : List V := (List.range n).map fun i => V.int (lo + (i : Nat))
theorem ups_len (lo : Int) (n : Nat) : (ups lo n).length = n := by simp [ups]
theorem ups_get (lo : Int) (n : Nat) {i : Nat} (h : i < n) : (ups lo n)[i]? = some (.int (lo + (i : Nat))) := by
  simp [ups, h]
theorem lcr {lo : Int} {n : Nat} (hD : H1 D = none) (hz : n < sizeLine) (hw : ∀ x, wipe ((wipe σ vs).set i0 (some x)) vs = wipe σ vs)
    (ht : ∀ x ∈ ups lo n, ∀ H, Same H1 H → ∀ R : Bool → Hp → Prop, (∀ H', Same H H' → R (sel x).isSome H') → tt ((wipe σ vs).set i0 (some x)) H R)
    (he : ∀ x ∈ ups lo n, ∀ y, sel x = some y → ∀ H, Same H1 H → ∀ R : VK, (∀ H', Same H H' → R y H') → te ((wipe σ vs).set i0 (some x)) H R)
    (hd : ∀ H, LcI H1 D ((ups lo n).filterMap sel) H → Qd H) :
    ∃ W : Nat → Nat → Hp → Prop, (∃ m, W 0 m (upd H1 D (.lst []))) ∧ ∀ i m H, W i m H →
      ((Itr lo n).stop i H ∧ Qd H) ∨ ((Itr lo n).go i H ∧ ∃ Nx : Hp → Prop, (∀ H', Nx H' → ∃ m', m' < m ∧ W (i + 1) m' H') ∧ ∀ x H', (Itr lo n).yld i H x H' →
        gName i0 x (wipe σ vs) H' fun σ2 H2 => wipe σ2 vs = wipe σ vs ∧ tt σ2 H2 fun b H3 =>
          if b = true then te σ2 H3 fun y H4 => ∃ acc, H4 D = some (.lst acc) ∧ acc.length < sizeLine ∧ Nx (upd H4 D (.lst (acc ++ [y]))) else Nx H3) := by
  refine lc_range (fun i H => LcI H1 D (((ups lo n).take i).filterMap sel) H) ⟨upd_same, same_upd hD⟩
    (fun i H hi p => lc_turn sel hD (by rw [ups_len]; exact hz) hw ht he (ups_get lo n hi) p) fun H p => hd H ?_
  have e : (ups lo n).take n = ups lo n := List.take_of_length_le (by rw [ups_len]; exact Nat.le_refl _)
  rw [e] at p
  exact p
end
end K0


set_option Elab.async false
set_option linter.all false
set_option maxRecDepth 100000
set_option maxHeartbeats 2000000
/-! zip of two, each a list or a tuple -/
namespace K0z
open PySem RZ
open PySem.Sem (wp)
/-- at l: a tuple (b) or a list of these items -/
def IsSq (b : Bool) (h : Heap) (l : Addr) (xs : Array Value) : Prop := match b with | true => h.IsTuple l xs | false => h.IsList l xs
def IsIt (b : Bool) (h : Heap) (it l : Addr) (i : Nat) : Prop := match b with | true => h.IsTupleIter it l i | false => h.IsListIter it l i
def itName (b : Bool) : String := match b with | true => "tuple_iterator" | false => "list_iterator"
theorem IsSq.extBut {b : Bool} {h h' : Heap} {a c items} (x : IsSq b h a items) (hs : Heap.ExtBut c h h') (hab : a ≠ c) : IsSq b h' a items := by
  cases b
  · exact Heap.IsList.extBut x hs hab
  · exact Heap.IsTuple.extBut x hs hab
theorem IsSq.push {b : Bool} {h : Heap} {a items} (x : IsSq b h a items) (o : Obj) : IsSq b (h.push o) a items := by
  cases b
  · exact Heap.IsList.push x o
  · exact Heap.IsTuple.push x o
theorem IsIt.extBut {b : Bool} {h h' : Heap} {a c l i} (x : IsIt b h a l i) (hs : Heap.ExtBut c h h') (hab : a ≠ c) : IsIt b h' a l i := by
  cases b
  · exact Heap.IsListIter.extBut x hs hab
  · exact Heap.IsTupleIter.extBut x hs hab
theorem IsIt.at {b : Bool} {h h' : Heap} {a l i} (x : IsIt b h a l i) (e : ∀ o, h.get? a = some o → h'.get? a = some o) : IsIt b h' a l i := by
  cases b
  · exact Heap.IsListIter.at x e
  · exact Heap.IsTupleIter.at x e
theorem IsIt.obj {b : Bool} {h : Heap} {a l i} (x : IsIt b h a l i) : ∃ o : Obj, h.get? a = some o ∧ o.data = .fields #[.ref l, .int i 0] := by
  cases b
  · obtain ⟨o, e, _, d⟩ := x
    exact ⟨o, e, d⟩
  · obtain ⟨o, e, _, d⟩ := x
    exact ⟨o, e, d⟩
theorem IsIt.lt {b : Bool} {h : Heap} {a l i} (x : IsIt b h a l i) : a < h.objs.size := by
  obtain ⟨o, e, _⟩ := x.obj
  exact Heap.lt_size e
theorem IsIt.mk {b : Bool} {h : Heap} {a l : Addr} (e : h.get? a = some { cls := .type (itName b), data := .fields #[.ref l, .int 0 0] }) : IsIt b h a l 0 := by
  cases b
  · exact ⟨_, e, rfl, rfl⟩
  · exact ⟨_, e, rfl, rfl⟩
section
variable {prog : Program} {w : World} {A : Around} {E : Value → Shared → Prop} {s : Shared}
theorem nextOf_item {b : Bool} {it l : Addr} {i : Nat} {items} {x : Value} {Q : Value → Shared → Prop} (hit : IsIt b s.heap it l i)
    (hl : IsSq b s.heap l items) (hx : items[i]? = some x)
    (hQ : ∀ h', IsIt b h' it l (i + 1) → Heap.SameBut it s.heap h' → Q x { s with heap := h' }) :
    wpAny (model prog w) A (Builtin.SmallTypes.nextOf (.ref it)) Q E s := by
  cases b
  · exact wpAny_nextOf_list_item hit hl hx hQ
  · exact nextOf_tuple_item hit hl hx hQ
theorem nextOf_end {b : Bool} {it l : Addr} {i : Nat} {items} {Q : Value → Shared → Prop} (hh : A.handled = none)
    (hit : IsIt b s.heap it l i) (hl : IsSq b s.heap l items) (hx : items[i]? = none)
    (hE : ∀ h' e, Heap.ExtBut it s.heap h' → (∃ o, h'.get? e = some o ∧ o.cls = .type "StopIteration") → E (.ref e) { s with heap := h' }) :
    wpAny (model prog w) A (Builtin.SmallTypes.nextOf (.ref it)) Q E s := by
  cases b
  · exact wpAny_nextOf_list_end hh hit hl hx hE
  · exact nextOf_tuple_end hh hit hl hx hE
theorem pyIter_sq {b : Bool} {l : Addr} {xs : Array Value} {Q : Value → Shared → Prop} (hl : IsSq b s.heap l xs)
    (h : Q (.ref s.heap.objs.size) { s with heap := s.heap.push { cls := .type (itName b), data := .fields #[.ref l, .int 0 0] } }) :
    wpAny (model prog w) A (pyIter (.ref l)) Q E s := by
  cases b
  · exact wpAny_pyIter_list hl h
  · exact wpAny_pyIter_tuple hl h
theorem zipM_next_item {z TI TO i1 i2 l1 l2 : Addr} {b1 b2 : Bool} {k1 k2 : Nat} {xs ys : Array Value} {x y a b : Value} {Q : Value → Shared → Prop} (D : ZipApart z TI TO i1 i2 l1 l2)
    (hz : IsZip s.heap z TI TO .none) (hTI : IsPair s.heap TI (.ref i1) (.ref i2)) (hTO : IsPair s.heap TO a b)
    (h1 : IsIt b1 s.heap i1 l1 k1) (h2 : IsIt b2 s.heap i2 l2 k2) (hl1 : IsSq b1 s.heap l1 xs) (hl2 : IsSq b2 s.heap l2 ys) (hx : xs[k1]? = some x) (hy : ys[k2]? = some y)
    (hQ : ∀ h', IsZip h' z TI TO (rawInt s.heap.objs.size) → IsPair h' TO x y → IsIt b1 h' i1 l1 (k1 + 1) → IsIt b2 h' i2 l2 (k2 + 1) → IsPair h' s.heap.objs.size x y → h'.objs.size = s.heap.objs.size + 1 →
      (∀ c o, c ≠ z → c ≠ TO → c ≠ i1 → c ≠ i2 → s.heap.get? c = some o → h'.get? c = some o) → Q (.ref s.heap.objs.size) { s with heap := h' }) :
    wpAny (model prog w) A (Builtin.«zip.__next__» ⟨[.ref z], []⟩) (fun fin s' => ∃ v, fin = .done (.ret v) ∧ Q v s') E s := by
  show wpAny _ _ (field (.ref z) 2 >>= _) _ _ _
  refine wpAny_bind (wpAny_field hz rfl (x := .bool false) rfl ?_)
  show wpAny _ _ (field (.ref z) 3 >>= _) _ _ _
  refine wpAny_bind (wpAny_field hz rfl (x := .ref TI) rfl ?_)
  refine wpAny_bind (wpAny_seqItems hTI rfl ?_)
  show wpAny _ _ (Builtin.SmallTypes.ownedTupleIsFree (.ref z) >>= _) _ _ _
  refine wpAny_bind ?_
  unfold Builtin.SmallTypes.ownedTupleIsFree
  refine wpAny_bind (wpAny_field hz rfl (x := .none) rfl (wpAny_pure ?_))
  simp only [if_true]
  refine wpAny_bind (wpAny_rule ?_)
  refine wpAny_bind (wpAny_field hz rfl (x := .ref TO) rfl ?_)
  refine wpAny_bind (wpAny_setField_rec hz (by simp) fun h₁ hz₁ hs₁ => ?_)
  replace hz₁ : IsZip h₁ z TI TO .ellipsis := hz₁
  refine wpAny_bind ?_
  simp only [List.zipIdx_cons, List.zipIdx_nil, List.forIn_cons, List.forIn_nil]

  refine wpAny_bind (wpAny_bind (wpAny_onRaise ?_))
  show wpAny _ _ (Builtin.SmallTypes.nextOf (.ref i1) >>= _) _ _ _
  refine wpAny_bind (nextOf_item (h1.extBut hs₁.extBut D.i1z) (hl1.extBut hs₁.extBut D.l1z) hx fun h₂ h1₂ hs₂ => wpAny_pure ?_)
  have hTO₂ : IsPair h₂ TO a b := hs₂.extBut _ _ D.TOi1 (hs₁.extBut _ _ D.TOz hTO)
  refine wpAny_bind (wpAny_seqItems hTO₂ rfl ?_)
  refine wpAny_bind (wpAny_updateSeq_pair hTO₂ fun h₃ hTO₃ hs₃ => ?_)
  replace hTO₃ : IsPair h₃ TO x b := hTO₃
  refine wpAny_bind (wpAny_letGo (wpAny_pure ?_))

  refine wpAny_bind (wpAny_bind (wpAny_onRaise ?_))
  show wpAny _ _ (Builtin.SmallTypes.nextOf (.ref i2) >>= _) _ _ _
  refine wpAny_bind (nextOf_item (((h2.extBut hs₁.extBut D.i2z).extBut hs₂.extBut D.i12.symm).extBut hs₃.extBut D.TOi2.symm)
    (((hl2.extBut hs₁.extBut D.l2z).extBut hs₂.extBut D.l2i1).extBut hs₃.extBut D.l2TO) hy fun h₄ h2₄ hs₄ => wpAny_pure ?_)
  have hTO₄ : IsPair h₄ TO x b := hs₄.extBut _ _ D.TOi2 hTO₃
  refine wpAny_bind (wpAny_seqItems hTO₄ rfl ?_)
  refine wpAny_bind (wpAny_updateSeq_pair hTO₄ fun h₅ hTO₅ hs₅ => ?_)
  replace hTO₅ : IsPair h₅ TO x y := hTO₅
  refine wpAny_bind (wpAny_letGo (wpAny_pure (wpAny_pure ?_)))

  refine wpAny_bind (wpAny_seqItems hTO₅ rfl ?_)
  refine wpAny_bind (wpAny_newTuple ?_)
  have hsz : h₅.objs.size = s.heap.objs.size := by rw [hs₅.1, hs₄.1, hs₃.1, hs₂.1, hs₁.1]
  have hz₅ : IsZip h₅ z TI TO .ellipsis := hs₅.extBut _ _ D.TOz.symm (hs₄.extBut _ _ D.i2z.symm (hs₃.extBut _ _ D.TOz.symm (hs₂.extBut _ _ D.i1z.symm hz₁)))
  have hk₅ : ∀ c o, c ≠ z → c ≠ TO → c ≠ i1 → c ≠ i2 → s.heap.get? c = some o → h₅.get? c = some o := fun c o c1 c2 c3 c4 e =>
    hs₅.extBut _ _ c2 (hs₄.extBut _ _ c4 (hs₃.extBut _ _ c2 (hs₂.extBut _ _ c3 (hs₁.extBut _ _ c1 e))))
  have h1₅ : IsIt b1 h₅ i1 l1 (k1 + 1) := ((h1₂.extBut hs₃.extBut D.TOi1.symm).extBut hs₄.extBut D.i12).extBut hs₅.extBut D.TOi1.symm
  have h2₅ : IsIt b2 h₅ i2 l2 (k2 + 1) := h2₄.extBut hs₅.extBut D.TOi2.symm
  have hzlt : z < h₅.objs.size := Heap.lt_size hz₅
  have hTOlt : TO < h₅.objs.size := Heap.lt_size hTO₅
  have hi1lt : i1 < h₅.objs.size := h1₅.lt
  have hi2lt : i2 < h₅.objs.size := h2₅.lt
  show wpAny _ _ (Builtin.SmallTypes.ownedTupleHandOut (.ref z) (.ref h₅.objs.size) >>= _) _ _ _
  refine wpAny_bind ?_
  unfold Builtin.SmallTypes.ownedTupleHandOut
  have hz₆ : IsZip (h₅.push { cls := .type "tuple", data := .seq #[x, y] }) z TI TO .ellipsis := Heap.get?_push_of_some _ hz₅
  refine wpAny_bind (wpAny_setField_rec hz₆ (by simp) fun h₇ hz₇ hs₇ => ?_)
  replace hz₇ : IsZip h₇ z TI TO (rawInt h₅.objs.size) := hz₇
  refine wpAny_setField_rec hz₇ (by simp) fun h₈ hz₈ hs₈ => ?_
  replace hz₈ : IsZip h₈ z TI TO (rawInt h₅.objs.size) := hz₈
  have up : ∀ c o, c ≠ z → h₅.get? c = some o → h₈.get? c = some o := fun c o c1 e => hs₈.extBut _ _ c1 (hs₇.extBut _ _ c1 (Heap.get?_push_of_some _ e))
  have hT₈ : IsPair h₈ h₅.objs.size x y := hs₈.extBut _ _ (Nat.ne_of_gt hzlt) (hs₇.extBut _ _ (Nat.ne_of_gt hzlt) (Heap.get?_push_size _ rfl))
  have hz8 : h₈.objs.size = h₅.objs.size + 1 := by rw [hs₈.1, hs₇.1, Heap.size_push]
  rw [hsz] at hz₈ hT₈ hz8
  refine wpAny_pure ⟨_, rfl, ?_⟩
  show Q (.ref h₅.objs.size) _
  rw [hsz]
  exact hQ h₈ hz₈ (up _ _ D.TOz hTO₅) (h1₅.at fun o e => up _ o D.i1z e) (h2₅.at fun o e => up _ o D.i2z e) hT₈ hz8 fun c o c1 c2 c3 c4 e => up c o c1 (hk₅ c o c1 c2 c3 c4 e)

theorem zipM_next_end {z TI TO i1 i2 l1 l2 : Addr} {b1 b2 : Bool} {k1 k2 : Nat} {xs ys : Array Value} {a b : Value} {Q : Fin → Shared → Prop} (hh : A.handled = none) (D : ZipApart z TI TO i1 i2 l1 l2)
    (hz : IsZip s.heap z TI TO .none) (hTI : IsPair s.heap TI (.ref i1) (.ref i2)) (hTO : IsPair s.heap TO a b)
    (h1 : IsIt b1 s.heap i1 l1 k1) (h2 : IsIt b2 s.heap i2 l2 k2) (hl1 : IsSq b1 s.heap l1 xs) (hl2 : IsSq b2 s.heap l2 ys) (hend : xs[k1]? = none ∨ ys[k2]? = none)
    (hE : ∀ h' e, (∀ c o, c ≠ z → c ≠ TO → c ≠ i1 → c ≠ i2 → s.heap.get? c = some o → h'.get? c = some o) → (∃ o, h'.get? e = some o ∧ o.cls = .type "StopIteration") → E (.ref e) { s with heap := h' }) :
    wpAny (model prog w) A (Builtin.«zip.__next__» ⟨[.ref z], []⟩) Q E s := by
  show wpAny _ _ (field (.ref z) 2 >>= _) _ _ _
  refine wpAny_bind (wpAny_field hz rfl (x := .bool false) rfl ?_)
  show wpAny _ _ (field (.ref z) 3 >>= _) _ _ _
  refine wpAny_bind (wpAny_field hz rfl (x := .ref TI) rfl ?_)
  refine wpAny_bind (wpAny_seqItems hTI rfl ?_)
  show wpAny _ _ (Builtin.SmallTypes.ownedTupleIsFree (.ref z) >>= _) _ _ _
  refine wpAny_bind ?_
  unfold Builtin.SmallTypes.ownedTupleIsFree
  refine wpAny_bind (wpAny_field hz rfl (x := .none) rfl (wpAny_pure ?_))
  simp only [if_true]
  refine wpAny_bind (wpAny_rule ?_)
  refine wpAny_bind (wpAny_field hz rfl (x := .ref TO) rfl ?_)
  refine wpAny_bind (wpAny_setField_rec hz (by simp) fun h₁ hz₁ hs₁ => ?_)
  replace hz₁ : IsZip h₁ z TI TO .ellipsis := hz₁
  refine wpAny_bind ?_
  simp only [List.zipIdx_cons, List.zipIdx_nil, List.forIn_cons, List.forIn_nil]
  refine wpAny_bind (wpAny_bind (wpAny_onRaise ?_))
  show wpAny _ _ (Builtin.SmallTypes.nextOf (.ref i1) >>= _) _ _ _
  cases hx : xs[k1]? with
  | none =>
    refine wpAny_bind (nextOf_end hh (h1.extBut hs₁.extBut D.i1z) (hl1.extBut hs₁.extBut D.l1z) hx fun h₂ e hs₂ he => ?_)
    obtain ⟨oe, hoe, hce⟩ := he
    have hz₂ : IsZip h₂ z TI TO .ellipsis := hs₂ _ _ D.i1z.symm hz₁
    have hez : e ≠ z := fun x => by subst x; rw [hz₂] at hoe; cases hoe; simp at hce
    refine wpAny_setField_rec hz₂ (by simp) fun h₃ _ hs₃ => hE h₃ e (fun c o c1 _ c3 _ x => hs₃.extBut _ _ c1 (hs₂ _ _ c3 (hs₁.extBut _ _ c1 x))) ⟨oe, hs₃.extBut _ _ hez hoe, hce⟩
  | some x =>
    have hy : ys[k2]? = none := by rcases hend with h | h; rw [hx] at h; cases h; exact h
    refine wpAny_bind (nextOf_item (h1.extBut hs₁.extBut D.i1z) (hl1.extBut hs₁.extBut D.l1z) hx fun h₂ h1₂ hs₂ => wpAny_pure ?_)
    have hTO₂ : IsPair h₂ TO a b := hs₂.extBut _ _ D.TOi1 (hs₁.extBut _ _ D.TOz hTO)
    refine wpAny_bind (wpAny_seqItems hTO₂ rfl ?_)
    refine wpAny_bind (wpAny_updateSeq_pair hTO₂ fun h₃ hTO₃ hs₃ => ?_)
    refine wpAny_bind (wpAny_letGo (wpAny_pure ?_))
    refine wpAny_bind (wpAny_bind (wpAny_onRaise ?_))
    show wpAny _ _ (Builtin.SmallTypes.nextOf (.ref i2) >>= _) _ _ _
    refine wpAny_bind (nextOf_end hh (((h2.extBut hs₁.extBut D.i2z).extBut hs₂.extBut D.i12.symm).extBut hs₃.extBut D.TOi2.symm)
      (((hl2.extBut hs₁.extBut D.l2z).extBut hs₂.extBut D.l2i1).extBut hs₃.extBut D.l2TO) hy fun h₄ e hs₄ he => ?_)
    obtain ⟨oe, hoe, hce⟩ := he
    have hz₄ : IsZip h₄ z TI TO .ellipsis := hs₄ _ _ D.i2z.symm (hs₃.extBut _ _ D.TOz.symm (hs₂.extBut _ _ D.i1z.symm hz₁))
    have hez : e ≠ z := fun x => by subst x; rw [hz₄] at hoe; cases hoe; simp at hce
    refine wpAny_setField_rec hz₄ (by simp) fun h₅ _ hs₅ => hE h₅ e (fun c o c1 c2 c3 c4 x => hs₅.extBut _ _ c1 (hs₄ _ _ c4 (hs₃.extBut _ _ c2 (hs₂.extBut _ _ c3 (hs₁.extBut _ _ c1 x))))) ⟨oe, hs₅.extBut _ _ hez hoe, hce⟩

theorem pyNext_zipM_item {z TI TO i1 i2 l1 l2 : Addr} {b1 b2 : Bool} {k1 k2 : Nat} {xs ys : Array Value} {x y a b : Value} {Q : Option Value → Shared → Prop} (D : ZipApart z TI TO i1 i2 l1 l2)
    (hz : IsZip s.heap z TI TO .none) (hTI : IsPair s.heap TI (.ref i1) (.ref i2)) (hTO : IsPair s.heap TO a b)
    (h1 : IsIt b1 s.heap i1 l1 k1) (h2 : IsIt b2 s.heap i2 l2 k2) (hl1 : IsSq b1 s.heap l1 xs) (hl2 : IsSq b2 s.heap l2 ys) (hx : xs[k1]? = some x) (hy : ys[k2]? = some y)
    (hQ : ∀ h', IsZip h' z TI TO (rawInt s.heap.objs.size) → IsPair h' TO x y → IsIt b1 h' i1 l1 (k1 + 1) → IsIt b2 h' i2 l2 (k2 + 1) → IsPair h' s.heap.objs.size x y → h'.objs.size = s.heap.objs.size + 1 →
      (∀ c o, c ≠ z → c ≠ TO → c ≠ i1 → c ≠ i2 → s.heap.get? c = some o → h'.get? c = some o) → Q (some (.ref s.heap.objs.size)) { s with heap := h' }) :
    wpAny (model prog w) A (pyNext (.ref z)) Q E s := by
  have hT : s.TypeIs (.ref z) "zip" := ⟨_, hz, rfl⟩
  unfold pyNext
  exact wpAny_bind (wpAny_attempt (wpAny_callSpecial?_slot (name := Str.ofString "__next__") hT F.slot_zip_next
    (wpAny_call_entry F.slot_zip_next hT F.entry_zip_next
      (zipM_next_item D hz hTI hTO h1 h2 hl1 hl2 hx hy fun h' a1 a2 a3 a4 a5 a6 a7 => wpAny_pure (hQ h' a1 a2 a3 a4 a5 a6 a7)) (F.args_zip_next_1 _))))

theorem pyNext_zipM_end {z TI TO i1 i2 l1 l2 : Addr} {b1 b2 : Bool} {k1 k2 : Nat} {xs ys : Array Value} {a b : Value} {Q : Option Value → Shared → Prop} (hh : A.handled = none) (D : ZipApart z TI TO i1 i2 l1 l2)
    (hz : IsZip s.heap z TI TO .none) (hTI : IsPair s.heap TI (.ref i1) (.ref i2)) (hTO : IsPair s.heap TO a b)
    (h1 : IsIt b1 s.heap i1 l1 k1) (h2 : IsIt b2 s.heap i2 l2 k2) (hl1 : IsSq b1 s.heap l1 xs) (hl2 : IsSq b2 s.heap l2 ys) (hend : xs[k1]? = none ∨ ys[k2]? = none)
    (hQ : ∀ h', (∀ c o, c ≠ z → c ≠ TO → c ≠ i1 → c ≠ i2 → s.heap.get? c = some o → h'.get? c = some o) → Q none { s with heap := h' }) : wpAny (model prog w) A (pyNext (.ref z)) Q E s := by
  have hT : s.TypeIs (.ref z) "zip" := ⟨_, hz, rfl⟩
  unfold pyNext
  refine wpAny_bind (wpAny_attempt (wpAny_callSpecial?_slot (name := Str.ofString "__next__") hT F.slot_zip_next
    (wpAny_call_entry F.slot_zip_next hT F.entry_zip_next (zipM_next_end hh D hz hTI hTO h1 h2 hl1 hl2 hend fun h' e hk he => ?_) (F.args_zip_next_1 _))))
  obtain ⟨o, ho, hc⟩ := he
  refine wpAny_bind (wpAny_isInstance (T := "StopIteration") (b := true) ⟨o, ho, hc⟩ isSubtype_stop ?_)
  exact wpAny_pure (hQ _ hk)
end

abbrev zipMH1 (b1 : Bool) (h : Heap) (l1 : Addr) : Heap := h.push { cls := .type (itName b1), data := .fields #[.ref l1, .int 0 0] }
abbrev zipMH2 (b1 b2 : Bool) (h : Heap) (l1 l2 : Addr) : Heap := (zipMH1 b1 h l1).push { cls := .type (itName b2), data := .fields #[.ref l2, .int 0 0] }
abbrev zipMH3 (b1 b2 : Bool) (h : Heap) (l1 l2 : Addr) : Heap := (zipMH2 b1 b2 h l1 l2).push { cls := .type "tuple", data := .seq #[.ref h.objs.size, .ref (zipMH1 b1 h l1).objs.size] }
abbrev zipMH4 (b1 b2 : Bool) (h : Heap) (l1 l2 : Addr) : Heap := (zipMH3 b1 b2 h l1 l2).push { cls := .type "tuple", data := .seq #[.none, .none] }
abbrev zipMH5 (b1 b2 : Bool) (h : Heap) (l1 l2 : Addr) : Heap := (zipMH4 b1 b2 h l1 l2).push { cls := .type "zip", data := .fields #[.none, .bool false, .bool false, .ref (zipMH2 b1 b2 h l1 l2).objs.size, .ref (zipMH3 b1 b2 h l1 l2).objs.size] }

theorem meets_zipM_new (b1 b2 : Bool) (l1 l2 : Addr) (xs ys : Array Value) :
    Meets (Builtin.«zip.__new__» ⟨[.type "zip", .ref l1, .ref l2], []⟩) (fun _ R s => IsSq b1 s.heap l1 xs ∧ IsSq b2 s.heap l2 ys ∧
      R (.ok (.ret (.ref (zipMH4 b1 b2 s.heap l1 l2).objs.size))) { s with heap := zipMH5 b1 b2 s.heap l1 l2 }) :=
  .of_wp fun prog w A R s h => by
    obtain ⟨hp, g, d, tk, os⟩ := s; obtain ⟨hl1, hl2, h⟩ := h
    have hsub := sub_zip
    have hL1 : IsSq b1 (Shared.heap ⟨hp, g, d, tk, os⟩) l1 xs := hl1
    have hL2 : IsSq b2 (Shared.heap ⟨hp.push { cls := .type (itName b1), data := .fields #[.ref l1, .int 0 0] }, g, d, tk, os⟩) l2 ys := IsSq.push hl2 _
    wp_walk using pyIter_sq hL1, pyIter_sq hL2
    exact ⟨_, rfl, h⟩

section
variable {prog : Program} {w : World} {A : Around} {E : Value → Shared → Prop} {s : Shared}

theorem call_zipM {b1 b2 : Bool} {l1 l2 : Addr} {xs ys : Array Value} {Q : Value → Shared → Prop} (hl1 : IsSq b1 s.heap l1 xs) (hl2 : IsSq b2 s.heap l2 ys)
    (h : ∀ h', IsZip h' (s.heap.objs.size + 4) (s.heap.objs.size + 2) (s.heap.objs.size + 3) .none → IsPair h' (s.heap.objs.size + 2) (.ref s.heap.objs.size) (.ref (s.heap.objs.size + 1)) →
      IsPair h' (s.heap.objs.size + 3) .none .none → IsIt b1 h' s.heap.objs.size l1 0 → IsIt b2 h' (s.heap.objs.size + 1) l2 0 → h'.objs.size = s.heap.objs.size + 5 →
      (∀ c o, s.heap.get? c = some o → h'.get? c = some o) → Q (.ref (s.heap.objs.size + 4)) { s with heap := h' }) :
    wpAny (model prog w) A (call (.type "zip") [.ref l1, .ref l2]) Q E s := by
  refine callType_new F.called_zip (by decide) (F.typeCall_zip_2 _ _) (F.newCall_zip_2 _ _) (fun obj => F.args_object_init_3 obj _ _) F.entry_zip_new
    (meets_zipM_new b1 b2 l1 l2 xs ys) ⟨hl1, hl2, ?_⟩
  have z1 : (zipMH1 b1 s.heap l1).objs.size = s.heap.objs.size + 1 := Heap.size_push ..
  have z2 : (zipMH2 b1 b2 s.heap l1 l2).objs.size = s.heap.objs.size + 2 := by rw [Heap.size_push, z1]
  have z3 : (zipMH3 b1 b2 s.heap l1 l2).objs.size = s.heap.objs.size + 3 := by rw [Heap.size_push, z2]
  have z4 : (zipMH4 b1 b2 s.heap l1 l2).objs.size = s.heap.objs.size + 4 := by rw [Heap.size_push, z3]
  have z5 : (zipMH5 b1 b2 s.heap l1 l2).objs.size = s.heap.objs.size + 5 := by rw [Heap.size_push, z4]
  have g5 : (zipMH5 b1 b2 s.heap l1 l2).get? (zipMH4 b1 b2 s.heap l1 l2).objs.size = some _ := Heap.get?_push_size _ rfl
  have g4 : (zipMH5 b1 b2 s.heap l1 l2).get? (zipMH3 b1 b2 s.heap l1 l2).objs.size = some _ := Heap.get?_push_of_some _ (Heap.get?_push_size _ rfl)
  have g3 : (zipMH5 b1 b2 s.heap l1 l2).get? (zipMH2 b1 b2 s.heap l1 l2).objs.size = some _ := Heap.get?_push_of_some _ (Heap.get?_push_of_some _ (Heap.get?_push_size _ rfl))
  have g2 : (zipMH5 b1 b2 s.heap l1 l2).get? (zipMH1 b1 s.heap l1).objs.size = some _ := Heap.get?_push_of_some _ (Heap.get?_push_of_some _ (Heap.get?_push_of_some _ (Heap.get?_push_size _ rfl)))
  have g1 : (zipMH5 b1 b2 s.heap l1 l2).get? s.heap.objs.size = some _ := Heap.get?_push_of_some _ (Heap.get?_push_of_some _ (Heap.get?_push_of_some _ (Heap.get?_push_of_some _ (Heap.get?_push_size _ rfl))))
  show _ ∧ _
  rw [z2, z3, z4] at g5
  rw [z1, z2] at g3
  rw [z3] at g4
  rw [z1] at g2
  rw [z4]
  exact ⟨⟨_, g5, rfl⟩, h _ g5 g3 g4 (IsIt.mk g1) (IsIt.mk g2) z5 fun c o x =>
    Heap.get?_push_of_some _ (Heap.get?_push_of_some _ (Heap.get?_push_of_some _ (Heap.get?_push_of_some _ (Heap.get?_push_of_some _ x))))⟩
end
end K0z


set_option Elab.async false
set_option linter.all false
set_option maxRecDepth 100000
set_option maxHeartbeats 4000000
namespace K0
open PySem PySem.Spec PyProof.Rows L2 RZ K0z

/-! ### a list or a tuple -/
def SqB (K : PySem.W.Frag) (b : Bool) (H : Hp) (a : Addr) (xs : List V) : Prop := match b with | true => SqT K H a xs | false => SqL K H a xs
theorem SqB.same {K : PySem.W.Frag} {b : Bool} {H H' : Hp} {a : Addr} {xs : List V} (s : Same H H') (h : SqB K b H a xs) : SqB K b H' a xs := by
  cases b
  · exact Same.seq s h
  · exact same_sqT s h
theorem SqB.or {K : PySem.W.Frag} {H : Hp} {a : Addr} {xs : List V} (h : SqL K H a xs ∨ SqT K H a xs) : ∃ b, SqB K b H a xs := by
  rcases h with h | h
  · exact ⟨false, h⟩
  · exact ⟨true, h⟩
theorem SqB.to {K : PySem.W.Frag} {b : Bool} {H : Hp} {a : Addr} {xs : List V} (h : SqB K b H a xs) : SqL K H a xs ∨ SqT K H a xs := by
  cases b
  · exact .inl h
  · exact .inr h
section
variable {X : Cx} {pins : List (Addr × Obj)} {σ : L2.St} {H : Hp} {s : Shared}
theorem SqB.got {b : Bool} {a : Addr} {xs : List V} (I : Inv X pins σ H s) (h : SqB X.K b H a xs) : ∃ its : List Value, Vals xs its ∧ IsSq b s.heap a its.toArray ∧ a < s.heap.objs.size := by
  cases b
  · obtain ⟨its, rv, p, _⟩ := I.list h
    exact ⟨its, rv, p.isList, p.lt⟩
  · obtain ⟨its, rv, p, _⟩ := I.tuple h
    obtain ⟨o1, ho1, _⟩ := id p
    exact ⟨its, rv, p, Heap.lt_size ho1⟩
theorem SqB.inj {b : Bool} {a : Addr} {xs ys : List V} (I : Inv X pins σ H s) (h : SqB X.K b H a xs) (h' : SqB X.K b H a ys) : xs = ys := by
  cases b
  · exact I.list_inj h h'
  · exact I.tuple_inj h h'
end
def Itb (K : PySem.W.Frag) (b : Bool) (a : Addr) : L2.It := match b with | true => Itt K a | false => Itl K a
def iSeq (K : PySem.W.Frag) (tl : TE) : TI := fun σ H R => tl σ H fun x H1 => ∃ b a, x = .ref a ∧ (∃ xs, SqB K b H1 a xs) ∧ R (Itb K b a) H1
theorem pi_seq {X : Cx} {tg l : Expr} {tl : TE} (hl : PE X l tl) : PI X tg l (iSeq X.K tl) := by
  refine ⟨fun pins s σ H R I h => ?_⟩
  refine thn (hl.run pins s σ H _ I h) fun v s1 ⟨x, H1, I1, r1, q1⟩ => ?_
  obtain ⟨b, a, e, ⟨xs, hq⟩, q⟩ := q1
  subst e
  cases r1
  cases b with
  | false =>
    obtain ⟨its, rv, p, hz⟩ := I1.list hq
    refine wpAny_pyIter_list p.isList ?_
    refine ⟨s1.heap.objs.size, [s1.heap.objs.size], _, _, H1, rfl, I1.kept (t' := s1.toks) fun b o e => Heap.get?_push_of_some _ e, turn_list a _, ⟨_, Heap.get?_push_size _ rfl, rfl, rfl⟩, fun b hb => ?_, q⟩
    have e : b = s1.heap.objs.size := by simpa using hb
    subst e
    exact I1.fpOk (Nat.le_refl _) (I1.hok.fresh (Nat.le_refl _))
  | true =>
    obtain ⟨its, rv, p, hz⟩ := I1.tuple hq
    refine wpAny_pyIter_tuple (show s1.heap.IsTuple a its.toArray from p) ?_
    refine ⟨s1.heap.objs.size, [s1.heap.objs.size], _, _, H1, rfl, I1.kept (t' := s1.toks) fun b o e => Heap.get?_push_of_some _ e, turn_tuple a _, ⟨_, Heap.get?_push_size _ rfl, rfl, rfl⟩, fun b hb => ?_, q⟩
    have e : b = s1.heap.objs.size := by simpa using hb
    subst e
    exact I1.fpOk (Nat.le_refl _) (I1.hok.fresh (Nat.le_refl _))
theorem walk_seq {K : PySem.W.Frag} {b : Bool} {a : Addr} {xs : List V} : Walk (Itb K b a) xs.length (fun H => SqB K b H a xs) (YAt xs) := by
  cases b
  · exact walk_list
  · exact walk_tup

/-! ### zip of two, each a list or a tuple -/
def ItzM (K : PySem.W.Frag) (b1 b2 : Bool) (a b : Addr) : L2.It :=
  ⟨fun i H => ∃ (xs ys : List V) (x y : V), SqB K b1 H a xs ∧ SqB K b2 H b ys ∧ xs[i]? = some x ∧ ys[i]? = some y,
    fun i H v H' => ∃ T x y, v = .ref T ∧ H T = none ∧ H' = upd H T (.tup [x, y]) ∧ (∀ xs, SqB K b1 H a xs → xs[i]? = some x) ∧ ∀ ys, SqB K b2 H b ys → ys[i]? = some y,
    fun i H => ∃ xs ys : List V, SqB K b1 H a xs ∧ SqB K b2 H b ys ∧ (xs.length ≤ i ∨ ys.length ≤ i)⟩
theorem turn_zipM {P : Program} {w : World} {K : PySem.W.Frag} {elts : List Expr} {kk : Nat} {tpos : Pos} {b1 b2 : Bool} {a b z TI TO i1 i2 : Addr} (D : ZipApart z TI TO i1 i2 a b) :
    Turn P w K (.Tuple elts kk tpos) (ItzM K b1 b2 a b) [z, TI, TO, i1, i2] z (fun i h => IsZip h z TI TO .none ∧ IsPair h TI (.ref i1) (.ref i2) ∧ (∃ x y, IsPair h TO x y) ∧ IsIt b1 h i1 a i ∧ IsIt b2 h i2 b i) where
  mem := by simp
  obj := fun i h st c hc => by
    obtain ⟨hz, hTI, ⟨x, y, hTO⟩, h1, h2⟩ := st
    obtain ⟨o1, e1, d1⟩ := h1.obj
    obtain ⟨o2, e2, d2⟩ := h2.obj
    have e' : c = z ∨ c = TI ∨ c = TO ∨ c = i1 ∨ c = i2 := by simpa using hc
    rcases e' with q | q | q | q | q
    · rw [q]; exact ⟨_, hz, fun v q => nomatch q⟩
    · rw [q]; exact ⟨_, hTI, fun v q => nomatch q⟩
    · rw [q]; exact ⟨_, hTO, fun v q => nomatch q⟩
    · rw [q]; exact ⟨o1, e1, fun v q => by rw [d1] at q; cases q⟩
    · rw [q]; exact ⟨o2, e2, fun v q => by rw [d2] at q; cases q⟩
  keep := fun i h h' st k => by
    obtain ⟨hz, hTI, ⟨x, y, hTO⟩, h1, h2⟩ := st
    exact ⟨k z (by simp) _ hz, k TI (by simp) _ hTI, ⟨x, y, k TO (by simp) _ hTO⟩, h1.at fun o q => k i1 (by simp) o q, h2.at fun o q => k i2 (by simp) o q⟩
  item := by
    intro X hP hw hK hc i pins s σ H E I hf st hg
    subst hP hw hK
    obtain ⟨hz, hTI, ⟨x0, y0, hTO⟩, h1, h2⟩ := st
    obtain ⟨xs, ys, x, y, hqx, hqy, hx, hy⟩ := hg
    obtain ⟨its, rv, p, _⟩ := SqB.got I hqx
    obtain ⟨its2, rv2, p2, _⟩ := SqB.got I hqy
    obtain ⟨u, hu, ru⟩ := rv.get hx
    obtain ⟨u2, hu2, ru2⟩ := rv2.get hy
    have hzl : z < s.heap.objs.size := Heap.lt_size hz
    refine pyNext_zipM_item D hz hTI hTO h1 h2 p p2 (x := u) (y := u2) (by simpa using hu) (by simpa using hu2) fun h' z' TO' h1' h2' hT hsz hk => ?_
    refine ⟨_, rfl, wpAny_letOwnedTupleGo_zip (s := { s with heap := h' }) z' fun h'' z'' sb => ?_⟩
    have hT2 : h''.get? s.heap.objs.size = some { cls := .type "tuple", data := .seq #[u, u2] } := (sb.2 _ (Nat.ne_of_gt hzl)).trans hT
    have new : ObjOk X.prog X.w (upd H s.heap.objs.size (.tup [x, y])) h'' s.heap.objs.size (.tup [x, y]) :=
      ⟨by show 2 ≤ sizeLine; decide, [u, u2], .cons ru (.cons ru2 .nil), ⟨_, hT2, rfl, _, rfl⟩⟩
    have I1 : Inv X pins σ (upd H s.heap.objs.size (.tup [x, y])) { s with heap := h'' } :=
      I.turnedNew (t' := s.toks) (ch := [z, TI, TO, i1, i2]) (fun c o hb q => (sb.2 c (fun q' => hb (by simp [q']))).trans (hk c o (fun q' => hb (by simp [q'])) (fun q' => hb (by simp [q'])) (fun q' => hb (by simp [q'])) (fun q' => hb (by simp [q'])) q)) hf (Nat.le_refl _) new
    refine ⟨.ref s.heap.objs.size, _, I1, rfl, ⟨_, x, y, rfl, I.hok.fresh (Nat.le_refl _), rfl, fun l hl => by rw [SqB.inj I hl hqx]; exact hx, fun l hl => by rw [SqB.inj I hl hqy]; exact hy⟩, ⟨z'', ?_, ⟨u, u2, ?_⟩, ?_, ?_⟩, fun c hcm => ?_⟩
    · exact (sb.2 _ D.TIz).trans (hk _ _ D.TIz D.TITO D.TIi1 D.TIi2 hTI)
    · exact (sb.2 _ D.TOz).trans TO'
    · exact h1'.at fun o q => (sb.2 _ D.i1z).trans q
    · exact h2'.at fun o q => (sb.2 _ D.i2z).trans q
    · have hlt : c < s.heap.objs.size := by
        have e' : c = z ∨ c = TI ∨ c = TO ∨ c = i1 ∨ c = i2 := by simpa using hcm
        rcases e' with q | q | q | q | q
        · rw [q]; exact hzl
        · rw [q]; exact Heap.lt_size hTI
        · rw [q]; exact Heap.lt_size hTO
        · rw [q]; exact h1.lt
        · rw [q]; exact h2.lt
      rw [upd_ne (Nat.ne_of_lt hlt)]
      exact (hf c hcm).1
  done := by
    intro X hP hw hK hc i pins s σ H E I hf st hg
    subst hP hw hK
    obtain ⟨hz, hTI, ⟨x0, y0, hTO⟩, h1, h2⟩ := st
    obtain ⟨xs, ys, hqx, hqy, hend⟩ := hg
    obtain ⟨its, rv, p, _⟩ := SqB.got I hqx
    obtain ⟨its2, rv2, p2, _⟩ := SqB.got I hqy
    have l1 := rv.length
    have l2 := rv2.length
    have he : its.toArray[i]? = none ∨ its2.toArray[i]? = none := by
      rcases hend with q | q
      · exact .inl (by simp; omega)
      · exact .inr (by simp; omega)
    exact pyNext_zipM_end (I.ok.hd hc) D hz hTI hTO h1 h2 p p2 he fun h' hk => ⟨rfl, I.turnedL (t' := s.toks) (ch := [z, TI, TO, i1, i2]) (fun c o hb q =>
      hk c o (fun q' => hb (by simp [q'])) (fun q' => hb (by simp [q'])) (fun q' => hb (by simp [q'])) (fun q' => hb (by simp [q'])) q) hf⟩
  self := fun A i s Q E st h => wpAny_pyIter_zip st.1 h
def iZipM (K : PySem.W.Frag) (ta : TA) : TI := fun σ H R => ta σ H fun vs H1 => ∃ b1 b2 a b xs ys, vs = [.ref a, .ref b] ∧ SqB K b1 H1 a xs ∧ SqB K b2 H1 b ys ∧ R (ItzM K b1 b2 a b) H1
theorem pi_zipM {X : Cx} {e e2 : Expr} {ta : TA} {p pos tpos : Pos} {elts : List Expr} {kk : Nat} (hg : Gl X "zip") (hm : X.mg "zip" = none) (ha : PA X [e, e2] ta)
    (hs : starEach [e, e2] X.env = (false, eval e X.env) :: starEach [e2] X.env := by rfl) (hpl : (backTo pos (starEach [e2] X.env)).any (·.1) = false := by rfl) :
    PI X (.Tuple elts kk tpos) (.Call (.Name "zip" p) [e, e2] [] pos) (iZipM X.K ta) := by
  refine ⟨fun pins s σ H R I h => ?_⟩
  refine Call_ (ld_blt I hg hm PyProof.Rows.boot_zip (PyProof.Rows.callWith_type1 (thn (ha.run pos pins s σ H _ I h) fun us s1 ⟨vs, H1, I1, r1, q1⟩ => ?_) hs hpl))
  obtain ⟨b1, b2, a, b, xs, ys, ex, hqx, hqy, q⟩ := q1
  subst ex
  obtain ⟨u1, u2, rfl, r, r'⟩ := vals2 r1
  cases r
  cases r'
  have fresh5 : ∀ c, c ∈ [s1.heap.objs.size + 4, s1.heap.objs.size + 2, s1.heap.objs.size + 3, s1.heap.objs.size, s1.heap.objs.size + 1] → FpOk X pins H1 c := fun c hcm => by
    have e' : c = s1.heap.objs.size + 4 ∨ c = s1.heap.objs.size + 2 ∨ c = s1.heap.objs.size + 3 ∨ c = s1.heap.objs.size ∨ c = s1.heap.objs.size + 1 := by simpa using hcm
    have hle : s1.heap.objs.size ≤ c := by
      rcases e' with z | z | z | z | z
      · rw [z]; exact Nat.le_add_right _ _
      · rw [z]; exact Nat.le_add_right _ _
      · rw [z]; exact Nat.le_add_right _ _
      · rw [z]; exact Nat.le_refl _
      · rw [z]; exact Nat.le_add_right _ _
    exact I1.fpOk hle (I1.hok.fresh hle)
  obtain ⟨its, rv, p1, l1⟩ := SqB.got I1 hqx
  obtain ⟨its2, rv2, p2, l2⟩ := SqB.got I1 hqy
  refine call_zipM p1 p2 fun h' hz hTI hTO h1 h2 hsz hk => wpAny_pyIter_zip hz ?_
  have I2 : Inv X pins σ H1 { s1 with heap := h' } := I1.kept (t' := s1.toks) hk
  exact ⟨s1.heap.objs.size + 4, [s1.heap.objs.size + 4, s1.heap.objs.size + 2, s1.heap.objs.size + 3, s1.heap.objs.size, s1.heap.objs.size + 1], _, _, H1, rfl, I2, turn_zipM (PySem.W.ktu_apart s1.heap.objs.size a b l1 l2), ⟨hz, hTI, ⟨_, _, hTO⟩, h1, h2⟩, fresh5, q⟩
theorem walk_zipM {K : PySem.W.Frag} {b1 b2 : Bool} {a b : Addr} {xs ys : List V} {n : Nat} (hn : n = min xs.length ys.length) : Walk (ItzM K b1 b2 a b) n (fun H => SqB K b1 H a xs ∧ SqB K b2 H b ys) (YPair (fun i => xs[i]?) (fun i => ys[i]?)) := by
  subst hn
  refine ⟨fun i _ hi q => ?_, fun _ q => ⟨xs, ys, q.1, q.2, by omega⟩, fun i H v H' _ q y => ?_⟩
  · have h1 : i < xs.length := by omega
    have h2 : i < ys.length := by omega
    exact ⟨xs, ys, xs[i], ys[i], q.1, q.2, by simp [h1], by simp [h2]⟩
  · obtain ⟨T, x, z, h1, h2, h3, h4, h5⟩ := y
    exact ⟨T, x, z, h1, h2, h3, h4 xs q.1, h5 ys q.2⟩

/-! ### the heap but for one address -/
def Off (c : Addr) (H : Hp) : Hp := fun b => if b = c then none else H b
theorem off_ne {c b : Addr} {H : Hp} (h : b ≠ c) : Off c H b = H b := if_neg h
theorem off_self {c : Addr} {H : Hp} : Off c H c = none := if_pos rfl
theorem off_same (c : Addr) (H : Hp) : Same (Off c H) H := fun b o e => by
  unfold Off at e
  split at e
  · cases e
  · exact e
theorem same_off {c : Addr} {H H' : Hp} (h : ∀ b o, b ≠ c → H b = some o → H' b = some o) : Same (Off c H) (Off c H') := fun b o e => by
  unfold Off at e ⊢
  split at e
  · cases e
  · rename_i n
    rw [if_neg n]
    exact h b o n e
theorem same_off' {c : Addr} {H H' : Hp} (h : Same H H') : Same (Off c H) (Off c H') := same_off fun b o _ e => h b o e
theorem to_off {c : Addr} {H H' : Hp} (h : Same H H') (hc : H c = none) : Same H (Off c H') := fun b o e => by
  rw [off_ne (ne_of_none e hc)]
  exact h b o e
theorem off_upd {c : Addr} {H : Hp} {o : HO} : Off c (upd H c o) = Off c H := by
  funext b
  unfold Off
  by_cases h : b = c
  · rw [if_pos h, if_pos h]
  · rw [if_neg h, if_neg h, upd_ne h]

/-! ### a comprehension without a test, over anything that is walked; what is made holds R, told off the list itself -/
def LcR (H1 : Hp) (D : Addr) (R : Nat → V → Hp → Prop) (n : Nat) (H : Hp) : Prop := ∃ acc : List V, acc.length = n ∧ H D = some (.lst acc) ∧ Same H1 H ∧ ∀ i y, acc[i]? = some y → R i y (Off D H)
section
variable {J : L2.It} {n : Nat} {G : Hp → Prop} {Y : Nat → Hp → V → Hp → Prop} {D : Addr} {te : TE} {g : TG} {vs : List Nat} {σ : L2.St} {H1 : Hp} {Qd : Hp → Prop} (R : Nat → V → Hp → Prop)
theorem lc_rel (w : Walk J n G Y) (hD : H1 D = none) (hz : n < sizeLine) (hG : ∀ H, Same H1 H → G H) (hR : ∀ i y H H', Same H H' → R i y H → R i y H')
    (hs : ∀ i x H H', i < n → Same H1 H → (∃ acc, H D = some (.lst acc)) → Y i H x H' → ∀ Rk : VK, (∀ y H4, Same H H4 → R i y (Off D H4) → Rk y H4) → g x (wipe σ vs) H' fun σ2 H2 => wipe σ2 vs = wipe σ vs ∧ te σ2 H2 Rk)
    (hd : ∀ H, LcR H1 D R n H → Qd H) :
    ∃ W : Nat → Nat → Hp → Prop, (∃ m, W 0 m (upd H1 D (.lst []))) ∧ ∀ i m H, W i m H →
      (J.stop i H ∧ Qd H) ∨ (J.go i H ∧ ∃ Nx : Hp → Prop, (∀ H', Nx H' → ∃ m', m' < m ∧ W (i + 1) m' H') ∧ ∀ x H', J.yld i H x H' → g x (wipe σ vs) H' fun σ2 H2 => wipe σ2 vs = wipe σ vs ∧ tYes σ2 H2 fun b H3 =>
        if b = true then te σ2 H3 fun y H4 => ∃ acc, H4 D = some (.lst acc) ∧ acc.length < sizeLine ∧ Nx (upd H4 D (.lst (acc ++ [y]))) else Nx H3) := by
  refine lc_it w (fun i H => LcR H1 D R i H) ⟨[], rfl, upd_same, same_upd hD, fun i y e => by cases e⟩ (fun i H _ p => hG H (by obtain ⟨_, _, _, s, _⟩ := p; exact s)) ?_ hd
  rintro i x H H' hi ⟨acc, la, hDa, s1, hr⟩ hy
  refine hs i x H H' hi s1 ⟨acc, hDa⟩ hy (fun y H4 => ∃ acc, H4 D = some (.lst acc) ∧ acc.length < sizeLine ∧ LcR H1 D R (i + 1) (upd H4 D (.lst (acc ++ [y])))) fun y H4 s4 r => ?_
  have hD4 := s4 _ _ hDa
  refine ⟨acc, hD4, by omega, acc ++ [y], by rw [List.length_append, la]; rfl, upd_same, same_at hD4 (s1.trans s4) hD, fun k z hk => ?_⟩
  rw [off_upd]
  by_cases hlt : k < acc.length
  · rw [List.getElem?_append_left hlt] at hk
    exact hR k z _ _ (same_off' s4) (hr k z hk)
  · rw [List.getElem?_append_right (by omega)] at hk
    have e0 : k - acc.length = 0 := by
      refine Nat.eq_zero_of_not_pos fun q => ?_
      rw [List.getElem?_eq_none (by show 1 ≤ k - acc.length; omega)] at hk
      cases hk
    rw [e0] at hk
    have ek : k = i := by omega
    rw [ek]
    cases hk
    exact r
/-- .. what is made is told ahead -/
theorem lc_fun (f : Nat → V) (w : Walk J n G Y) (hD : H1 D = none) (hz : n < sizeLine) (hG : ∀ H, Same H1 H → G H)
    (hs : ∀ i x H H', i < n → Same H1 H → (∃ acc, H D = some (.lst acc)) → Y i H x H' → ∀ Rk : VK, (∀ H4, Same H H4 → Rk (f i) H4) → g x (wipe σ vs) H' fun σ2 H2 => wipe σ2 vs = wipe σ vs ∧ te σ2 H2 Rk)
    (hd : ∀ H, H D = some (.lst ((List.range n).map f)) → Same H1 H → Qd H) :
    ∃ W : Nat → Nat → Hp → Prop, (∃ m, W 0 m (upd H1 D (.lst []))) ∧ ∀ i m H, W i m H →
      (J.stop i H ∧ Qd H) ∨ (J.go i H ∧ ∃ Nx : Hp → Prop, (∀ H', Nx H' → ∃ m', m' < m ∧ W (i + 1) m' H') ∧ ∀ x H', J.yld i H x H' → g x (wipe σ vs) H' fun σ2 H2 => wipe σ2 vs = wipe σ vs ∧ tYes σ2 H2 fun b H3 =>
        if b = true then te σ2 H3 fun y H4 => ∃ acc, H4 D = some (.lst acc) ∧ acc.length < sizeLine ∧ Nx (upd H4 D (.lst (acc ++ [y]))) else Nx H3) := by
  refine lc_rel (R := fun i y _ => y = f i) w hD hz hG (fun _ _ _ _ _ h => h) (fun i x H H' hi s1 ha hy Rk k => hs i x H H' hi s1 ha hy Rk fun H4 s4 => k (f i) H4 s4 rfl) fun H ⟨acc, la, hDa, s1, hr⟩ => hd H ?_ s1
  rw [hDa]
  congr 2
  refine List.ext_getElem (by simp [la]) fun k k1 k2 => ?_
  have := hr k acc[k] (List.getElem?_eq_getElem k1)
  rw [this]
  simp
end
end K0


set_option Elab.async false
set_option linter.all false
set_option maxRecDepth 100000
set_option maxHeartbeats 4000000
/-! rules with the written part told, so that they stand within comprehensions -/
namespace K0
open PySem PySem.Spec PyProof.Rows L2 RZ K0z
def rTupOf (K : PySem.W.Frag) : List V → Hp → VK → Prop := fun xs H Q => ∃ b p ys, xs = [.ref p] ∧ SqB K b H p ys ∧ (b = false → ∀ l, H l = none → Q (.ref l) (upd H l (.tup ys))) ∧ (b = true → Q (.ref p) H)
def rListOf (K : PySem.W.Frag) : List V → Hp → VK → Prop := fun xs H Q => ∃ b p ys, xs = [.ref p] ∧ SqB K b H p ys ∧ ∀ l, H l = none → Q (.ref l) (upd H l (.lst ys))
def rLen (K : PySem.W.Frag) : List V → Hp → VK → Prop := fun xs H Q => ∃ b p ys, xs = [.ref p] ∧ SqB K b H p ys ∧ Q (.int ys.length) H
def rIxB (K : PySem.W.Frag) : R2 := fun x y H Q => ∃ b p xs i v, x = .ref p ∧ y = .int i ∧ SqB K b H p xs ∧ atI xs i = some v ∧ Q v H
section
variable {X : Cx} {K : PySem.W.Frag}
theorem call_tupK (K : PySem.W.Frag) (e : X.K = K := by rfl) : CallR X (.type "tuple") (rTupOf K) := by
  subst e
  intro pins s σ H xs us Q I r h
  obtain ⟨b, p, ys, rfl, h, h1, h2⟩ := h
  refine call_tuple_of pins s σ H _ us Q I r ⟨p, ys, rfl, ?_⟩
  cases b
  · exact .inl ⟨h, h1 rfl⟩
  · exact .inr ⟨h, h2 rfl⟩
theorem call_listK (K : PySem.W.Frag) (e : X.K = K := by rfl) : CallR X (.type "list") (rListOf K) := by
  subst e
  intro pins s σ H xs us Q I r h
  obtain ⟨b, p, ys, rfl, h, h1⟩ := h
  exact call_list_of pins s σ H _ us Q I r ⟨p, ys, rfl, h.to, h1⟩
theorem call_lenK (K : PySem.W.Frag) (e : X.K = K := by rfl) : CallR X (.builtin "len") (rLen K) := by
  subst e
  intro pins s σ H xs us Q I r h
  obtain ⟨b, p, ys, rfl, h, h1⟩ := h
  exact call_len_seq pins s σ H _ us Q I r ⟨p, ys, rfl, h.to, h1⟩
theorem ix_K (K : PySem.W.Frag) (e : X.K = K := by rfl) : IxR X (rIxB K) := by
  subst e
  intro value slice pins s σ H x y v u Q I rx ry h hs
  obtain ⟨b, p, xs, i, z, e1, e2, h, e3, q⟩ := h
  cases b
  · exact ix_list _ _ pins s σ H x y v u Q I rx ry ⟨p, xs, i, z, e1, e2, h, e3, q⟩ hs
  · exact ix_tup _ _ pins s σ H x y v u Q I rx ry ⟨p, xs, i, z, e1, e2, h, e3, q⟩ hs
theorem call_isTK (K : PySem.W.Frag) (e : X.K = K := by rfl) : CallR X (.builtin "isinstance") (rIsT K) := by subst e; exact call_isT
theorem call_isAK (K : PySem.W.Frag) (e : X.K = K := by rfl) : CallR X (.builtin "isinstance") (rIsA K) := by subst e; exact call_isA
theorem pi_seqK {tg l : Expr} {tl : TE} (K : PySem.W.Frag) (hl : PE X l tl) (e : X.K = K := by rfl) : PI X tg l (iSeq K tl) := by subst e; exact pi_seq hl
theorem pi_zipMK {e e2 : Expr} {ta : TA} {p pos tpos : Pos} {elts : List Expr} {kk : Nat} (K : PySem.W.Frag) (hg : Gl X "zip") (hm : X.mg "zip" = none) (ha : PA X [e, e2] ta) (eK : X.K = K := by rfl)
    (hs : starEach [e, e2] X.env = (false, eval e X.env) :: starEach [e2] X.env := by rfl) (hpl : (backTo pos (starEach [e2] X.env)).any (·.1) = false := by rfl) :
    PI X (.Tuple elts kk tpos) (.Call (.Name "zip" p) [e, e2] [] pos) (iZipM K ta) := by subst eK; exact pi_zipM hg hm ha hs hpl
/-- xs != [], whatever the items -/
def rNeNil (K : PySem.W.Frag) : R2 := fun x y H Q => ∃ a b xs, x = .ref a ∧ y = .ref b ∧ SqL K H a xs ∧ SqL K H b [] ∧ Q (.bl (!xs.isEmpty)) H
theorem op_neNil (K : PySem.W.Frag) (hu : X.A.units + 64 < cLine) (e : X.K = K := by rfl) : OpR X (compareOp .NotEq) (rNeNil K) := by
  subst e
  intro pins s σ H x y v u Q I rx ry h
  obtain ⟨a, b, xs, rfl, rfl, hx, hy, q⟩ := h
  cases xs with
  | nil => exact op_neD hu pins s σ H _ _ _ _ Q I rx ry ⟨.list [], .list [], .lst hx .nil, .lst hy .nil, by decide, by decide, q⟩
  | cons z zs =>
    cases rx
    cases ry
    obtain ⟨its, rv, p1, _⟩ := I.list hx
    obtain ⟨its2, rv2, p2, _⟩ := I.list hy
    cases rv2
    cases rv with
    | cons r1 r2 => exact PySem.SeqAt.RcNeAt.lists_lengths p1.isList p2.isList (by simp) (by omega) X.prog X.w X.xe (EP X pins σ Q) ⟨.bl _, H, I, rfl, q⟩
end
end K0


set_option Elab.async false
set_option linter.all false
set_option maxRecDepth 100000
set_option maxHeartbeats 4000000
namespace K0
open PySem PySem.Spec PyProof.Rows L2

/-! ### flat values as data -/
def toD : V → PyData
  | .bl b => .bool b
  | .int i => .int i
  | .str x => .str x
  | _ => .none
def flat : V → Bool
  | .non | .bl _ | .int _ => true
  | .str x => PyData.strOk x
  | _ => false
section
variable {K : PySem.W.Frag} {H : Hp}
theorem dpF : ∀ {v : V}, flat v = true → Dp K H v (toD v)
  | .non, _ => .non
  | .bl b, _ => .bl b
  | .int i, _ => .int i
  | .str x, _ => .str x
theorem dpAllF : ∀ {xs : List V}, xs.all flat = true → DpAll K H xs (xs.map toD)
  | [], _ => .nil
  | x :: xs, h => by
    rw [List.all_cons, Bool.and_eq_true] at h
    exact .cons (dpF h.1) (dpAllF h.2)
theorem layF : ∀ {xs : List V}, xs.all flat = true → PyData.canLayAll0 (xs.map toD) = true
  | [], _ => rfl
  | x :: xs, h => by
    rw [List.all_cons, Bool.and_eq_true] at h
    have ih := layF h.2
    cases x with
    | str z =>
      have hz : PyData.strOk z = true := h.1
      simp [toD, PyData.canLayAll0, PyData.canLay0, ih, hz]
    | _ => simp [toD, PyData.canLayAll0, PyData.canLay0, ih]
theorem depF : ∀ (xs : List V), PyData.depthAll (xs.map toD) = 0
  | [] => rfl
  | x :: xs => by
    have ih := depF xs
    cases x <;> simp [toD, PyData.depthAll, PyData.depth, ih]
theorem shapedL {xs : List V} (h : xs.all flat = true) : SeqAt.shaped (.list (xs.map toD)) = true := by
  unfold SeqAt.shaped
  rw [Bool.and_eq_true]
  refine ⟨?_, ?_⟩
  · simp only [PyData.canLay0]
    exact layF h
  · simp only [PyData.depth, depF]
    decide
theorem shapedNil : SeqAt.shaped (.list []) = true := shapedL (xs := []) rfl
theorem dpL {a : Addr} {xs : List V} (h : SqL K H a xs) (f : xs.all flat = true) : Dp K H (.ref a) (.list (xs.map toD)) := .lst h (dpAllF f)
theorem dpNil {a : Addr} (h : SqL K H a []) : Dp K H (.ref a) (.list []) := .lst h .nil
theorem eqvNil (xs : List V) : PyData.eqv (.list (xs.map toD)) (.list []) = xs.isEmpty := by
  cases xs <;> simp [PyData.eqv, PyData.eqvAll]
theorem eqv_ints : ∀ (ns ms : List Int), PyData.eqvAll ((ns.map V.int).map toD) ((ms.map V.int).map toD) = decide (ns = ms)
  | [], [] => by simp [PyData.eqvAll]
  | [], m :: ms => by simp [PyData.eqvAll]
  | n :: ns, [] => by simp [PyData.eqvAll]
  | n :: ns, m :: ms => by
    have ih := eqv_ints ns ms
    simp only [List.map_cons, toD, PyData.eqvAll, PyData.eqv, ih]
    by_cases e : n = m
    · subst e
      by_cases e2 : ns = ms
      · subst e2; simp
      · simp [e2]
    · simp [e]
theorem eqvL_ints (ns ms : List Int) : PyData.eqv (.list ((ns.map V.int).map toD)) (.list ((ms.map V.int).map toD)) = decide (ns = ms) := by
  simp only [PyData.eqv]
  exact eqv_ints ns ms
theorem flat_ints (ns : List Int) : (ns.map V.int).all flat = true := by
  induction ns with
  | nil => rfl
  | cons n ns ih => simp only [List.map_cons, List.all_cons, ih, flat, Bool.and_self]
theorem flat_bls (bs : List Bool) : (bs.map V.bl).all flat = true := by
  induction bs with
  | nil => rfl
  | cons n ns ih => simp only [List.map_cons, List.all_cons, ih, flat, Bool.and_self]
theorem eqv_same {xs : List V} (h : xs.all flat = true) : PyData.eqv (.list (xs.map toD)) (.list (xs.map toD)) = true := SeqAt.eqv_refl _ (by simp only [PyData.canLay0]; exact layF h)
end
end K0


set_option Elab.async false
set_option linter.all false
set_option maxRecDepth 100000
set_option maxHeartbeats 4000000
namespace K0
open PySem PySem.Spec PyProof.Rows L2

/-! ### the makers of the errors -/
def fs1 (f : Str) : List V → List (Str × V)
  | [v] => [(f, v)]
  | _ => []
def fs2 : List V → List (Str × V)
  | [x, y] => [("most", y), ("what", x)]
  | _ => []
section
variable {P : Program} {w : World} {K : PySem.W.Frag} {mg : Str → Option Value} {base : Heap} {f C : Addr} {fd : FuncData}
theorem sci_BadNumber : FnScope ["self", "part"] ["self", "part"] (defScope si_BadNumber) := ⟨rfl, rfl, rfl, by decide +kernel, rfl, by decide +kernel, by decide +kernel⟩
theorem oki_BadNumber (F : Fun K "__init__" "BadNumber.__init__" si_BadNumber f fd) (T : OexC K C) (no : PySem.W.findIn K (.ref C) "part" = some none) : FnOk P w K mg base CX0 1 f fd ["self", "part"] (spI C 1 (fs1 "part")) := by
  refine F.ok sci_BadNumber (fun vs H Q E h => ?_) (fun cdv A outer s H vs Q E hr h => ?_)
  · obtain ⟨a, ws, rfl, hl, _⟩ := h
    show ws.length + 1 = 2
    omega
  · obtain ⟨a, ws, rfl, hl, ha, k⟩ := h
    match ws, hl with
    | [v], _ =>
      refine ⟨_, (pss_one (ps_ost (pv 0) (pv 1))), ?_⟩
      refine ⟨_, rfl, _, rfl, a, C, rfl, T, no, .inl ⟨ha, fun d hd hda => ?_⟩⟩
      refine k d _ hd hda upd_same (by rw [upd_ne hda, upd_same]; rfl) fun b o hb e => ?_
      rw [upd_ne hb, upd_ne (ne_of_none e hd)]
      exact e
end
theorem vals_rev {xs : List V} {us : List Value} (r : Vals xs us) : Vals xs.reverse us.reverse := by
  induction r with
  | nil => exact .nil
  | cons h t ih =>
    rw [List.reverse_cons, List.reverse_cons]
    exact ih.append (.cons h .nil)
/-- the bundle of a class with one field -/
theorem ec1 {P : Program} {w : World} {K : PySem.W.Frag} {mg : Str → Option Value} {base : Heap} {x f q : Str} {st : Stmt} {C fI : Addr} {fd : FuncData} (o : OexC K C) (xf : XfC K C) (ec : ExcC K C)
    (h1 : PySem.W.findIn K (.ref C) "__init__" = some (some (.ref fI))) (h2 : PySem.W.typeIn K (.ref fI) = some (.type "function")) (F : Fun K "__init__" q st fI fd)
    (G : FnOk P w K mg base CX0 1 fI fd ["self", f] (spI C 1 (fs1 f))) (m : mg x = some (.ref C)) (no : PySem.W.findIn K (.ref C) f = some none)
    (b1 : ∀ (kV doc pm : Value) (an : Option Addr) (cdv ct : Value) (u v : Value), bindArgs (PySem.W.fnOf "__init__" q (defArgs st) (defBody st) (defScope st) .none kV doc pm an cdv ct) ⟨[u, v], []⟩ = pure [(("self" : Str), u), (f, v)])
    (b2 : ∀ (kV doc pm : Value) (an : Option Addr) (cdv ct : Value) (u v : Value), bindArgs (PySem.W.fnOf "__init__" q (defArgs st) (defBody st) (defScope st) .none kV doc pm an cdv ct) ⟨[u], [(f, v)]⟩ = pure [(("self" : Str), u), (f, v)]) :
    Ec P w K mg base x C 1 [f] List.reverse (fs1 f) := by
  obtain ⟨oc, od, kV, doc, pm, an, cdv, ct, osl, rfl, lk, hcd⟩ := F.ex
  refine ⟨o, xf, ec, ⟨fI, _, _, fun us _ => us, fun us ws => us ++ ws.reverse, h1, h2, G, ⟨fun s us ws X l1 l2 => ?_, fun r _ => r⟩, ⟨fun s us ws X l1 l2 => ?_, fun r rz => ?_⟩⟩, fun zs h => by rw [List.length_reverse]; exact h, by decide, m, fun ws hw q hq => ?_⟩
  · match us, ws, l1, l2 with
    | [u, v], [], _, _ => exact .of_eq (b1 kV doc pm an cdv ct u v)
  · match us, ws, l1, l2 with
    | [u], [v], _, _ => exact .of_eq (b2 kV doc pm an cdv ct u v)
  · refine r.append ?_
    rename_i vs us zs ws
    exact vals_rev rz
  · match ws, hw with
    | [v], _ =>
      cases List.mem_singleton.mp hq
      exact no
end K0


set_option Elab.async false
set_option linter.all false
set_option maxRecDepth 100000
set_option maxHeartbeats 4000000
/-! a caught exception, held beyond its clause -/
namespace L2
open PySem PySem.Spec PyProof.Rows
/-- at a: an exception that was raised once, of the class at C, its dict at d -/
def exq (a C d : Addr) : HO := .ext fun h => ∃ (oe : Obj) (vs : Array Value), h.get? a = some oe ∧ oe.cls = .ref C ∧ oe.dict = some d ∧ oe.data = .fields vs
theorem exq_ok {P : Program} {w : World} {H : Hp} {h : Heap} {a C d : Addr} {oe : Obj} {vs : Array Value} (he : h.get? a = some oe) (h1 : oe.cls = .ref C) (h2 : oe.dict = some d) (h3 : oe.data = .fields vs) : ObjOk P w H h a (exq a C d) :=
  ⟨⟨oe, vs, he, h1, h2, h3⟩, ⟨_, he⟩, fun hp1 hp2 z k => by
    obtain ⟨o, vs, q, r⟩ := z
    exact ⟨o, vs, k _ q, r⟩⟩
theorem exq_at {P : Program} {w : World} {H : Hp} {h : Heap} {a C d : Addr} (hok : HOk P w H h) (he : H a = some (exq a C d)) : ∃ (vs : Array Value) (sl : Array (Option Value)), h.get? a = some ({ cls := .ref C, dict := some d, data := .fields vs, slots := sl } : Obj) := by
  have x : ObjOk P w H h a (.ext fun h => ∃ (oe : Obj) (vs : Array Value), h.get? a = some oe ∧ oe.cls = .ref C ∧ oe.dict = some d ∧ oe.data = .fields vs) := hok a _ he
  obtain ⟨⟨oe, vs, q1, q2, q3, q4⟩, _, _⟩ := x
  obtain ⟨oc, od, oda, osl⟩ := oe
  dsimp only at q2 q3 q4
  subst q2 q3 q4
  exact ⟨vs, osl, q1⟩
section
variable {X : Cx} {pins : List (Addr × Obj)} {σ : L2.St} {H : Hp} {s : Shared}
/-- an object that stands already is tracked from now on -/
theorem Inv.track {a : Addr} {oe : Obj} {vs : Array Value} {o : HO} (I : Inv X pins σ H s) (ha : s.heap.get? a = some oe) (hd : oe.data = .fields vs) (nH : H a = none) (nL : a ≠ X.env.locals) (npin : ∀ p ∈ X.pn ++ pins, p.1 ≠ a) (n0 : X.s_0.heap.get? a = none)
    (ok : ObjOk X.prog X.w (upd H a o) s.heap a o) : Inv X pins σ (upd H a o) s := by
  refine ⟨I.ok, I.os, I.bare, ⟨I.base.keep, I.base.slot, fun b ob q n hx => ?_, I.base.there, fun b xs q => ?_, fun b ob u q => ?_, fun b ps q => ?_⟩, I.loc, I.cell, ?_, fun x c e => ?_, fun p hp => ?_, ?_, I.len⟩
  · have hb : b ≠ a := fun z => by rw [z, n0] at q; cases q
    rw [upd_ne hb]
    exact I.base.free b ob q n hx
  · have e := I.base.tups b xs q
    rw [upd_ne (ne_of_none e nH)]
    exact e
  · have e := I.base.frzs b ob u q
    rw [upd_ne (ne_of_none e nH)]
    exact e
  · obtain ⟨more, e⟩ := I.base.tbls b ps q
    exact ⟨more, by rw [upd_ne (ne_of_none e nH)]; exact e⟩
  · rw [upd_ne (Ne.symm nL)]
    exact I.free
  · obtain ⟨v, ob, q1, q2⟩ := I.cell x c e
    have hc : c ≠ a := fun z => by
      rw [z, ha] at q1
      cases q1
      rw [hd] at q2
      cases q2
    rw [upd_ne hc]
    exact I.freeC x c e
  · obtain ⟨e, n, r⟩ := I.pin p hp
    exact ⟨e, by rw [upd_ne (npin p hp)]; exact n, r⟩
  · exact I.hok.laidN (fun _ _ q => q) nH ok
end
/-- what 'except x as n: y = n' wishes of an exception of the body -/
def wKeep (K : PySem.W.Frag) (c : Value) (i j l : Nat) (D : Ends) : WX := fun cls d σ H =>
  ∃ C dd, cls = .ref C ∧ d = some dd ∧ PySem.W.exmOne K cls c = some true ∧ ∀ a, H a = none → σ.length = l → D.nx ((((σ.set i (some (.ref a))).set j (some (.ref a))).set i none)) (upd H a (exq a C dd))
section
variable {X : Cx} {x n y : Str} {c : Value} {i j : Nat} {body : List Stmt} {np pos pos' p1 p2 p3 : Pos} {tb : WX → TS}
theorem ps_try_keep (hs : X.stack = X.env :: X.outer) (hf : X.env.frame = some X.env.locals) (hN : X.N.Nodup) (hi : X.N[i]? = some n) (hj : X.N[j]? = some y) (hln : X.env.kindOf n = some .local) (hly : X.env.scope.names.lookup y = some .local) (hil : i < X.N.length) (hc : Names X x c)
    (hex : X.ex = [])
    (hb : ∀ (W : WX) (pn : List (Addr × Obj)) (xe : Value → Shared → Prop), Takes (X.tr pn xe) W → PassesOwn (model X.prog X.w) X.A X.env xe → PSs (X.tr pn xe) body (tb W))
    (hdb : (n == ("__debug__" : Str)) = false := by decide) (hcd : (n == ("__classdict__" : Str)) = false := by decide) :
    PS X (.Try body [.ExceptHandler (some (.Name x np)) (some n) [.Assign [.Name y p1] (.Name n p2) p3] pos'] [] [] pos) (fun D σ H => tb (wKeep X.K c i j X.N.length D) D σ H) := by
  refine ⟨fun pins s σ H D I h => ?_⟩
  have ok := I.ok
  have hfr : X.A.frames = some (X.env :: X.outer) := by rw [ok.frames, hs]
  have hloc : Loc X.env.scope n := .inl hln
  refine wpAny_Try_except ?_
  refine wpAny_mono ((hb (wKeep X.K c i j X.N.length D) (X.pn ++ pins) (fun e s₁ => wpAny (model X.prog X.w) X.A (noteFrame e X.env) (fun _ s₂ => wpAny (model X.prog X.w) X.A (setFlight e none) (fun _ s₃ =>
    wpAny (model X.prog X.w) X.A (handleBy e X.env [.ExceptHandler (some (.Name x np)) (some n) [.Assign [.Name y p1] (.Name n p2) p3] pos']) (SP X pins D) X.xe s₃) X.xe s₂) X.xe s₁) (fun u s' xx => ?_) PassesOwn.looking).run [] s σ H D (I.toTry _) h) (fun f s1 hsp => ?_) (fun e s1 he => he)
  · obtain ⟨a, B, sI, pins', σ', H', cls, d, rfl, J', nb, up, sky, na, os, ag, C, dd, rfl, rfl, hb1, hyes⟩ := xx
    have J : Inv X pins σ' H' sI := J'.ofTry ok
    have sky' : Sky B (X.env :: X.outer) a (Zc (.ref C) (some dd)) X.env.locals s'.heap := by rw [← hs]; exact sky
    show wpAny (model X.prog X.w) X.A (noteFrame (.ref a) X.env) _ _ _
    refine Sky.land Zc.steady hfr hf sky' fun h3 fl3 up3 => ?_
    have J3 : Inv X pins σ' H' { s' with heap := h3 } := J.landed nb fl3.1 (up.trans up3) os ag
    obtain ⟨oe3, vs3, he3, hz3, hd3⟩ := fl3.there
    have notFr : ∀ {h : Heap} {o : Obj} {vs : Array Value}, h.FunFrames B (X.env :: X.outer) → h.get? a = some o → o.data = .fields vs → a ∉ frs (X.env :: X.outer) := fun {h o vs} ff e dd hm => by
      obtain ⟨_, o', e', hnf⟩ := ff.mem hm
      rw [e] at e'; cases e'
      exact hnf _ dd
    have nfr := notFr fl3.2.2.1 he3 hd3
    have nL : a ≠ X.env.locals := fun z => nfr (List.mem_filterMap.mpr ⟨X.env, List.mem_cons_self, by rw [hf, z]⟩)
    have nF : a ∉ X.fs := fun hm => by
      obtain ⟨e, he, q⟩ := List.mem_filterMap.mp hm
      exact nfr (List.mem_filterMap.mpr ⟨e, List.mem_cons_of_mem _ he, q⟩)
    have gB : B.get? a = none := fl3.2.1
    have n0 : X.s_0.heap.get? a = none := by
      cases e : X.s_0.heap.get? a with
      | none => rfl
      | some o =>
        obtain ⟨o', e'⟩ := J.base.there a o e (by rw [hex]; exact List.not_mem_nil)
        have q := nb a o' e' (by rw [hs]; exact nfr)
        rw [gB] at q
        cases q
    have npin : ∀ p ∈ X.pn ++ pins, p.1 ≠ a := fun p hp z => by
      obtain ⟨e, _, nl, nf, _⟩ := J.pin p hp
      have q := nb p.1 p.2 e (by rw [hs, z]; exact nfr)
      rw [z, gB] at q
      cases q
    have S3 := J3.suite he3 hd3 na nL nF
    refine wpAny_handleBy_cons (codeAny_handlers_test ?_) (by intro q; cases q)
    have LT : PySem.W.Looks (model X.prog X.w) h3 (typeOf (.ref a)) (.ref C) := fun A Q E s k q => wpAny_typeOf_ref (k _ _ he3) (by rw [hz3.1]; exact q)
    have LM := PySem.W.exm_one (M := model X.prog X.w) (J3.kIn) LT hb1
    have test : ∀ {Q : Value → Shared → Prop} {E : Value → Shared → Prop}, Q c { s' with heap := h3 } → wpAny (model X.prog X.w) (X.A.mark (some (.ref a))) (eval (.Name x np) X.env) Q E { s' with heap := h3 } := fun {Q E} q => by
      obtain ⟨hg, hdbg, hm | ⟨hm, hv, hnn⟩⟩ := hc
      · exact ld_glob (X := X.suite a ((a, oe3) :: (X.pn ++ pins))) S3 hg hm q hdbg
      · exact ld_blt (X := X.suite a ((a, oe3) :: (X.pn ++ pins))) S3 hg hm hv q hnn hdbg
    refine test (LM.here ?_)
    refine codeAny_handlers_suite_as ?_
    refine HandSPX.lands_againZ fl3 fun h4 fl4 up4 => ?_
    have J4 : Inv X pins σ' H' { s' with heap := h4 } := J.landed nb fl4.1 ((up.trans up3).trans up4) os ag
    obtain ⟨oe4, vs4, he4, hz4, hd4⟩ := fl4.there
    have S4 := J4.suite he4 hd4 na nL nF
    refine store_ok (X := X.suite a ((a, oe4) :: (X.pn ++ pins))) (v := .ref a) S4 hN hi hloc rfl (fun s5 S5 => ?_) (.inr hln)
    have hpv : PSs (X.suite a ((a, oe4) :: (X.pn ++ pins))) [.Assign [.Name y p1] (.Name n p2) p3] (tAsg (tVar i) (gName j)) := pss_one (ps_set (X := X.suite a ((a, oe4) :: (X.pn ++ pins))) hN hj (.inl hly) (pe_var (X := X.suite a ((a, oe4) :: (X.pn ++ pins))) hi (.inl hln) hdb hcd) rfl (.inr hly))
    have hlen : i < σ'.length := by rw [J.len]; exact hil
    refine wpAny_mono (hpv.run [] s5 _ H' { nx := fun σ6 H6 => σ6 = (σ'.set i (some (.ref a))).set j (some (.ref a)) ∧ H6 = H', rt := fun _ _ => False, bk := fun _ _ => False, ct := fun _ _ => False } S5 ⟨.ref a, List.getElem?_set_self hlen, rfl, rfl⟩) (fun f s6 hsp => ?_) (fun _ _ z => False.elim z)
    cases f with
    | next =>
      obtain ⟨σ6, H6, S6, rfl, rfl⟩ := hsp
      refine gone_ok (X := X.suite a ((a, oe4) :: (X.pn ++ pins))) S6 hN hi hln fun s7 S7 => ?_
      obtain ⟨g7, _, _, _, _⟩ := S7.pin (a, oe4) (List.mem_append_left _ List.mem_cons_self)
      have J7 : Inv X pins _ H6 s7 := S7.unsuite ok
      exact ⟨_, _, J7.track g7 hd4 na nL npin n0 (exq_ok g7 hz4.1 hz4.2 hd4), hyes a na J.len⟩
    | brk =>
      obtain ⟨σ6, H6, S6, q6⟩ := hsp
      exact q6.elim
    | cont =>
      obtain ⟨σ6, H6, S6, q6⟩ := hsp
      exact q6.elim
    | ret u =>
      obtain ⟨v6, σ6, H6, S6, r6, q6⟩ := hsp
      exact q6.elim
  · cases f with
    | next =>
      obtain ⟨σ', H', J', q⟩ := hsp
      exact wpAny_execs_nil ⟨σ', H', J'.ofTry ok, q⟩
    | brk =>
      obtain ⟨σ', H', J', q⟩ := hsp
      exact ⟨σ', H', J'.ofTry ok, q⟩
    | cont =>
      obtain ⟨σ', H', J', q⟩ := hsp
      exact ⟨σ', H', J'.ofTry ok, q⟩
    | ret u =>
      obtain ⟨v, σ', H', J', r, q⟩ := hsp
      exact ⟨v, σ', H', J'.ofTry ok, r, q⟩
end
end L2


set_option Elab.async false
set_option linter.all false
set_option maxRecDepth 100000
set_option maxHeartbeats 4000000
set_option exponentiation.threshold 100000
namespace K0
open PySem PySem.Spec PyProof.Rows L2 RZ K0z

theorem pe_cint {X : Cx} {x : Str} {pos : Pos} {n : Int} (hg : Gl X x) (hm : ∃ t, X.mg x = some (.int n t)) (hd : (x == ("__debug__" : Str)) = false := by decide) : PE X (.Name x pos) (tC (.int n)) := by
  obtain ⟨t, h⟩ := hm
  exact pe_glob hg h ⟨t, rfl⟩ hd
/-- what a raise of the class x, by place, wants -/
def RaiseC (P : Program) (w : World) (K : PySem.W.Frag) (mg : Str → Option Value) (base : Heap) (x : Str) (C : Addr) (f : Str) : Prop :=
  ∃ fI fd ps, PySem.W.findIn K (.ref C) "__init__" = some (some (.ref fI)) ∧ PySem.W.typeIn K (.ref fI) = some (.type "function") ∧ FnOk P w K mg base CX0 1 fI fd ps (spI C 1 (fs1 f)) ∧ Binds K fd ps [] ∧ OexC K C ∧ mg x = some (.ref C)
section
variable {X : Cx} {C : Addr} {x f : Str} {p pos : Pos} {e : Expr} {v : V}
theorem pmk_c (D : RaiseC X.prog X.w X.K X.mg X.base x C f) (hr : Room 2 X.A) (hg : Gl X x) (ha : PA X [e] (tCons (tC v) tNil))
    (hdb : (x == ("__debug__" : Str)) = false := by decide) (hs : starEach [e] X.env = (false, eval e X.env) :: starEach [] X.env := by rfl) :
    PMk X (.Call (.Name x p) [e] [] pos) (fun _ H Q => ∀ (d : Addr) (H' : Hp), H d = none → H' d = some (.xd (fs1 f [v])) → Same H H' → Q (.ref C) (some d) H') := by
  obtain ⟨fI, fd, ps, h1, h2, F, B, T, m⟩ := D
  have h := pmk_oex (p := p) (pos := pos) T h1 h2 F hr B .nil pass0 hg m ha hdb hs (by rfl)
  intro pins s σ H1 Q I q
  refine h pins s σ H1 Q I ?_
  refine ⟨by show 1 ≤ 1000; decide, fun a ha => ⟨a, [v], rfl, rfl, upd_same, fun d H2 hd hda e1 e2 e3 => ⟨rfl, d, _, e1, e2, ?_, ?_⟩⟩⟩
  · rw [upd_ne hda] at hd
    exact hd
  · rw [upd_ne hda] at hd
    refine q d _ hd upd_same fun b o hb => ?_
    have nb : b ≠ d := ne_of_none hb hd
    have nba : b ≠ a := ne_of_none hb ha
    rw [upd_ne nb, del_ne nba]
    exact e3 b o nba (by rw [upd_ne nba]; exact hb)
end
end K0


set_option Elab.async false
set_option linter.all false
set_option maxRecDepth 100000
set_option maxHeartbeats 4000000
namespace K0
open PySem PySem.Spec PyProof.Rows L2

/-! ### what draws -/
/-- the coil at c: its cells at d, how many were begun (at most m), what is left -/
def Coil (H : Hp) (c d : Addr) (ns : List Int) (m : Nat) : Prop := ns.length ≤ 63 ∧ c ≠ d ∧ H d = some (.lst (ns.map V.int)) ∧
  ∃ a b : Int, H c = some (.lst [.ref d, .int a, .int b]) ∧ 0 ≤ a ∧ a ≤ m ∧ 0 ≤ b
def SameBut (c : Addr) (H H' : Hp) : Prop := ∀ b o, b ≠ c → H b = some o → H' b = some o
theorem SameBut.refl (c : Addr) (H : Hp) : SameBut c H H := fun _ _ _ e => e
theorem SameBut.trans {c : Addr} {H H1 H2 : Hp} (a : SameBut c H H1) (b : SameBut c H1 H2) : SameBut c H H2 := fun x o n e => b x o n (a x o n e)
theorem SameBut.of {c : Addr} {H H' : Hp} (s : Same H H') : SameBut c H H' := fun b o _ e => s b o e
theorem SameBut.to {c : Addr} {H H0 H' : Hp} (s : SameBut c H H') (h : Same H0 H) (hc : H0 c = none) : Same H0 H' := fun b o e => s b o (ne_of_none e hc) (h b o e)
def spCoil (K : PySem.W.Frag) : Sp := fun vs H Q _ => ∃ (a : Addr) (ns : List Int), vs = [.ref a] ∧ SqL K H a (ns.map V.int) ∧ ns.length ≤ 63 ∧
  ∀ (c d : Addr) (H' : Hp), H c = none → Same H H' → Coil H' c d ns 0 → Q (.ref c) H'
def spTurn : Sp := fun vs H Q _ => ∃ (c d : Addr) (ns : List Int) (m : Nat) (many : Int), vs = [.ref c, .int many] ∧ Coil H c d ns m ∧ m ≤ 100000 ∧ 0 < many ∧ many.natAbs < 2 ^ 9000 ∧
  ∀ (r : Int) (H' : Hp), 0 ≤ r → r < many → Coil H' c d ns (m + 1) → SameBut c H H' → Q (.int r) H'
section
variable {P : Program} {w : World} {K : PySem.W.Frag} {mg : Str → Option Value} {base : Heap} {f g g2 : Addr} {fd : FuncData}
theorem sc_coil : FnScope ["script", "cell"] ["script"] (defScope st__law_slate) := ⟨rfl, rfl, rfl, by decide +kernel, rfl, by decide +kernel, by decide +kernel⟩
theorem int_sel (ns : List Int) : (ns.map V.int).filterMap (fun x => match x with | .int n => some (V.int n) | _ => none) = ns.map V.int := by
  induction ns with
  | nil => rfl
  | cons n ns ih => simp only [List.map_cons, List.filterMap_cons, ih]
theorem ok_coil (F : Fun K "_law_slate" "_law_slate" st__law_slate f fd) (T : Nm mg) : FnOk P w K mg base CX0 1 f fd ["script"] (spCoil K) := by
  refine F.ok sc_coil (fun vs H Q E h => ?_) (fun cdv A outer s H vs Q E hr h => ?_)
  · obtain ⟨a, ns, rfl, _⟩ := h
    rfl
  · obtain ⟨a, ns, rfl, hS, hl, k⟩ := h
    refine ⟨_, (pss_one (ps_ret (pe_lst (pa_cons (pe_lc (own := [("cell", 1)]) (g := gName 1) (tt := tYes) rfl sc_coil.nd (pi_list (pe_slice sl_list (pv 0) po_none (po_some pe_int))) (blkOk_by (N := ["script", "cell"]) (sc := defScope st__law_slate) (by decide +kernel)) (fun _ _ _ _ _ => pg_name (i := 1) sc_coil.nd rfl (Or.inl rfl)) (fun _ _ _ _ _ => pts_nil) (fun _ _ _ _ _ => (pe_callTy call_int1 (by rfl) T.n_int (by decide +kernel) (pa_cons (pv 1) pa_nil)))) (pa_cons pe_int (pa_cons pe_int pa_nil)))))), ?_⟩
    have ec : cutV (ns.map V.int) none (some 63) = ns.map V.int := by
      show ((ns.map V.int).drop 0).take (HT.sIx (ns.map V.int).length (ns.map V.int).length (some ((63 : Nat) : Int)) - 0) = _
      rw [HT.sIx_nat, List.drop_zero]
      refine List.take_of_length_le ?_
      rw [List.length_map]
      omega
    refine ⟨_, rfl, 63, rfl, a, _, rfl, hS, fun p hp => ⟨p, rfl, ⟨_, .of upd_same⟩, fun D hD => ?_⟩⟩
    rw [ec] at hD ⊢
    refine lcl (xs := ns.map V.int) (fun x => match x with | .int n => some (V.int n) | _ => none) hD (.of upd_same) (by rw [List.length_map]; exact Nat.lt_of_le_of_lt hl (by decide)) (fun _ => rfl) ?_ ?_ ?_
    · intro x hx H2 _ R hR
      obtain ⟨n, _, rfl⟩ := List.mem_map.mp hx
      exact hR H2 (Same.refl H2)
    · intro x hx y hy H2 _ R hR
      obtain ⟨n, _, rfl⟩ := List.mem_map.mp hx
      cases hy
      exact ⟨_, rfl, .inl ⟨n, rfl, hR H2 (Same.refl H2)⟩⟩
    · rintro H2 ⟨h1, h2⟩
      rw [int_sel] at h1
      refine ⟨(by show 3 ≤ sizeLine; decide), fun c hc => ?_⟩
      have s0 : Same H H2 := (same_upd hp).trans h2
      have ncd : c ≠ D := fun e => by
        rw [e, h1] at hc
        cases hc
      refine k c D _ (s0.free hc) (s0.trans (same_upd hc)) ⟨hl, ncd, ?_, 0, 0, upd_same, by decide, by decide, by decide⟩
      rw [upd_ne (Ne.symm ncd)]
      exact h1
theorem sc_turn : FnScope ["slate", "many", "rest", "at", "cell", "mixed"] ["slate", "many"] (defScope st__law_chalk) := ⟨rfl, rfl, rfl, by decide +kernel, rfl, by decide +kernel, by decide +kernel⟩
theorem mod_rng {i j : Int} (h : 0 < j) : 0 ≤ i % j ∧ i % j < j := ⟨Int.emod_nonneg i (by omega), Int.emod_lt_of_pos i h⟩
theorem mix_bound {x a : Int} (h0 : 0 ≤ a) (h1 : a ≤ 100000) (hx0 : 0 ≤ x) (hx1 : x < 2147483629) : (x * (2 * a + 4649) + 63281 * a * a + 35327).natAbs < 2 ^ 64 := by
  have e1 : x * (2 * a + 4649) ≤ 2147483629 * 204649 := Int.mul_le_mul (by omega) (by omega) (by omega) (by omega)
  have e2 : 0 ≤ x * (2 * a + 4649) := Int.mul_nonneg hx0 (by omega)
  have e3 : 63281 * a * a ≤ 6328100000 * 100000 := Int.mul_le_mul (by omega) h1 h0 (by omega)
  have e4 : 0 ≤ 63281 * a * a := Int.mul_nonneg (by omega) h0
  generalize x * (2 * a + 4649) = y at e1 e2 ⊢
  generalize 63281 * a * a = z at e3 e4 ⊢
  omega
theorem ok_turn (F : Fun K "_law_chalk" "_law_chalk" st__law_chalk f fd) (T : Nm mg) : FnOk P w K mg base CX0 1 f fd ["slate", "many"] spTurn := by
  refine F.ok sc_turn (fun vs H Q E h => ?_) (fun cdv A outer s H vs Q E hr h => ?_)
  · obtain ⟨c, d, ns, m, many, rfl, _⟩ := h
    rfl
  · obtain ⟨c, d, ns, m, many, rfl, ⟨hl, ncd, hd, a, b, hc, ha0, ha1, hb⟩, hm, hp, hw, k⟩ := h
    have hdiv : ∀ x : Int, CDivW x many := fun x => wide_div (b := 9000) hp hw (by decide) (by decide)
    have qdiv : ∀ x : Int, 0 ≤ x → 0 ≤ x / many := fun x hx => Int.ediv_nonneg hx (by omega)
    refine ⟨_, (pss_cons (ps_if (pt_cmpR op_gt (pe_ix ix_list (pv 0) pe_int (fun _ _ => rfl)) pe_int (nomark _)) (pss_cons (ps_set (i := 2) sc_turn.nd rfl (Or.inl rfl) (pe_callTy call_int1 (by rfl) T.n_int (by decide +kernel) (pa_cons (pe_ix ix_list (pv 0) pe_int (fun _ _ => rfl)) pa_nil)))
    (pss_cons (ps_asg (pe_op op_fdivW (pv 2) (pv 1)) (pg_sub (pv 0) pe_int set_list))
    (pss_one (ps_ret (pe_op op_mod (pe_callTy call_int1 (by rfl) T.n_int (by decide +kernel) (pa_cons (pv 2) pa_nil)) (pv 1)))))) pss_nil)
    (pss_cons (ps_set (i := 3) sc_turn.nd rfl (Or.inl rfl) (pe_ix ix_list (pv 0) pe_int (fun _ _ => rfl)))
    (pss_cons (ps_asg (pe_op op_add (pv 3) pe_int) (pg_sub (pv 0) pe_int set_list))
    (pss_cons (ps_set (i := 4) sc_turn.nd rfl (Or.inl rfl) (pe_op op_add (pe_op op_mul pe_int (pv 3)) pe_int))
    (pss_cons (ps_if (pt_cmpR (op_neD hr.units) (pe_ix ix_list (pv 0) pe_int (fun _ _ => rfl)) (pe_lst pa_nil) (nomark _)) (pss_one (ps_set (i := 4) sc_turn.nd rfl (Or.inl rfl) (pe_ix ix_list (pe_ix ix_list (pv 0) pe_int (fun _ _ => rfl)) (pe_op op_mod (pe_callTy call_int1 (by rfl) T.n_int (by decide +kernel) (pa_cons (pv 3) pa_nil)) (pe_callB call_len_seq (by rfl) T.n_len (by decide +kernel) (pa_cons (pe_ix ix_list (pv 0) pe_int (fun _ _ => rfl)) pa_nil))) (fun _ _ => rfl)))) pss_nil)
    (pss_cons (ps_if (PW.pt (pw_and (pt_cmpR op_lt (pv 3) (pe_callB call_len_seq (by rfl) T.n_len (by decide +kernel) (pa_cons (pe_ix ix_list (pv 0) pe_int (fun _ _ => rfl)) pa_nil)) (nomark _)) (pw_and1 (pt_cmpR op_ge (pe_callB call_abs (by rfl) T.n_abs (by decide +kernel) (pa_cons (pv 4) pa_nil)) (pe_op op_pow pe_int pe_int) (nomark _))))) (pss_cons (ps_set (i := 2) sc_turn.nd rfl (Or.inl rfl) (pe_op op_add (pe_op op_mul pe_int (pe_op op_sub (pe_callB call_abs (by rfl) T.n_abs (by decide +kernel) (pa_cons (pv 4) pa_nil)) (pe_op op_pow pe_int pe_int))) (pe_callTy call_int1 (by rfl) T.n_int (by decide +kernel) (pa_cons (pe_cmpR op_lt (pv 4) pe_int (nomark _)) pa_nil))))
    (pss_cons (ps_asg (pe_op op_fdivW (pe_callTy call_int1 (by rfl) T.n_int (by decide +kernel) (pa_cons (pv 2) pa_nil)) (pv 1)) (pg_sub (pv 0) pe_int set_list))
    (pss_one (ps_ret (pe_op op_mod (pe_callTy call_int1 (by rfl) T.n_int (by decide +kernel) (pa_cons (pv 2) pa_nil)) (pv 1)))))) pss_nil)
    (pss_cons (ps_set (i := 5) sc_turn.nd rfl (Or.inl rfl) (pe_op op_mod (pe_callTy call_int1 (by rfl) T.n_int (by decide +kernel) (pa_cons (pe_op op_pow (pe_op op_add (pe_op op_add (pe_op op_mod (pe_callTy call_int1 (by rfl) T.n_int (by decide +kernel) (pa_cons (pv 4) pa_nil)) pe_int) (pe_op op_mul pe_int (pv 3))) pe_int) pe_int) pa_nil)) pe_int))
    (pss_cons (ps_set (i := 5) sc_turn.nd rfl (Or.inl rfl) (pe_op op_mod (pe_callTy call_int1 (by rfl) T.n_int (by decide +kernel) (pa_cons (pe_op op_pow (pe_op op_add (pe_op op_add (pe_op op_mul (pv 5) (pe_op op_add (pe_op op_mul pe_int (pv 3)) pe_int)) (pe_op op_mul (pe_op op_mul pe_int (pv 3)) (pv 3))) pe_int) pe_int) pa_nil)) pe_int))
    (pss_one (ps_ret (pe_op op_mod (pe_callTy call_int1 (by rfl) T.n_int (by decide +kernel) (pa_cons (pe_op op_fdivW (pv 5) pe_int) pa_nil)) (pv 1)))))))))))), ?_⟩
    -- coil[2] > 0
    refine ⟨_, rfl, c, _, 2, _, rfl, rfl, .of hc, atI_nat (j := 2) rfl, ⟨b, 0, rfl, rfl, _, rfl, ?_⟩⟩
    by_cases cb : 0 < b
    · rw [decide_eq_true cb]
      refine iteT ⟨_, rfl, c, _, 2, _, rfl, rfl, .of hc, atI_nat (j := 2) rfl, (.inl ⟨b, rfl, ?_⟩)⟩
      refine ⟨_, rfl, _, rfl, b, many, rfl, rfl, hdiv b, _, rfl, c, _, 2, 2, rfl, rfl, hc, rfl, ?_⟩
      refine ⟨_, rfl, .inl ⟨b, rfl, _, rfl, b, many, rfl, rfl, hp, ?_⟩⟩
      refine k _ _ (mod_rng hp).1 (mod_rng hp).2 ⟨hl, ncd, (by rw [upd_ne (Ne.symm ncd)]; exact hd), a, b / many, upd_same, ha0, by omega, qdiv b (by omega)⟩ fun x o n e => ?_
      rw [upd_ne n]
      exact e
    · rw [decide_eq_false cb]
      have eb : b = 0 := by omega
      subst eb
      -- at = coil[1]; coil[1] = at + 1; cell = ..
      refine iteF ⟨_, rfl, c, _, 1, _, rfl, rfl, .of hc, atI_nat (j := 1) rfl, ?_⟩
      refine ⟨_, rfl, a, 1, rfl, rfl, _, rfl, c, _, 1, 1, rfl, rfl, hc, rfl, ?_⟩
      refine ⟨_, rfl, 63281, a, rfl, rfl, .inl ⟨by decide, by decide⟩, _, 4793, rfl, rfl, ?_⟩
      have hd1 : upd H c (.lst [.ref d, .int (a + 1), .int 0]) d = some (.lst (ns.map V.int)) := by
        rw [upd_ne (Ne.symm ncd)]
        exact hd
      -- what comes behind the choice of the cell
      have tail : ∀ (x : Int) (H2 : Hp), H2 c = some (.lst [.ref d, .int (a + 1), .int 0]) → H2 d = some (.lst (ns.map V.int)) → SameBut c H H2 →
          (tSeq (tIfS (tAnd (tTest (tOp (rI0 fun i j => .bl (decide (i < j))) (tVar 3) (tCB (fun xs H Q => ∃ p ys, xs = [.ref p] ∧ (SqL K H p ys ∨ SqT K H p ys) ∧ Q (.int ys.length) H) (tCons (tOp (rIxL K) (tVar 0) (tC (.int 0))) tNil))))
              (tTest (tOp (rI0 fun i j => .bl (decide (j ≤ i))) (tCB (fun xs H Q => ∃ i, xs = [.int i] ∧ Q (.int (if i < 0 then -i else i)) H) (tCons (tVar 4) tNil)) (tOp (rI CPow fun i j => .int (i ^ j.toNat)) (tC (.int 10)) (tC (.int 18))))))
            (tSeq (tAsg (tOp (rI0 fun i j => .int (i + j)) (tOp (rI CMul fun i j => .int (i * j)) (tC (.int 2)) (tOp (rI0 fun i j => .int (i - j)) (tCB (fun xs H Q => ∃ i, xs = [.int i] ∧ Q (.int (if i < 0 then -i else i)) H) (tCons (tVar 4) tNil)) (tOp (rI CPow fun i j => .int (i ^ j.toNat)) (tC (.int 10)) (tC (.int 18)))))
                (tCB (fun xs H Q => (∃ i, xs = [.int i] ∧ Q (.int i) H) ∨ ∃ k, xs = [.bl k] ∧ Q (.int (if k then 1 else 0)) H) (tCons (tOp (rI0 fun i j => .bl (decide (i < j))) (tVar 4) (tC (.int 0))) tNil))) (gName 2))
              (tSeq (tAsg (tOp (rI CDivW fun i j => .int (i / j)) (tCB (fun xs H Q => (∃ i, xs = [.int i] ∧ Q (.int i) H) ∨ ∃ k, xs = [.bl k] ∧ Q (.int (if k then 1 else 0)) H) (tCons (tVar 2) tNil)) (tVar 1)) (gSub (tVar 0) (tC (.int 2)) rSetL))
                (tRet (tOp (rI (fun _ j => 0 < j) fun i j => .int (i % j)) (tCB (fun xs H Q => (∃ i, xs = [.int i] ∧ Q (.int i) H) ∨ ∃ k, xs = [.bl k] ∧ Q (.int (if k then 1 else 0)) H) (tCons (tVar 2) tNil)) (tVar 1))))) tNext)
          (tSeq (tAsg (tOp (rI (fun _ j => 0 < j) fun i j => .int (i % j)) (tCB (fun xs H Q => (∃ i, xs = [.int i] ∧ Q (.int i) H) ∨ ∃ k, xs = [.bl k] ∧ Q (.int (if k then 1 else 0)) H) (tCons (tOp (rI CPow fun i j => .int (i ^ j.toNat)) (tOp (rI0 fun i j => .int (i + j)) (tOp (rI0 fun i j => .int (i + j)) (tOp (rI (fun _ j => 0 < j) fun i j => .int (i % j)) (tCB (fun xs H Q => (∃ i, xs = [.int i] ∧ Q (.int i) H) ∨ ∃ k, xs = [.bl k] ∧ Q (.int (if k then 1 else 0)) H) (tCons (tVar 4) tNil)) (tC (.int 2147483563))) (tOp (rI CMul fun i j => .int (i * j)) (tC (.int 35327)) (tVar 3))) (tC (.int 4793))) (tC (.int 5))) tNil)) (tC (.int 2147483629))) (gName 5))
          (tSeq (tAsg (tOp (rI (fun _ j => 0 < j) fun i j => .int (i % j)) (tCB (fun xs H Q => (∃ i, xs = [.int i] ∧ Q (.int i) H) ∨ ∃ k, xs = [.bl k] ∧ Q (.int (if k then 1 else 0)) H) (tCons (tOp (rI CPow fun i j => .int (i ^ j.toNat)) (tOp (rI0 fun i j => .int (i + j)) (tOp (rI0 fun i j => .int (i + j)) (tOp (rI CMul fun i j => .int (i * j)) (tVar 5) (tOp (rI0 fun i j => .int (i + j)) (tOp (rI CMul fun i j => .int (i * j)) (tC (.int 2)) (tVar 3)) (tC (.int 4649)))) (tOp (rI CMul fun i j => .int (i * j)) (tOp (rI CMul fun i j => .int (i * j)) (tC (.int 63281)) (tVar 3)) (tVar 3))) (tC (.int 35327))) (tC (.int 3))) tNil)) (tC (.int 2147483587))) (gName 5))
            (tRet (tOp (rI (fun _ j => 0 < j) fun i j => .int (i % j)) (tCB (fun xs H Q => (∃ i, xs = [.int i] ∧ Q (.int i) H) ∨ ∃ k, xs = [.bl k] ∧ Q (.int (if k then 1 else 0)) H) (tCons (tOp (rI CDivW fun i j => .int (i / j)) (tVar 5) (tC (.int 64))) tNil)) (tVar 1))))))
          { nx := fun _ H' => Q .non H', rt := Q } [some (.ref c), some (.int many), none, some (.int a), some (.int x), none] H2 := by
        intro x H2 hc2 hd2 sb
        have mixed : (tSeq (tAsg (tOp (rI (fun _ j => 0 < j) fun i j => .int (i % j)) (tCB (fun xs H Q => (∃ i, xs = [.int i] ∧ Q (.int i) H) ∨ ∃ k, xs = [.bl k] ∧ Q (.int (if k then 1 else 0)) H) (tCons (tOp (rI CPow fun i j => .int (i ^ j.toNat)) (tOp (rI0 fun i j => .int (i + j)) (tOp (rI0 fun i j => .int (i + j)) (tOp (rI (fun _ j => 0 < j) fun i j => .int (i % j)) (tCB (fun xs H Q => (∃ i, xs = [.int i] ∧ Q (.int i) H) ∨ ∃ k, xs = [.bl k] ∧ Q (.int (if k then 1 else 0)) H) (tCons (tVar 4) tNil)) (tC (.int 2147483563))) (tOp (rI CMul fun i j => .int (i * j)) (tC (.int 35327)) (tVar 3))) (tC (.int 4793))) (tC (.int 5))) tNil)) (tC (.int 2147483629))) (gName 5))
          (tSeq (tAsg (tOp (rI (fun _ j => 0 < j) fun i j => .int (i % j)) (tCB (fun xs H Q => (∃ i, xs = [.int i] ∧ Q (.int i) H) ∨ ∃ k, xs = [.bl k] ∧ Q (.int (if k then 1 else 0)) H) (tCons (tOp (rI CPow fun i j => .int (i ^ j.toNat)) (tOp (rI0 fun i j => .int (i + j)) (tOp (rI0 fun i j => .int (i + j)) (tOp (rI CMul fun i j => .int (i * j)) (tVar 5) (tOp (rI0 fun i j => .int (i + j)) (tOp (rI CMul fun i j => .int (i * j)) (tC (.int 2)) (tVar 3)) (tC (.int 4649)))) (tOp (rI CMul fun i j => .int (i * j)) (tOp (rI CMul fun i j => .int (i * j)) (tC (.int 63281)) (tVar 3)) (tVar 3))) (tC (.int 35327))) (tC (.int 3))) tNil)) (tC (.int 2147483587))) (gName 5))
            (tRet (tOp (rI (fun _ j => 0 < j) fun i j => .int (i % j)) (tCB (fun xs H Q => (∃ i, xs = [.int i] ∧ Q (.int i) H) ∨ ∃ k, xs = [.bl k] ∧ Q (.int (if k then 1 else 0)) H) (tCons (tOp (rI CDivW fun i j => .int (i / j)) (tVar 5) (tC (.int 64))) tNil)) (tVar 1)))))
          { nx := fun _ H' => Q .non H', rt := Q } [some (.ref c), some (.int many), none, some (.int a), some (.int x), none] H2 := by
          have b1 := mod_rng (i := x) (j := 2147483563) (by decide)
          refine ⟨_, rfl, .inl ⟨x, rfl, x, 2147483563, rfl, rfl, (by show (0 : Int) < 2147483563; decide), ?_⟩⟩
          refine ⟨_, rfl, 35327, a, rfl, rfl, .inl ⟨by decide, by decide⟩, _, _, rfl, rfl, _, 4793, rfl, rfl, _, 5, rfl, rfl, ⟨by decide, by decide, ?_⟩, .inl ⟨_, rfl, _, 2147483629, rfl, rfl, (by show (0 : Int) < 2147483629; decide), ?_⟩⟩
          · generalize x % 2147483563 = z at b1 ⊢
            omega
          · dsimp only
            generalize ((x % 2147483563 + 35327 * a + 4793) ^ (5 : Int).toNat) = y
            have b2 := mod_rng (i := y) (j := 2147483629) (by decide)
            generalize y % 2147483629 = z at b2 ⊢
            refine ⟨_, rfl, _, rfl, 2, a, rfl, rfl, .inl ⟨by decide, by decide⟩, _, 4649, rfl, rfl, z, _, rfl, rfl, .inl ⟨by omega, by omega⟩, ?_⟩
            refine ⟨_, rfl, 63281, a, rfl, rfl, .inl ⟨by decide, by decide⟩, _, rfl, _, a, rfl, rfl, .inr ⟨by omega, by omega⟩, _, _, rfl, rfl, _, 35327, rfl, rfl, _, 3, rfl, rfl, ⟨by decide, by decide, ?_⟩, .inl ⟨_, rfl, _, 2147483587, rfl, rfl, (by show (0 : Int) < 2147483587; decide), ?_⟩⟩
            · exact mix_bound ha0 (by omega) b2.1 b2.2
            · dsimp only
              generalize ((z * (2 * a + 4649) + 63281 * a * a + 35327) ^ (3 : Int).toNat) = y2
              refine ⟨_, rfl, _, 64, rfl, rfl, wide_div (b := 10) (by decide) (by decide) (by decide) (by decide), .inl ⟨_, rfl, _, rfl, _, many, rfl, rfl, hp, ?_⟩⟩
              exact k _ _ (mod_rng hp).1 (mod_rng hp).2 ⟨hl, ncd, hd2, a + 1, 0, hc2, by omega, by omega, by decide⟩ sb
        refine ⟨_, rfl, _, rfl, c, _, 0, _, rfl, rfl, .of hc2, atI_nat (j := 0) rfl, ⟨d, ns.map V.int, rfl, .inl (.of hd2), a, _, rfl, rfl, _, rfl, ?_⟩⟩
        by_cases c1 : a < ((ns.map V.int).length : Nat)
        · rw [decide_eq_true c1]
          refine iteT ⟨_, rfl, x, rfl, 10, 18, rfl, rfl, ⟨by decide, by decide, by decide⟩, _, _, rfl, rfl, _, rfl, ?_⟩
          generalize hP : (10 : Int) ^ (18 : Int).toNat = P
          by_cases c2 : P ≤ (if x < 0 then -x else x)
          · rw [decide_eq_true c2]
            refine iteT ⟨_, rfl, x, rfl, 10, 18, rfl, rfl, ⟨by decide, by decide, by decide⟩, _, _, rfl, rfl, 2, _, rfl, rfl, .inl ⟨by decide, by decide⟩, ?_⟩
            rw [hP]
            refine ⟨_, rfl, x, 0, rfl, rfl, .inr ⟨_, rfl, _, _, rfl, rfl, ?_⟩⟩
            dsimp only
            generalize hz : 2 * ((if x < 0 then -x else x) - P) + (if (decide (x < 0)) = true then 1 else 0) = z
            have hz0 : 0 ≤ z := by
              rw [← hz]
              split <;> omega
            refine ⟨_, rfl, .inl ⟨z, rfl, _, rfl, z, many, rfl, rfl, hdiv z, _, rfl, c, _, 2, 2, rfl, rfl, hc2, rfl, ?_⟩⟩
            refine ⟨_, rfl, .inl ⟨z, rfl, _, rfl, z, many, rfl, rfl, hp, ?_⟩⟩
            refine k _ _ (mod_rng hp).1 (mod_rng hp).2 ⟨hl, ncd, (by rw [upd_ne (Ne.symm ncd)]; exact hd2), a + 1, z / many, upd_same, by omega, by omega, qdiv z hz0⟩ fun y o n e => ?_
            rw [upd_ne n]
            exact sb y o n e
          · rw [decide_eq_false c2]
            exact iteF mixed
        · rw [decide_eq_false c1]
          exact iteF mixed
      have sb1 : SameBut c H (upd H c (.lst [.ref d, .int (a + 1), .int 0])) := fun y o n e => by
        rw [upd_ne n]
        exact e
      refine ⟨_, rfl, c, _, 0, _, rfl, rfl, .of (upd_same), atI_nat (j := 0) rfl, ⟨(by show 0 ≤ sizeLine; decide), fun p hp2 => ?_⟩⟩
      have hp2 : (upd H c (.lst [.ref d, .int (a + 1), .int 0])) p = none := hp2
      have npc : p ≠ c := fun e => by
        rw [e, upd_same] at hp2
        cases hp2
      have npd : p ≠ d := fun e => by
        rw [e, hd1] at hp2
        cases hp2
      have hc3 : (upd (upd H c (.lst [.ref d, .int (a + 1), .int 0])) p (.lst [])) c = some (.lst [.ref d, .int (a + 1), .int 0]) := by
        rw [upd_ne (Ne.symm npc), upd_same]
      have hd3 : (upd (upd H c (.lst [.ref d, .int (a + 1), .int 0])) p (.lst [])) d = some (.lst (ns.map V.int)) := by
        rw [upd_ne (Ne.symm npd)]
        exact hd1
      have sb3 : SameBut c H (upd (upd H c (.lst [.ref d, .int (a + 1), .int 0])) p (.lst [])) := fun y o n e => by
        have e1 := sb1 y o n e
        rw [upd_ne (ne_of_none e1 hp2)]
        exact e1
      refine ⟨.list ((ns.map V.int).map toD), .list [], dpL (.of hd3) (flat_ints ns), dpNil (.of upd_same), shapedL (flat_ints ns), shapedNil, _, rfl, ?_⟩
      rw [eqvNil]
      cases hns : (ns.map V.int).isEmpty with
      | true => exact iteF (tail _ _ hc3 hd3 sb3)
      | false =>
        refine iteT ?_
        have hlen : 0 < ns.length := by
          cases ns with
          | nil => cases hns
          | cons n1 nr => exact Nat.succ_pos _
        refine ⟨_, rfl, c, _, 0, _, rfl, rfl, .of hc3, atI_nat (j := 0) rfl, _, rfl, .inl ⟨a, rfl, _, rfl, c, _, 0, _, rfl, rfl, .of hc3, atI_nat (j := 0) rfl, d, ns.map V.int, rfl, .inl (.of hd3), a, _, rfl, rfl, ?_, ?_⟩⟩
        · rw [List.length_map]
          show (0 : Int) < (ns.length : Int)
          omega
        · have hb2 := mod_rng (i := a) (j := ((ns.map V.int).length : Nat)) (by rw [List.length_map]; omega)
          rw [List.length_map] at hb2 ⊢
          dsimp only
          generalize hz : a % (ns.length : Int) = z at hb2 ⊢
          obtain ⟨j, rfl⟩ : ∃ j : Nat, z = (j : Int) := ⟨z.toNat, by omega⟩
          have hj : j < ns.length := by omega
          refine ⟨d, ns.map V.int, _, .int ns[j], rfl, rfl, .of hd3, atI_nat (by simp [hj]), ?_⟩
          exact tail _ _ hc3 hd3 sb3
end
end K0


set_option Elab.async false
set_option linter.all false
set_option maxRecDepth 100000
set_option maxHeartbeats 4000000
set_option exponentiation.threshold 100000
namespace K0
open PySem PySem.Spec PyProof.Rows L2 RZ K0z

theorem Coil.but {H H' : Hp} {c d : Addr} {ns : List Int} {m : Nat} (h : Coil H c d ns m) (s : Same H H') : Coil H' c d ns m := by
  obtain ⟨h1, h2, h3, a, b, h4, r⟩ := h
  exact ⟨h1, h2, s _ _ h3, a, b, s _ _ h4, r⟩
theorem Coil.ne {H : Hp} {c d : Addr} {ns : List Int} {m : Nat} (h : Coil H c d ns m) {p : Addr} (hp : H p = none) : p ≠ c ∧ p ≠ d := by
  obtain ⟨h1, h2, h3, a, b, h4, r⟩ := h
  exact ⟨fun e => (by rw [e, h4] at hp; cases hp), fun e => (by rw [e, h3] at hp; cases hp)⟩
theorem Coil.upd {H : Hp} {p c d : Addr} {o : HO} {ns : List Int} {m : Nat} (h : Coil H c d ns m) (hc : p ≠ c) (hd : p ≠ d) : Coil (upd H p o) c d ns m := by
  obtain ⟨h1, h2, h3, a, b, h4, r⟩ := h
  exact ⟨h1, h2, by rw [upd_ne (Ne.symm hd)]; exact h3, a, b, by rw [upd_ne (Ne.symm hc)]; exact h4, r⟩
theorem Coil.more {H : Hp} {c d : Addr} {ns : List Int} {m m' : Nat} (h : Coil H c d ns m) (l : m ≤ m') : Coil H c d ns m' := by
  obtain ⟨h1, h2, h3, a, b, h4, h5, h6, h7⟩ := h
  exact ⟨h1, h2, h3, a, b, h4, h5, by omega, h7⟩
theorem SameBut.off {c : Addr} {H H' : Hp} (s : SameBut c H H') : Same (Off c H) (Off c H') := same_off s
theorem SameBut.up {c : Addr} {H H' : Hp} (s : SameBut c H H') : Same (Off c H) H' := s.off.trans (off_same c H')
theorem sameBut_of {c : Addr} {H H' : Hp} (s : Same (Off c H) H') : SameBut c H H' := fun b o n e => s b o (by rw [off_ne n]; exact e)
theorem new_but {c : Addr} {H : Hp} {p : Addr} {o : HO} (hp : H p = none) : SameBut c H (upd H p o) := SameBut.of (same_upd hp)
section
variable {P : Program} {w : World} {K : PySem.W.Frag} {mg : Str → Option Value} {base : Heap} {f g g2 g3 : Addr} {fd : FuncData}
def spOne (K : PySem.W.Frag) : Sp := fun vs H Q _ => ∃ (c d : Addr) (ns : List Int) (m : Nat) (b : Bool) (a : Addr) (xs : List V), vs = [.ref c, .ref a] ∧ Coil H c d ns m ∧ m ≤ 100000 ∧ SqB K b (Off c H) a xs ∧ 0 < xs.length ∧ xs.length ≤ 100000 ∧
  ∀ (i : Nat) (y : V) (H' : Hp), xs[i]? = some y → Coil H' c d ns (m + 1) → SameBut c H H' → Q y H'
theorem sc_one_of : FnScope ["slate", "some"] ["slate", "some"] (defScope st__law_one) := ⟨rfl, rfl, rfl, by decide +kernel, rfl, by decide +kernel, by decide +kernel⟩
theorem natAbs_small {n k : Nat} (h : n ≤ 100000) : ((n : Nat) : Int).natAbs < 2 ^ 9000 := by
  have : (100000 : Nat) < 2 ^ 9000 := Nat.lt_of_lt_of_le (by decide : 100000 < 2 ^ 17) (Nat.pow_le_pow_right (by decide) (by decide))
  omega
theorem small9000 {n : Int} (h : n.natAbs < 2 ^ 200) : n.natAbs < 2 ^ 9000 := Nat.lt_of_lt_of_le h (Nat.pow_le_pow_right (by decide) (by decide))
theorem ok_one_of (F : Fun K "_law_one" "_law_one" st__law_one f fd) (T : Nm mg) (D__law_chalk : Dn P w K mg base 1 "_law_chalk" g ["slate", "many"] spTurn) : FnOk P w K mg base CX0 2 f fd ["slate", "some"] (spOne K) := by
  refine F.ok sc_one_of (fun vs H Q E h => ?_) (fun cdv A outer s H vs Q E hr h => ?_)
  · obtain ⟨c, d, ns, m, b, a, xs, rfl, _⟩ := h
    rfl
  · obtain ⟨c, d, ns, m, b, a, xs, rfl, hC, hm, hx, h0, h1, k⟩ := h
    refine ⟨_, (pss_one (ps_ret (pe_ix (ix_K K) (pv 1) (pe_dn D__law_chalk (hr.mono (by decide)) rfl (pa_cons (pv 0) (pa_cons (pe_callB (call_lenK K) (by rfl) T.n_len (by decide +kernel) (pa_cons (pv 1) pa_nil)) pa_nil))) (fun _ _ => rfl)))), ?_⟩
    refine ⟨_, rfl, _, rfl, _, rfl, b, a, xs, rfl, hx.same (off_same c H), c, d, ns, m, (xs.length : Nat), rfl, hC, hm, by omega, natAbs_small (k := 0) h1, fun r H1 r0 r1 hC1 sb => ?_⟩
    obtain ⟨j, rfl⟩ : ∃ j : Nat, r = (j : Int) := ⟨r.toNat, by omega⟩
    have hj : j < xs.length := by omega
    have e := List.getElem?_eq_getElem hj
    exact ⟨b, a, xs, _, _, rfl, rfl, hx.same sb.up, atI_nat e, k j _ H1 e hC1 sb⟩
end
end K0


set_option Elab.async false
set_option linter.all false
set_option maxRecDepth 100000
set_option maxHeartbeats 4000000
namespace K0
open PySem PySem.Spec PyProof.Rows L2 RZ K0z

/-- fixed, at most n - 1 deep: what is no list or tuple stays; a tuple of flat values gives an equal one -/
def spFix (K : PySem.W.Frag) (n : Nat) : Sp := fun vs H Q _ => (0 < n ∧ ∃ v, vs = [v] ∧ Asks K H v false ∧ ∀ H', Same H H' → Q v H') ∨
  (1 < n ∧ ∃ a xs, vs = [.ref a] ∧ H a = some (.tup xs) ∧ xs.length ≤ 100 ∧ (∀ x ∈ xs, ∀ H', Asks K H' x false) ∧ ∀ p H', H p = none → Same H H' → H' p = some (.tup xs) → Q (.ref p) H')
section
variable {P : Program} {w : World} {K : PySem.W.Frag} {mg : Str → Option Value} {base : Heap} {f g : Addr} {fd : FuncData}
theorem sc_fixed : FnScope ["value", "each"] ["value"] (defScope st_fixed) := ⟨rfl, rfl, rfl, by decide +kernel, rfl, by decide +kernel, by decide +kernel⟩
theorem ok_fixed (F : Fun K "fixed" "fixed" st_fixed f fd) (T : Nm mg) (m : mg "fixed" = some (.ref f)) (B : Binds K fd ["value"] []) : ∀ n, FnOk P w K mg base CX0 n f fd ["value"] (spFix K n)
  | 0 => ⟨fun vs H Q E h => by rcases h with ⟨h, _⟩ | ⟨h, _⟩ <;> omega, fun A outer s H args us vs Q E hr e0 hb r h => by rcases h with ⟨h, _⟩ | ⟨h, _⟩ <;> omega⟩
  | n + 1 => by
    have D_fixed : Dn P w K mg base n "fixed" f ["value"] (spFix K n) := ⟨⟨fd, ok_fixed F T m B n, B⟩, m, F.kp⟩
    refine F.ok sc_fixed (fun vs H Q E h => ?_) (fun cdv A outer s H vs Q E hr h => ?_)
    · rcases h with ⟨_, v, rfl, _⟩ | ⟨_, a, xs, rfl, _⟩ <;> rfl
    · refine ⟨_, (pss_cons (ps_if (pt_val (pe_callB (call_isTK K) (by rfl) T.n_isinstance (by decide +kernel) (pa_cons (pv 0) (pa_cons (pe_tup (pa_cons (pe_tyn "list" (by rfl) T.n_list (by decide +kernel)) (pa_cons (pe_tyn "tuple" (by rfl) T.n_tuple (by decide +kernel)) pa_nil))) pa_nil)))) (pss_one (ps_ret (pe_callTy (call_tupK K) (by rfl) T.n_tuple (by decide +kernel) (pa_cons (pe_lc (own := [("each", 1)]) (g := gName 1) (tt := tYes) rfl sc_fixed.nd (pi_seqK K (pv 0)) (blkOk_by (N := ["value", "each"]) (sc := defScope st_fixed) (by decide +kernel)) (fun _ _ _ _ _ => (pg_name (i := 1) sc_fixed.nd rfl (Or.inl rfl))) (fun _ _ _ _ _ => pts_nil) (fun _ _ _ _ _ => (pe_dn D_fixed (hr.mono (Nat.le_refl _)) rfl (pa_cons (pv 1) pa_nil)))) pa_nil)))) pss_nil)
    (pss_one (ps_ret (pv 0)))), ?_⟩
      rcases h with ⟨h0, v, rfl, ha, k⟩ | ⟨h1, a, xs, rfl, ha, hl, hx, k⟩
      · refine ⟨_, rfl, (by show 2 ≤ sizeLine; decide), fun p hp => ?_⟩
        have s1 : Same H (upd H p (.tup [.ty "list", .ty "tuple"])) := same_upd hp
        obtain ⟨t, i, b, ty, _, _, _, hq⟩ := ha.same s1
        exact ⟨v, p, [.ty "list", .ty "tuple"], t, [.type "list", .type "tuple"], false, rfl, upd_same, .cons (.ty _) (.cons (.ty _) .nil), ty, hq, _, rfl, iteF ⟨_, rfl, k _ s1⟩⟩
      · refine ⟨_, rfl, (by show 2 ≤ sizeLine; decide), fun p hp => ?_⟩
        have s1 : Same H (upd H p (.tup [.ty "list", .ty "tuple"])) := same_upd hp
        have z1 : upd H p (.tup [.ty "list", .ty "tuple"]) p = some (.tup [.ty "list", .ty "tuple"]) := upd_same
        generalize upd H p (.tup [.ty "list", .ty "tuple"]) = H1 at s1 z1 ⊢
        have ha1 := s1 _ _ ha
        obtain ⟨t, i, b, ty, _, _, _, hq⟩ := Asks.tup (K := K) ha1
        refine ⟨.ref a, p, [.ty "list", .ty "tuple"], t, [.type "list", .type "tuple"], true, rfl, z1, .cons (.ty _) (.cons (.ty _) .nil), ty, hq, _, rfl, iteT ?_⟩
        refine ⟨_, rfl, true, a, rfl, ⟨_, .of ha1⟩, fun D hD => lc_fun (fun i => xs.getD i .non) (walk_seq (b := true)) hD (Nat.lt_of_le_of_lt hl (by decide)) (fun H s => .of (s _ _ ha1)) ?_ ?_⟩
        · rintro i x H2 H3 hi s2 _ ⟨rfl, hxi⟩ Rk kk
          refine ⟨rfl, _, rfl, .inl ⟨by omega, x, rfl, hx x (List.mem_of_getElem? hxi) _, fun H4 s4 => ?_⟩⟩
          have e := kk H4 s4
          rw [List.getD_eq_getElem?_getD, hxi] at e
          exact e
        · intro H2 hD2 s2
          have e : (List.range xs.length).map (fun i => xs.getD i V.non) = xs := by
            refine List.ext_getElem (by simp) fun i h1 h2 => ?_
            simp [List.getD_eq_getElem?_getD, List.getElem?_eq_getElem h2]
          rw [e] at hD2
          refine ⟨false, D, _, rfl, .of hD2, fun _ l hl2 => ?_, fun z => (by cases z)⟩
          have s12 := s1.trans (s2.trans (same_upd (o := .tup xs) hl2))
          exact k l _ (s1.free (s2.free hl2)) s12 upd_same
end
end K0


set_option Elab.async false
set_option linter.all false
set_option maxRecDepth 100000
set_option maxHeartbeats 4000000
namespace K0
open PySem PySem.Spec PyProof.Rows L2 RZ K0z NdefX

/-! ### papers -/
/-- what the class of papers at C tells -/
structure PapC (K : PySem.W.Frag) (C : Addr) : Prop where
  cl : Cls K C
  nW : NoAttr K C "word"
  nP : NoAttr K C "parts"
def spPI (K : PySem.W.Frag) (C : Addr) : Sp := fun vs H Q _ => ∃ (a dx p : Addr) (fs : List (Str × V)) (wd : Str) (xs : List V), vs = [.ref a, .str wd, .ref p] ∧ H a = some (.ins C dx fs) ∧ fs.length ≤ 100 ∧ H p = some (.tup xs) ∧ xs.length ≤ 100 ∧
  (∀ x ∈ xs, ∀ H', Asks K H' x false) ∧
  ∀ q H', H' a = some (.ins C dx (putF "parts" (.ref q) (putF "word" (.str wd) fs))) → H' q = some (.tup xs) → (∀ b o, b ≠ a → H b = some o → H' b = some o) → Q .non H'
section
variable {P : Program} {w : World} {K : PySem.W.Frag} {mg : Str → Option Value} {base : Heap} {f g C : Addr} {fd : FuncData}
theorem sci_Paper : FnScope ["self", "word", "parts"] ["self", "word", "parts"] (defScope si_Paper) := ⟨rfl, rfl, rfl, by decide +kernel, rfl, by decide +kernel, by decide +kernel⟩
theorem okr_Paper (F : Fun K "__init__" "Paper.__init__" si_Paper f fd) (T : PapC K C) (D_fixed : Dn P w K mg base 2 "fixed" g ["value"] (spFix K 2)) :
    FnR P w K mg base CX0 3 f (fun vs H Q E => ∃ ws rest, vs = ws ++ rest ∧ ws.length = 2 ∧ rest.length ≤ sizeLine ∧ ∀ p, H p = Option.none → spPI K C (ws ++ [V.ref p]) (upd H p (.tup rest)) Q E) := by
  obtain ⟨oc, od, kV, doc, pm, an, cdv, ct, osl, rfl, lk, hcd⟩ := F.ex
  refine StX.fn_star (ps := ["self", "word"]) (pv := "parts") lk hcd sci_Paper StX.cxUp_none (StX.bind_star2 (B := fun us => bindArgs (PySem.W.fnOf "__init__" "Paper.__init__" (defArgs si_Paper) (defBody si_Paper) (defScope si_Paper) .none kV doc pm an cdv ct) ⟨us, []⟩) (p1 := "self") (p2 := "word") (pv := "parts") (fun a b => by rfl) (fun a b r rs => by rfl)) fun A outer s H vs Q E hr h => ?_
  obtain ⟨a, dx, p, fs, wd, xs, rfl, ha, hl, hp, hxl, hx, k⟩ := h
  refine ⟨_, pss_cons (ps_fld (pv 0) (pe_dn D_fixed (hr.mono (by decide)) rfl (pa_cons (pv 1) pa_nil)) rfl) (pss_one (ps_fld (pv 0) (pe_dn D_fixed (hr.mono (by decide)) rfl (pa_cons (pv 2) pa_nil)) rfl)), ?_⟩
  refine ⟨_, rfl, .inl ⟨by decide, .str wd, rfl, Asks.str wd, fun H1 s1 => ⟨_, rfl, a, C, dx, fs, rfl, s1 _ _ ha, T.cl, T.nW, by omega, ?_⟩⟩⟩
  have npa : p ≠ a := ne_of hp ha (by intro z; cases z)
  have hp2 : upd H1 a (.ins C dx (putF "word" (.str wd) fs)) p = some (.tup xs) := by rw [upd_ne npa]; exact s1 _ _ hp
  have ha2 : upd H1 a (.ins C dx (putF "word" (.str wd) fs)) a = some (.ins C dx (putF "word" (.str wd) fs)) := upd_same
  have sb : ∀ b o, b ≠ a → H b = some o → upd H1 a (.ins C dx (putF "word" (.str wd) fs)) b = some o := fun b o n e => by rw [upd_ne n]; exact s1 _ _ e
  have hl2 := length_putF "word" (.str wd) fs
  generalize upd H1 a (.ins C dx (putF "word" (.str wd) fs)) = H2 at hp2 ha2 sb ⊢
  refine ⟨_, rfl, .inr ⟨by decide, p, xs, rfl, hp2, hxl, hx, fun q H3 hq s3 hq3 => ⟨_, rfl, a, C, dx, _, rfl, s3 _ _ ha2, T.cl, T.nP, by omega, ?_⟩⟩⟩
  have nqa : q ≠ a := ne_of hq3 (s3 _ _ ha2) (by intro z; cases z)
  exact k q _ upd_same (by rw [upd_ne nqa]; exact hq3) fun b o n e => by rw [upd_ne n]; exact s3 _ _ (sb b o n e)
end
end K0


set_option Elab.async false
set_option linter.all false
set_option maxRecDepth 100000
set_option maxHeartbeats 8000000
namespace K0
open PySem PySem.Spec PyProof.Rows L2 RZ K0z NdefX

structure PlanC (K : PySem.W.Frag) (C : Addr) : Prop extends PapC K C where
  nD : NoAttr K C "dimension"
  nN : NoAttr K C "points"
  nL : NoAttr K C "length"
  nA : NoAttr K C "above"
/-- a plan of these four numbers stands at a -/
def PlanAt (H : Hp) (a C : Addr) (d p l e : Int) : Prop := ∃ dx q fs, H a = some (.ins C dx fs) ∧ H q = some (.tup [.int d, .int p, .int l, .int e]) ∧ fs.lookup ("word" : Str) = some (V.str "plan") ∧ fs.lookup ("parts" : Str) = some (V.ref q) ∧
  fs.lookup ("dimension" : Str) = some (V.int d) ∧ fs.lookup ("points" : Str) = some (V.int p) ∧ fs.lookup ("length" : Str) = some (V.int l) ∧ fs.lookup ("above" : Str) = some (V.int e)
theorem PlanAt.same {H H' : Hp} {a C : Addr} {d p l e : Int} (h : PlanAt H a C d p l e) (s : Same H H') : PlanAt H' a C d p l e := by
  obtain ⟨dx, q, fs, h1, h2, r⟩ := h
  exact ⟨dx, q, fs, s _ _ h1, s _ _ h2, r⟩
def spPlI (C : Addr) : Sp := fun vs H Q _ => ∃ (a dx : Addr) (d p l e : Int), vs = [.ref a, .int d, .int p, .int l, .int e] ∧ H a = some (.ins C dx []) ∧
  ∀ H', PlanAt H' a C d p l e → (∀ b o, b ≠ a → H b = some o → H' b = some o) → Q .non H'
/-- the program's text, as super() asks it -/
structure SupP (P : Program) (K : PySem.W.Frag) (mg : Str → Option Value) (cda cc C f2 : Addr) : Prop where
  lc : ∃ ccl cdd vs ccs file tf, K.lookup cda = some ⟨ccl, cdd, .fields vs, ccs⟩ ∧ vs[2]? = some (Value.str file tf) ∧ ((P.main.file : Str) == file) = true
  top : (P.main.scope.names.lookup ("super" : Str)).isSome = false
  cell : ∃ cl cld csl, K.lookup cc = some ⟨cl, cld, .cell (some (.ref C)), csl⟩
  cls : ∃ cd, PySem.W.clsIn K C = some cd
  sub : PySem.W.mroIn K C (.ref C) = some true
  sup : mg "super" = none
  opq : PySem.W.nsIn K cStatics "thirdparty.any" = some none
  at_ : PySem.W.ks_superIn K C C "__init__" = some (some (.ref f2))
  ty : PySem.W.typeIn K (.ref f2) = some (.type "function")
  fn : PySem.W.fnIn K f2 = true
abbrev nfPlan (cc cda : Addr) : NF := ⟨"__init__", "Plan.__init__", defArgs si_Plan, defBody si_Plan, defScope si_Plan, [("__class__", cc)], cda⟩
section
variable {P : Program} {w : World} {K : PySem.W.Frag} {mg : Str → Option Value} {base : Heap} {f cc cda C f2 : Addr} {kV doc pm ct oc : Value} {an od : Option Addr} {osl : Array (Option Value)}
theorem nsc_Plan : NScope ["self", "dimension", "points", "length", "above", "__class__"] ["self", "dimension", "points", "length", "above"] ["__class__"] (defScope si_Plan) := nscope_by (by decide +kernel)
theorem look_put {f g : Str} {v : V} {fs : List (Str × V)} (h : g ≠ f) : (putF f v fs).lookup g = fs.lookup g := by rw [lookup_putF, if_neg h]
theorem look_new {f : Str} {v : V} {fs : List (Str × V)} : (putF f v fs).lookup f = some v := by rw [lookup_putF, if_pos rfl]
theorem ok_Plan (lk : K.lookup f = some ⟨oc, od, .func (PySem.W.fnX "__init__" "Plan.__init__" (defArgs si_Plan) (defBody si_Plan) (defScope si_Plan) [("__class__", cc)] .none kV doc pm an (.ref cda) ct), osl⟩) (hcd : PySem.W.codeIn K (.ref cda) "Plan.__init__" = true)
    (T : PlanC K C) (U : SupP P K mg cda cc C f2)
    (FS : FnR P w K mg base CX0 3 f2 (fun vs H Q E => ∃ ws rest, vs = ws ++ rest ∧ ws.length = 2 ∧ rest.length ≤ sizeLine ∧ ∀ p, H p = Option.none → spPI K C (ws ++ [V.ref p]) (upd H p (.tup rest)) Q E)) :
    FnOk P w K mg base CX0 4 f (PySem.W.fnX "__init__" "Plan.__init__" (defArgs si_Plan) (defBody si_Plan) (defScope si_Plan) [("__class__", cc)] .none kV doc pm an (.ref cda) ct) ["self", "dimension", "points", "length", "above"] (spPlI C) := by
  refine fn_sup (F := nfPlan cc cda) (N := ["self", "dimension", "points", "length", "above", "__class__"]) (D := C) (C := C) (f2 := f2) (a0 := "self") (m := "__init__") lk hcd nsc_Plan rfl (fun vs H Q E h => ?_) (fun A outer s H E => ?_) ?_ rfl FS (fun A outer s H vs Q E hr h => ?_)
  · obtain ⟨a, dx, d, p, l, e, rfl, _⟩ := h
    rfl
  · exact ⟨rfl, rfl, rfl, rfl, ⟨_, _, _, _, _, lk, rfl, rfl⟩, rfl, U.lc, U.top, rfl, rfl, U.cell, U.cls, U.sub, U.sup, U.opq, U.at_, U.ty, by decide, U.fn⟩
  · exact ⟨fun L => ⟨_, by rfl⟩, fun L => by rfl, fun L => by rfl, fun L => by rfl, fun L => by rfl⟩
  · obtain ⟨a, dx, d, p, l, e, rfl, ha, k⟩ := h
    refine ⟨a, dx, [], _, _, rfl, ha, pa_cons pe_str (pa_cons (pv 1) (pa_cons (pv 2) (pa_cons (pv 3) (pa_cons (pv 4) pa_nil)))),
      pss_cons (ps_fld (pv 0) (pe_ix (ix_K K) (pe_fld (pv 0) rfl) pe_int (fun _ _ => rfl)) rfl) (pss_cons (ps_fld (pv 0) (pe_ix (ix_K K) (pe_fld (pv 0) rfl) pe_int (fun _ _ => rfl)) rfl) (pss_cons (ps_fld (pv 0) (pe_ix (ix_K K) (pe_fld (pv 0) rfl) pe_int (fun _ _ => rfl)) rfl) (pss_one (ps_fld (pv 0) (pe_ix (ix_K K) (pe_fld (pv 0) rfl) pe_int (fun _ _ => rfl)) rfl)))), fun q hq => ?_⟩
    have naq : a ≠ q := ne_of_none ha hq
    refine ⟨_, rfl, _, rfl, _, rfl, _, rfl, upd_same, [.ref a, .str "plan"], [.int d, .int p, .int l, .int e], rfl, rfl, (by show 4 ≤ sizeLine; decide), fun p1 hp1 => ?_⟩
    have s1 : Same H (upd H q (.met f2 a)) := same_upd hq
    have s2 : Same (upd H q (.met f2 a)) (upd (upd H q (.met f2 a)) p1 (.tup [.int d, .int p, .int l, .int e])) := same_upd hp1
    refine ⟨a, dx, p1, [], "plan", [.int d, .int p, .int l, .int e], rfl, s2 _ _ (s1 _ _ ha), by decide, upd_same, (by show 4 ≤ 100; decide), fun x hx H' => ?_, fun q1 H1 ha1 hq1 sb1 => ?_⟩
    · simp only [List.mem_cons, List.not_mem_nil, or_false] at hx
      rcases hx with rfl | rfl | rfl | rfl <;> exact Asks.int _
    have sb : ∀ b o, b ≠ a → H b = some o → H1 b = some o := fun b o n z => sb1 b o n (s2 _ _ (s1 _ _ z))
    have nqa : q1 ≠ a := ne_of hq1 ha1 (by intro z; cases z)
    obtain ⟨fs1, efs⟩ : ∃ fs1, putF "parts" (V.ref q1) (putF "word" (V.str "plan") []) = fs1 := ⟨_, rfl⟩
    have w1 : fs1.lookup ("word" : Str) = some (V.str "plan") := by rw [← efs]; rfl
    have p1' : fs1.lookup ("parts" : Str) = some (V.ref q1) := by rw [← efs]; rfl
    have l1 : fs1.length ≤ 10 := by
      have e1 := length_putF "parts" (V.ref q1) (putF "word" (V.str "plan") [])
      have e2 := length_putF "word" (V.str "plan") []
      rw [efs] at e1
      have e3 : ([] : List (Str × V)).length = 0 := rfl
      omega
    rw [efs] at ha1
    clear efs sb1 s1 s2 hp1
    -- dimension
    refine ⟨_, rfl, a, C, dx, fs1, _, rfl, ha1, T.cl, T.nP, p1', true, q1, _, 0, _, rfl, rfl, .of hq1, rfl, _, rfl, a, C, dx, fs1, rfl, ha1, T.cl, T.nD, by omega, ?_⟩
    have step : ∀ (H2 : Hp) (fs : List (Str × V)) (nm : Str) (v : V), H2 a = some (.ins C dx fs) → H2 q1 = some (.tup [.int d, .int p, .int l, .int e]) → (∀ b o, b ≠ a → H b = some o → H2 b = some o) →
        upd H2 a (.ins C dx (putF nm v fs)) a = some (.ins C dx (putF nm v fs)) ∧ upd H2 a (.ins C dx (putF nm v fs)) q1 = some (.tup [.int d, .int p, .int l, .int e]) ∧ (∀ b o, b ≠ a → H b = some o → upd H2 a (.ins C dx (putF nm v fs)) b = some o) ∧ (putF nm v fs).length ≤ fs.length + 1 :=
      fun H2 fs nm v h1 h2 h3 => ⟨upd_same, by rw [upd_ne nqa]; exact h2, fun b o n z => by rw [upd_ne n]; exact h3 b o n z, length_putF nm v fs⟩
    obtain ⟨ha2, hq2, sb2, l2⟩ := step H1 fs1 "dimension" (.int d) ha1 hq1 sb
    have w2 : (putF "dimension" (V.int d) fs1).lookup ("word" : Str) = some (V.str "plan") := (look_put (by decide)).trans w1
    have p2 : (putF "dimension" (V.int d) fs1).lookup ("parts" : Str) = some (V.ref q1) := (look_put (by decide)).trans p1'
    have d2 : (putF "dimension" (V.int d) fs1).lookup ("dimension" : Str) = some (V.int d) := look_new
    generalize upd H1 a (.ins C dx (putF "dimension" (V.int d) fs1)) = H2 at ha2 hq2 sb2 ⊢
    generalize putF "dimension" (V.int d) fs1 = fs2 at ha2 l2 w2 p2 d2 ⊢
    -- points
    refine ⟨_, rfl, a, C, dx, fs2, _, rfl, ha2, T.cl, T.nP, p2, true, q1, _, 1, _, rfl, rfl, .of hq2, rfl, _, rfl, a, C, dx, fs2, rfl, ha2, T.cl, T.nN, by omega, ?_⟩
    obtain ⟨ha3, hq3, sb3, l3⟩ := step H2 fs2 "points" (.int p) ha2 hq2 sb2
    have w3 : (putF "points" (V.int p) fs2).lookup ("word" : Str) = some (V.str "plan") := (look_put (by decide)).trans w2
    have p3 : (putF "points" (V.int p) fs2).lookup ("parts" : Str) = some (V.ref q1) := (look_put (by decide)).trans p2
    have d3 : (putF "points" (V.int p) fs2).lookup ("dimension" : Str) = some (V.int d) := (look_put (by decide)).trans d2
    have n3 : (putF "points" (V.int p) fs2).lookup ("points" : Str) = some (V.int p) := look_new
    generalize upd H2 a (.ins C dx (putF "points" (V.int p) fs2)) = H3 at ha3 hq3 sb3 ⊢
    generalize putF "points" (V.int p) fs2 = fs3 at ha3 l3 w3 p3 d3 n3 ⊢
    -- length
    refine ⟨_, rfl, a, C, dx, fs3, _, rfl, ha3, T.cl, T.nP, p3, true, q1, _, 2, _, rfl, rfl, .of hq3, rfl, _, rfl, a, C, dx, fs3, rfl, ha3, T.cl, T.nL, by omega, ?_⟩
    obtain ⟨ha4, hq4, sb4, l4⟩ := step H3 fs3 "length" (.int l) ha3 hq3 sb3
    have w4 : (putF "length" (V.int l) fs3).lookup ("word" : Str) = some (V.str "plan") := (look_put (by decide)).trans w3
    have p4 : (putF "length" (V.int l) fs3).lookup ("parts" : Str) = some (V.ref q1) := (look_put (by decide)).trans p3
    have d4 : (putF "length" (V.int l) fs3).lookup ("dimension" : Str) = some (V.int d) := (look_put (by decide)).trans d3
    have n4 : (putF "length" (V.int l) fs3).lookup ("points" : Str) = some (V.int p) := (look_put (by decide)).trans n3
    have l4' : (putF "length" (V.int l) fs3).lookup ("length" : Str) = some (V.int l) := look_new
    generalize upd H3 a (.ins C dx (putF "length" (V.int l) fs3)) = H4 at ha4 hq4 sb4 ⊢
    generalize putF "length" (V.int l) fs3 = fs4 at ha4 l4 w4 p4 d4 n4 l4' ⊢
    -- above
    refine ⟨_, rfl, a, C, dx, fs4, _, rfl, ha4, T.cl, T.nP, p4, true, q1, _, 3, _, rfl, rfl, .of hq4, rfl, _, rfl, a, C, dx, fs4, rfl, ha4, T.cl, T.nA, by omega, ?_⟩
    obtain ⟨ha5, hq5, sb5, l5⟩ := step H4 fs4 "above" (.int e) ha4 hq4 sb4
    exact k _ ⟨dx, q1, _, ha5, hq5, (look_put (by decide)).trans w4, (look_put (by decide)).trans p4, (look_put (by decide)).trans d4, (look_put (by decide)).trans n4, (look_put (by decide)).trans l4', look_new⟩ sb5
end
end K0


set_option Elab.async false
set_option linter.all false
set_option maxRecDepth 100000
set_option maxHeartbeats 8000000
set_option exponentiation.threshold 100000
namespace K0
open PySem PySem.Spec PyProof.Rows L2 RZ K0z

/-! ### defs that may raise -/
structure DnX (P : Program) (w : World) (K : PySem.W.Frag) (mg : Str → Option Value) (base : Heap) (k : Nat) (x : Str) (f : Addr) (ps : List Str) (sp : Sp) : Prop where
  ex : ∃ fd, FnOk P w K mg base (L2.CX P w) k f fd ps sp ∧ Binds K fd ps []
  mg : mg x = some (.ref f)
  kp : PySem.W.keepIn K (.ref f) = true
structure DnKX (P : Program) (w : World) (K : PySem.W.Frag) (mg : Str → Option Value) (base : Heap) (k : Nat) (x : Str) (f : Addr) (ps ks : List Str) (gV : List V → List V → List V) (sp : Sp) : Prop where
  ex : ∃ fd g, FnOk P w K mg base (L2.CX P w) k f fd ps sp ∧ KBn K fd ps 0 ks g gV
  mg : mg x = some (.ref f)
  kp : PySem.W.keepIn K (.ref f) = true
section
variable {X : Cx} {k : Nat} {f : Addr} {ps ks : List Str} {sp : Sp} {x : Str} {p pos : Pos} {e : Expr} {es : List Expr} {kws : List Keyword} {t tk : TA} {gV : List V → List V → List V}
theorem pe_dnx (D : DnX X.prog X.w X.K X.mg X.base k x f ps sp) (hr : Room k X.A) (hg : Gl X x) (ha : PA X (e :: es) t)
    (hdb : (x == ("__debug__" : Str)) = false := by decide)
    (he : starEach (e :: es) X.env = (false, eval e X.env) :: starEach es X.env := by rfl)
    (hpl : (backTo pos (starEach es X.env)).any (·.1) = false := by rfl) :
    PE X (.Call (.Name x p) (e :: es) [] pos) (tDn sp t) := by
  obtain ⟨⟨fd, F, B⟩, m, kp⟩ := D
  have h := pe_call (p := p) F hr hg m kp B .nil passL ha hdb he hpl
  refine ⟨fun pins s σ H Q I q => h.run pins s σ H Q I ?_⟩
  have e1 : tCall sp [] E0 t σ H Q = tDn sp t σ H Q := by
    show t σ H (fun vs H1 => sp (vs ++ []) H1 Q E0) = _
    simp only [List.append_nil]
    rfl
  rw [e1]
  exact q
theorem pe_dkx (D : DnKX X.prog X.w X.K X.mg X.base k x f ps ks gV sp) (hr : Room k X.A) (hg : Gl X x) (hkw : PK X kws tk)
    (hall : (backToKw pos (keywordEach kws X.env)).all (·.1.isSome) = true := by rfl)
    (hks : (backToKw pos (keywordEach kws X.env)).filterMap (·.1) = ks := by rfl)
    (hdb : (x == ("__debug__" : Str)) = false := by decide)
    (hpl : ((backTo pos (starEach [] X.env)).any (·.1) || (backToKw pos (keywordEach kws X.env)).any (·.1.isNone)) = false := by rfl) :
    PE X (.Call (.Name x p) [] kws pos) (fun σ H Q => tk σ H fun zs H1 => zs.length = ks.length ∧ sp (gV [] zs) H1 Q E0) := by
  obtain ⟨⟨fd, g, F, hb⟩, hm, hk⟩ := D
  refine ⟨fun pins s σ H Q I h => wpAny_Call_Name_kw (ld_glob I hg hm ?_ hdb)⟩
  refine PySem.W.callWith_KW0 (h₀ := X.base) I.ok.mod.kin hk hall
    (thn (hkw.run pos pins s σ H _ I h) ?_) hpl
  rintro ws s2 ⟨zs, H2, I2, rz, l2, q2⟩
  refine ⟨I2.kIn, ?_⟩
  rw [hks]
  exact run_fnN (us := []) (vs := []) F hr hb passL I2 .nil rz rfl l2 q2
end
/-- the def, its code object at c -/
def FunC (K : PySem.W.Frag) (x qual : Str) (st : Stmt) (f : Addr) (fd : FuncData) (c : Addr) : Prop :=
  ∃ (oc : Value) (od : Option Addr) (kV doc pm : Value) (an : Option Addr) (ct : Value) (osl : Array (Option Value)),
    fd = PySem.W.fnOf x qual (defArgs st) (defBody st) (defScope st) .none kV doc pm an (.ref c) ct ∧ K.lookup f = some ⟨oc, od, .func fd, osl⟩ ∧ PySem.W.codeIn K (.ref c) qual = true
theorem Fun_okC {P : Program} {w : World} {K : PySem.W.Frag} {mg : Str → Option Value} {base : Heap}
    {x qual : Str} {st : Stmt} {f c : Addr} {fd : FuncData} {N ps : List Str} {k : Nat} {sp : Sp}
    (F : FunC K x qual st f fd c) (S : FnScope N ps (defScope st))
    (len : ∀ vs H Q E, sp vs H Q E → vs.length = ps.length)
    (hbody : ∀ (A : Around) (outer : List Env) (s : Shared) (H : Hp) (vs : List V) (Q : VK) (E : XK),
      A.guards = some [] → Room k (A.deeper (envOfC qual (defScope st) s.heap.objs.size f (.ref c))) → sp vs H Q E →
      ∃ t, PSs (cxOf CX0 P w K mg base N qual (defScope st) f (.ref c) A outer s H E).nox (defBody st) t ∧
        t { nx := fun _ H' => Q .non H', rt := Q } (start N vs) H) :
    FnG P w K mg base (k + 1) f fd ps sp := by
  obtain ⟨oc, od, kV, doc, pm, an, ct, osl, rfl, lk, hcd⟩ := F
  refine ⟨len, ?_⟩
  intro A outer s H args us vs Q E hg hr e0 hb r hsp
  have kept : ∀ b o, base.get? b = some o → s.heap.get? b = some o := fun b o e => (e0.bs b o e).1
  have KX : K.In s.heap := e0.mod.kin.keeps kept
  have lim : s.heap.NoLimit := e0.mod.nolimit.keeps kept
  refine codeAny_call_function hr.depth (KX _ _ lk) rfl S.co S.gen rfl
    (PySem.W.codeRec_of KX hcd) (hb _ _ _ _ ?_)
  refine wpAny_newFunctionEnv_cells S.kind ?_ ?_
  · rintro ⟨n, v⟩ hy
    cases S.par n (List.of_mem_zip hy).1 with
    | inl q => exact Or.inl q
    | inr q => exact Or.inr ⟨q, PySem.W.cellsFrom_some _ _ _ (Or.inl q)⟩
  · intro env he s1 x
    subst he
    obtain ⟨t, ht', hq⟩ := hbody A outer s H vs Q E hg (hr.deeper _) hsp
    have ht := ht'.nox
    refine ⟨lim.keeps x.toInCall.keep, codeAny_func ?_⟩
    have I := inv_start (CX := CX0) (E := E) (N := N) (cd := .ref c) S hr.hd e0 (len _ _ _ _ hsp) r x
    refine wpAny_mono (ht.run [] s1 (start N vs) H _ I hq) ?_ (fun _ _ z => z)
    intro fl s' hs
    cases fl with
    | ret u =>
      obtain ⟨v, σ', H', J, rv, q⟩ := hs
      exact ⟨v, H', J.os, J.bare, J.base, J.hok, rv, q⟩
    | next =>
      obtain ⟨σ', H', J, q⟩ := hs
      exact ⟨.non, H', J.os, J.bare, J.base, J.hok, rfl, q⟩
    | brk =>
      obtain ⟨_, _, _, q⟩ := hs
      cases q
    | cont =>
      obtain ⟨_, _, _, q⟩ := hs
      cases q
def kw1 : List V → List V → List V := fun _ zs => zs
theorem tabs_upd {T : List (Addr × Str)} {H : Hp} {p : Addr} {o : HO} {xs : List V} (t : LamX.Tabs T H) (h : H p = some (.lst xs)) : LamX.Tabs T (upd H p o) := by
  intro q hq
  obtain ⟨ps, h1, h2, h3⟩ := t q hq
  refine ⟨ps, ?_, h2, fun pos cv hc => ?_⟩
  · rw [upd_ne (fun e => by rw [e, h] at h1; cases h1)]
    exact h1
  · obtain ⟨c', e1, e2⟩ := h3 pos cv hc
    refine ⟨c', e1, ?_⟩
    rw [upd_ne (fun e => by rw [e, h] at e2; cases e2)]
    exact e2
def SBN (c : Addr) (H H' : Hp) : Prop := ∀ b o, b ≠ c → H b = some o → (∀ ps, o ≠ .tbl ps) → H' b = some o
theorem SBN.of {c : Addr} {H H' : Hp} (s : SameBut c H H') : SBN c H H' := fun b o n e _ => s b o n e
theorem SBN.ext {c : Addr} {H H' : Hp} (s : LamX.ExtN H H') : SBN c H H' := fun b o _ e q => s b o e q
theorem SBN.trans {c : Addr} {H H1 H2 : Hp} (a : SBN c H H1) (b : SBN c H1 H2) : SBN c H H2 := fun x o n e q => b x o n (a x o n e q) q
theorem Coil.ext {H H' : Hp} {c d : Addr} {ns : List Int} {m : Nat} (h : Coil H c d ns m) (s : LamX.ExtN H H') : Coil H' c d ns m := by
  obtain ⟨h1, h2, h3, a, b, h4, r⟩ := h
  exact ⟨h1, h2, s _ _ h3 (by intro ps e; cases e), a, b, s _ _ h4 (by intro ps e; cases e), r⟩
theorem tabs_but {T : List (Addr × Str)} {H H' : Hp} {c d : Addr} {ns : List Int} {m : Nat} (t : LamX.Tabs T H) (hC : Coil H c d ns m) (s : SameBut c H H') : LamX.Tabs T H' := by
  obtain ⟨_, _, _, a, b, h4, _⟩ := hC
  intro p hp
  obtain ⟨ps, h1, h2, h3⟩ := t p hp
  refine ⟨ps, s _ _ (fun e => by rw [e, h4] at h1; cases h1) h1, h2, fun pos cv hc => ?_⟩
  obtain ⟨c', e1, e2⟩ := h3 pos cv hc
  exact ⟨c', e1, s _ _ (fun e => by rw [e, h4] at e2; cases e2) e2⟩
end K0


set_option Elab.async false
set_option linter.all false
set_option maxRecDepth 100000
set_option maxHeartbeats 8000000
namespace K0
open PySem PySem.Spec PyProof.Rows L2 RZ K0z NdefX

/-! ### alike -/
theorem eqvT_ints (ns ms : List Int) : PyData.eqv (.tuple ((ns.map V.int).map toD)) (.tuple ((ms.map V.int).map toD)) = decide (ns = ms) := by
  rw [← eqv_ints]; rfl
theorem dpT {K : PySem.W.Frag} {H : Hp} {a : Addr} {xs : List V} (h : SqT K H a xs) (f : xs.all flat = true) : Dp K H (.ref a) (.tuple (xs.map toD)) := .tup h (dpAllF f)
theorem shapedT {xs : List V} (h : xs.all flat = true) : SeqAt.shaped (.tuple (xs.map toD)) = true := by
  have := shapedL h
  exact this
/-- one is a plan; other a plan, or a tuple -/
def spAlike (C : Addr) : Sp := fun vs H Q _ => ∃ (a : Addr) (d p l e : Int) (y : V), vs = [.ref a, y] ∧ PlanAt H a C d p l e ∧
  ((∃ (b : Addr) (d' p' l' e' : Int), y = .ref b ∧ PlanAt H b C d' p' l' e' ∧ Q (.bl (decide ([d, p, l, e] = [d', p', l', e']))) H) ∨ (∃ (b : Addr) (xs : List V), y = .ref b ∧ H b = some (.tup xs) ∧ Q (.bl false) H))
section
variable {P : Program} {w : World} {K : PySem.W.Frag} {mg : Str → Option Value} {base : Heap} {f g C : Addr} {fd : FuncData}
theorem sc_alike : FnScope ["one", "other"] ["one", "other"] (defScope st__are_alike) := ⟨rfl, rfl, rfl, by decide +kernel, rfl, by decide +kernel, by decide +kernel⟩
theorem ok_alike (F : Fun K "_are_alike" "_are_alike" st__are_alike f fd) (T : Nm mg) (U : PlanC K C) : FnOk P w K mg base CX0 1 f fd ["one", "other"] (spAlike C) := by
  refine F.ok sc_alike (fun vs H Q E h => ?_) (fun cdv A outer s H vs Q E hr h => ?_)
  · obtain ⟨a, d, p, l, e, y, rfl, _⟩ := h
    rfl
  · obtain ⟨a, d, p, l, e, y, rfl, hP, h⟩ := h
    refine ⟨_, (pss_one (ps_ret (pe_and (pe_cmpR op_isC (pe_callTy cr_typeI (by rfl) T.n_type (by decide +kernel) (pa_cons (pv 0) pa_nil)) (pe_callTy cr_typeI (by rfl) T.n_type (by decide +kernel) (pa_cons (pv 1) pa_nil)) (nomark _)) (pe_and (pe_cmpR op_eq (pe_fld (pv 0) rfl) (pe_fld (pv 1) rfl) (nomark _)) (pe_one (pe_cmpR (op_eqD hr.units) (pe_fld (pv 0) rfl) (pe_fld (pv 1) rfl) (nomark _))))))), ?_⟩
    obtain ⟨dx, q, fs, ha, hq, hw, hp, _⟩ := hP
    rcases h with ⟨b, d', p', l', e', rfl, hP', k⟩ | ⟨b, xs, rfl, hb, k⟩
    · obtain ⟨dy, q', gs, hb, hq', hw', hp', _⟩ := hP'
      refine ⟨_, rfl, a, rfl, .inl ⟨C, dx, fs, ha, _, rfl, b, rfl, .inl ⟨C, dy, gs, hb, C, rfl, .inl ⟨rfl, ?_⟩⟩⟩⟩
      refine ⟨_, rfl, iteT ?_⟩
      refine ⟨_, rfl, a, C, dx, fs, _, rfl, ha, U.cl, U.nW, hw, _, rfl, b, C, dy, gs, _, rfl, hb, U.cl, U.nW, hw', rfl, ?_⟩
      refine ⟨_, rfl, ?_⟩
      rw [decide_eq_true rfl]
      refine iteT ?_
      refine ⟨_, rfl, a, C, dx, fs, _, rfl, ha, U.cl, U.nP, hp, _, rfl, b, C, dy, gs, _, rfl, hb, U.cl, U.nP, hp', ?_⟩
      have f1 : ([V.int d, V.int p, V.int l, V.int e]).all flat = true := flat_ints [d, p, l, e]
      have f2 : ([V.int d', V.int p', V.int l', V.int e']).all flat = true := flat_ints [d', p', l', e']
      refine ⟨_, _, dpT (.of hq) f1, dpT (.of hq') f2, shapedT f1, shapedT f2, ?_⟩
      have ee := eqvT_ints [d, p, l, e] [d', p', l', e']
      show Q (.bl (PyData.eqv (.tuple (([d, p, l, e].map V.int).map toD)) (.tuple (([d', p', l', e'].map V.int).map toD)))) H
      rw [ee]
      exact k
    · refine ⟨_, rfl, a, rfl, .inl ⟨C, dx, fs, ha, _, rfl, b, rfl, .inr ⟨xs, hb, C, rfl, .inr ⟨_, rfl, ?_⟩⟩⟩⟩
      exact ⟨_, rfl, iteF k⟩
theorem sc_peq : FnScope ["self", "other"] ["self", "other"] (defScope se_Paper) := ⟨rfl, rfl, rfl, by decide +kernel, rfl, by decide +kernel, by decide +kernel⟩
theorem ok_peq (F : Fun K "__eq__" "Paper.__eq__" se_Paper f fd) (D__are_alike : Dn P w K mg base 1 "_are_alike" g ["one", "other"] (spAlike C)) : FnOk P w K mg base CX0 2 f fd ["self", "other"] (spAlike C) := by
  refine F.ok sc_peq (fun vs H Q E h => ?_) (fun cdv A outer s H vs Q E hr h => ?_)
  · obtain ⟨a, d, p, l, e, y, rfl, _⟩ := h
    rfl
  · obtain ⟨a, d, p, l, e, y, rfl, h⟩ := h
    refine ⟨_, (pss_one (ps_ret (pe_dn D__are_alike (hr.mono (by decide)) rfl (pa_cons (pv 0) (pa_cons (pv 1) pa_nil))))), ?_⟩
    exact ⟨_, rfl, _, rfl, a, d, p, l, e, y, rfl, h⟩
end

/-! ### plans made -/
/-- the class of plans stands at C -/
structure PlanD (P : Program) (w : World) (K : PySem.W.Frag) (mg : Str → Option Value) (base : Heap) (C : Addr) : Prop where
  ex : ∃ fI fd, Mk K C fI ∧ FnOk P w K mg base CX0 4 fI fd ["self", "dimension", "points", "length", "above"] (spPlI C) ∧ Binds K fd ["self", "dimension", "points", "length", "above"] []
  mg : mg "Plan" = some (.ref C)
theorem plan_way {C : Addr} {H1 : Hp} {Q : VK} {d p l e : Int} (k : ∀ a H2, H1 a = none → PlanAt H2 a C d p l e → Same H1 H2 → Q (.ref a) H2) :
    ∀ x dx, H1 x = none → H1 dx = none → dx ≠ x → spPlI C (.ref x :: ([V.int d, .int p, .int l, .int e] ++ [])) (upd (upd H1 dx (.own x)) x (.ins C dx [])) (fun v H2 => v = .non ∧ Q (.ref x) H2) E0 := by
  intro x dx hx hdx ndx
  refine ⟨x, dx, d, p, l, e, rfl, upd_same, fun H2 hP sb => ⟨rfl, k x H2 hx hP fun b o hb => ?_⟩⟩
  have nbx : b ≠ x := ne_of_none hb hx
  refine sb b o nbx ?_
  rw [upd_ne nbx, upd_ne (ne_of_none hb hdx)]
  exact hb
theorem pe_plan {X : Cx} {C : Addr} {p pos : Pos} {e : Expr} {es : List Expr} {t : TA} (D : PlanD X.prog X.w X.K X.mg X.base C) (hr : Room 5 X.A) (hg : Gl X "Plan") (ha : PA X (e :: es) t)
    (he : starEach (e :: es) X.env = (false, eval e X.env) :: starEach es X.env := by rfl) (hpl : (backTo pos (starEach es X.env)).any (·.1) = false := by rfl) :
    PE X (.Call (.Name "Plan" p) (e :: es) [] pos) (tMake C (spPlI C) [] E0 t) := by
  obtain ⟨fI, fd, M, F, B⟩ := D.ex
  exact pe_make (p := p) (pos := pos) M F hr hg D.mg B .nil pass0 ha (by decide) he hpl
end K0


set_option Elab.async false
set_option linter.all false
set_option maxRecDepth 100000
set_option maxHeartbeats 8000000
namespace K0
open PySem PySem.Spec PyProof.Rows L2 RZ K0z NdefX

def raisesN (CB : Addr) (nm : Str) (H : Hp) (E : XK) : Prop := ∀ (dd : Addr) (H' : Hp), H dd = none → H' dd = some (.xd (fs1 "part" [.str nm])) → Same H H' → E (.ref CB) (some dd) H'
theorem raisesN.same {CB : Addr} {nm : Str} {H H' : Hp} {E : XK} (h : raisesN CB nm H E) (s : Same H H') : raisesN CB nm H' E := fun dd H2 h1 h2 s2 => h dd H2 (s.free h1) h2 (s.trans s2)
def spPlan (K : PySem.W.Frag) (CB C : Addr) : Sp := fun vs H Q E => ∃ (vd vp vl : V) (qd qp ql : Bool), vs = [vd, vp, vl] ∧ Asks K H vd qd ∧ Asks K H vp qp ∧ Asks K H vl ql ∧
  (within vd (.int 2) .non = false → raisesN CB "dimension" H E) ∧
  (∀ d, vd = .int d → 2 ≤ d → (within vp (.int (2 * d)) .non = false → raisesN CB "points" H E) ∧
    ∀ p, vp = .int p → 2 * d ≤ p → (within vl (.int 2) .non = false → raisesN CB "length" H E) ∧
      ∀ l, vl = .int l → 2 ≤ l → ∀ a H', H a = none → PlanAt H' a C (p - d) (2 * (p - d)) (l + p - 2 * d) (l - d) → Same H H' → Q (.ref a) H')
theorem within_int {v : V} {k : Int} (h : within v (.int k) .non = true) : ∃ n, v = .int n ∧ k ≤ n := by
  cases v with
  | int n =>
    refine ⟨n, rfl, ?_⟩
    have h' : (decide (k ≤ n) && true) = true := h
    simpa using h'
  | _ => cases h
theorem within_yes {n k : Int} (h : k ≤ n) : within (.int n) (.int k) .non = true := by
  show (decide (k ≤ n) && true) = true
  simpa using h
section
variable {P : Program} {w : World} {K : PySem.W.Frag} {mg : Str → Option Value} {base : Heap} {f g C CB : Addr} {fd : FuncData}
theorem sc_plan : FnScope ["dimension", "points", "length", "reached"] ["dimension", "points", "length"] (defScope st_plan) := ⟨rfl, rfl, rfl, by decide +kernel, rfl, by decide +kernel, by decide +kernel⟩
theorem ok_plan (F : Fun K "plan" "plan" st_plan f fd) (T : Nm mg) (D_is_within : Dn P w K mg base 2 "is_within" g ["value", "least", "most"] (spWithin K)) (R_BadNumber : RaiseC P w K mg base "BadNumber" CB "part") (D_Plan : PlanD P w K mg base C) :
    FnOk P w K mg base (L2.CX P w) 6 f fd ["dimension", "points", "length"] (spPlan K CB C) := by
  refine F.okX sc_plan (fun vs H Q E h => ?_) (fun cdv A outer s H vs Q E hr h => ?_)
  · obtain ⟨vd, vp, vl, _, _, _, rfl, _⟩ := h
    rfl
  · obtain ⟨vd, vp, vl, qd, qp, ql, rfl, ad, ap, al, k1, k2⟩ := h
    refine ⟨_, (pss_cons (ps_if (pt_not (pt_val (pe_dn D_is_within (hr.mono (by decide)) rfl (pa_cons (pv 0) (pa_cons (pe_cint (by rfl) T.c_LEAST) (pa_cons pe_non pa_nil)))))) (pss_one (ps_raise rfl (takes_of rfl rfl rfl rfl) (pmk_c R_BadNumber (hr.mono (by decide)) rfl (pa_cons pe_str pa_nil)))) pss_nil)
    (pss_cons (ps_if (pt_not (pt_val (pe_dn D_is_within (hr.mono (by decide)) rfl (pa_cons (pv 1) (pa_cons (pe_op op_mul pe_int (pv 0)) (pa_cons pe_non pa_nil)))))) (pss_one (ps_raise rfl (takes_of rfl rfl rfl rfl) (pmk_c R_BadNumber (hr.mono (by decide)) rfl (pa_cons pe_str pa_nil)))) pss_nil)
    (pss_cons (ps_if (pt_not (pt_val (pe_dn D_is_within (hr.mono (by decide)) rfl (pa_cons (pv 2) (pa_cons (pe_cint (by rfl) T.c_LEAST) (pa_cons pe_non pa_nil)))))) (pss_one (ps_raise rfl (takes_of rfl rfl rfl rfl) (pmk_c R_BadNumber (hr.mono (by decide)) rfl (pa_cons pe_str pa_nil)))) pss_nil)
    (pss_cons (ps_set (i := 3) sc_plan.nd rfl (Or.inl rfl) (pe_op op_sub (pv 1) (pv 0)))
    (pss_one (ps_ret (pe_plan D_Plan (hr.mono (by decide)) rfl (pa_cons (pv 3) (pa_cons (pe_op op_mul pe_int (pv 3)) (pa_cons (pe_op op_sub (pe_op op_add (pv 2) (pv 1)) (pe_op op_mul pe_int (pv 0))) (pa_cons (pe_op op_sub (pv 2) (pv 0)) pa_nil))))))))))), ?_⟩
    refine ⟨_, rfl, vd, .int 2, .non, qd, rfl, ad, .inr ⟨2, rfl⟩, .inl rfl, fun H1 s1 => ⟨_, rfl, ?_⟩⟩
    cases cd : within vd (.int 2) .non with
    | false => exact iteT (fun dd H' h1 h2 s2 => (k1 cd).same s1 dd H' h1 h2 s2)
    | true =>
      obtain ⟨d, rfl, d2⟩ := within_int cd
      obtain ⟨k3, k4⟩ := k2 d rfl d2
      refine iteF ⟨_, rfl, _, rfl, 2, d, rfl, rfl, .inl ⟨by decide, by decide⟩, vp, .int (2 * d), .non, qp, rfl, ap.same s1, .inr ⟨2 * d, rfl⟩, .inl rfl, fun H2 s2 => ⟨_, rfl, ?_⟩⟩
      have s12 := s1.trans s2
      cases cp : within vp (.int (2 * d)) .non with
      | false => exact iteT (fun dd H' h1 h2 s3 => (k3 cp).same s12 dd H' h1 h2 s3)
      | true =>
        obtain ⟨p, rfl, p2⟩ := within_int cp
        obtain ⟨k5, k6⟩ := k4 p rfl p2
        refine iteF ⟨_, rfl, vl, .int 2, .non, ql, rfl, al.same s12, .inr ⟨2, rfl⟩, .inl rfl, fun H3 s3 => ⟨_, rfl, ?_⟩⟩
        have s13 := s12.trans s3
        cases cl : within vl (.int 2) .non with
        | false => exact iteT (fun dd H' h1 h2 s4 => (k5 cl).same s13 dd H' h1 h2 s4)
        | true =>
          obtain ⟨l, rfl, l2⟩ := within_int cl
          refine iteF ⟨_, rfl, _, rfl, p, d, rfl, rfl, ?_⟩
          refine ⟨_, rfl, _, rfl, 2, _, rfl, rfl, .inl ⟨by decide, by decide⟩, _, rfl, _, rfl, _, _, rfl, rfl, _, rfl, 2, _, rfl, rfl, .inl ⟨by decide, by decide⟩, _, _, rfl, rfl, _, rfl, _, rfl, _, _, rfl, rfl, ?_⟩
          exact plan_way fun a H' ha hP s => k6 l rfl l2 a H' (s13.free ha) hP (s13.trans s)
end
end K0


set_option Elab.async false
set_option linter.all false
set_option maxRecDepth 100000
set_option maxHeartbeats 8000000
set_option exponentiation.threshold 100000
namespace K0
open PySem PySem.Spec PyProof.Rows L2 RZ K0z NdefX

structure ShN (B k : Nat) (d : PyData) : Prop where
  sh : d.showable = true
  dp : d.depth ≤ k
  ln : d.shown.length ≤ B
theorem ShN.short {B k : Nat} {d : PyData} (h : ShN B k d) (hB : B ≤ 1000000) (hk : k ≤ 20) : Short d := ⟨h.sh, Nat.le_trans h.dp hk, Nat.le_trans h.ln hB⟩
theorem ShN.more {B B' k k' : Nat} {d : PyData} (h : ShN B k d) (hB : B ≤ B') (hk : k ≤ k') : ShN B' k' d := ⟨h.sh, Nat.le_trans h.dp hk, Nat.le_trans h.ln hB⟩
theorem shN_none : ShN 100 0 .none := ⟨rfl, by decide, by simp only [PyData.shown]; decide⟩
theorem shN_bool (b : Bool) : ShN 100 0 (.bool b) := ⟨rfl, by simp [PyData.depth], by simp only [PyData.shown]; cases b <;> decide⟩
theorem shN_d0 : ShN 100 1 (.dict []) := ⟨rfl, by decide, by simp only [PyData.shown, PyData.shownKv]; decide⟩
theorem int_shown_len {n : Int} (h : n.natAbs < 10 ^ 60) : (PyData.int n).shown.length ≤ 61 := by
  have e := int_text_length_le10 (k := 60) (by decide) h
  simp only [PyData.shown]
  rw [PySem.ofString_length]
  omega
theorem lt60 {n : Int} (h : n.natAbs < 2 ^ 85) : n.natAbs < 10 ^ 60 := Nat.lt_trans h (by decide)
theorem shN_int {n : Int} (h : n.natAbs < 2 ^ 85) : ShN 100 0 (.int n) := by
  have h2 : n.natAbs.log2 < 1920 := by
    have e := PySem.Flt.log2_lt_of (by decide : 0 < 85) h
    omega
  exact ⟨by simpa [PyData.showable] using h2, by simp [PyData.depth], Nat.le_trans (int_shown_len (lt60 h)) (by decide)⟩
theorem shN_list {ds : List PyData} {B k n : Nat} (hn : ds.length ≤ n) (h : ∀ d ∈ ds, ShN B k d) : ShN (n * (B + 2) + 3) (k + 1) (.list ds) ∧ ShN (n * (B + 2) + 3) (k + 1) (.tuple ds) := by
  have a1 : PyData.showableAll ds = true := by
    clear hn
    induction ds with
    | nil => rfl
    | cons d ds ih =>
      simp only [PyData.showableAll, Bool.and_eq_true]
      exact ⟨(h d List.mem_cons_self).sh, ih fun d hd => h d (List.mem_cons_of_mem _ hd)⟩
  have a2 : PyData.depthAll ds ≤ k := by
    clear hn a1
    induction ds with
    | nil => exact Nat.zero_le _
    | cons d ds ih =>
      simp only [PyData.depthAll]
      exact Nat.max_le.mpr ⟨(h d List.mem_cons_self).dp, ih fun d hd => h d (List.mem_cons_of_mem _ hd)⟩
  have a3 : ((PyData.shownAll ds).map (·.length)).sum + 2 * (PyData.shownAll ds).length ≤ ds.length * (B + 2) := by
    clear hn a1 a2
    induction ds with
    | nil => simp [PyData.shownAll]
    | cons d ds ih =>
      have := ih fun d hd => h d (List.mem_cons_of_mem _ hd)
      have := (h d List.mem_cons_self).ln
      simp only [PyData.shownAll, List.map_cons, List.sum_cons, List.length_cons, Nat.succ_mul]
      omega
  have a4 : ds.length * (B + 2) ≤ n * (B + 2) := Nat.mul_le_mul_right _ hn
  have l1 := listText_len_le (PyData.shownAll ds)
  have l2 := tupleText_len_le (PyData.shownAll ds)
  exact ⟨⟨by simpa only [PyData.showable] using a1, by simp only [PyData.depth]; omega, by simp only [PyData.shown]; omega⟩, ⟨by simpa only [PyData.showable] using a1, by simp only [PyData.depth]; omega, by simp only [PyData.shown]; omega⟩⟩
theorem wide_int {n : Int} (h : n.natAbs < 2 ^ 900) : ShN 300 0 (.int n) := by
  have h2 : n.natAbs.log2 < 1920 := by
    have e := PySem.Flt.log2_lt_of (by decide : 0 < 900) h
    omega
  refine ⟨by simpa [PyData.showable] using h2, by simp [PyData.depth], ?_⟩
  have e := int_text_length_le10 (k := 280) (by decide) (Nat.lt_of_lt_of_le h (by decide) : n.natAbs < 10 ^ 280)
  simp only [PyData.shown]
  rw [PySem.ofString_length]
  omega
theorem Fun_okN {P : Program} {w : World} {K : PySem.W.Frag} {mg : Str → Option Value} {base : Heap}
    {x qual : Str} {st : Stmt} {f : Addr} {fd : FuncData} {N ps : List Str} {k : Nat} {sp : Sp}
    (F : Fun K x qual st f fd) (S : FnScope N ps (defScope st))
    (len : ∀ vs H Q E, sp vs H Q E → vs.length = ps.length)
    (hbody : ∀ (cdv : Value) (A : Around) (outer : List Env) (s : Shared) (H : Hp) (vs : List V) (Q : VK) (E : XK),
      A.guards = some [] → Room k (A.deeper (envOfC qual (defScope st) s.heap.objs.size f cdv)) → sp vs H Q E →
      ∃ t, PSs (cxOf CX0 P w K mg base N qual (defScope st) f cdv A outer s H E).nox (defBody st) t ∧
        t { nx := fun _ H' => Q .non H', rt := Q } (start N vs) H) :
    FnG P w K mg base (k + 1) f fd ps sp :=
  Fun_okG F S len fun cdv A outer s H vs Q E hg hr h => let ⟨t, ht, q⟩ := hbody cdv A outer s H vs Q E hg hr h; ⟨t, ht.nox, q⟩

theorem four_shown {K : PySem.W.Frag} {H : Hp} {p : Addr} {a b c d : Int} (hp : H p = some (.tup [.int a, .int b, .int c, .int d])) (ha : a.natAbs < 2 ^ 900) (hb : b.natAbs < 2 ^ 900) (hc : c.natAbs < 2 ^ 900) (hd : d.natAbs < 2 ^ 900) :
    It K H (.ref p) (.tuple [.int a, .int b, .int c, .int d]) ∧ Short (.tuple [.int a, .int b, .int c, .int d]) := by
  refine ⟨.dp (.tup (.of hp) (.cons (.int a) (.cons (.int b) (.cons (.int c) (.cons (.int d) .nil))))) (by simp only [PyData.hasDict, PyData.hasDictAll, Bool.or_false]), ?_⟩
  refine (shN_list (n := 4) (B := 300) (k := 0) (ds := [.int a, .int b, .int c, .int d]) (by simp) fun x hx => ?_).2.short (by decide) (by decide)
  simp only [List.mem_cons, List.not_mem_nil, or_false] at hx
  rcases hx with rfl | rfl | rfl | rfl
  · exact wide_int ha
  · exact wide_int hb
  · exact wide_int hc
  · exact wide_int hd
/-- what isinstance, bool tell of a plan -/
structure PlanI (K : PySem.W.Frag) (C DN : Addr) : Prop where
  cl : Cls K C
  ha : PySem.W.findIn K (.ref C) "__class__" = some (some (.builtin "object.__class__"))
  hn : PySem.W.specialIn K (.builtin "object.__class__") "__get__" = some (some (.builtin "getset_descriptor.__get__"))
  ht : PySem.W.takesIn K (.builtin "object.__class__") = some true
  hm : PySem.W.mroIn K C (.type "object") = some true
  kp : PySem.W.kitOne K (.ref C) (.ref C) = some true
  kd : PySem.W.kitOne K (.ref C) (.ref DN) = some false
  bo : PySem.W.findIn K (.ref C) "__bool__" = some none
  le : PySem.W.findIn K (.ref C) "__len__" = some none
theorem PlanI.ty {K : PySem.W.Frag} {C DN a dx : Addr} {fs : List (Str × V)} {H : Hp} (T : PlanI K C DN) (h : H a = some (.ins C dx fs)) : TyE K H (.ref a) (.ref C) := .base (.base (.ins h T.cl T.ha T.hn T.ht T.hm))
def spDue (K : PySem.W.Frag) (C : Addr) : Sp := fun vs H Q _ => ∃ (a t : Addr) (d p l e : Int), vs = [.ref a, .ref t] ∧ PlanAt H a C d p l e ∧ H t = some (.tup [.int d, .int p, .int l, .int e]) ∧ d.natAbs < 2 ^ 900 ∧ p.natAbs < 2 ^ 900 ∧ l.natAbs < 2 ^ 900 ∧ e.natAbs < 2 ^ 900 ∧
  ∀ H', Same H H' → Q (.bl true) H'
section
variable {P : Program} {w : World} {K : PySem.W.Frag} {mg : Str → Option Value} {base : Heap} {f g C DN : Addr} {fd : FuncData}
theorem sc_due : FnScope ["told", "due"] ["told", "due"] (defScope st__law_is_due) := ⟨rfl, rfl, rfl, by decide +kernel, rfl, by decide +kernel, by decide +kernel⟩
theorem ok_due (F : Fun K "_law_is_due" "_law_is_due" st__law_is_due f fd) (T : Nm mg) (U : PlanC K C) (I : PlanI K C DN) (mP : mg "Plan" = some (.ref C)) (mD : mg "Denial" = some (.ref DN)) : FnG P w K mg base 1 f fd ["told", "due"] (spDue K C) := by
  refine Fun_okN F sc_due (fun vs H Q E h => ?_) (fun cdv A outer s H vs Q E hG hr h => ?_)
  · obtain ⟨a, t, d, p, l, e, rfl, _⟩ := h
    rfl
  · obtain ⟨a, t, d, p, l, e, rfl, hP, ht, bd, bp, bl, be, k⟩ := h
    refine ⟨_, (pss_cons (ps_if (PW.pt (pw_or (pt_not (pt_val (pe_callB (call_isAK K) (by rfl) T.n_isinstance (by decide +kernel) (pa_cons (pv 0) (pa_cons (pe_glob (v := .ref C) (by rfl) mP rfl (by decide)) pa_nil))))) (pw_or (pt_val (pe_callB (call_isAK K) (by rfl) T.n_isinstance (by decide +kernel) (pa_cons (pv 0) (pa_cons (pe_glob (v := .ref DN) (by rfl) mD rfl (by decide)) pa_nil)))) (pw_or (pt_cmpR op_notBl (pe_callTy call_boolI (by rfl) T.n_bool (by decide +kernel) (pa_cons (pv 0) pa_nil)) pe_bl (nomark _)) (pw_or1 (pt_cmpR op_ne (pe_fld (pv 0) rfl) pe_str (nomark _))))))) (pss_one (ps_ret pe_bl)) pss_nil)
    (pss_one (ps_ret (pe_and (pe_cmpR op_eq (pe_callB (call_repr hG hr.units) (by rfl) T.n_repr (by decide +kernel) (pa_cons (pe_fld (pv 0) rfl) pa_nil)) (pe_callB (call_repr hG hr.units) (by rfl) T.n_repr (by decide +kernel) (pa_cons (pv 1) pa_nil)) (nomark _)) (pe_one (pe_cmpR op_eq (pe_callB (call_repr hG hr.units) (by rfl) T.n_repr (by decide +kernel) (pa_cons (pe_tup (pa_cons (pe_fld (pv 0) rfl) (pa_cons (pe_fld (pv 0) rfl) (pa_cons (pe_fld (pv 0) rfl) (pa_cons (pe_fld (pv 0) rfl) pa_nil))))) pa_nil)) (pe_callB (call_repr hG hr.units) (by rfl) T.n_repr (by decide +kernel) (pa_cons (pv 1) pa_nil)) (nomark _))))))), ?_⟩
    obtain ⟨dx, q, fs, ha, hq, hw, hp, hd, hn, hl, he⟩ := hP
    refine ⟨_, rfl, .ref a, .ref C, .ref C, .ref C, true, rfl, .own C, I.ty ha, I.kp, _, rfl, ?_⟩
    refine iteF ⟨_, rfl, .ref a, .ref DN, .ref C, .ref DN, false, rfl, .own DN, I.ty ha, I.kd, _, rfl, ?_⟩
    refine iteF ⟨_, rfl, a, C, dx, fs, rfl, ha, I.bo, I.le, true, true, rfl, rfl, _, rfl, ?_⟩
    refine iteF ⟨_, rfl, a, C, dx, fs, _, rfl, ha, U.cl, U.nW, hw, rfl, _, rfl, ?_⟩
    rw [decide_eq_true rfl]
    refine iteF ?_
    have sh1 := four_shown (K := K) hq bd bp bl be
    have sh2 := four_shown (K := K) ht bd bp bl be
    refine ⟨_, rfl, a, C, dx, fs, _, rfl, ha, U.cl, U.nP, hp, _, _, rfl, sh1.1, sh1.2, _, rfl, _, _, rfl, sh2.1, sh2.2, rfl, ?_⟩
    rw [decide_eq_true rfl]
    refine ⟨_, rfl, iteT ?_⟩
    refine ⟨_, rfl, a, C, dx, fs, _, rfl, ha, U.cl, U.nD, hd, _, rfl, a, C, dx, fs, _, rfl, ha, U.cl, U.nN, hn, _, rfl, a, C, dx, fs, _, rfl, ha, U.cl, U.nL, hl, _, rfl, a, C, dx, fs, _, rfl, ha, U.cl, U.nA, he, (by show 4 ≤ sizeLine; decide), fun z hz => ?_⟩
    have s1 := same_upd (o := .tup [.int d, .int p, .int l, .int e]) hz
    have sh3 := four_shown (K := K) (upd_same (H := H) (a := z) (o := .tup [.int d, .int p, .int l, .int e])) bd bp bl be
    have sh4 := four_shown (K := K) (s1 _ _ ht) bd bp bl be
    refine ⟨_, _, rfl, sh3.1, sh3.2, _, rfl, _, _, rfl, sh4.1, sh4.2, rfl, ?_⟩
    rw [decide_eq_true rfl]
    exact k _ s1
end
end K0


set_option Elab.async false
set_option linter.all false
set_option maxRecDepth 100000
set_option maxHeartbeats 8000000
set_option exponentiation.threshold 100000
namespace K0
open PySem PySem.Spec PyProof.Rows L2 RZ K0z NdefX

def rIsQ (K : PySem.W.Frag) : List V → Hp → VK → Prop := fun xs H Q => ∃ (a C d : Addr) (c : V) (u : Value) (b : Bool) (o : HO),
  xs = [.ref a, c] ∧ ClsV c u ∧ H a = some (exq a C d) ∧ H d = some o ∧ ExcC K C ∧ PySem.W.kitOne K (.ref C) u = some b ∧ Q (.bl b) H
section
variable {X : Cx}
theorem call_isQ : CallR X (.builtin "isinstance") (rIsQ X.K) := by
  intro pins s σ H xs us Q I r h
  obtain ⟨a, C, d, c, u, b, o, rfl, k, ha, hd, T, e, q⟩ := h
  obtain ⟨u1, u2, rfl, r1, r2⟩ := vals2 r
  have e2 := k.eq r2
  subst e2
  cases r1
  obtain ⟨vs, sl, g1⟩ := exq_at I.hok ha
  obtain ⟨od, g4⟩ := obj_there I hd
  refine PySem.W.kia_one (PySem.K0x.kit_exc T.hg T.hk T.hs T.hd T.ha T.hn T.ht T.hm) I.kIn ?_ e (fun z => nomatch z) fun tk => ⟨.bl b, H, I.tok tk, rfl, q⟩
  exact ⟨_, some od, g1, rfl, rfl, g4⟩
/-- e.f, e an exception that was caught once -/
theorem pe_fldQ {te : TE} {f : Str} {pos : Pos} {o : Expr} (he : PE X o te) (hb : attributeBase o f X.env (eval o X.env) = eval o X.env := by rfl) :
    PE X (.Attribute o f pos) (fun σ H Q => te σ H fun y H1 => ∃ (a C d : Addr) (fs : List (Str × V)) (v : V), y = .ref a ∧ H1 a = some (exq a C d) ∧ H1 d = some (.xd fs) ∧
      XfC X.K C ∧ PySem.W.findIn X.K (.ref C) f = some none ∧ fs.lookup f = some v ∧ Q v H1) := by
  refine ⟨fun pins s σ H Q I h => attr_of hb (thn (he.run pins s σ H _ I h) ?_)⟩
  rintro u s1 ⟨y, H1, I1, rx, a, C, d, fs, v, rfl, ea, ed, T, hno, l, q⟩
  obtain rfl : u = Value.ref a := rx
  obtain ⟨vs, sl, g1⟩ := exq_at I1.hok ea
  obtain ⟨mA, hns, hr⟩ := (show ∃ mA, s1.heap.Ns1 d mA ∧ ∀ f, RelO (fs.lookup f) (mA f) from I1.hok d _ ed)
  obtain ⟨od, hod, hl⟩ := lookIn_ns hns
  obtain ⟨u, hu, ru⟩ := RelO.some_of (v := v) (o := mA f) (by rw [← l]; exact hr f)
  have J : PySem.W.InstAt s1.heap a _ C (some od) := ⟨g1, rfl, rfl, hod⟩
  exact HandSPX.exc_get I1.kIn J T.ga T.gg T.exC
    (PySem.W.findObj_own T.hdC hno rfl (by rw [hl, hu])) (handed_of ru) ⟨v, H1, I1.tok _, ru, q⟩
end

/-- a BadNumber is heard -/
def THr (K : PySem.W.Frag) (CB : Addr) : (XK → Hp → VK → Prop) → Hp → VK → Prop := fun tl H Q => ∀ Qn : VK,
  tl (fun cls d H' => ∃ (dd : Addr) (v : V), cls = .ref CB ∧ d = some dd ∧ H' dd = some (.xd (fs1 "part" [v])) ∧ ∀ p H'', Same H' H'' → H'' p = some (.lst [.str "number", v]) → Q (.ref p) H'') H Qn
/-- the classes of errors, as they are asked -/
structure Errs (K : PySem.W.Frag) (mg : Str → Option Value) (CS CB C2 C3 CM CT : Addr) : Prop where
  mS : mg "SolidError" = some (.ref CS)
  mB : mg "BadNumber" = some (.ref CB)
  m2 : mg "BadSpindle" = some (.ref C2)
  m3 : mg "BadPaper" = some (.ref C3)
  mM : mg "Misfit" = some (.ref CM)
  mT : mg "TooMany" = some (.ref CT)
  eS : PySem.W.exmOne K (.ref CB) (.ref CS) = some true
  kB : PySem.W.kitOne K (.ref CB) (.ref CB) = some true
  k2 : PySem.W.kitOne K (.ref CB) (.ref C2) = some false
  k3 : PySem.W.kitOne K (.ref CB) (.ref C3) = some false
  ec : ExcC K CB
  xf : XfC K CB
  no : PySem.W.findIn K (.ref CB) "part" = some none
theorem sc_heard : FnScope ["ask", "caught", "error", "kind", "name"] ["ask"] (defScope st__law_heard) := ⟨rfl, rfl, rfl, by decide +kernel, rfl, by decide +kernel, by decide +kernel⟩
theorem heard_gives {X : Cx} {g CS CB C2 C3 CM CT : Addr} {cdg : Value} {q x : Str} (R : Errs X.K X.mg CS CB C2 C3 CM CT) (mi : X.mg "isinstance" = none) :
    LamX.GivesTo X ["ask", "caught", "error", "kind", "name"] x (defScope st__law_heard) g cdg (defBody st__law_heard) "ask" q (THr X.K CB) := by
  intro f c' s H Q tl act hc h
  refine ⟨_, pss_cons (X := (cxOf C8.CX0 X.prog X.w X.K X.mg X.base ["ask", "caught", "error", "kind", "name"] x (defScope st__law_heard) g cdg X.A X.stack s H C8.E0).nox) (ps_set (i := 1) sc_heard.nd rfl (Or.inl rfl) pe_non)
    (pss_cons (ps_try_keep (i := 2) (j := 1) (c := .ref CS)
      (tb := fun W D σ H => ∃ Ech : XK, (∀ (cls : Value) (d : Option Addr) (σ' : L2.St) (H' : Hp), Ech cls d H' → W cls d σ' H') ∧ σ[0]? = some (some (.ref f)) ∧ H c' = some (LamX.CodeO c' q) ∧ tl Ech H (fun _ H1 => D.nx σ H1))
      rfl rfl sc_heard.nd rfl rfl rfl rfl (by show 2 < 5; decide) ⟨by rfl, by decide, .inl R.mS⟩ rfl (fun W pn xe tk _ => ?_))
    (pss_cons (ps_if (pt_cmp (pc_isN (pv 1))) (pss_one (ps_ret pe_non)) pss_nil)
    (pss_cons (ps_for PassesOwn.never rfl (pi_seqK X.K (pe_lst (pa_cons (pe_tup (pa_cons (pe_callB call_isQ (by rfl) mi (by decide +kernel) (pa_cons (pv 1) (pa_cons (pe_glob (v := .ref CB) (by rfl) R.mB rfl (by decide)) pa_nil))) (pa_cons pe_str pa_nil))) (pa_cons (pe_tup (pa_cons (pe_callB call_isQ (by rfl) mi (by decide +kernel) (pa_cons (pv 1) (pa_cons (pe_glob (v := .ref C2) (by rfl) R.m2 rfl (by decide)) pa_nil))) (pa_cons pe_str pa_nil))) (pa_cons (pe_tup (pa_cons (pe_callB call_isQ (by rfl) mi (by decide +kernel) (pa_cons (pv 1) (pa_cons (pe_glob (v := .ref C3) (by rfl) R.m3 rfl (by decide)) pa_nil))) (pa_cons pe_str pa_nil))) pa_nil))))) (pg_tup (by rfl) (pgs_cons (pg_name (i := 3) sc_heard.nd rfl (Or.inl rfl)) (pgs_cons (pg_name (i := 4) sc_heard.nd rfl (Or.inl rfl)) pgs_nil)))
      (pss_one (ps_if (pt_val (pv 3)) (pss_one (ps_ret (pe_lst (pa_cons (pv 4) (pa_cons (pe_fldQ (pv 1)) pa_nil))))) pss_nil)))
    (pss_cons (ps_if (pt_val (pe_callB call_isQ (by rfl) mi (by decide +kernel) (pa_cons (pv 1) (pa_cons (pe_glob (v := .ref CM) (by rfl) R.mM rfl (by decide)) pa_nil)))) (pss_one (ps_ret (pe_lst (pa_cons pe_str (pa_cons (pe_fldQ (pv 1)) pa_nil))))) pss_nil)
    (pss_one (ps_ret (pe_ifExp (pt_val (pe_callB call_isQ (by rfl) mi (by decide +kernel) (pa_cons (pv 1) (pa_cons (pe_glob (v := .ref CT) (by rfl) R.mT rfl (by decide)) pa_nil)))) (pe_lst (pa_cons pe_str (pa_cons (pe_fldQ (pv 1)) (pa_cons (pe_fldQ (pv 1)) pa_nil)))) (pe_lst (pa_cons pe_str pa_nil))))))))), ?_⟩
  · refine ⟨fun pins s' σ H' D I h' => ?_⟩
    obtain ⟨Ech, hW, h1, h2, h3⟩ := h'
    exact (pss_one (ps_expr (act W pn xe Ech _ _ tk hW))).run pins s' σ H' D I ⟨h1, h2, h3⟩
  · refine ⟨_, fun cls d σ' H' e => ?_, rfl, hc, h _⟩
    obtain ⟨dd, v, rfl, rfl, e6, e8⟩ := e
    refine ⟨CB, dd, rfl, rfl, R.eS, fun a ha hl => ?_⟩
    have hl3 : σ'.length = 5 := hl
    obtain ⟨x0, x1, x2, x3, x4, rfl⟩ : ∃ x0 x1 x2 x3 x4, σ' = [x0, x1, x2, x3, x4] := by
      match σ', hl3 with
      | [x0, x1, x2, x3, x4], _ => exact ⟨x0, x1, x2, x3, x4, rfl⟩
    have s0 := same_upd (o := exq a CB dd) ha
    have hdd := s0 _ _ e6
    have haa : upd H' a (exq a CB dd) a = some (exq a CB dd) := upd_same
    generalize upd H' a (exq a CB dd) = H1 at s0 hdd haa ⊢
    refine ⟨_, rfl, _, rfl, iteF ?_⟩
    -- three tuples
    refine ⟨_, rfl, a, CB, dd, .ref CB, .ref CB, true, _, rfl, .own _, haa, hdd, R.ec, R.kB, (by show 2 ≤ sizeLine; decide), fun t1 ht1 => ?_⟩
    have s1 := same_upd (o := .tup [.bl true, .str "number"]) ht1
    have z1 : upd H1 t1 (.tup [.bl true, .str "number"]) t1 = some (.tup [.bl true, .str "number"]) := upd_same
    generalize upd H1 t1 (.tup [.bl true, .str "number"]) = H2 at s1 z1 ⊢
    refine ⟨_, rfl, a, CB, dd, .ref C2, .ref C2, false, _, rfl, .own _, s1 _ _ haa, s1 _ _ hdd, R.ec, R.k2, (by show 2 ≤ sizeLine; decide), fun t2 ht2 => ?_⟩
    have s2 := same_upd (o := .tup [.bl false, .str "spindle"]) ht2
    generalize upd H2 t2 (.tup [.bl false, .str "spindle"]) = H3 at s2 ⊢
    have s12 := s1.trans s2
    refine ⟨_, rfl, a, CB, dd, .ref C3, .ref C3, false, _, rfl, .own _, s12 _ _ haa, s12 _ _ hdd, R.ec, R.k3, (by show 2 ≤ sizeLine; decide), fun t3 ht3 => ?_⟩
    have s3 := same_upd (o := .tup [.bl false, .str "paper"]) ht3
    generalize upd H3 t3 (.tup [.bl false, .str "paper"]) = H4 at s3 ⊢
    refine ⟨(by show 3 ≤ sizeLine; decide), fun L hL => ?_⟩
    have s4 := same_upd (o := .lst [.ref t1, .ref t2, .ref t3]) hL
    have z4 : upd H4 L (.lst [.ref t1, .ref t2, .ref t3]) L = some (.lst [.ref t1, .ref t2, .ref t3]) := upd_same
    generalize upd H4 L (.lst [.ref t1, .ref t2, .ref t3]) = H5 at s4 z4 ⊢
    have s15 := s12.trans (s3.trans s4)
    have z15 : H5 t1 = some (.tup [.bl true, .str "number"]) := (s2.trans (s3.trans s4)) _ _ z1
    refine ⟨false, L, rfl, ⟨_, .of z4⟩, for_it (walk_seq (b := false)) (fun i σ H6 => i = 0 ∧ H6 = H5 ∧ ∃ x3 x4, σ = [x0, some (.ref a), none, x3, x4]) ⟨rfl, rfl, x3, x4, rfl⟩ (fun i σ H6 _ h => by rw [h.2.1]; exact .of z4) ?_ ?_⟩
    · rintro i x σ H6 H7 hi ⟨rfl, rfl, x3, x4, rfl⟩ ⟨rfl, hx⟩
      cases hx
      refine ⟨t1, _, rfl, .of z15, rfl, _, _, rfl, _, _, rfl, rfl, _, rfl, _, rfl, iteT ?_⟩
      refine ⟨_, rfl, _, rfl, a, CB, dd, _, v, rfl, s15 _ _ haa, s15 _ _ hdd, R.xf, R.no, rfl, (by show 2 ≤ sizeLine; decide), fun p hp => ?_⟩
      exact e8 p _ (s0.trans (s15.trans (same_upd hp))) upd_same
    · rintro σ H6 ⟨h, _⟩
      exact absurd h (by show ¬ 3 = 0; decide)
end K0


set_option Elab.async false
set_option linter.all false
set_option maxRecDepth 100000
set_option maxHeartbeats 8000000
set_option exponentiation.threshold 100000
namespace K0
open PySem PySem.Spec PyProof.Rows L2 RZ K0z NdefX

def qL : Str := ("_law_refusals_right.<locals>.<lambda>" : Str)
/-- what cannot stand at the place j -/
def BadV (d : Int) (j : Nat) (v : V) : Prop := within v (.int (if j = 1 then 2 * d else 2)) .non = false
def KeptB (HW : Hp) (c TD : Addr) (H : Hp) : Prop := ∀ b o, b ≠ c → b ≠ TD → (∀ ps, o ≠ .tbl ps) → HW b = some o → H b = some o
theorem KeptB.but {HW H H' : Hp} {c TD : Addr} (k : KeptB HW c TD H) (s : SBN c H H') : KeptB HW c TD H' := fun b o n1 n2 t e => s b o n1 (k b o n1 n2 t e) t
theorem KeptB.upd {HW H : Hp} {c TD : Addr} {o : HO} (k : KeptB HW c TD H) : KeptB HW c TD (upd H TD o) := fun b u n1 n2 t e => by rw [upd_ne n2]; exact k b u n1 n2 t e
def spRef (K : PySem.W.Frag) (PT : Addr) : Sp := fun vs H Q _ => ∃ (c d0 : Addr) (ns : List Int) (m : Nat) (d p l : Int), vs = [.ref c, .int d, .int p, .int l] ∧ Coil H c d0 ns m ∧ m ≤ 1000 ∧ 2 ≤ d ∧ 2 * d ≤ p ∧ 2 ≤ l ∧ LamX.Tabs [(PT, qL)] H ∧ ∀ H', Q (.bl true) H'
def RefInv (K : PySem.W.Frag) (PT c d0 W TD : Addr) (ns : List Int) (m : Nat) (d p l : Int) (fi : Nat) (HW : Hp) : Nat → L2.St → Hp → Prop := fun i σ H6 => ∃ (x7 : Option V) (m' : Nat) (xs : List V), σ = [some (.ref c), some (.int d), some (.int p), some (.int l), some (.ref W), some (.int (fi : Nat)), some (.ref TD), x7] ∧ m' ≤ m + 1 + 3 * i ∧
        Coil H6 c d0 ns m' ∧ LamX.Tabs [(PT, qL)] H6 ∧ KeptB HW c TD H6 ∧ H6 TD = some (.lst xs) ∧ xs.length = 3 ∧ (∀ j, j < fi → xs[j]? = [V.int d, V.int p, V.int l][j]?) ∧ (0 < i → ∃ v, xs[fi]? = some v ∧ BadV d fi v) ∧ (∀ x ∈ xs, ∀ H', KeptB HW c TD H' → ∃ q, Asks K H' x q)
theorem bad_int {d n : Int} {j : Nat} (h : n < (if j = 1 then 2 * d else 2)) : BadV d j (.int n) := by
  show (decide ((if j = 1 then 2 * d else 2) ≤ n) && true) = false
  rw [decide_eq_false (by omega)]
  rfl
section
variable {P : Program} {w : World} {K : PySem.W.Frag} {mg : Str → Option Value} {base : Heap} {f : Addr} {fd : FuncData}
theorem sc_ref : FnScope ["slate", "dimension", "points", "length", "wrongs", "first", "told", "at"] ["slate", "dimension", "points", "length"] (defScope st__law_refusals_right) := ⟨rfl, rfl, rfl, by decide +kernel, rfl, by decide +kernel, by decide +kernel⟩
theorem ok_ref {cc PT f1 f2 f4 fh C CS CB C2 C3 CM CT : Addr} {fdh : FuncData} (F : FunC K "_law_refusals_right" "_law_refusals_right" st__law_refusals_right f fd cc) (T : Nm mg)
    (D__law_chalk : Dn P w K mg base 1 "_law_chalk" f1 ["slate", "many"] spTurn) (D__law_one : Dn P w K mg base 2 "_law_one" f2 ["slate", "some"] (spOne K))
    (X_plan : DnX P w K mg base 6 "plan" f4 ["dimension", "points", "length"] (spPlan K CB C))
    (FH : Fun K "_law_heard" "_law_heard" st__law_heard fh fdh) (bh : Binds K fdh ["ask"] []) (mh : mg "_law_heard" = some (.ref fh)) (kh : PySem.W.keepIn K (.ref fh) = true)
    (TB : LamX.TabB base mg cc PT) (R : Errs K mg CS CB C2 C3 CM CT) :
    FnG P w K mg base 9 f fd ["slate", "dimension", "points", "length"] (spRef K PT) := by
  obtain ⟨fdr, Fpl, Bpl⟩ := X_plan.ex
  obtain ⟨och, odh, kVh, doch, pmh, anh, cdvh, cth, oslh, rfl, lkH, hcdH⟩ := FH.ex
  refine Fun_okC F sc_ref (fun vs H Q E h => ?_) (fun A outer s H vs Q EE hG hr h => ?_)
  · obtain ⟨c, d0, ns, m, d, p, l, rfl, _⟩ := h
    rfl
  · obtain ⟨c, d0, ns, m, d, p, l, rfl, hC, hm, d2, p2, l2, hT, k⟩ := h
    refine ⟨_, (pss_cons (ps_set (i := 4) sc_ref.nd rfl (Or.inl rfl) (pe_lst (pa_cons (pe_lst (pa_cons pe_int (pa_cons pe_int (pa_cons (pe_un un_neg (pv 1)) (pa_cons pe_bl (pa_cons pe_non (pa_cons pe_str (pa_cons (pe_lst (pa_cons pe_int pa_nil)) (pa_cons (pe_tup (pa_cons pe_int pa_nil)) pa_nil))))))))) (pa_cons (pe_lst (pa_cons (pe_op op_sub (pe_op op_mul pe_int (pv 1)) pe_int) (pa_cons (pv 1) (pa_cons (pe_un un_neg (pv 2)) (pa_cons pe_bl (pa_cons pe_non (pa_cons pe_str pa_nil))))))) (pa_cons (pe_lst (pa_cons pe_int (pa_cons pe_int (pa_cons (pe_un un_neg (pv 3)) (pa_cons pe_bl (pa_cons pe_non (pa_cons pe_str (pa_cons (pe_tup (pa_cons pe_int pa_nil)) pa_nil)))))))) pa_nil)))))
    (pss_cons (ps_set (i := 5) sc_ref.nd rfl (Or.inl rfl) (pe_dn D__law_chalk (hr.mono (by decide)) rfl (pa_cons (pv 0) (pa_cons pe_int pa_nil))))
    (pss_cons (ps_set (i := 6) sc_ref.nd rfl (Or.inr rfl) (pe_lst (pa_cons (pv 1) (pa_cons (pv 2) (pa_cons (pv 3) pa_nil)))))
    (pss_cons (ps_for PassesOwn.never rfl (pi_range2 (by rfl) T.n_range (pa_cons (pv 5) (pa_cons pe_int pa_nil))) (pg_name (i := 7) sc_ref.nd rfl (Or.inl rfl))
      (pss_one (ps_if (PW.pt (pw_or (pt_cmpR op_eq (pv 7) (pv 5) (nomark _)) (pw_or1 (pt_cmpR op_eq (pe_dn D__law_chalk (hr.mono (by decide)) rfl (pa_cons (pv 0) (pa_cons pe_int pa_nil))) pe_int (nomark _))))) (pss_one (ps_asg (pe_dn D__law_one (hr.mono (by decide)) rfl (pa_cons (pv 0) (pa_cons (pe_ix (ix_K K) (pv 4) (pv 7) (fun _ _ => rfl)) pa_nil))) (pg_sub (pv 6) (pv 7) set_list))) pss_nil)))
    (pss_one (ps_ret (pe_cmpR (op_eqD hr.units) (LamX.pe_lamcall (k := 6) (T := [(PT, qL)]) (TT := THr K CB) (t := fun E => tCall (spPlan K CB C) [] E (tCons (tOp (rIxB K) (tVar 6) (tC (.int 0))) (tCons (tOp (rIxB K) (tVar 6) (tC (.int 1))) (tCons (tOp (rIxB K) (tVar 6) (tC (.int 2))) tNil)))) rfl mh kh lkH hcdH bh sc_heard rfl (Or.inl rfl) (heard_gives R T.n_isinstance) TB rfl List.mem_cons_self (fun p hp _ => by cases List.mem_singleton.mp hp; rfl) (hr.mono (by decide)) (LamX.lamS_by (sc := defScope st__law_refusals_right) (by decide +kernel)) rfl (fun _ _ _ _ _ => rfl) (fun A outer s H E f c' hr2 => pe_call Fpl hr2 rfl X_plan.mg X_plan.kp Bpl .nil (passes_call (takes_of rfl rfl rfl rfl) (fun _ _ _ _ h => h)) (pa_cons (pe_ix (ix_K K) (pv 6) pe_int (fun _ _ => rfl)) (pa_cons (pe_ix (ix_K K) (pv 6) pe_int (fun _ _ => rfl)) (pa_cons (pe_ix (ix_K K) (pv 6) pe_int (fun _ _ => rfl)) pa_nil))))) (pe_ix (ix_K K) (pe_lst (pa_cons (pe_lst (pa_cons pe_str (pa_cons pe_str pa_nil))) (pa_cons (pe_lst (pa_cons pe_str (pa_cons pe_str pa_nil))) (pa_cons (pe_lst (pa_cons pe_str (pa_cons pe_str pa_nil))) pa_nil)))) (pv 5) (fun _ _ => rfl)) (nomark _)))))))), ?_⟩
    -- wrongs
    refine ⟨_, rfl, d, rfl, (by show 1 ≤ sizeLine; decide), fun a3 h3 => ⟨(by show 1 ≤ sizeLine; decide), fun t5 h5 => ⟨(by show 8 ≤ sizeLine; decide), fun W0 hW0 => ?_⟩⟩⟩
    have s1 := same_upd (o := .lst [.int 3]) h3
    have z1 : upd H a3 (.lst [.int 3]) a3 = some (.lst [.int 3]) := upd_same
    generalize upd H a3 (.lst [.int 3]) = H1 at s1 z1 h5 hW0 ⊢
    have s2 := same_upd (o := .tup [.int 5]) h5
    have z2 : upd H1 t5 (.tup [.int 5]) t5 = some (.tup [.int 5]) := upd_same
    generalize upd H1 t5 (.tup [.int 5]) = H2 at s2 z2 hW0 ⊢
    have s3 := same_upd (o := .lst [.int 1, .int 0, .int (-d), .bl true, .non, .str "5", .ref a3, .ref t5]) hW0
    have z3 : upd H2 W0 (.lst [.int 1, .int 0, .int (-d), .bl true, .non, .str "5", .ref a3, .ref t5]) W0 = some (.lst [.int 1, .int 0, .int (-d), .bl true, .non, .str "5", .ref a3, .ref t5]) := upd_same
    generalize upd H2 W0 (.lst [.int 1, .int 0, .int (-d), .bl true, .non, .str "5", .ref a3, .ref t5]) = H3 at s3 z3 ⊢
    refine ⟨_, rfl, 2, d, rfl, rfl, .inl ⟨by decide, by decide⟩, _, 1, rfl, rfl, _, rfl, _, rfl, p, rfl, (by show 6 ≤ sizeLine; decide), fun W1 hW1 => ?_⟩
    have s4 := same_upd (o := .lst [.int (2 * d - 1), .int d, .int (-p), .bl false, .non, .str "48"]) hW1
    have z4 : upd H3 W1 (.lst [.int (2 * d - 1), .int d, .int (-p), .bl false, .non, .str "48"]) W1 = some (.lst [.int (2 * d - 1), .int d, .int (-p), .bl false, .non, .str "48"]) := upd_same
    generalize upd H3 W1 (.lst [.int (2 * d - 1), .int d, .int (-p), .bl false, .non, .str "48"]) = H4 at s4 z4 ⊢
    refine ⟨_, rfl, l, rfl, (by show 1 ≤ sizeLine; decide), fun t6 h6 => ⟨(by show 7 ≤ sizeLine; decide), fun W2 hW2 => ⟨(by show 3 ≤ sizeLine; decide), fun W hW => ?_⟩⟩⟩
    have s5 := same_upd (o := .tup [.int 6]) h6
    have z5 : upd H4 t6 (.tup [.int 6]) t6 = some (.tup [.int 6]) := upd_same
    generalize upd H4 t6 (.tup [.int 6]) = H5 at s5 z5 hW2 hW ⊢
    have s6 := same_upd (o := .lst [.int 1, .int 0, .int (-l), .bl true, .non, .str "6", .ref t6]) hW2
    have z6 : upd H5 W2 (.lst [.int 1, .int 0, .int (-l), .bl true, .non, .str "6", .ref t6]) W2 = some (.lst [.int 1, .int 0, .int (-l), .bl true, .non, .str "6", .ref t6]) := upd_same
    generalize upd H5 W2 (.lst [.int 1, .int 0, .int (-l), .bl true, .non, .str "6", .ref t6]) = H6 at s6 z6 hW ⊢
    have s7 := same_upd (o := .lst [.ref W0, .ref W1, .ref W2]) hW
    have z7 : upd H6 W (.lst [.ref W0, .ref W1, .ref W2]) W = some (.lst [.ref W0, .ref W1, .ref W2]) := upd_same
    generalize upd H6 W (.lst [.ref W0, .ref W1, .ref W2]) = HW at s7 z7 ⊢
    have s67 := s6.trans s7
    have s57 := s5.trans s67
    have s47 := s4.trans s57
    have s37 := s3.trans s47
    have s27 := s2.trans s37
    have s17 := s1.trans s27
    have za3 := s27 _ _ z1
    have zt5 := s37 _ _ z2
    have zW0 := s47 _ _ z3
    have zW1 := s57 _ _ z4
    have zt6 := s67 _ _ z5
    have zW2 := s7 _ _ z6
    have hCW := hC.but s17
    have hTW : LamX.Tabs [(PT, qL)] HW := hT.ext s17
    obtain ⟨na3, _⟩ := hC.ne h3
    obtain ⟨nt5, _⟩ := (hC.but s1).ne h5
    obtain ⟨nW0, _⟩ := (hC.but (s1.trans s2)).ne hW0
    obtain ⟨nW1, _⟩ := (hC.but (s1.trans (s2.trans s3))).ne hW1
    obtain ⟨nt6, _⟩ := (hC.but (s1.trans (s2.trans (s3.trans s4)))).ne h6
    obtain ⟨nW2, _⟩ := (hC.but (s1.trans (s2.trans (s3.trans (s4.trans s5))))).ne hW2
    obtain ⟨nW, _⟩ := (hC.but (s1.trans (s2.trans (s3.trans (s4.trans (s5.trans s6)))))).ne hW
    clear s1 s2 s3 s4 s5 s6 s7 s67 s57 s47 s37 s27 s17 z1 z2 z3 z4 z5 z6 h3 h5 hW0 hW1 h6 hW2 hW hC hT
    -- first
    refine ⟨_, rfl, c, d0, ns, m, 3, rfl, hCW, by omega, by decide, small9000 (by decide), fun first H1 a1 b1 hC1 sb1 => ?_⟩
    obtain ⟨fi, rfl⟩ : ∃ n : Nat, first = (n : Int) := ⟨first.toNat, by omega⟩
    have hfi : fi < 3 := by omega
    have hT1 := tabs_but hTW hCW sb1
    -- told
    refine ⟨_, rfl, _, rfl, _, rfl, (by show 3 ≤ sizeLine; decide), fun TD hTD => ?_⟩
    obtain ⟨nTc, nTd⟩ := hC1.ne hTD
    have kp0 : KeptB HW c TD (upd H1 TD (.lst [.int d, .int p, .int l])) := fun b o n1 n2 t e => by rw [upd_ne n2]; exact sb1 b o n1 e
    have hC2 : Coil (upd H1 TD (.lst [.int d, .int p, .int l])) c d0 ns (m + 1) := hC1.upd nTc nTd
    have hT2 : LamX.Tabs [(PT, qL)] (upd H1 TD (.lst [.int d, .int p, .int l])) := hT1.ext (same_upd hTD)
    have zT : upd H1 TD (.lst [.int d, .int p, .int l]) TD = some (.lst [.int d, .int p, .int l]) := upd_same
    have neT : ∀ b o, b ≠ c → HW b = some o → b ≠ TD := fun b o n e => ne_of_none (sb1 b o n e) hTD
    generalize upd H1 TD (.lst [.int d, .int p, .int l]) = H2 at kp0 hC2 hT2 zT ⊢
    -- what the lists hold
    have inW : ∀ j : Nat, j < 3 → ∃ (Wj : Addr) (xs : List V), [V.ref W0, V.ref W1, V.ref W2][j]? = some (.ref Wj) ∧ Wj ≠ c ∧ HW Wj = some (.lst xs) ∧ 0 < xs.length ∧ xs.length ≤ 10 ∧
        ∀ x ∈ xs, BadV d j x ∧ ∀ H', KeptB HW c TD H' → ∃ q, Asks K H' x q := by
      have A3 : ∀ H', KeptB HW c TD H' → ∃ q, Asks K H' (.ref a3) q := fun H' kk => ⟨true, Asks.lst (kk a3 _ na3 (neT _ _ na3 za3) (by intro ps e; cases e) za3)⟩
      have A5 : ∀ H', KeptB HW c TD H' → ∃ q, Asks K H' (.ref t5) q := fun H' kk => ⟨true, Asks.tup (kk t5 _ nt5 (neT _ _ nt5 zt5) (by intro ps e; cases e) zt5)⟩
      have A6 : ∀ H', KeptB HW c TD H' → ∃ q, Asks K H' (.ref t6) q := fun H' kk => ⟨true, Asks.tup (kk t6 _ nt6 (neT _ _ nt6 zt6) (by intro ps e; cases e) zt6)⟩
      have AI : ∀ n : Int, ∀ H', KeptB HW c TD H' → ∃ q, Asks K H' (.int n) q := fun n H' _ => ⟨false, Asks.int n⟩
      have AB : ∀ b : Bool, ∀ H', KeptB HW c TD H' → ∃ q, Asks K H' (.bl b) q := fun n H' _ => ⟨false, Asks.bl n⟩
      have AN : ∀ H', KeptB HW c TD H' → ∃ q, Asks K H' .non q := fun H' _ => ⟨false, Asks.non⟩
      have AS : ∀ z : Str, ∀ H', KeptB HW c TD H' → ∃ q, Asks K H' (.str z) q := fun n H' _ => ⟨false, Asks.str n⟩
      intro j hj
      match j, hj with
      | 0, _ =>
        refine ⟨W0, _, rfl, nW0, zW0, by simp, by simp, fun x hx => ?_⟩
        simp only [List.mem_cons, List.not_mem_nil, or_false] at hx
        rcases hx with rfl | rfl | rfl | rfl | rfl | rfl | rfl | rfl
        · exact ⟨bad_int (by show (1 : Int) < 2; decide), AI _⟩
        · exact ⟨bad_int (by show (0 : Int) < 2; decide), AI _⟩
        · exact ⟨bad_int (by show -d < 2; omega), AI _⟩
        · exact ⟨rfl, AB _⟩
        · exact ⟨rfl, AN⟩
        · exact ⟨rfl, AS _⟩
        · exact ⟨rfl, A3⟩
        · exact ⟨rfl, A5⟩
      | 1, _ =>
        refine ⟨W1, _, rfl, nW1, zW1, by simp, by simp, fun x hx => ?_⟩
        simp only [List.mem_cons, List.not_mem_nil, or_false] at hx
        rcases hx with rfl | rfl | rfl | rfl | rfl | rfl
        · exact ⟨bad_int (by show 2 * d - 1 < 2 * d; omega), AI _⟩
        · exact ⟨bad_int (by show d < 2 * d; omega), AI _⟩
        · exact ⟨bad_int (by show -p < 2 * d; omega), AI _⟩
        · exact ⟨rfl, AB _⟩
        · exact ⟨rfl, AN⟩
        · exact ⟨rfl, AS _⟩
      | 2, _ =>
        refine ⟨W2, _, rfl, nW2, zW2, by simp, by simp, fun x hx => ?_⟩
        simp only [List.mem_cons, List.not_mem_nil, or_false] at hx
        rcases hx with rfl | rfl | rfl | rfl | rfl | rfl | rfl
        · exact ⟨bad_int (by show (1 : Int) < 2; decide), AI _⟩
        · exact ⟨bad_int (by show (0 : Int) < 2; decide), AI _⟩
        · exact ⟨bad_int (by show -l < 2; omega), AI _⟩
        · exact ⟨rfl, AB _⟩
        · exact ⟨rfl, AN⟩
        · exact ⟨rfl, AS _⟩
        · exact ⟨rfl, A6⟩
    -- the loop
    refine ⟨_, rfl, (fi : Nat), 3, rfl, ⟨by omega, by omega, by decide, by decide⟩, for_it walk_range (RefInv K PT c d0 W TD ns m d p l fi HW)
      ⟨none, m + 1, _, rfl, by omega, hC2, hT2, kp0, zT, rfl, fun j _ => rfl, fun z => absurd z (by decide), fun x hx H' _ => ?_⟩ (fun _ _ _ _ _ => trivial) ?_ ?_⟩
    · simp only [List.mem_cons, List.not_mem_nil, or_false] at hx
      rcases hx with rfl | rfl | rfl <;> exact ⟨false, Asks.int _⟩
    · rintro i x σ H6 H7 hi ⟨x7, m', xs, rfl, hm', hC6, hT6, kp6, zT6, lxs, hri, hbad, hask⟩ ⟨rfl, rfl⟩
      have hi3 : fi + i < 3 := by
        have : i < (3 - ((fi : Nat) : Int)).toNat := hi
        omega
      have hj : ((fi : Nat) : Int) + (i : Nat) = ((fi + i : Nat) : Int) := by omega
      -- the assignment
      have put : ∀ (D : Ends) (H8 : Hp) (m8 : Nat), (∀ σ H, RefInv K PT c d0 W TD ns m d p l fi HW (i + 1) σ H → D.nx σ H) → m8 ≤ m + 1 + 3 * i + 1 → Coil H8 c d0 ns m8 → LamX.Tabs [(PT, qL)] H8 → KeptB HW c TD H8 → H8 TD = some (.lst xs) →
          (tAsg (tDn (spOne K) (tCons (tVar 0) (tCons (tOp (rIxB K) (tVar 4) (tVar 7)) tNil))) (gSub (tVar 6) (tVar 7) rSetL)) D [some (.ref c), some (.int d), some (.int p), some (.int l), some (.ref W), some (.int (fi : Nat)), some (.ref TD), some (.int ((fi : Nat) + (i : Nat)))] H8 := by
        intro D H8 m8 hD hm8 hC8 hT8 kp8 zT8
        obtain ⟨Wj, ws, eWj, nWj, zWj, l0, l10, hws⟩ := inW (fi + i) hi3
        have zW8 := kp8 W _ nW (neT _ _ nW z7) (by intro ps e; cases e) z7
        have zWj8 := kp8 Wj _ nWj (neT _ _ nWj zWj) (by intro ps e; cases e) zWj
        refine ⟨_, rfl, _, rfl, _, rfl, false, W, _, _, _, rfl, rfl, .of zW8, by rw [hj]; exact atI_nat eWj, c, d0, ns, m8, false, Wj, ws, rfl, hC8, by omega, .of (by rw [off_ne nWj]; exact zWj8), l0, by omega, fun iy y H9 hy hC9 sb9 => ?_⟩
        have zT9 := sb9 _ _ nTc zT8
        have hix : ixN xs.length (((fi : Nat) : Int) + (i : Nat)) = some (fi + i) := by
          rw [hj, lxs]
          match fi + i, hi3 with
          | 0, _ => rfl
          | 1, _ => rfl
          | 2, _ => rfl
        obtain ⟨hb, hk⟩ := hws y (List.mem_of_getElem? hy)
        refine ⟨_, rfl, _, rfl, TD, xs, _, fi + i, rfl, rfl, zT9, hix, hD _ _ ⟨_, m8 + 1, xs.set (fi + i) y, rfl, by omega, hC9.upd nTc nTd, tabs_upd (tabs_but hT8 hC8 sb9) zT9, (kp8.but (SBN.of sb9)).upd, upd_same, by rw [List.length_set, lxs], fun j hj2 => ?_, fun _ => ?_, fun x hx H' kk => ?_⟩⟩
        · rw [List.getElem?_set_ne (by omega)]
          exact hri j hj2
        · by_cases e0 : i = 0
          · subst e0
            exact ⟨y, List.getElem?_set_self (by omega), hb⟩
          · obtain ⟨v, hv, hb2⟩ := hbad (by omega)
            exact ⟨v, by rw [List.getElem?_set_ne (by omega)]; exact hv, hb2⟩
        · rcases List.mem_or_eq_of_mem_set hx with e | e
          · exact hask x e H' kk
          · rw [e]; exact hk H' kk
      refine ⟨_, rfl, _, rfl, rfl, _, rfl, ?_⟩
      by_cases e0 : i = 0
      · subst e0
        rw [decide_eq_true (by simp)]
        exact iteT (iteT (put _ H7 m' (fun σ H h => h) (by omega) hC6 hT6 kp6 zT6))
      · rw [decide_eq_false (by intro e; injection e with e; omega)]
        refine iteF ⟨_, rfl, c, d0, ns, m', 2, rfl, hC6, by omega, by decide, small9000 (by decide), fun r H8 r0 r1 hC8 sb8 => ?_⟩
        have hT8 := tabs_but hT6 hC6 sb8
        refine ⟨rfl, _, rfl, ?_⟩
        by_cases er : (V.int r) = V.int 0
        · rw [decide_eq_true er]
          exact iteT (put _ H8 (m' + 1) (fun σ H h => h) (by omega) hC8 hT8 (kp6.but (SBN.of sb8)) (sb8 _ _ nTc zT6))
        · rw [decide_eq_false er]
          exact iteF ⟨_, m' + 1, xs, rfl, by omega, hC8, hT8, kp6.but (SBN.of sb8), sb8 _ _ nTc zT6, lxs, hri, fun _ => hbad (by omega), hask⟩
    · rintro σ H6 ⟨x7, m', xs, rfl, hm', hC6, hT6, kp6, zT6, lxs, hri, hbad, hask⟩
      have hn : 0 < (3 - ((fi : Nat) : Int)).toNat := by omega
      obtain ⟨vb, hvb, hb⟩ := hbad hn
      obtain ⟨x0, x1, x2, rfl⟩ : ∃ x0 x1 x2, xs = [x0, x1, x2] := by
        match xs, lxs with
        | [a, b, c], _ => exact ⟨a, b, c, rfl⟩
      refine ⟨hT6, fun J1 y1 v1 Qn => ?_⟩
      have zJ := y1 _ _ zT6 (by intro ps e; cases e)
      have kpJ := kp6.but (SBN.ext y1)
      obtain ⟨q0, ak0⟩ := hask x0 (by simp) J1 kpJ
      obtain ⟨q1, ak1⟩ := hask x1 (by simp) J1 kpJ
      obtain ⟨q2, ak2⟩ := hask x2 (by simp) J1 kpJ
      refine ⟨_, rfl, false, TD, _, 0, _, rfl, rfl, .of zJ, rfl, _, rfl, false, TD, _, 1, _, rfl, rfl, .of zJ, rfl, _, rfl, false, TD, _, 2, _, rfl, rfl, .of zJ, rfl, ?_⟩
      match fi, hfi with
      | 0, _ =>
        cases hvb
        refine ⟨vb, x1, x2, q0, q1, q2, rfl, ak0, ak1, ak2, fun _ dd H8 hdd ed s8 => ?_, fun d' e hd' => ?_⟩
        rotate_left
        · subst e
          exact absurd hb (by show ¬ within (.int d') (.int 2) .non = false; rw [within_yes hd']; decide)
        refine ⟨dd, .str "dimension", rfl, rfl, ed, fun p9 H9 s9 hp9 => ⟨(by show 2 ≤ sizeLine; decide), fun n1 hn1 => ⟨(by show 2 ≤ sizeLine; decide), fun n2 hn2 => ⟨(by show 2 ≤ sizeLine; decide), fun n3 hn3 => ⟨(by show 3 ≤ sizeLine; decide), fun LL hLL => ?_⟩⟩⟩⟩⟩
        have g1 := same_upd (o := .lst [.str "number", .str "dimension"]) hn1
        have e1 : upd H9 n1 (.lst [.str "number", .str "dimension"]) n1 = some (.lst [.str "number", .str "dimension"]) := upd_same
        generalize upd H9 n1 (.lst [.str "number", .str "dimension"]) = G1 at g1 e1 hn2 hn3 hLL ⊢
        have g2 := same_upd (o := .lst [.str "number", .str "points"]) hn2
        have e2 : upd G1 n2 (.lst [.str "number", .str "points"]) n2 = some (.lst [.str "number", .str "points"]) := upd_same
        generalize upd G1 n2 (.lst [.str "number", .str "points"]) = G2 at g2 e2 hn3 hLL ⊢
        have g3 := same_upd (o := .lst [.str "number", .str "length"]) hn3
        have e3 : upd G2 n3 (.lst [.str "number", .str "length"]) n3 = some (.lst [.str "number", .str "length"]) := upd_same
        generalize upd G2 n3 (.lst [.str "number", .str "length"]) = G3 at g3 e3 hLL ⊢
        have g4 := same_upd (o := .lst [.ref n1, .ref n2, .ref n3]) hLL
        have e4 : upd G3 LL (.lst [.ref n1, .ref n2, .ref n3]) LL = some (.lst [.ref n1, .ref n2, .ref n3]) := upd_same
        generalize upd G3 LL (.lst [.ref n1, .ref n2, .ref n3]) = G4 at g4 e4 ⊢
        have zz : G4 n1 = some (.lst [.str "number", .str "dimension"]) := (g2.trans (g3.trans g4)) _ _ e1
        have zp := (g1.trans (g2.trans (g3.trans g4))) _ _ hp9
        have fl : [V.str "number", V.str "dimension"].all flat = true := by decide +kernel
        refine ⟨_, rfl, false, LL, _, _, _, rfl, rfl, .of e4, rfl, _, _, dpL (xs := [.str "number", .str "dimension"]) (.of zp) fl, dpL (xs := [.str "number", .str "dimension"]) (.of zz) fl, shapedL fl, shapedL fl, ?_⟩
        rw [eqv_same fl]
        exact k _
      | 1, _ =>
        cases hvb
        have e0 := hri 0 (by decide)
        cases e0
        refine ⟨.int d, vb, x2, q0, q1, q2, rfl, ak0, ak1, ak2, fun z => ?_, fun d' e hd' => ?_⟩
        · rw [within_yes d2] at z
          cases z
        cases e
        refine ⟨fun _ dd H8 hdd ed s8 => ?_, fun p' e hp' => ?_⟩
        rotate_left
        · subst e
          exact absurd hb (by show ¬ within (.int p') (.int (2 * d)) .non = false; rw [within_yes hp']; decide)
        refine ⟨dd, .str "points", rfl, rfl, ed, fun p9 H9 s9 hp9 => ⟨(by show 2 ≤ sizeLine; decide), fun n1 hn1 => ⟨(by show 2 ≤ sizeLine; decide), fun n2 hn2 => ⟨(by show 2 ≤ sizeLine; decide), fun n3 hn3 => ⟨(by show 3 ≤ sizeLine; decide), fun LL hLL => ?_⟩⟩⟩⟩⟩
        have g1 := same_upd (o := .lst [.str "number", .str "dimension"]) hn1
        have e1 : upd H9 n1 (.lst [.str "number", .str "dimension"]) n1 = some (.lst [.str "number", .str "dimension"]) := upd_same
        generalize upd H9 n1 (.lst [.str "number", .str "dimension"]) = G1 at g1 e1 hn2 hn3 hLL ⊢
        have g2 := same_upd (o := .lst [.str "number", .str "points"]) hn2
        have e2 : upd G1 n2 (.lst [.str "number", .str "points"]) n2 = some (.lst [.str "number", .str "points"]) := upd_same
        generalize upd G1 n2 (.lst [.str "number", .str "points"]) = G2 at g2 e2 hn3 hLL ⊢
        have g3 := same_upd (o := .lst [.str "number", .str "length"]) hn3
        have e3 : upd G2 n3 (.lst [.str "number", .str "length"]) n3 = some (.lst [.str "number", .str "length"]) := upd_same
        generalize upd G2 n3 (.lst [.str "number", .str "length"]) = G3 at g3 e3 hLL ⊢
        have g4 := same_upd (o := .lst [.ref n1, .ref n2, .ref n3]) hLL
        have e4 : upd G3 LL (.lst [.ref n1, .ref n2, .ref n3]) LL = some (.lst [.ref n1, .ref n2, .ref n3]) := upd_same
        generalize upd G3 LL (.lst [.ref n1, .ref n2, .ref n3]) = G4 at g4 e4 ⊢
        have zz : G4 n2 = some (.lst [.str "number", .str "points"]) := (g3.trans g4) _ _ e2
        have zp := (g1.trans (g2.trans (g3.trans g4))) _ _ hp9
        have fl : [V.str "number", V.str "points"].all flat = true := by decide +kernel
        refine ⟨_, rfl, false, LL, _, _, _, rfl, rfl, .of e4, rfl, _, _, dpL (xs := [.str "number", .str "points"]) (.of zp) fl, dpL (xs := [.str "number", .str "points"]) (.of zz) fl, shapedL fl, shapedL fl, ?_⟩
        rw [eqv_same fl]
        exact k _
      | 2, _ =>
        cases hvb
        have e0 := hri 0 (by decide)
        cases e0
        have e1 := hri 1 (by decide)
        cases e1
        refine ⟨.int d, .int p, vb, q0, q1, q2, rfl, ak0, ak1, ak2, fun z => ?_, fun d' e hd' => ?_⟩
        · rw [within_yes d2] at z
          cases z
        cases e
        refine ⟨fun z => ?_, fun p' e hp' => ?_⟩
        · rw [within_yes p2] at z
          cases z
        cases e
        refine ⟨fun _ dd H8 hdd ed s8 => ?_, fun l' e hl' => ?_⟩
        rotate_left
        · subst e
          exact absurd hb (by show ¬ within (.int l') (.int 2) .non = false; rw [within_yes hl']; decide)
        refine ⟨dd, .str "length", rfl, rfl, ed, fun p9 H9 s9 hp9 => ⟨(by show 2 ≤ sizeLine; decide), fun n1 hn1 => ⟨(by show 2 ≤ sizeLine; decide), fun n2 hn2 => ⟨(by show 2 ≤ sizeLine; decide), fun n3 hn3 => ⟨(by show 3 ≤ sizeLine; decide), fun LL hLL => ?_⟩⟩⟩⟩⟩
        have g1 := same_upd (o := .lst [.str "number", .str "dimension"]) hn1
        have e1 : upd H9 n1 (.lst [.str "number", .str "dimension"]) n1 = some (.lst [.str "number", .str "dimension"]) := upd_same
        generalize upd H9 n1 (.lst [.str "number", .str "dimension"]) = G1 at g1 e1 hn2 hn3 hLL ⊢
        have g2 := same_upd (o := .lst [.str "number", .str "points"]) hn2
        have e2 : upd G1 n2 (.lst [.str "number", .str "points"]) n2 = some (.lst [.str "number", .str "points"]) := upd_same
        generalize upd G1 n2 (.lst [.str "number", .str "points"]) = G2 at g2 e2 hn3 hLL ⊢
        have g3 := same_upd (o := .lst [.str "number", .str "length"]) hn3
        have e3 : upd G2 n3 (.lst [.str "number", .str "length"]) n3 = some (.lst [.str "number", .str "length"]) := upd_same
        generalize upd G2 n3 (.lst [.str "number", .str "length"]) = G3 at g3 e3 hLL ⊢
        have g4 := same_upd (o := .lst [.ref n1, .ref n2, .ref n3]) hLL
        have e4 : upd G3 LL (.lst [.ref n1, .ref n2, .ref n3]) LL = some (.lst [.ref n1, .ref n2, .ref n3]) := upd_same
        generalize upd G3 LL (.lst [.ref n1, .ref n2, .ref n3]) = G4 at g4 e4 ⊢
        have zz : G4 n3 = some (.lst [.str "number", .str "length"]) := g4 _ _ e3
        have zp := (g1.trans (g2.trans (g3.trans g4))) _ _ hp9
        have fl : [V.str "number", V.str "length"].all flat = true := by decide +kernel
        refine ⟨_, rfl, false, LL, _, _, _, rfl, rfl, .of e4, rfl, _, _, dpL (xs := [.str "number", .str "length"]) (.of zp) fl, dpL (xs := [.str "number", .str "length"]) (.of zz) fl, shapedL fl, shapedL fl, ?_⟩
        rw [eqv_same fl]
        exact k _
end
end K0


set_option Elab.async false
set_option linter.all false
set_option maxRecDepth 100000
set_option maxHeartbeats 8000000
set_option exponentiation.threshold 100000
namespace K0
open PySem PySem.Spec PyProof.Rows L2 RZ K0z NdefX

/-- the program's == of plans -/
structure EqD (P : Program) (w : World) (K : PySem.W.Frag) (mg : Str → Option Value) (base : Heap) (C : Addr) : Prop where
  ex : ∃ f fd, FnOk P w K mg base CX0 2 f fd ["self", "other"] (spAlike C) ∧ PySem.W.findIn K (.ref C) "__eq__" = some (some (.ref f)) ∧ PySem.W.isFn K (.ref f) = true ∧ Binds K fd ["self", "other"] []
  ne : PySem.W.findIn K (.ref C) "__ne__" = some (some (.builtin "object.__ne__"))
  hm : PySem.W.mroIn K C (.type "object") = some true
  tup : PySem.W.subIn K (.type "tuple") (.ref C) = some false
def rEqP (K : PySem.W.Frag) (C : Addr) (neg : Bool) : R2 := fun x y H Q => ∃ (a : Addr) (d p l e : Int), x = .ref a ∧ PlanAt H a C d p l e ∧
  ((∃ (b : Addr) (d' p' l' e' : Int), y = .ref b ∧ PlanAt H b C d' p' l' e' ∧ Q (.bl (if neg then !decide ([d, p, l, e] = [d', p', l', e']) else decide ([d, p, l, e] = [d', p', l', e']))) H) ∨ (neg = false ∧ ∃ (b : Addr) (xs : List V), y = .ref b ∧ H b = some (.tup xs) ∧ Q (.bl false) H))
section
variable {X : Cx} {C : Addr}
theorem op_eqP (D : EqD X.prog X.w X.K X.mg X.base C) (hr : Room 3 X.A) (K : PySem.W.Frag) (eK : X.K = K := by rfl) : OpR X (compareOp .Eq) (rEqP K C false) := by
  subst eK
  obtain ⟨f, fd, F, h1, h2, B⟩ := D.ex
  intro pins s σ H x y v u Q I rx ry h
  obtain ⟨a, d, p, l, e, rfl, hP, h⟩ := h
  have hP' := hP
  obtain ⟨dx, q, fs, ha, _⟩ := hP'
  refine op_eqI (C := C) (E := E0) F (hr.mono (by decide)) h1 h2 B pass0 pins s σ H _ y v u Q I rx ry ⟨a, dx, fs, rfl, ha, ?_, ?_⟩
  · rcases h with ⟨b, d', p', l', e', rfl, ⟨dy, q', gs, hb, _⟩, k⟩ | ⟨_, b, xs, rfl, hb, k⟩
    · exact .inl ⟨b, dy, gs, rfl, hb⟩
    · exact .inr ⟨⟨b, xs, rfl, hb⟩, D.tup⟩
  · refine ⟨a, d, p, l, e, y, rfl, hP, ?_⟩
    rcases h with ⟨b, d', p', l', e', rfl, hP2, k⟩ | ⟨_, b, xs, rfl, hb, k⟩
    · exact .inl ⟨b, d', p', l', e', rfl, hP2, _, rfl, k⟩
    · exact .inr ⟨b, xs, rfl, hb, _, rfl, k⟩
theorem op_neP (D : EqD X.prog X.w X.K X.mg X.base C) (hr : Room 3 X.A) (K : PySem.W.Frag) (eK : X.K = K := by rfl) : OpR X (compareOp .NotEq) (rEqP K C true) := by
  subst eK
  obtain ⟨f, fd, F, h1, h2, B⟩ := D.ex
  intro pins s σ H x y v u Q I rx ry h
  obtain ⟨a, d, p, l, e, rfl, hP, h⟩ := h
  have hP' := hP
  obtain ⟨dx, q, fs, ha, _⟩ := hP'
  rcases h with ⟨b, d', p', l', e', rfl, hP2, k⟩ | ⟨z, _⟩
  · have hP3 := hP2
    obtain ⟨dy, q', gs, hb, _⟩ := hP3
    exact op_neI (C := C) (E := E0) F hr h1 h2 D.ne D.hm B pass0 pins s σ H _ _ v u Q I rx ry ⟨a, dx, fs, b, dy, gs, rfl, ha, rfl, hb, a, d, p, l, e, _, rfl, hP, .inl ⟨b, d', p', l', e', rfl, hP2, _, rfl, k⟩⟩
  · cases z
end
theorem plan_gives {K : PySem.W.Frag} {CB C : Addr} {H : Hp} {Q : VK} {E : XK} {d p l : Int} (d2 : 2 ≤ d) (p2 : 2 * d ≤ p) (l2 : 2 ≤ l) (k : ∀ a H', H a = none → PlanAt H' a C (p - d) (2 * (p - d)) (l + p - 2 * d) (l - d) → Same H H' → Q (.ref a) H') :
    spPlan K CB C [.int d, .int p, .int l] H Q E := by
  refine ⟨.int d, .int p, .int l, false, false, false, rfl, Asks.int d, Asks.int p, Asks.int l, fun z => ?_, fun d' e hd => ?_⟩
  · rw [within_yes d2] at z; cases z
  cases e
  refine ⟨fun z => ?_, fun p' e hp => ?_⟩
  · rw [within_yes p2] at z; cases z
  cases e
  refine ⟨fun z => ?_, fun l' e hl => ?_⟩
  · rw [within_yes l2] at z; cases z
  cases e
  exact k
theorem PlanAt.to {H : Hp} {a C : Addr} {d p l e d' p' l' e' : Int} (h : PlanAt H a C d p l e) (h1 : d = d') (h2 : p = p') (h3 : l = l') (h4 : e = e') : PlanAt H a C d' p' l' e' := by
  subst h1 h2 h3 h4; exact h
theorem one4 {K : PySem.W.Frag} {c d0 L : Addr} {ns : List Int} {m : Nat} {H1 : Hp} {b1 b2 b3 z : Int} {Q : VK} (hC : Coil H1 c d0 ns m) (hm : m ≤ 90) (hL : H1 L = none) (p1 : 0 < b1 ∧ b1 ≤ 10 ^ 50) (p2 : 0 < b2 ∧ b2 ≤ 10 ^ 50) (p3 : 0 < b3 ∧ b3 ≤ 10 ^ 50) (pz : 0 < z ∧ z ≤ 10 ^ 50)
    (kk : ∀ (j : Int) H', 0 < j → j ≤ 10 ^ 50 → j.natAbs < 2 ^ 9000 → Coil H' c d0 ns (m + 1) → SameBut c H1 H' → Q (.int j) H') : spOne K [.ref c, .ref L] (upd H1 L (.lst [.int b1, .int b2, .int b3, .int z])) Q E0 := by
  have nL := (hC.ne hL).1
  have sL := same_upd (o := .lst [.int b1, .int b2, .int b3, .int z]) hL
  refine ⟨c, d0, ns, m, false, L, [.int b1, .int b2, .int b3, .int z], rfl, hC.but sL, by omega, .of (by rw [off_ne nL]; exact upd_same), (by show 0 < 4; decide), (by show 4 ≤ 100000; decide), fun i y H' hy hC' sb => ?_⟩
  obtain ⟨j, rfl, j0, j1⟩ : ∃ j : Int, y = .int j ∧ 0 < j ∧ j ≤ 10 ^ 50 := by
    have hm := List.mem_of_getElem? hy
    simp only [List.mem_cons, List.not_mem_nil, or_false] at hm
    rcases hm with rfl | rfl | rfl | rfl
    · exact ⟨_, rfl, p1⟩
    · exact ⟨_, rfl, p2⟩
    · exact ⟨_, rfl, p3⟩
    · exact ⟨_, rfl, pz⟩
  exact kk j H' j0 j1 (small9000 (Nat.lt_of_le_of_lt (by omega : j.natAbs ≤ 10 ^ 50) (by decide))) hC' ((SameBut.of sL).trans sb)
theorem make_same {H1 H2 : Hp} {x dx C : Addr} (sb : ∀ b o, b ≠ x → upd (upd H1 dx (.own x)) x (.ins C dx []) b = some o → H2 b = some o) (hx : H1 x = none) (hdx : H1 dx = none) : Same H1 H2 := fun b o hb => by
  have nbx : b ≠ x := ne_of_none hb hx
  refine sb b o nbx ?_
  rw [upd_ne nbx, upd_ne (ne_of_none hb hdx)]
  exact hb
def kwR : List V → List V → List V := fun _ zs => zs.reverse
def spLaw (K : PySem.W.Frag) (PT : Addr) : Sp := fun vs H Q _ => ∃ (a : Addr) (ns : List Int), vs = [.ref a] ∧ SqL K H a (ns.map V.int) ∧ ns.length ≤ 63 ∧ LamX.Tabs [(PT, qL)] H ∧ ∀ H', Q (.bl true) H'
section
variable {P : Program} {w : World} {K : PySem.W.Frag} {mg : Str → Option Value} {base : Heap} {f : Addr} {fd : FuncData}
theorem sc_law : FnScope ["script", "slate", "dimension", "points", "length", "due", "told", "ahead"] ["script"] (defScope st_law) := ⟨rfl, rfl, rfl, by decide +kernel, rfl, by decide +kernel, by decide +kernel⟩
theorem ok_law {PT f1 f2 f3 f4 f5 f6 C CB : Addr} (F : Fun K "law" "law" st_law f fd) (T : Nm mg) (U : PlanC K C) (D__law_slate : Dn P w K mg base 1 "_law_slate" f1 ["script"] (spCoil K)) (D__law_chalk : Dn P w K mg base 1 "_law_chalk" f2 ["slate", "many"] spTurn)
    (D__law_one : Dn P w K mg base 2 "_law_one" f3 ["slate", "some"] (spOne K)) (X_plan : DnX P w K mg base 6 "plan" f4 ["dimension", "points", "length"] (spPlan K CB C)) (K_plan : DnKX P w K mg base 6 "plan" f4 ["dimension", "points", "length"] ["length", "points", "dimension"] kwR (spPlan K CB C))
    (D_ref : DnG P w K mg base 9 "_law_refusals_right" f5 ["slate", "dimension", "points", "length"] (spRef K PT)) (D_due : DnG P w K mg base 1 "_law_is_due" f6 ["told", "due"] (spDue K C)) (D_Plan : PlanD P w K mg base C) (D_eq : EqD P w K mg base C) :
    FnG P w K mg base 10 f fd ["script"] (spLaw K PT) := by
  refine Fun_okN F sc_law (fun vs H Q E h => ?_) (fun cdv A outer s H vs Q EE hG hr h => ?_)
  · obtain ⟨a, ns, rfl, _⟩ := h
    rfl
  · obtain ⟨a, ns, rfl, hS, hl, hT, k⟩ := h
    obtain ⟨t10, h10, rest⟩ : ∃ t10, PSs (cxOf CX0 P w K mg base ["script", "slate", "dimension", "points", "length", "due", "told", "ahead"] "law" (defScope st_law) f cdv A outer s H EE).nox ((defBody st_law).drop 10) t10 ∧
        ∀ (c b t : Addr) (d p l : Int) (H : Hp), 2 ≤ d → 2 * d ≤ p → 2 ≤ l → (p - d).natAbs < 2 ^ 900 → (2 * (p - d)).natAbs < 2 ^ 900 → (l + p - 2 * d).natAbs < 2 ^ 900 → (l - d).natAbs < 2 ^ 900 → PlanAt H b C (p - d) (2 * (p - d)) (l + p - 2 * d) (l - d) → H t = some (.tup [.int (p - d), .int (2 * (p - d)), .int (l + p - 2 * d), .int (l - d)]) →
          t10 { nx := fun _ H' => Q .non H', rt := Q } [some (.ref a), some (.ref c), some (.int d), some (.int p), some (.int l), some (.ref t), some (.ref b), none] H := by
      refine ⟨_, (pss_cons (ps_set (i := 7) sc_law.nd rfl (Or.inl rfl) (pe_dnx X_plan (hr.mono (by decide)) rfl (pa_cons (pe_fld (pv 6) rfl) (pa_cons (pe_fld (pv 6) rfl) (pa_cons (pe_fld (pv 6) rfl) pa_nil)))))
    (pss_cons (ps_if (pt_not (pt_val (pe_dg D_due hG (hr.mono (by decide)) rfl (pa_cons (pv 7) (pa_cons (pv 5) pa_nil))))) (pss_one (ps_ret pe_bl)) pss_nil)
    (pss_one (ps_ret (pe_dg D_due hG (hr.mono (by decide)) rfl (pa_cons (pe_dnx X_plan (hr.mono (by decide)) rfl (pa_cons pe_int (pa_cons pe_int (pa_cons pe_int pa_nil)))) (pa_cons (pe_tup (pa_cons pe_int (pa_cons pe_int (pa_cons pe_int (pa_cons pe_int pa_nil))))) pa_nil))))))), ?_⟩
      clear hS hl hT
      intro c b t d p l H d2 p2 l2 bd bp bl be hP zt
      obtain ⟨dx, q, fs, ha, hq, hw, hpp, hd, hn, hl, he⟩ := hP
      refine ⟨_, rfl, b, C, dx, fs, _, rfl, ha, U.cl, U.nD, hd, _, rfl, b, C, dx, fs, _, rfl, ha, U.cl, U.nN, hn, _, rfl, b, C, dx, fs, _, rfl, ha, U.cl, U.nL, hl, ?_⟩
      refine ⟨.int (p - d), .int (2 * (p - d)), .int (l + p - 2 * d), false, false, false, rfl, Asks.int _, Asks.int _, Asks.int _, fun z => absurd z (by rw [within_yes (by omega : (2 : Int) ≤ p - d)]; decide), fun d' e hd' => ?_⟩
      cases e
      refine ⟨fun z => absurd z (by rw [within_yes (by omega : 2 * (p - d) ≤ 2 * (p - d))]; decide), fun p' e hp' => ?_⟩
      cases e
      refine ⟨fun z => absurd z (by rw [within_yes (by omega : (2 : Int) ≤ l + p - 2 * d)]; decide), fun l' e hl' b2 H2 _ hP2 s2 => ?_⟩
      cases e
      have hP2' := hP2.to (d' := p - d) (p' := 2 * (p - d)) (l' := l + p - 2 * d) (e' := l - d) (by omega) (by omega) (by omega) (by omega)
      refine ⟨_, rfl, _, rfl, b2, t, _, _, _, _, rfl, hP2', s2 _ _ zt, bd, bp, bl, be, fun H3 s3 => ⟨_, rfl, iteF ?_⟩⟩
      refine ⟨.int (5), .int (48), .int (6), false, false, false, rfl, Asks.int _, Asks.int _, Asks.int _, fun z => absurd z (by rw [within_yes (by decide : (2 : Int) ≤ 5)]; decide), fun d' e hd' => ?_⟩
      cases e
      refine ⟨fun z => absurd z (by rw [within_yes (by decide : (2 * 5 : Int) ≤ 48)]; decide), fun p' e hp' => ?_⟩
      cases e
      refine ⟨fun z => absurd z (by rw [within_yes (by decide : (2 : Int) ≤ 6)]; decide), fun l' e hl' b4 H4 _ hP4 s4 => ?_⟩
      cases e
      refine ⟨(by show 4 ≤ sizeLine; decide), fun t5 ht5 => ?_⟩
      have s5 := same_upd (o := .tup [.int 43, .int 86, .int 44, .int 1]) ht5
      refine ⟨b4, t5, 43, 86, 44, 1, rfl, (hP4.same s5).to (by decide) (by decide) (by decide) (by decide), upd_same, by decide, by decide, by decide, by decide, fun H6 _ => k H6⟩
    refine ⟨_, (pss_cons (ps_set (i := 1) sc_law.nd rfl (Or.inl rfl) (pe_dn D__law_slate (hr.mono (by decide)) rfl (pa_cons (pv 0) pa_nil)))
    (pss_cons (ps_set (i := 2) sc_law.nd rfl (Or.inl rfl) (pe_op op_add pe_int (pe_dn D__law_chalk (hr.mono (by decide)) rfl (pa_cons (pv 1) (pa_cons (pe_dn D__law_one (hr.mono (by decide)) rfl (pa_cons (pv 1) (pa_cons (pe_lst (pa_cons pe_int (pa_cons pe_int (pa_cons pe_int (pa_cons (pe_op op_pow pe_int pe_int) pa_nil))))) pa_nil))) pa_nil)))))
    (pss_cons (ps_set (i := 3) sc_law.nd rfl (Or.inl rfl) (pe_op op_add (pe_op op_mul pe_int (pv 2)) (pe_dn D__law_chalk (hr.mono (by decide)) rfl (pa_cons (pv 1) (pa_cons (pe_dn D__law_one (hr.mono (by decide)) rfl (pa_cons (pv 1) (pa_cons (pe_lst (pa_cons pe_int (pa_cons pe_int (pa_cons pe_int (pa_cons (pe_op op_pow pe_int pe_int) pa_nil))))) pa_nil))) pa_nil)))))
    (pss_cons (ps_set (i := 4) sc_law.nd rfl (Or.inl rfl) (pe_op op_add pe_int (pe_dn D__law_chalk (hr.mono (by decide)) rfl (pa_cons (pv 1) (pa_cons (pe_dn D__law_one (hr.mono (by decide)) rfl (pa_cons (pv 1) (pa_cons (pe_lst (pa_cons pe_int (pa_cons pe_int (pa_cons pe_int (pa_cons (pe_op op_pow pe_int pe_int) pa_nil))))) pa_nil))) pa_nil)))))
    (pss_cons (ps_if (pt_not (pt_val (pe_dg D_ref hG (hr.mono (by decide)) rfl (pa_cons (pv 1) (pa_cons (pv 2) (pa_cons (pv 3) (pa_cons (pv 4) pa_nil))))))) (pss_one (ps_ret pe_bl)) pss_nil)
    (pss_cons (ps_set (i := 5) sc_law.nd rfl (Or.inl rfl) (pe_tup (pa_cons (pe_op op_sub (pv 3) (pv 2)) (pa_cons (pe_op op_sub (pe_op op_mul pe_int (pv 3)) (pe_op op_mul pe_int (pv 2))) (pa_cons (pe_op op_sub (pe_op op_sub (pe_op op_add (pv 4) (pv 3)) (pv 2)) (pv 2)) (pa_cons (pe_op op_sub (pv 4) (pv 2)) pa_nil))))))
    (pss_cons (ps_set (i := 6) sc_law.nd rfl (Or.inl rfl) (pe_dnx X_plan (hr.mono (by decide)) rfl (pa_cons (pv 2) (pa_cons (pv 3) (pa_cons (pv 4) pa_nil)))))
    (pss_cons (ps_if (PW.pt (pw_or (pt_not (pt_val (pe_dg D_due hG (hr.mono (by decide)) rfl (pa_cons (pv 6) (pa_cons (pv 5) pa_nil))))) (pw_or1 (pt_not (pt_val (pe_dg D_due hG (hr.mono (by decide)) rfl (pa_cons (pe_dkx K_plan (hr.mono (by decide)) rfl (pk_cons (pv 4) (pk_cons (pv 3) (pk_cons (pv 2) pk_nil)))) (pa_cons (pv 5) pa_nil)))))))) (pss_one (ps_ret pe_bl)) pss_nil)
    (pss_cons (ps_if (PW.pt (pw_or (pt_cmpR (op_neP D_eq (hr.mono (by decide)) K) (pv 6) (pe_plan D_Plan (hr.mono (by decide)) rfl (pa_cons (pe_ix (ix_K K) (pv 5) pe_int (fun _ _ => rfl)) (pa_cons (pe_ix (ix_K K) (pv 5) pe_int (fun _ _ => rfl)) (pa_cons (pe_ix (ix_K K) (pv 5) pe_int (fun _ _ => rfl)) (pa_cons (pe_ix (ix_K K) (pv 5) pe_int (fun _ _ => rfl)) pa_nil))))) (nomark _)) (pw_or (pt_cmpR (op_eqP D_eq (hr.mono (by decide)) K) (pv 6) (pe_plan D_Plan (hr.mono (by decide)) rfl (pa_cons (pe_ix (ix_K K) (pv 5) pe_int (fun _ _ => rfl)) (pa_cons (pe_ix (ix_K K) (pv 5) pe_int (fun _ _ => rfl)) (pa_cons (pe_ix (ix_K K) (pv 5) pe_int (fun _ _ => rfl)) (pa_cons (pe_op op_add (pe_ix (ix_K K) (pv 5) pe_int (fun _ _ => rfl)) pe_int) pa_nil))))) (nomark _)) (pw_or1 (pt_cmpR (op_eqP D_eq (hr.mono (by decide)) K) (pv 6) (pv 5) (nomark _)))))) (pss_one (ps_ret pe_bl)) pss_nil)
    (pss_cons (ps_if (PW.pt (pw_and (pt_cmpR op_gt (pv 3) (pe_op op_mul pe_int (pv 2)) (nomark _)) (pw_and1 (pt_not (pt_val (pe_dg D_due hG (hr.mono (by decide)) rfl (pa_cons (pe_dnx X_plan (hr.mono (by decide)) rfl (pa_cons (pe_op op_add (pv 2) pe_int) (pa_cons (pe_op op_add (pv 3) pe_int) (pa_cons (pe_op op_add (pv 4) pe_int) pa_nil)))) (pa_cons (pv 5) pa_nil)))))))) (pss_one (ps_ret pe_bl)) pss_nil)
    h10)))))))))), ?_⟩
    refine ⟨_, rfl, a, ns, rfl, hS, hl, fun c d0 H1 hcn s1 hC => ?_⟩
    have hT1 : LamX.Tabs [(PT, qL)] H1 := hT.ext s1
    -- dimension, points, length
    refine ⟨_, rfl, _, rfl, 10, 50, rfl, rfl, ⟨by decide, by decide, by decide⟩, (by show 4 ≤ sizeLine; decide), fun L1 hL1 => one4 hC (by omega) hL1 (by decide) (by decide) (by decide) (by decide) fun j1 G1 j10 j11 j12 hC2' sb2' => ⟨c, d0, ns, _, j1, rfl, hC2', by omega, j10, j12, fun r1 H2 a1 b1 hC2 sb2'' => ⟨2, r1, rfl, rfl, ?_⟩⟩⟩
    have sb2 := sb2'.trans sb2''
    dsimp only
    obtain ⟨d, hd⟩ : ∃ d, 2 + r1 = d := ⟨_, rfl⟩
    rw [hd]
    have hT2 := tabs_but hT1 hC sb2
    refine ⟨_, rfl, 2, d, rfl, rfl, .inl ⟨by decide, by decide⟩, _, rfl, _, rfl, 10, 40, rfl, rfl, ⟨by decide, by decide, by decide⟩, (by show 4 ≤ sizeLine; decide), fun L2 hL2 => one4 hC2 (by omega) hL2 (by decide) (by decide) (by decide) (by decide) fun j2 G2 j20 j21 j22 hC3' sb3' => ⟨c, d0, ns, _, j2, rfl, hC3', by omega, j20, j22, fun r2 H3 a2 b2 hC3 sb3'' => ⟨2 * d, r2, rfl, rfl, ?_⟩⟩⟩
    have sb3 := sb3'.trans sb3''
    dsimp only
    obtain ⟨p, hp⟩ : ∃ p, 2 * d + r2 = p := ⟨_, rfl⟩
    rw [hp]
    have hT3 := tabs_but hT2 hC2 sb3
    refine ⟨_, rfl, _, rfl, 10, 30, rfl, rfl, ⟨by decide, by decide, by decide⟩, (by show 4 ≤ sizeLine; decide), fun L3 hL3 => one4 hC3 (by omega) hL3 (by decide) (by decide) (by decide) (by decide) fun j3 G3 j30 j31 j32 hC4' sb4' => ⟨c, d0, ns, _, j3, rfl, hC4', by omega, j30, j32, fun r3 H4 a3 b3 hC4 sb4'' => ⟨2, r3, rfl, rfl, ?_⟩⟩⟩
    have sb4 := sb4'.trans sb4''
    dsimp only
    obtain ⟨l, hl2⟩ : ∃ l, 2 + r3 = l := ⟨_, rfl⟩
    rw [hl2]
    have hT4 := tabs_but hT3 hC3 sb4
    have d2 : 2 ≤ d := by omega
    have p2 : 2 * d ≤ p := by omega
    have l2 : 2 ≤ l := by omega
    have big : (10 ^ 53 : Nat) < 2 ^ 900 := by decide
    have bd : (p - d).natAbs < 2 ^ 900 := Nat.lt_of_le_of_lt (by omega : _ ≤ 10 ^ 53) big
    have bp : (2 * (p - d)).natAbs < 2 ^ 900 := Nat.lt_of_le_of_lt (by omega : _ ≤ 10 ^ 53) big
    have bl : (l + p - 2 * d).natAbs < 2 ^ 900 := Nat.lt_of_le_of_lt (by omega : _ ≤ 10 ^ 53) big
    have be : (l - d).natAbs < 2 ^ 900 := Nat.lt_of_le_of_lt (by omega : _ ≤ 10 ^ 53) big
    -- refused
    refine ⟨_, rfl, _, rfl, _, rfl, _, rfl, c, d0, ns, _, d, p, l, rfl, hC4, by omega, d2, p2, l2, hT4, fun H5 => ⟨_, rfl, iteF ?_⟩⟩
    clear hT hT1 hT2 hT3 hT4 hC hC2 hC3 hC4 sb2 sb3 sb4 sb2' sb3' sb4' sb2'' sb3'' sb4'' hC2' hC3' hC4' s1 hS
    -- due
    refine ⟨_, rfl, _, rfl, p, d, rfl, rfl, _, rfl, 2, p, rfl, rfl, .inl ⟨by decide, by decide⟩, _, rfl, 2, d, rfl, rfl, .inl ⟨by decide, by decide⟩, _, _, rfl, rfl, ?_⟩
    refine ⟨_, rfl, _, rfl, l, p, rfl, rfl, _, rfl, _, d, rfl, rfl, _, rfl, _, d, rfl, rfl, _, rfl, _, rfl, l, d, rfl, rfl, (by show 4 ≤ sizeLine; decide), fun t ht => ?_⟩
    dsimp only
    have zt : upd H5 t (.tup [.int (p - d), .int (2 * p - 2 * d), .int (l + p - d - d), .int (l - d)]) t = some (.tup [.int (p - d), .int (2 * (p - d)), .int (l + p - 2 * d), .int (l - d)]) := by
      rw [upd_same, show 2 * p - 2 * d = 2 * (p - d) from by omega, show l + p - d - d = l + p - 2 * d from by omega]
    generalize upd H5 t (.tup [.int (p - d), .int (2 * p - 2 * d), .int (l + p - d - d), .int (l - d)]) = H6 at zt ⊢
    -- told
    refine ⟨_, rfl, _, rfl, _, rfl, ?_⟩
    refine ⟨.int (d), .int (p), .int (l), false, false, false, rfl, Asks.int _, Asks.int _, Asks.int _, fun z => absurd z (by rw [within_yes d2]; decide), fun d' e hd' => ?_⟩
    cases e
    refine ⟨fun z => absurd z (by rw [within_yes p2]; decide), fun p' e hp' => ?_⟩
    cases e
    refine ⟨fun z => absurd z (by rw [within_yes l2]; decide), fun l' e hl' b H7 _ hP7 s7 => ?_⟩
    cases e
    have zt7 := s7 _ _ zt
    refine ⟨_, rfl, _, rfl, b, t, _, _, _, _, rfl, hP7, zt7, bd, bp, bl, be, fun H8 s8 => ⟨_, rfl, iteF ?_⟩⟩
    have hP8 := hP7.same s8
    have zt8 := s8 _ _ zt7
    refine ⟨_, rfl, _, rfl, _, rfl, rfl, ?_⟩
    refine ⟨.int (d), .int (p), .int (l), false, false, false, rfl, Asks.int _, Asks.int _, Asks.int _, fun z => absurd z (by rw [within_yes d2]; decide), fun d' e hd' => ?_⟩
    cases e
    refine ⟨fun z => absurd z (by rw [within_yes p2]; decide), fun p' e hp' => ?_⟩
    cases e
    refine ⟨fun z => absurd z (by rw [within_yes l2]; decide), fun l' e hl' b2 H9 _ hP9 s9 => ?_⟩
    cases e
    refine ⟨_, rfl, b2, t, _, _, _, _, rfl, hP9, s9 _ _ zt8, bd, bp, bl, be, fun H10 s10 => ⟨_, rfl, iteF ?_⟩⟩
    have s810 := s9.trans s10
    have hP10 := hP8.same s810
    have zt10 := s810 _ _ zt8
    -- equal, unequal
    refine ⟨_, rfl, _, rfl, true, t, _, 0, _, rfl, rfl, .of zt10, rfl, _, rfl, true, t, _, 1, _, rfl, rfl, .of zt10, rfl, _, rfl, true, t, _, 2, _, rfl, rfl, .of zt10, rfl, _, rfl, true, t, _, 3, _, rfl, rfl, .of zt10, rfl, fun b3 dx3 hb3 hd3 nd3 => ⟨b3, dx3, _, _, _, _, rfl, upd_same, fun H11 hP11 sb11 => ⟨rfl, ?_⟩⟩⟩
    have s11 := make_same sb11 hb3 hd3
    refine ⟨b, _, _, _, _, rfl, hP10.same s11, .inl ⟨b3, _, _, _, _, rfl, hP11, _, rfl, ?_⟩⟩
    rw [decide_eq_true rfl]
    refine iteF ?_
    have hP12 := hP10.same s11
    have zt12 := s11 _ _ zt10
    refine ⟨_, rfl, _, rfl, true, t, _, 0, _, rfl, rfl, .of zt12, rfl, _, rfl, true, t, _, 1, _, rfl, rfl, .of zt12, rfl, _, rfl, true, t, _, 2, _, rfl, rfl, .of zt12, rfl, _, rfl, true, t, _, 3, _, rfl, rfl, .of zt12, rfl, _, 1, rfl, rfl, fun b4 dx4 hb4 hd4 nd4 => ⟨b4, dx4, _, _, _, _, rfl, upd_same, fun H13 hP13 sb13 => ⟨rfl, ?_⟩⟩⟩
    have s13 := make_same sb13 hb4 hd4
    have hP14 := hP12.same s13
    have zt14 := s13 _ _ zt12
    refine ⟨b, _, _, _, _, rfl, hP14, .inl ⟨b4, _, _, _, _, rfl, hP13, _, rfl, ?_⟩⟩
    rw [decide_eq_false (by simp; try omega)]
    refine iteF ?_
    refine ⟨_, rfl, _, rfl, b, _, _, _, _, rfl, hP14, .inr ⟨rfl, t, _, rfl, zt14, _, rfl, iteF ?_⟩⟩
    -- one lift ahead
    refine ⟨_, rfl, _, rfl, 2, d, rfl, rfl, .inl ⟨by decide, by decide⟩, _, _, rfl, rfl, _, rfl, ?_⟩
    by_cases c1 : 2 * d < p
    · rw [decide_eq_true c1]
      refine iteT ?_
      refine ⟨_, rfl, d, 1, rfl, rfl, _, rfl, p, 1, rfl, rfl, _, rfl, l, 1, rfl, rfl, ?_⟩
      refine ⟨.int (d + 1), .int (p + 1), .int (l + 1), false, false, false, rfl, Asks.int _, Asks.int _, Asks.int _, fun z => absurd z (by rw [within_yes (by omega : (2 : Int) ≤ d + 1)]; decide), fun d' e hd' => ?_⟩
      cases e
      refine ⟨fun z => absurd z (by rw [within_yes (by omega : 2 * (d + 1) ≤ p + 1)]; decide), fun p' e hp' => ?_⟩
      cases e
      refine ⟨fun z => absurd z (by rw [within_yes (by omega : (2 : Int) ≤ l + 1)]; decide), fun l' e hl' b5 H15 _ hP15 s15 => ?_⟩
      cases e
      have hP15' := hP15.to (d' := p - d) (p' := 2 * (p - d)) (l' := l + p - 2 * d) (e' := l - d) (by omega) (by omega) (by omega) (by omega)
      refine ⟨_, rfl, b5, t, _, _, _, _, rfl, hP15', s15 _ _ zt14, bd, bp, bl, be, fun H16 s16 => ⟨_, rfl, iteF ?_⟩⟩
      have s1516 := s15.trans s16
      exact rest c b t d p l H16 d2 p2 l2 bd bp bl be (hP14.same s1516) (s1516 _ _ zt14)
    · rw [decide_eq_false c1]
      refine iteF ?_
      exact rest c b t d p l H13 d2 p2 l2 bd bp bl be hP14 zt14
end
end K0


set_option Elab.async false
set_option linter.all false
set_option maxRecDepth 100000
set_option maxHeartbeats 4000000
/-! the call of the law at the top, where its promise is FnG's, one table of code objects beside the script -/
namespace K0
open PySem PySem.Spec PyProof.Rows L2

/-- what the top tracks: the table at T, and the list at a where t -/
def topH (T a : Addr) (t : Bool) (u : HO) : Hp := fun b => if b = T then some (.tbl #[]) else if b = a then (if t = true then some u else none) else none
section
variable {T a b : Addr} {t : Bool} {u : HO}
theorem topH_T : topH T a t u T = some (.tbl #[]) := if_pos rfl
theorem topH_a (h : a ≠ T) : topH T a t u a = if t = true then some u else none := (if_neg h).trans (if_pos rfl)
theorem topH_o (h1 : b ≠ T) (h2 : b ≠ a) : topH T a t u b = none := (if_neg h1).trans (if_neg h2)
end
section
variable {P : Program} {w : World} {K : PySem.W.Frag} {mg mb : Str → Option Value} {k : Nat} {fa a cc PT : Addr} {fd : FuncData} {x : Str} {sp : Sp} {sT : Shared} {vs : List Value} {ns : List Int}
theorem top_call (KX : K.In sT.heap) (nG : sT.heap.Ns mainGlobals mg) (nB : sT.heap.Ns builtinsNs mb) (bB : ∀ y : Str, y ≠ "__name__" → mb y = bootBuiltins y) (lim : sT.heap.NoLimit) (gens : sT.gens = #[])
    (tab : sT.heap.get? PT = some { cls := .none, data := .fields #[] }) (tabK : K.lookup PT = none) (code : PySem.W.CodeHd sT.heap cc PT)
    (bm : ∃ (m : Addr) (om : Obj), mg "__builtins__" = some (.ref m) ∧ m ≠ builtinsNs ∧ sT.heap.get? m = some om ∧ om.cls = .type "module" ∧ om.dict = some builtinsNs ∧ om.data = .plain)
    (la : sT.heap.get? a = some { cls := .type "list", data := .seq vs.toArray }) (li : IntsAre vs ns) (ll : ns.length ≤ sizeLine) (room : Room k callerA)
    (F : ∀ gr : Heap, K.In gr → gr.Ns mainGlobals mg → LamX.TabB gr mg cc PT → FnG P w K mg gr k fa fd [x] sp)
    (bind : ∀ (s : Shared) (v : Value), BindsTo s fd ⟨[v], []⟩ [(x, v)])
    (ask : ∀ Hx : Hp, Hx PT = some (.tbl #[]) → SqL K Hx a (ns.map V.int) → sp [.ref a] Hx (fun v _ => v = .bl true) fun _ _ _ => False) :
    codeAny (model P w) callerA (.call (.ref fa) ⟨[.ref a], []⟩) (fun r sE => r = .ok (.ret (.bool true)) ∧ OldK sT.heap sE.heap ∧ sE.os = sT.os ∧ AllBare sE.gens) sT := by
  have vn := vals_ints li
  have len := li.length
  have aT : a ≠ PT := fun z => by
    rw [z, tab] at la
    cases la
  obtain ⟨t, ht⟩ : ∃ t, t = (K.lookup a).isNone := ⟨_, rfl⟩
  obtain ⟨u, hu⟩ : ∃ u, u = HO.frz { cls := .type "list", data := .seq vs.toArray } (.lst (ns.map V.int)) := ⟨_, rfl⟩
  obtain ⟨Hx, eH⟩ : ∃ Hx, Hx = topH PT a t u := ⟨_, rfl⟩
  have hT : Hx PT = some (.tbl #[]) := by rw [eH]; exact topH_T
  have hA : Hx a = if t = true then some u else none := by rw [eH]; exact topH_a aT
  have hO : ∀ b, b ≠ PT → b ≠ a → Hx b = none := fun b h1 h2 => by rw [eH]; exact topH_o h1 h2
  -- nothing but a list and a table is tracked
  have free : ∀ {b : Addr} {o : Obj}, sT.heap.get? b = some o → o.data ≠ .fields #[] → (∀ its n, o.data ≠ .seq its n) → Hx b = none := fun {b o} e d1 d2 => by
    refine hO b (fun z => ?_) fun z => ?_
    · rw [z, tab] at e
      cases e
      exact d1 rfl
    · rw [z, la] at e
      cases e
      exact d2 _ _ rfl
  have held : HOk P w Hx sT.heap := fun b o e => by
    by_cases h1 : b = PT
    · rw [h1, hT] at e
      cases e
      rw [h1]
      exact tab
    · by_cases h2 : b = a
      · rw [h2, hA] at e
        cases t with
        | false => exact absurd e (by simp)
        | true =>
          rw [if_pos rfl] at e
          cases e
          rw [h2, hu]
          exact ⟨la, by rw [List.length_map]; exact ll, vs, _, vn, la⟩
      · rw [hO b h1 h2] at e
        cases e
  have seq : SqL K Hx a (ns.map V.int) := by
    cases hk : K.lookup a with
    | none =>
      rw [hk] at ht
      refine .inl (.inr ⟨{ cls := .type "list", data := .seq vs.toArray }, ?_⟩)
      rw [hA, ht, ← hu]
      rfl
    | some o =>
      have e := KX a o hk
      rw [la] at e
      cases e
      exact .inr ⟨_, vs.toArray, _, hk, rfl, rfl, rfl, by rw [List.size_toArray, len]; exact ll, by simpa using vn⟩
  have inGr : K.In (hidT sT.heap Hx) := fun b o e => by
    refine hidT_get (KX b o e) ?_
    by_cases h1 : b = PT
    · rw [h1, tabK] at e
      cases e
    · by_cases h2 : b = a
      · rw [h2] at e
        rw [e] at ht
        rw [h2, hA, ht]
        rfl
      · exact hO b h1 h2
  have ns2 : ∀ {b : Addr} {m : Str → Option Value}, sT.heap.Ns b m → (hidT sT.heap Hx).Ns b m := fun {b m} ⟨o, es, ep, e, d, r⟩ =>
    ⟨o, es, ep, hidT_get e (free e (fun z => by rw [d] at z; cases z) fun its n z => by rw [d] at z; cases z), d, r⟩
  have tb : LamX.TabB (hidT sT.heap Hx) mg cc PT := by
    refine ⟨?_, ?_, fun z => ?_⟩
    · obtain ⟨o, us, file, tf, flags, tg, inF, text, tt, e1, r1, r2, r3, rest⟩ := code
      refine ⟨o, us, file, tf, flags, tg, inF, text, tt, hidT_get e1 (free e1 (fun z => ?_) fun its n z => ?_), r1, r2, r3, rest⟩
      · rw [r2] at z
        cases z
        simp at r3
      · rw [r2] at z
        cases z
    · obtain ⟨m, om, b1, b2, b3, b4, b5, b6⟩ := bm
      refine ⟨m, om, b1, b2, fun z => ?_, fun z => ?_, hidT_get b3 (free b3 (fun z => ?_) fun its n z => ?_), b4, b5, b6⟩
      · obtain ⟨o, es, ep, e, d, _⟩ := nG
        rw [z, e] at b3
        cases b3
        rw [d] at b6
        cases b6
      · rw [z, tab] at b3
        cases b3
        cases b6
      · rw [b6] at z
        cases z
      · rw [b6] at z
        cases z
    · obtain ⟨o, es, ep, e, d, _⟩ := nG
      rw [z, tab] at e
      cases e
      cases d
  have env : Env0 P w K mg (hidT sT.heap Hx) callerA [] sT Hx :=
    { frames := rfl
      mod := ⟨inGr, ns2 nG, ⟨mb, ns2 nB, bB⟩, let ⟨mc, z1, z2⟩ := lim; ⟨mc, ns2 z1, z2⟩⟩
      bs := fun b o e => of_hidT e
      bsz := Nat.le_of_eq (hidT_size _ _)
      funs := trivial
      frf := fun b hb => absurd hb List.not_mem_nil
      hok := held
      bare := .of_eq gens }
  have go := (F _ inGr (ns2 nG) tb).go callerA [] sT Hx ⟨[.ref a], []⟩ [.ref a] [.ref a] _ _ rfl room env (bind sT (.ref a)) (.cons rfl .nil) (ask Hx hT seq)
  refine codeAny_mono go fun r sE h => ?_
  match r, h with
  | .error e, h => exact (show False from h).elim
  | .ok .next, h => exact (show False from h).elim
  | .ok .brk, h => exact (show False from h).elim
  | .ok .cont, h => exact (show False from h).elim
  | .ok (.ret z), h =>
    obtain ⟨v, Hy, os, bare, un, ok2, rv, q⟩ := h
    have q2 : v = .bl true := q
    subst q2
    obtain rfl : z = Value.bool true := rv
    have stay : ∀ b o, b ≠ PT → sT.heap.get? b = some o → sE.heap.get? b = some o := fun b o nb e => by
      by_cases hb : b = a
      · have hAe := hA
        cases t with
        | false => exact un.keep b o e (by rw [hb, hAe]; rfl) List.not_mem_nil List.not_mem_nil
        | true =>
          rw [if_pos rfl] at hAe
          have fz := hAe
          rw [hu] at fz
          have f2 := un.frzs a _ _ fz
          obtain ⟨z1, _⟩ := held a _ fz
          obtain ⟨z2, _⟩ := ok2 a _ f2
          rw [hb, z1] at e
          cases e
          rw [hb]
          exact z2
      · exact un.keep b o e (hO b nb hb) List.not_mem_nil List.not_mem_nil
    obtain ⟨more, hm⟩ := un.tbls PT #[] hT
    have tE : sE.heap.get? PT = some { cls := .none, data := .fields (#[] ++ more) } := ok2 PT _ hm
    refine ⟨rfl, ⟨fun b o e => ?_, fun b o e => ?_⟩, os, bare⟩
    · by_cases hb : b = PT
      · rw [hb] at e ⊢
        rw [tab] at e
        cases e
        exact .inr (.inl ⟨(code.tab tab).isCodeTable, rfl, #[], more, rfl, tE⟩)
      · exact .inl (stay b o hb e)
    · by_cases hb : b = PT
      · rw [hb]
        exact ⟨_, tE⟩
      · exact ⟨o, stay b o hb e⟩
end
end K0


set_option Elab.async false
set_option linter.all false
set_option maxRecDepth 100000
set_option maxHeartbeats 4000000
namespace K0
open PySem PySem.Spec PyProof.Rows L2

section
variable {P : Program} {w : World} {K : PySem.W.Frag} {mg : Str → Option Value} {base : Heap}
theorem nmg {h : Heap} {x : Str} (X : K.In h) (G : h.Ns mainGlobals mg) (e : PySem.W.nsIn K mainGlobals x = some none) : mg x = none := PySem.W.mg_none_of X G e
theorem cls_ok {K : PySem.W.Frag} {D : Addr} (i : PySem.W.isClsIn K D = true) (t : PySem.W.typeIn K (.ref D) = some (.type "type")) : ((PySem.W.clsIn K D).isSome && PySem.W.typeIn K (.ref D) == some (.type "type")) = true := by
  have i2 : (PySem.W.clsIn K D).isSome = true := i
  rw [i2, t]
  rfl
theorem kit_self {K : PySem.W.Frag} {v : Value} : PySem.W.kitOne K v v = some true := if_pos (beq_iff_eq.mpr rfl)
theorem kit_cl {K : PySem.W.Frag} {C D : Addr} {b : Bool} (h : PySem.W.subIn K (.ref C) (.ref D) = some b) (i : PySem.W.isClsIn K D = true) (t : PySem.W.typeIn K (.ref D) = some (.type "type")) : PySem.W.kitCls K (.ref C) (.ref D) = some b := by
  exact Eq.trans (if_pos (cls_ok i t)) h
theorem kit_no {K : PySem.W.Frag} {C D : Addr} (h : PySem.W.subIn K (.ref C) (.ref D) = some false) (s : PySem.W.subIn K (.ref D) (.ref D) = some true) (i : PySem.W.isClsIn K D = true) (t : PySem.W.typeIn K (.ref D) = some (.type "type")) : PySem.W.kitOne K (.ref C) (.ref D) = some false := by
  have ne : ¬ (Value.ref C == Value.ref D) = true := fun e => by
    have e2 := Value.ref.inj (beq_iff_eq.mp e)
    rw [e2, s] at h
    cases h
  unfold PySem.W.kitOne
  rw [if_neg ne]
  exact kit_cl h i t
theorem kit_yes {K : PySem.W.Frag} {C D : Addr} (h : PySem.W.subIn K (.ref C) (.ref D) = some true) (i : PySem.W.isClsIn K D = true) (t : PySem.W.typeIn K (.ref D) = some (.type "type")) : PySem.W.kitOne K (.ref C) (.ref D) = some true := by
  unfold PySem.W.kitOne
  by_cases e : (Value.ref C == Value.ref D) = true
  · rw [if_pos e]
  · rw [if_neg e]
    exact kit_cl h i t
theorem kit_tn {K : PySem.W.Frag} {C : Addr} {T : String} {b : Bool} (h : PySem.W.subIn K (.ref C) (.type T) = some b) (m : PySem.W.kitMeta T = true) : PySem.W.kitOne K (.ref C) (.type T) = some b := by
  unfold PySem.W.kitOne
  rw [if_neg (fun e => by cases beq_iff_eq.mp e)]
  exact Eq.trans (if_pos m) h
theorem any_no {K : PySem.W.Frag} {t c : Value} {cs : List Value} (h : PySem.W.kitOne K t c = some false) (r : PySem.W.kitAny K t cs = some false) : PySem.W.kitAny K t (c :: cs) = some false := kitAny_cons h (fun _ => r) (fun e => by cases e)
theorem exm_yes {K : PySem.W.Frag} {C D : Addr} (b : PySem.W.subIn K (.ref D) (.type "BaseException") = some true) (h : PySem.W.subIn K (.ref C) (.ref D) = some true) (i : PySem.W.isClsIn K D = true) (t : PySem.W.typeIn K (.ref D) = some (.type "type")) : PySem.W.exmOne K (.ref C) (.ref D) = some true := by
  unfold PySem.W.exmOne
  rw [b, if_pos (by rfl)]
  exact kit_cl h i t
theorem dn_of {x : Str} {st : Stmt} {f : Addr} {fd : FuncData} {k : Nat} {ps : List Str} {sp : Sp} (F : Fun K x x st f fd) (O : FnOk P w K mg base CX0 k f fd ps sp) (m : mg x = some (.ref f))
    (b : ∀ (kV doc pm : Value) (an : Option Addr) (cdv ct : Value) (us : List Value), us.length = ps.length → bindArgs (PySem.W.fnOf x x (defArgs st) (defBody st) (defScope st) .none kV doc pm an cdv ct) ⟨us, []⟩ = pure (ps.zip us)) : Dn P w K mg base k x f ps sp := ⟨⟨fd, O, F.binds b⟩, m, F.kp⟩
theorem dg_of {x : Str} {st : Stmt} {f : Addr} {fd : FuncData} {k : Nat} {ps : List Str} {sp : Sp} (B : Binds K fd ps []) (kp : PySem.W.keepIn K (.ref f) = true) (O : FnG P w K mg base k f fd ps sp) (m : mg x = some (.ref f)) : DnG P w K mg base k x f ps sp := ⟨⟨fd, O, B⟩, m, kp⟩
theorem dx_of {x : Str} {st : Stmt} {f : Addr} {fd : FuncData} {k : Nat} {ps : List Str} {sp : Sp} (F : Fun K x x st f fd) (O : FnOk P w K mg base (L2.CX P w) k f fd ps sp) (m : mg x = some (.ref f))
    (b : ∀ (kV doc pm : Value) (an : Option Addr) (cdv ct : Value) (us : List Value), us.length = ps.length → bindArgs (PySem.W.fnOf x x (defArgs st) (defBody st) (defScope st) .none kV doc pm an cdv ct) ⟨us, []⟩ = pure (ps.zip us)) : DnX P w K mg base k x f ps sp := ⟨⟨fd, O, F.binds b⟩, m, F.kp⟩
/-- keywords, in the order of the parameters -/
theorem kb_same {x : Str} {st : Stmt} {f : Addr} {fd : FuncData} {ps : List Str} (F : Fun K x x st f fd)
    (b : ∀ (kV doc pm : Value) (an : Option Addr) (cdv ct : Value) (ws : List Value), ws.length = ps.length → bindArgs (PySem.W.fnOf x x (defArgs st) (defBody st) (defScope st) .none kV doc pm an cdv ct) ⟨[], ps.zip ws⟩ = pure (ps.zip ws)) : KBn K fd ps 0 ps (fun _ ws => ws) kw1 := by
  obtain ⟨oc, od, kV, doc, pm, an, cdv, ct, osl, rfl, lk, hcd⟩ := F.ex
  refine ⟨fun s us ws _ l1 l2 => ?_, fun _ r => r⟩
  match us, l1 with
  | [], _ => exact .of_eq (b kV doc pm an cdv ct ws l2)
theorem kb_rev3 {x : Str} {st : Stmt} {f : Addr} {fd : FuncData} {ps ks : List Str} (F : Fun K x x st f fd)
    (b : ∀ (kV doc pm : Value) (an : Option Addr) (cdv ct : Value) (ws : List Value), ws.length = ks.length → bindArgs (PySem.W.fnOf x x (defArgs st) (defBody st) (defScope st) .none kV doc pm an cdv ct) ⟨[], ks.zip ws⟩ = pure (ps.zip ws.reverse)) : KBn K fd ps 0 ks (fun _ ws => ws.reverse) kwR := by
  obtain ⟨oc, od, kV, doc, pm, an, cdv, ct, osl, rfl, lk, hcd⟩ := F.ex
  refine ⟨fun s us ws _ l1 l2 => ?_, fun _ r => vals_rev r⟩
  match us, l1 with
  | [], _ => exact .of_eq (b kV doc pm an cdv ct ws l2)
end
theorem all_mk {P : Program} {w : World} {K : PySem.W.Frag} {h : Heap} {mg : Str → Option Value} (X : K.In h) (G : h.Ns mainGlobals mg)
    {C0 I0 ES E2 E3 EM ET ED EP IP QP JP cel cda F0 F1 F2 F3 F4 F5 F6 F7 F8 F9 F10 F11 cc PT : Addr} {nm0 cq0 cfile : Str} {N0 : Addr} {bs0 bm0 sub0 : List Value} {sn0 : List Str} {ab0 : Bool} {col0 : Option Bool} {dd0 od0 an0 odP anP odQ anQ odJ anJ cdd ecd dod0 dan0 dod1 dan1 dod2 dan2 dod3 dan3 dod4 dan4 dod5 dan5 dod6 dan6 dod7 dan7 dod8 dan8 dod9 dan9 dod10 dan10 dod11 dan11 : Option Addr}
    {m00 m10 m20 m30 m50 : Option Value} {oc0 kv0 cdc0 pm0 cd0 tt0 ocP kvP cdcP pmP ttP ocQ kvQ cdcQ pmQ cdQ ttQ ocJ kvJ cdcJ pmJ cdJ ttJ ccl ecl doc0 dkv0 ddc0 dpm0 dcd0 dct0 doc1 dkv1 ddc1 dpm1 dcd1 dct1 doc2 dkv2 ddc2 dpm2 dcd2 dct2 doc3 dkv3 ddc3 dpm3 dcd3 dct3 doc4 dkv4 ddc4 dpm4 dcd4 dct4 doc5 dkv5 ddc5 dpm5 dcd5 dct5 doc6 dkv6 ddc6 dpm6 dcd6 dct6 doc7 dkv7 ddc7 dpm7 dcd7 dct7 doc8 dkv8 ddc8 dpm8 dcd8 dct8 doc9 dkv9 ddc9 dpm9 dcd9 dct9 doc10 dkv10 ddc10 dpm10 dcd10 dct10 doc11 dkv11 ddc11 dpm11 dcd11 dct11 : Value} {sl0 slP slQ slJ ccs ecs dsl0 dsl1 dsl2 dsl3 dsl4 dsl5 dsl6 dsl7 dsl8 dsl9 dsl10 dsl11 : Array (Option Value)} {cvs : Array Value} {tLE ctf : Tok}
    (ca0 : PySem.W.nsIn K mainGlobals "BadNumber" = some (some (.ref C0)))
    (cl0 : K.lookup C0 = some (excClassObj nm0 cq0 C0 N0 bs0 bm0 true sn0 sub0 ab0 col0 dd0 m00 m10 m20 m30 m50 "ValueError.__new__"))
    (cv0 : PySem.HandSPX.refsVE bm0 = true)
    (cs0 : PySem.W.findIn K (.ref C0) "__setattr__" = some (some (.builtin "object.__setattr__")))
    (ci0 : PySem.W.findIn K (.ref C0) "__init__" = some (some (.ref I0)))
    (ct0 : PySem.W.typeIn K (.ref I0) = some (.type "function"))
    (cf0 : K.lookup I0 = some ⟨oc0, od0, .func (PySem.W.fnOf "__init__" "BadNumber.__init__" (defArgs si_BadNumber) (defBody si_BadNumber) (defScope si_BadNumber) .none kv0 cdc0 pm0 an0 cd0 tt0), sl0⟩)
    (cc0 : PySem.W.codeIn K cd0 "BadNumber.__init__" = true)
    (cj0 : PySem.W.keepIn K (.ref I0) = true)
    (cn0 : PySem.W.findIn K (.ref C0) "part" = some none)
    (cg0 : PySem.W.findIn K (.ref C0) "__getattribute__" = some (some (.builtin "BaseException.__getattribute__")))
    (ch0 : PySem.W.findIn K (.ref C0) "__getattr__" = some none)
    (ce0 : PySem.W.subIn K (.ref C0) (.type "BaseException") = some true)
    (cy0 : PySem.W.typeIn K (.ref C0) = some (.type "type"))
    (ck0 : PySem.W.keepIn K (.ref C0) = true)
    (cd_0 : PySem.W.hasDictIn K C0 = true)
    (co0 : PySem.W.findIn K (.ref C0) "__class__" = some (some (.builtin "object.__class__")))
    (cm0 : PySem.W.mroIn K C0 (.type "object") = some true)
    (iC0 : PySem.W.isClsIn K C0 = true)
    (eaS : PySem.W.nsIn K mainGlobals "SolidError" = some (some (.ref ES)))
    (ea2 : PySem.W.nsIn K mainGlobals "BadSpindle" = some (some (.ref E2)))
    (ea3 : PySem.W.nsIn K mainGlobals "BadPaper" = some (some (.ref E3)))
    (eaM : PySem.W.nsIn K mainGlobals "Misfit" = some (some (.ref EM)))
    (eaT : PySem.W.nsIn K mainGlobals "TooMany" = some (some (.ref ET)))
    (eaD : PySem.W.nsIn K mainGlobals "Denial" = some (some (.ref ED)))
    (eaP : PySem.W.nsIn K mainGlobals "Plan" = some (some (.ref EP)))
    (eeS : PySem.W.subIn K (.ref ES) (.type "BaseException") = some true)
    (eyS : PySem.W.typeIn K (.ref ES) = some (.type "type"))
    (eiS : PySem.W.isClsIn K ES = true)
    (ey2 : PySem.W.typeIn K (.ref E2) = some (.type "type"))
    (ei2 : PySem.W.isClsIn K E2 = true)
    (ey3 : PySem.W.typeIn K (.ref E3) = some (.type "type"))
    (ei3 : PySem.W.isClsIn K E3 = true)
    (eyD : PySem.W.typeIn K (.ref ED) = some (.type "type"))
    (eiD : PySem.W.isClsIn K ED = true)
    (ksS : PySem.W.subIn K (.ref C0) (.ref ES) = some true)
    (ks2 : PySem.W.subIn K (.ref C0) (.ref E2) = some false)
    (kk2 : PySem.W.subIn K (.ref E2) (.ref E2) = some true)
    (ks3 : PySem.W.subIn K (.ref C0) (.ref E3) = some false)
    (kk3 : PySem.W.subIn K (.ref E3) (.ref E3) = some true)
    (gn : PySem.W.specialIn K (.builtin "object.__class__") "__get__" = some (some (.builtin "getset_descriptor.__get__")))
    (gt : PySem.W.takesIn K (.builtin "object.__class__") = some true)
    (p_pg : PySem.W.plainGet K EP Str.empty = true)
    (p_hd : PySem.W.hasDictIn K EP = true)
    (p_po : PySem.W.plainOver K EP = true)
    (p_sa : PySem.W.findIn K (.ref EP) "__setattr__" = some (some (.builtin "object.__setattr__")))
    (p_nword : PySem.W.findIn K (.ref EP) "word" = some none)
    (p_nparts : PySem.W.findIn K (.ref EP) "parts" = some none)
    (p_ndimension : PySem.W.findIn K (.ref EP) "dimension" = some none)
    (p_npoints : PySem.W.findIn K (.ref EP) "points" = some none)
    (p_nlength : PySem.W.findIn K (.ref EP) "length" = some none)
    (p_nabove : PySem.W.findIn K (.ref EP) "above" = some none)
    (p_ha : PySem.W.findIn K (.ref EP) "__class__" = some (some (.builtin "object.__class__")))
    (p_hm : PySem.W.mroIn K EP (.type "object") = some true)
    (p_kd : PySem.W.subIn K (.ref EP) (.ref ED) = some false)
    (p_dd : PySem.W.subIn K (.ref ED) (.ref ED) = some true)
    (p_bo : PySem.W.findIn K (.ref EP) "__bool__" = some none)
    (p_le : PySem.W.findIn K (.ref EP) "__len__" = some none)
    (p_mk : PySem.W.makesIn K EP = true)
    (p_kc : PySem.W.keepIn K (.ref EP) = true)
    (p_ic : PySem.W.isClsIn K EP = true)
    (p_ne : PySem.W.findIn K (.ref EP) "__ne__" = some (some (.builtin "object.__ne__")))
    (p_tu : PySem.W.subIn K (.type "tuple") (.ref EP) = some false)
    (p_in : PySem.W.findIn K (.ref EP) "__init__" = some (some (.ref IP)))
    (p_if : PySem.W.isFn K (.ref IP) = true)
    (p_il : K.lookup IP = some ⟨ocP, odP, .func (PySem.W.fnX "__init__" "Plan.__init__" (defArgs si_Plan) (defBody si_Plan) (defScope si_Plan) [(("__class__" : Str), cel)] .none kvP cdcP pmP anP (.ref cda) ttP), slP⟩)
    (p_ik : PySem.W.codeIn K (.ref cda) "Plan.__init__" = true)
    (p_eq : PySem.W.findIn K (.ref EP) "__eq__" = some (some (.ref QP)))
    (p_ef : PySem.W.isFn K (.ref QP) = true)
    (p_el : K.lookup QP = some ⟨ocQ, odQ, .func (PySem.W.fnOf "__eq__" "Paper.__eq__" (defArgs se_Paper) (defBody se_Paper) (defScope se_Paper) .none kvQ cdcQ pmQ anQ cdQ ttQ), slQ⟩)
    (p_ec : PySem.W.codeIn K cdQ "Paper.__eq__" = true)
    (p_ek : PySem.W.keepIn K (.ref QP) = true)
    (s_lc : K.lookup cda = some ⟨ccl, cdd, .fields cvs, ccs⟩)
    (s_vs : cvs[2]? = some (Value.str cfile ctf))
    (s_fi : ((P.main.file : Str) == cfile) = true)
    (s_to : (P.main.scope.names.lookup ("super" : Str)).isSome = false)
    (s_ce : K.lookup cel = some ⟨ecl, ecd, .cell (some (.ref EP)), ecs⟩)
    (s_su : PySem.W.mroIn K EP (.ref EP) = some true)
    (s_op : PySem.W.nsIn K cStatics "thirdparty.any" = some none)
    (s_at : PySem.W.ks_superIn K EP EP "__init__" = some (some (.ref JP)))
    (s_ty : PySem.W.typeIn K (.ref JP) = some (.type "function"))
    (s_fn : PySem.W.fnIn K JP = true)
    (s_jl : K.lookup JP = some ⟨ocJ, odJ, .func (PySem.W.fnOf "__init__" "Paper.__init__" (defArgs si_Paper) (defBody si_Paper) (defScope si_Paper) .none kvJ cdcJ pmJ anJ cdJ ttJ), slJ⟩)
    (s_jc : PySem.W.codeIn K cdJ "Paper.__init__" = true)
    (s_jk : PySem.W.keepIn K (.ref JP) = true)
    (n_isinstance : PySem.W.nsIn K mainGlobals "isinstance" = some none)
    (n_int : PySem.W.nsIn K mainGlobals "int" = some none)
    (n_bool : PySem.W.nsIn K mainGlobals "bool" = some none)
    (n_list : PySem.W.nsIn K mainGlobals "list" = some none)
    (n_tuple : PySem.W.nsIn K mainGlobals "tuple" = some none)
    (n_len : PySem.W.nsIn K mainGlobals "len" = some none)
    (n_abs : PySem.W.nsIn K mainGlobals "abs" = some none)
    (n_repr : PySem.W.nsIn K mainGlobals "repr" = some none)
    (n_range : PySem.W.nsIn K mainGlobals "range" = some none)
    (n_type : PySem.W.nsIn K mainGlobals "type" = some none)
    (n_super : PySem.W.nsIn K mainGlobals "super" = some none)
    (c_LE : PySem.W.nsIn K mainGlobals "LEAST" = some (some (.int 2 tLE)))
    (da0 : PySem.W.nsIn K mainGlobals "is_integer" = some (some (.ref F0)))
    (dl0 : K.lookup F0 = some ⟨doc0, dod0, .func (PySem.W.fnOf "is_integer" "is_integer" (defArgs st_is_integer) (defBody st_is_integer) (defScope st_is_integer) .none dkv0 ddc0 dpm0 dan0 dcd0 dct0), dsl0⟩)
    (dc0 : PySem.W.codeIn K dcd0 "is_integer" = true)
    (dk0 : PySem.W.keepIn K (.ref F0) = true)
    (da1 : PySem.W.nsIn K mainGlobals "is_within" = some (some (.ref F1)))
    (dl1 : K.lookup F1 = some ⟨doc1, dod1, .func (PySem.W.fnOf "is_within" "is_within" (defArgs st_is_within) (defBody st_is_within) (defScope st_is_within) .none dkv1 ddc1 dpm1 dan1 dcd1 dct1), dsl1⟩)
    (dc1 : PySem.W.codeIn K dcd1 "is_within" = true)
    (dk1 : PySem.W.keepIn K (.ref F1) = true)
    (da2 : PySem.W.nsIn K mainGlobals "fixed" = some (some (.ref F2)))
    (dl2 : K.lookup F2 = some ⟨doc2, dod2, .func (PySem.W.fnOf "fixed" "fixed" (defArgs st_fixed) (defBody st_fixed) (defScope st_fixed) .none dkv2 ddc2 dpm2 dan2 dcd2 dct2), dsl2⟩)
    (dc2 : PySem.W.codeIn K dcd2 "fixed" = true)
    (dk2 : PySem.W.keepIn K (.ref F2) = true)
    (da3 : PySem.W.nsIn K mainGlobals "_are_alike" = some (some (.ref F3)))
    (dl3 : K.lookup F3 = some ⟨doc3, dod3, .func (PySem.W.fnOf "_are_alike" "_are_alike" (defArgs st__are_alike) (defBody st__are_alike) (defScope st__are_alike) .none dkv3 ddc3 dpm3 dan3 dcd3 dct3), dsl3⟩)
    (dc3 : PySem.W.codeIn K dcd3 "_are_alike" = true)
    (dk3 : PySem.W.keepIn K (.ref F3) = true)
    (da4 : PySem.W.nsIn K mainGlobals "plan" = some (some (.ref F4)))
    (dl4 : K.lookup F4 = some ⟨doc4, dod4, .func (PySem.W.fnOf "plan" "plan" (defArgs st_plan) (defBody st_plan) (defScope st_plan) .none dkv4 ddc4 dpm4 dan4 dcd4 dct4), dsl4⟩)
    (dc4 : PySem.W.codeIn K dcd4 "plan" = true)
    (dk4 : PySem.W.keepIn K (.ref F4) = true)
    (da5 : PySem.W.nsIn K mainGlobals "_law_slate" = some (some (.ref F5)))
    (dl5 : K.lookup F5 = some ⟨doc5, dod5, .func (PySem.W.fnOf "_law_slate" "_law_slate" (defArgs st__law_slate) (defBody st__law_slate) (defScope st__law_slate) .none dkv5 ddc5 dpm5 dan5 dcd5 dct5), dsl5⟩)
    (dc5 : PySem.W.codeIn K dcd5 "_law_slate" = true)
    (dk5 : PySem.W.keepIn K (.ref F5) = true)
    (da6 : PySem.W.nsIn K mainGlobals "_law_chalk" = some (some (.ref F6)))
    (dl6 : K.lookup F6 = some ⟨doc6, dod6, .func (PySem.W.fnOf "_law_chalk" "_law_chalk" (defArgs st__law_chalk) (defBody st__law_chalk) (defScope st__law_chalk) .none dkv6 ddc6 dpm6 dan6 dcd6 dct6), dsl6⟩)
    (dc6 : PySem.W.codeIn K dcd6 "_law_chalk" = true)
    (dk6 : PySem.W.keepIn K (.ref F6) = true)
    (da7 : PySem.W.nsIn K mainGlobals "_law_one" = some (some (.ref F7)))
    (dl7 : K.lookup F7 = some ⟨doc7, dod7, .func (PySem.W.fnOf "_law_one" "_law_one" (defArgs st__law_one) (defBody st__law_one) (defScope st__law_one) .none dkv7 ddc7 dpm7 dan7 dcd7 dct7), dsl7⟩)
    (dc7 : PySem.W.codeIn K dcd7 "_law_one" = true)
    (dk7 : PySem.W.keepIn K (.ref F7) = true)
    (da8 : PySem.W.nsIn K mainGlobals "_law_heard" = some (some (.ref F8)))
    (dl8 : K.lookup F8 = some ⟨doc8, dod8, .func (PySem.W.fnOf "_law_heard" "_law_heard" (defArgs st__law_heard) (defBody st__law_heard) (defScope st__law_heard) .none dkv8 ddc8 dpm8 dan8 dcd8 dct8), dsl8⟩)
    (dc8 : PySem.W.codeIn K dcd8 "_law_heard" = true)
    (dk8 : PySem.W.keepIn K (.ref F8) = true)
    (da9 : PySem.W.nsIn K mainGlobals "_law_refusals_right" = some (some (.ref F9)))
    (dl9 : K.lookup F9 = some ⟨doc9, dod9, .func (PySem.W.fnOf "_law_refusals_right" "_law_refusals_right" (defArgs st__law_refusals_right) (defBody st__law_refusals_right) (defScope st__law_refusals_right) .none dkv9 ddc9 dpm9 dan9 (.ref cc) dct9), dsl9⟩)
    (dc9 : PySem.W.codeIn K (.ref cc) "_law_refusals_right" = true)
    (dk9 : PySem.W.keepIn K (.ref F9) = true)
    (da10 : PySem.W.nsIn K mainGlobals "_law_is_due" = some (some (.ref F10)))
    (dl10 : K.lookup F10 = some ⟨doc10, dod10, .func (PySem.W.fnOf "_law_is_due" "_law_is_due" (defArgs st__law_is_due) (defBody st__law_is_due) (defScope st__law_is_due) .none dkv10 ddc10 dpm10 dan10 dcd10 dct10), dsl10⟩)
    (dc10 : PySem.W.codeIn K dcd10 "_law_is_due" = true)
    (dk10 : PySem.W.keepIn K (.ref F10) = true)
    (da11 : PySem.W.nsIn K mainGlobals "law" = some (some (.ref F11)))
    (dl11 : K.lookup F11 = some ⟨doc11, dod11, .func (PySem.W.fnOf "law" "law" (defArgs st_law) (defBody st_law) (defScope st_law) .none dkv11 ddc11 dpm11 dan11 dcd11 dct11), dsl11⟩)
    (dc11 : PySem.W.codeIn K dcd11 "law" = true)
    (dk11 : PySem.W.keepIn K (.ref F11) = true)
    {fa : Addr} (hmg : mg "law" = some (.ref fa)) (gr : Heap) (tb : LamX.TabB gr mg cc PT) : FnG P w K mg gr 10 fa (PySem.W.fnOf "law" "law" (defArgs st_law) (defBody st_law) (defScope st_law) .none dkv11 ddc11 dpm11 dan11 dcd11 dct11) ["script"] (spLaw K PT) := by
  have ox0 : OexC K C0 := ⟨⟨_, _, _, _, _, _, _, _, _, _, _, _, _, _, _, cl0, cv0⟩, cs0, ce0, cy0, ck0⟩
  have xf0 : XfC K C0 := ⟨cg0, ch0, ce0, cd_0⟩
  have ex0 : ExcC K C0 := ⟨cg0, ch0, ce0, cd_0, co0, gn, gt, cm0⟩
  have fi0 := fun_mk (st := si_BadNumber) cf0 cc0 cj0
  have T : Nm mg := ⟨nmg X G n_isinstance, nmg X G n_int, nmg X G n_bool, nmg X G n_list, nmg X G n_tuple, nmg X G n_len, nmg X G n_abs, nmg X G n_repr, nmg X G n_range, nmg X G n_type, nmg X G n_super, ⟨_, PySem.W.mg_of X G c_LE⟩⟩
  have f0 := fun_mk (st := st_is_integer) dl0 dc0 dk0
  have a0 := PySem.W.mg_of X G da0
  have f1 := fun_mk (st := st_is_within) dl1 dc1 dk1
  have a1 := PySem.W.mg_of X G da1
  have f2 := fun_mk (st := st_fixed) dl2 dc2 dk2
  have a2 := PySem.W.mg_of X G da2
  have f3 := fun_mk (st := st__are_alike) dl3 dc3 dk3
  have a3 := PySem.W.mg_of X G da3
  have f4 := fun_mk (st := st_plan) dl4 dc4 dk4
  have a4 := PySem.W.mg_of X G da4
  have f5 := fun_mk (st := st__law_slate) dl5 dc5 dk5
  have a5 := PySem.W.mg_of X G da5
  have f6 := fun_mk (st := st__law_chalk) dl6 dc6 dk6
  have a6 := PySem.W.mg_of X G da6
  have f7 := fun_mk (st := st__law_one) dl7 dc7 dk7
  have a7 := PySem.W.mg_of X G da7
  have f8 := fun_mk (st := st__law_heard) dl8 dc8 dk8
  have a8 := PySem.W.mg_of X G da8
  have f9 : FunC K "_law_refusals_right" "_law_refusals_right" st__law_refusals_right F9 _ cc := ⟨_, _, _, _, _, _, _, _, rfl, dl9, dc9⟩
  have a9 := PySem.W.mg_of X G da9
  have f10 := fun_mk (st := st__law_is_due) dl10 dc10 dk10
  have a10 := PySem.W.mg_of X G da10
  have f11 := fun_mk (st := st_law) dl11 dc11 dk11
  have a11 := PySem.W.mg_of X G da11
  have D_is_integer := dn_of f0 (ok_is_integer (P := P) (w := w) (base := gr) f0 T) a0 (fun _ _ _ _ _ _ us hl => match us, hl with | [_], _ => rfl)
  have D_is_within := dn_of f1 (ok_is_within f1 T D_is_integer) a1 (fun _ _ _ _ _ _ us hl => match us, hl with | [_, _, _], _ => rfl)
  have D_fixed := dn_of f2 (ok_fixed (P := P) (w := w) (base := gr) f2 T a2 (f2.binds (ps := ["value"]) (fun _ _ _ _ _ _ us hl => match us, hl with | [_], _ => rfl)) 2) a2 (fun _ _ _ _ _ _ us hl => match us, hl with | [_], _ => rfl)
  have PC : PlanC K EP := ⟨⟨⟨p_pg, p_hd, p_po, p_sa⟩, p_nword, p_nparts⟩, p_ndimension, p_npoints, p_nlength, p_nabove⟩
  have fJ := fun_mk (x := "__init__") (qual := "Paper.__init__") (st := si_Paper) s_jl s_jc s_jk
  have FJ := okr_Paper fJ PC.toPapC D_fixed
  have SU : SupP P K mg cda cel EP JP := ⟨⟨_, _, _, _, _, _, s_lc, s_vs, s_fi⟩, s_to, ⟨_, _, _, s_ce⟩, (by
    have h := p_ic
    unfold PySem.W.isClsIn at h
    exact Option.isSome_iff_exists.mp h), s_su, nmg X G n_super, s_op, s_at, s_ty, s_fn⟩
  have FP := ok_Plan p_il p_ik PC SU FJ
  have DP : PlanD P w K mg gr EP := ⟨⟨IP, _, ⟨p_mk, p_in, p_if, p_kc⟩, FP, .all (fun us hl => match us, hl with | [_, _, _, _, _], _ => rfl)⟩, PySem.W.mg_of X G eaP⟩
  have D__are_alike := dn_of f3 (ok_alike (P := P) (w := w) (base := gr) f3 T PC) a3 (fun _ _ _ _ _ _ us hl => match us, hl with | [_, _], _ => rfl)
  have fQ := fun_mk (x := "__eq__") (qual := "Paper.__eq__") (st := se_Paper) p_el p_ec p_ek
  have FQ := ok_peq fQ D__are_alike
  have DQ : EqD P w K mg gr EP := ⟨⟨QP, _, FQ, p_eq, p_ef, fQ.binds (ps := ["self", "other"]) (fun _ _ _ _ _ _ us hl => match us, hl with | [_, _], _ => rfl)⟩, p_ne, p_hm, p_tu⟩
  have R0 : RaiseC P w K mg gr "BadNumber" C0 "part" := ⟨I0, _, _, ci0, ct0, oki_BadNumber fi0 ox0 cn0, fi0.binds (ps := ["self", "part"]) (fun _ _ _ _ _ _ us hl => match us, hl with | [_, _], _ => rfl), ox0, PySem.W.mg_of X G ca0⟩
  have op := ok_plan f4 T D_is_within R0 DP
  have X_plan := dx_of f4 op a4 (fun _ _ _ _ _ _ us hl => match us, hl with | [_, _, _], _ => rfl)
  have K_plan : DnKX P w K mg gr 6 "plan" F4 ["dimension", "points", "length"] ["length", "points", "dimension"] kwR (spPlan K C0 EP) := ⟨⟨_, _, op, kb_rev3 (ps := ["dimension", "points", "length"]) (ks := ["length", "points", "dimension"]) f4 (fun _ _ _ _ _ _ ws hl => match ws, hl with | [_, _, _], _ => rfl)⟩, a4, dk4⟩
  have D__law_slate := dn_of f5 (ok_coil (P := P) (w := w) (base := gr) f5 T) a5 (fun _ _ _ _ _ _ us hl => match us, hl with | [_], _ => rfl)
  have D__law_chalk := dn_of f6 (ok_turn (P := P) (w := w) (base := gr) f6 T) a6 (fun _ _ _ _ _ _ us hl => match us, hl with | [_, _], _ => rfl)
  have D__law_one := dn_of f7 (ok_one_of f7 T D__law_chalk) a7 (fun _ _ _ _ _ _ us hl => match us, hl with | [_, _], _ => rfl)
  have ER : Errs K mg ES C0 E2 E3 EM ET := ⟨PySem.W.mg_of X G eaS, PySem.W.mg_of X G ca0, PySem.W.mg_of X G ea2, PySem.W.mg_of X G ea3, PySem.W.mg_of X G eaM, PySem.W.mg_of X G eaT, exm_yes eeS ksS eiS eyS, kit_self, kit_no ks2 kk2 ei2 ey2, kit_no ks3 kk3 ei3 ey3, ex0, xf0, cn0⟩
  have BR := (fun_mk (st := st__law_refusals_right) dl9 dc9 dk9).binds (ps := ["slate", "dimension", "points", "length"]) (fun _ _ _ _ _ _ us hl => match us, hl with | [_, _, _, _], _ => rfl)
  have GR := dg_of (x := "_law_refusals_right") (st := st__law_refusals_right) BR dk9 (ok_ref (PT := PT) f9 T D__law_chalk D__law_one X_plan f8 (f8.binds (ps := ["ask"]) (fun _ _ _ _ _ _ us hl => match us, hl with | [_], _ => rfl)) a8 dk8 tb ER) a9
  have BU := f10.binds (ps := ["told", "due"]) (fun _ _ _ _ _ _ us hl => match us, hl with | [_, _], _ => rfl)
  have PI : PlanI K EP ED := ⟨⟨p_pg, p_hd, p_po, p_sa⟩, p_ha, gn, gt, p_hm, kit_self, kit_no p_kd p_dd eiD eyD, p_bo, p_le⟩
  have GU := dg_of (x := "_law_is_due") (st := st__law_is_due) BU dk10 (ok_due (P := P) (w := w) (base := gr) f10 T PC PI (PySem.W.mg_of X G eaP) (PySem.W.mg_of X G eaD)) a10
  have efa := hmg.symm.trans a11
  cases efa
  exact ok_law f11 T PC D__law_slate D__law_chalk D__law_one X_plan K_plan GR GU DP DQ
end K0


set_option Elab.async false
set_option linter.all false
set_option maxRecDepth 100000
set_option maxHeartbeats 4000000
namespace K0
open PySem PySem.Spec PyProof.Rows L2
theorem walk_G {l : PySem.W.OpenLaw} {n k : Nat} {q : Program} {loose : List Str} {XP : (Str → Option Value) → Heap → Prop} {YP : World → Heap → Prop} {d : DefRec}
    {K : Params → PySem.W.Frag} {x : Str}
    (hn : l.most = some n) (hn2 : n ≤ sizeLine) (hdf : d.params.defaults = []) (room : Room k callerA)
    (kin : ∀ (w : World) (h : Heap), YP w h → (K w.params).In h)
    (F : ∀ (w : World) (mg : Str → Option Value) (fa : Addr) (h : Heap),
      YP w h → (K w.params).In h → h.Ns mainGlobals mg → mg d.name = some (.ref fa) →
      ∃ (fd : FuncData) (cc PT : Addr) (sp : Sp), h.get? PT = some { cls := .none, data := .fields #[] } ∧
        (K w.params).lookup PT = none ∧ PySem.W.CodeHd h cc PT ∧
        (∀ (s : Shared) (v : Value), BindsTo s fd ⟨[v], []⟩ [(x, v)]) ∧
        (∀ (Hx : Hp) (a : Addr) (ns : List Int), ns.length ≤ n → Hx PT = some (.tbl #[]) →
          SqL (K w.params) Hx a (ns.map V.int) → sp [.ref a] Hx (fun v _ => v = .bl true) fun _ _ _ => False) ∧
        ∀ gr : Heap, (K w.params).In gr → gr.Ns mainGlobals mg → LamX.TabB gr mg cc PT →
          FnG l.prog w (K w.params) mg gr k fa fd [x] sp) :
    PySem.W.WalkO q loose XP YP l.row.toRowW d []
      (fun f vs => PySem.call f vs) := by
  refine Att.attach_call hn hdf fun w sB sT mg mb fa o pm cd doc a vs ns Gd Y _ _ _ hmg la li ll gens => ?_
  obtain ⟨fd, cc, PT, sp, tab, tabK, code, bind, ask, Fg⟩ := F w mg fa _ Y (kin w _ Y) Gd.T.g hmg
  exact top_call (kin w _ Y) Gd.T.g Gd.T.b Gd.T.builtins Gd.T.nolimit gens tab tabK code Gd.T.bmain la li
    (Nat.le_trans ll hn2) room Fg bind fun Hx h1 h2 => ask Hx a ns ll h1 h2
/-- what the law asks of the top -/
theorem ask_law {K : PySem.W.Frag} {PT : Addr} (Hx : Hp) (a : Addr) (ns : List Int) (hl : ns.length ≤ 63) (hT : Hx PT = some (.tbl #[])) (hS : SqL K Hx a (ns.map V.int)) :
    spLaw K PT [.ref a] Hx (fun v _ => v = .bl true) fun _ _ _ => False :=
  ⟨a, ns, rfl, hS, hl, fun p hp => by cases List.mem_singleton.mp hp; exact LamX.TabS.nil hT, fun _ => rfl⟩
theorem fin_of {P : Program} {w : World} {K : PySem.W.Frag} {mg : Str → Option Value} {h : Heap} {fa cc PT : Addr} {kv dc pm cd ct : Value} {an : Option Addr} (KX : K.In h)
    (z : ∀ gr : Heap, LamX.TabB gr mg cc PT → FnG P w K mg gr 10 fa (PySem.W.fnOf "law" "law" (defArgs st_law) (defBody st_law) (defScope st_law) .none kv dc pm an cd ct) ["script"] (spLaw K PT))
    (tab : h.get? PT = some { cls := .none, data := .fields #[] }) (tk : K.lookup PT = none) (ch : PySem.W.codeHdIn K cc PT = true) :
    ∃ (fd : FuncData) (cc PT : Addr) (sp : Sp), h.get? PT = some { cls := .none, data := .fields #[] } ∧
        K.lookup PT = none ∧ PySem.W.CodeHd h cc PT ∧
        (∀ (s : Shared) (v : Value), BindsTo s fd ⟨[v], []⟩ [(("script" : Str), v)]) ∧
        (∀ (Hx : Hp) (a : Addr) (ns : List Int), ns.length ≤ 63 → Hx PT = some (.tbl #[]) →
          SqL K Hx a (ns.map V.int) → sp [.ref a] Hx (fun v _ => v = .bl true) fun _ _ _ => False) ∧
        ∀ gr : Heap, K.In gr → gr.Ns mainGlobals mg → LamX.TabB gr mg cc PT → FnG P w K mg gr 10 fa fd ["script"] sp :=
  ⟨_, cc, PT, spLaw K PT, tab, tk, PySem.W.codeHd_of_K KX ch, fun s v => .of_eq rfl, fun Hx a ns h1 h2 h3 => ask_law Hx a ns h1 h2 h3, fun gr _ _ tb => z gr tb⟩
end K0


set_option Elab.async false
open PySem PySem.W PyProof.Rows
set_option maxRecDepth 100000 in
set_option maxHeartbeats 0 in
theorem PySem.Challenge.cw_spindleway_k46_plans_by_sums_holds : PySem.Challenge.rw_spindleway_k46_plans_by_sums.Holds := by
  w_on; o_law; k_head; (case hw => w_witness2)
  k_fill
  refine K0.walk_G (l := PySem.Challenge.rw_spindleway_k46_plans_by_sums) (n := 63) (k := 10) (x := "script") rfl (by decide) rfl ⟨rfl, by decide, by decide⟩ (fun w h Y => PySem.W.km_in_of Y) ?F
  case F =>
    intro w mg fa h Y KX G hmg
    refine' K0.fin_of (PT := 258) KX (K0.all_mk KX G ?ca0 ?cl0 ?cv0 ?cs0 ?ci0 ?ct0 ?cf0 ?cc0 ?cj0 ?cn0 ?cg0 ?ch0 ?ce0 ?cy0 ?ck0 ?cd_0 ?co0 ?cm0 ?iC0 ?eaS ?ea2 ?ea3 ?eaM ?eaT ?eaD ?eaP ?eeS ?eyS ?eiS ?ey2 ?ei2 ?ey3 ?ei3 ?eyD ?eiD ?ksS ?ks2 ?kk2 ?ks3 ?kk3 ?gn ?gt ?p_pg ?p_hd ?p_po ?p_sa ?p_nword ?p_nparts ?p_ndimension ?p_npoints ?p_nlength ?p_nabove ?p_ha ?p_hm ?p_kd ?p_dd ?p_bo ?p_le ?p_mk ?p_kc ?p_ic ?p_ne ?p_tu ?p_in ?p_if ?p_il ?p_ik ?p_eq ?p_ef ?p_el ?p_ec ?p_ek ?s_lc ?s_vs ?s_fi ?s_to ?s_ce ?s_su ?s_op ?s_at ?s_ty ?s_fn ?s_jl ?s_jc ?s_jk ?n_isinstance ?n_int ?n_bool ?n_list ?n_tuple ?n_len ?n_abs ?n_repr ?n_range ?n_type ?n_super ?c_LE ?da0 ?dl0 ?dc0 ?dk0 ?da1 ?dl1 ?dc1 ?dk1 ?da2 ?dl2 ?dc2 ?dk2 ?da3 ?dl3 ?dc3 ?dk3 ?da4 ?dl4 ?dc4 ?dk4 ?da5 ?dl5 ?dc5 ?dk5 ?da6 ?dl6 ?dc6 ?dk6 ?da7 ?dl7 ?dc7 ?dk7 ?da8 ?dl8 ?dc8 ?dk8 ?da9 ?dl9 ?dc9 ?dk9 ?da10 ?dl10 ?dc10 ?dk10 ?da11 ?dl11 ?dc11 ?dk11 hmg) ?tab ?tk ?ch
    (case ca0 => k_is)
    (case cl0 => k_is)
    (case cv0 => first | rfl | k_is)
    (case cs0 => k_is)
    (case ci0 => k_is)
    (case ct0 => k_is)
    (case cf0 => k_is)
    (case cc0 => k_is)
    (case cj0 => k_is)
    (case cn0 => k_is)
    (case cg0 => k_is)
    (case ch0 => k_is)
    (case ce0 => k_is)
    (case cy0 => k_is)
    (case ck0 => k_is)
    (case cd_0 => k_is)
    (case co0 => k_is)
    (case cm0 => k_is)
    (case iC0 => k_is)
    (case eaS => k_is)
    (case ea2 => k_is)
    (case ea3 => k_is)
    (case eaM => k_is)
    (case eaT => k_is)
    (case eaD => k_is)
    (case eaP => k_is)
    (case eeS => k_is)
    (case eyS => k_is)
    (case eiS => k_is)
    (case ey2 => k_is)
    (case ei2 => k_is)
    (case ey3 => k_is)
    (case ei3 => k_is)
    (case eyD => k_is)
    (case eiD => k_is)
    (case ksS => k_is)
    (case ks2 => k_is)
    (case kk2 => k_is)
    (case ks3 => k_is)
    (case kk3 => k_is)
    (case gn => k_is)
    (case gt => k_is)
    (case p_pg => k_is)
    (case p_hd => k_is)
    (case p_po => k_is)
    (case p_sa => k_is)
    (case p_nword => k_is)
    (case p_nparts => k_is)
    (case p_ndimension => k_is)
    (case p_npoints => k_is)
    (case p_nlength => k_is)
    (case p_nabove => k_is)
    (case p_ha => k_is)
    (case p_hm => k_is)
    (case p_kd => k_is)
    (case p_dd => k_is)
    (case p_bo => k_is)
    (case p_le => k_is)
    (case p_mk => k_is)
    (case p_kc => k_is)
    (case p_ic => k_is)
    (case p_ne => k_is)
    (case p_tu => k_is)
    (case p_in => k_is)
    (case p_if => k_is)
    (case p_il => k_is)
    (case p_ik => k_is)
    (case p_eq => k_is)
    (case p_ef => k_is)
    (case p_el => k_is)
    (case p_ec => k_is)
    (case p_ek => k_is)
    (case s_lc => k_is)
    (case s_vs => rfl)
    (case s_fi => first | rfl | decide +kernel)
    (case s_to => first | rfl | decide +kernel)
    (case s_ce => k_is)
    (case s_su => k_is)
    (case s_op => k_is)
    (case s_at => first | ks_is | k_is)
    (case s_ty => k_is)
    (case s_fn => k_is)
    (case s_jl => k_is)
    (case s_jc => k_is)
    (case s_jk => k_is)
    (case n_isinstance => k_is)
    (case n_int => k_is)
    (case n_bool => k_is)
    (case n_list => k_is)
    (case n_tuple => k_is)
    (case n_len => k_is)
    (case n_abs => k_is)
    (case n_repr => k_is)
    (case n_range => k_is)
    (case n_type => k_is)
    (case n_super => k_is)
    (case c_LE => k_is)
    (case da0 => k_is)
    (case dl0 => k_is)
    (case dc0 => k_is)
    (case dk0 => k_is)
    (case da1 => k_is)
    (case dl1 => k_is)
    (case dc1 => k_is)
    (case dk1 => k_is)
    (case da2 => k_is)
    (case dl2 => k_is)
    (case dc2 => k_is)
    (case dk2 => k_is)
    (case da3 => k_is)
    (case dl3 => k_is)
    (case dc3 => k_is)
    (case dk3 => k_is)
    (case da4 => k_is)
    (case dl4 => k_is)
    (case dc4 => k_is)
    (case dk4 => k_is)
    (case da5 => k_is)
    (case dl5 => k_is)
    (case dc5 => k_is)
    (case dk5 => k_is)
    (case da6 => k_is)
    (case dl6 => k_is)
    (case dc6 => k_is)
    (case dk6 => k_is)
    (case da7 => k_is)
    (case dl7 => k_is)
    (case dc7 => k_is)
    (case dk7 => k_is)
    (case da8 => k_is)
    (case dl8 => k_is)
    (case dc8 => k_is)
    (case dk8 => k_is)
    (case da9 => k_is)
    (case dl9 => k_is)
    (case dc9 => k_is)
    (case dk9 => k_is)
    (case da10 => k_is)
    (case dl10 => k_is)
    (case dc10 => k_is)
    (case dk10 => k_is)
    (case da11 => k_is)
    (case dl11 => k_is)
    (case dc11 => k_is)
    (case dk11 => k_is)
    (case tab => exact PySem.W.km_tabs_of Y 258 (by simp))
    (case tk => first | rfl | k_is)
    (case ch => first | rfl | k_is)
    exact Value.none

