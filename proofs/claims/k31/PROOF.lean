import PyProof.Rows.All
import Wide.All
import OpenK.AllK
import Wide.FinOn
import HandS.ForMost
import HandS.ForExc
import HandS.ExcInit
import HandS.ExcValue
import HandS.IsInst
import HandS.Wide
import HandS.Gcd
import HandS.Lambda
import HandS.ExcIs
import HandS.ExcField
import HandS.Defaults
import HandS.More
import HandS.Star
import HandS.OwnEq
import HandS.Style
import HandS.TupAny
import HandS.RevRange
import PySem.Challenge.RW_spindleway_k31_likenesses_lead_and_lead
import PyProof.ZipIter
import HandS.Zip
import HandS.Walk
import PyProof.NeKinds
import HandS.LawCells
import KE.KIndexOf
import HandS.ClsMeth
import HandS.MakeKw
import HandS.Conv
import PyProof.StrLawsRepr
import PyProof.ReprLen
import KE.KDflt
import HandS.EndTab
import HandS.Ends
set_option Elab.async false
set_option linter.all false
set_option maxRecDepth 100000
set_option maxHeartbeats 2000000
namespace K0
open PySem PySem.Spec PyProof.Rows L2

/-- a def's promise where no repr is under way around the call -/
structure FnG (P : Program) (w : World) (K : PySem.W.Frag) (mg : Str → Option Value) (base : Heap)
    (k : Nat) (f : Addr) (fd : FuncData) (ps : List Str) (sp : Sp) : Prop where
  len : ∀ vs H Q E, sp vs H Q E → vs.length = ps.length
  go : ∀ (A : Around) (outer : List Env) (s : Shared) (H : Hp) (args : Args) (us : List Value)
    (vs : List V) (Q : VK) (E : XK), A.guards = some [] → Room k A → Env0 P w K mg base A outer s H →
    BindsTo s fd args (ps.zip us) → Vals vs us → sp vs H Q E →
    codeAny (model P w) A (.call (.ref f) args) (CR CX0 outer P w H s Q E) s

theorem FnG.of {P : Program} {w : World} {K : PySem.W.Frag} {mg : Str → Option Value} {base : Heap}
    {k : Nat} {f : Addr} {fd : FuncData} {ps : List Str} {sp : Sp}
    (F : FnOk P w K mg base CX0 k f fd ps sp) : FnG P w K mg base k f fd ps sp :=
  ⟨F.len, fun A outer s H args us vs Q E _ => F.run A outer s H args us vs Q E⟩

theorem Fun_okG {P : Program} {w : World} {K : PySem.W.Frag} {mg : Str → Option Value} {base : Heap}
    {x qual : Str} {st : Stmt} {f : Addr} {fd : FuncData} {N ps : List Str} {k : Nat} {sp : Sp}
    (F : Fun K x qual st f fd) (S : FnScope N ps (defScope st))
    (len : ∀ vs H Q E, sp vs H Q E → vs.length = ps.length)
    (hbody : ∀ (cdv : Value) (A : Around) (outer : List Env) (s : Shared) (H : Hp) (vs : List V) (Q : VK) (E : XK),
      A.guards = some [] → Room k (A.deeper (envOfC qual (defScope st) s.heap.objs.size f cdv)) → sp vs H Q E →
      ∃ t, PSs (cxOf CX0 P w K mg base N qual (defScope st) f cdv A outer s H E) (defBody st) t ∧
        t { nx := fun _ H' => Q .non H', rt := Q } (start N vs) H) :
    FnG P w K mg base (k + 1) f fd ps sp := by
  obtain ⟨oc, od, kV, doc, pm, an, cdv, ct, osl, rfl, lk, hcd⟩ := F.ex
  refine ⟨len, ?_⟩
  intro A outer s H args us vs Q E hg hr e0 hb r hsp
  have kept : ∀ b o, base.get? b = some o → s.heap.get? b = some o := fun b o e => (e0.bs b o e).1
  have KX : K.In s.heap := e0.mod.kin.keeps kept
  have lim : s.heap.NoLimit := e0.mod.nolimit.keeps kept
  refine codeAny_call_function hr.depth (KX _ _ lk) rfl S.co S.gen rfl
    (PySem.W.codeRec_of KX hcd) (hb _ _ _ _ ?_)
  refine wpAny_newFunctionEnv_cells S.kind ?_ ?_
  · rintro ⟨n, v⟩ hy
    cases S.par n (List.of_mem_zip hy).1 with
    | inl q => exact Or.inl q
    | inr q => exact Or.inr ⟨q, PySem.W.cellsFrom_some _ _ _ (Or.inl q)⟩
  · intro env he s1 x
    subst he
    obtain ⟨t, ht, hq⟩ := hbody cdv A outer s H vs Q E hg (hr.deeper _) hsp
    refine ⟨lim.keeps x.toInCall.keep, codeAny_func ?_⟩
    have I := inv_start (CX := CX0) (E := E) (N := N) (cd := cdv) S hr.hd e0 (len _ _ _ _ hsp) r x
    refine wpAny_mono (ht.run [] s1 (start N vs) H _ I hq) ?_ (fun _ _ z => z)
    intro fl s' hs
    cases fl with
    | ret u =>
      obtain ⟨v, σ', H', J, rv, q⟩ := hs
      exact ⟨v, H', J.os, J.bare, J.base, J.hok, rv, q⟩
    | next =>
      obtain ⟨σ', H', J, q⟩ := hs
      exact ⟨.non, H', J.os, J.bare, J.base, J.hok, rfl, q⟩
    | brk =>
      obtain ⟨_, _, _, q⟩ := hs
      cases q
    | cont =>
      obtain ⟨_, _, _, q⟩ := hs
      cases q

section
variable {X : Cx} {k : Nat} {f : Addr} {fd : FuncData} {ps : List Str} {sp : Sp} {x : Str} {p pos : Pos} {e : Expr} {es : List Expr} {t : TA}
/-- a call of such a def, by place -/
theorem pe_callG (F : FnG X.prog X.w X.K X.mg X.base k f fd ps sp) (hG : X.A.guards = some []) (hr : Room k X.A) (hg : Gl X x)
    (hm : X.mg x = some (.ref f)) (hk : PySem.W.keepIn X.K (.ref f) = true) (hb : Binds X.K fd ps []) (ha : PA X (e :: es) t)
    (hdb : (x == ("__debug__" : Str)) = false := by decide)
    (he : starEach (e :: es) X.env = (false, eval e X.env) :: starEach es X.env := by rfl)
    (hpl : (backTo pos (starEach es X.env)).any (·.1) = false := by rfl) :
    PE X (.Call (.Name x p) (e :: es) [] pos) (fun σ H Q => t σ H fun vs H1 => sp vs H1 Q E0) := by
  refine ⟨fun pins s σ H Q I h => wpAny_Call_Name_kw (ld_glob I hg hm ?_ hdb)⟩
  refine PySem.W.callWith_K (h₀ := X.base) I.ok.mod.kin hk
    (thn (ha.run pos pins s σ H _ I h) ?_) he hpl
  rintro us s1 ⟨vs, H1, I1, r, q⟩
  have hl : us.length = ps.length := r.length.symm.trans (F.len _ _ _ _ q)
  have hb1 := hb s1 us I1.kIn (by rw [List.append_nil]; exact hl)
  rw [List.append_nil] at hb1
  refine ⟨I1.kIn, wpAny_call (codeAny_mono (F.go X.A X.stack s1 H1 ⟨us, []⟩ us vs Q E0 hG hr I1.env0 hb1 r q) ?_)⟩
  intro r' s' hq
  cases r' with
  | error e' => cases hq
  | ok fl =>
    cases fl with
    | ret u => exact I1.after hq
    | next => cases hq
    | brk => cases hq
    | cont => cases hq
end
end K0


set_option Elab.async false
set_option linter.all false
set_option maxRecDepth 100000
set_option maxHeartbeats 2000000
namespace K0
open PySem PySem.Spec PyProof.Rows L2

/-- what a value of the law's own draws shows: data without dicts, or a dict of no or one pair -/
inductive It (K : PySem.W.Frag) (H : Hp) : V → PyData → Prop
  | dp {v : V} {d : PyData} (h : Dp K H v d) (n : d.hasDict = false) : It K H v d
  | d0 {a : Addr} (h : H a = some (.dK [])) : It K H (.ref a) (.dict [])
  | d1 {a : Addr} {n : Int} {x : Str} (h : H a = some (.dK [(Sum.inl n, .str x)])) : It K H (.ref a) (.dict [(.int n, .str x)])

section
variable {X : Cx} {pins : List (Addr × Obj)} {σ : L2.St} {H : Hp} {s : Shared}
theorem It.rd (I : Inv X pins σ H s) {v : V} {d : PyData} {u : Value} (h : It X.K H v d) (r : RelV v u) :
    ∃ as, Reads s.heap u d as ∧ (d.hasDict = true → sysModules ∉ as) := by
  cases h with
  | dp hd hn =>
    obtain ⟨as, q⟩ := Dp.reads I d v u hd r
    exact ⟨as, q, fun z => by rw [hn] at z; cases z⟩
  | @d0 a h =>
    cases r
    obtain ⟨_, hsm, vs, kv, o, es, ep, ho, hx, hd, _, hp, _⟩ := I.hok a _ h
    cases kv
    have e : es.toList = [] := List.eq_nil_of_length_eq_zero hp.length
    refine ⟨_, Reads.dict (kvs := []) (as := []) (bs := []) ho hx.1 hd (by rw [e]; exact .nil) (by rw [e]; exact .nil), fun _ => ?_⟩
    have hne : a ≠ sysModules := by simpa using hsm
    simpa using Ne.symm hne
  | @d1 a n x h =>
    cases r
    obtain ⟨_, hsm, vs, kv, o, es, ep, ho, hx, hd, _, hp, _⟩ := I.hok a _ h
    have hne : a ≠ sysModules := by simpa using hsm
    cases kv with
    | @cons _ y _ _ q qs =>
      cases qs
      obtain ⟨q1, q2⟩ := q
      have q1' : y.1 = Sum.inl n := q1.symm
      obtain ⟨t, q2'⟩ := q2
      obtain ⟨l⟩ := es
      cases hp with
      | @cons en _ _ _ p1 p2 p3 =>
        cases p3
        rw [q1', mixKind_is] at p1
        obtain ⟨t', e'⟩ := Value.isInt_shape (k := n) (v := en.key) p1
        refine ⟨_, Reads.dict (kvs := [(.int n, .str x)]) (as := []) (bs := []) ho hx.1 hd ?_ ?_, fun _ => ?_⟩
        · show ReadsAll s.heap [en.key] [.int n] []
          rw [e']
          exact ReadsAll.cons (as := []) (bs := []) (.int n t') .nil
        · show ReadsAll s.heap [en.val] [.str x] []
          rw [p2, q2']
          exact ReadsAll.cons (as := []) (bs := []) (.str x t) .nil
        · simpa using Ne.symm hne
end

/-- what a shown value asks: its numbers not too long, not too deep, its text not too long -/
structure Short (d : PyData) : Prop where
  sh : d.showable = true
  dp : d.depth ≤ 20
  ln : d.shown.length ≤ 1000000

theorem lineOk : 1000000 ≤ sizeLine := by rw [sizeLine_eq]; decide

/-- repr(x), x as told -/
def rRepr (K : PySem.W.Frag) : List V → Hp → VK → Prop := fun xs H Q => ∃ (v : V) (d : PyData), xs = [v] ∧ It K H v d ∧ Short d ∧ Q (.str d.shown) H
/-- repr of a list of two -/
def rRepr2 (K : PySem.W.Frag) : List V → Hp → VK → Prop := fun xs H Q => ∃ (l : Addr) (v1 v2 : V) (d1 d2 : PyData), xs = [.ref l] ∧ H l = some (.lst [v1, v2]) ∧
  It K H v1 d1 ∧ It K H v2 d2 ∧ Short d1 ∧ Short d2 ∧ Q (.str (listText [d1.shown, d2.shown])) H

section
variable {X : Cx}
theorem call_repr (hg : X.A.guards = some []) (hu : X.A.units + 64 < cLine) : CallR X (.builtin "repr") (rRepr X.K) := by
  intro pins s σ H xs us Q I r h
  obtain ⟨v, d, rfl, hd, ⟨hs, hdp, hz⟩, q⟩ := h
  have hz' : d.shown.length ≤ sizeLine := Nat.le_trans hz lineOk
  obtain ⟨u, rfl, ru⟩ := vals1 r
  have fin : ∀ tk t, EP X pins σ Q (.str d.shown t) { s with toks := tk } := fun tk t => ⟨.str d.shown, H, I.tok tk, ⟨t, rfl⟩, q⟩
  obtain ⟨as, rd, hn⟩ := It.rd I hd ru
  have big : ∀ a, u = .ref a → wpAny (model X.prog X.w) X.A (call (.builtin "repr") [u]) (EP X pins σ Q) X.xe s := by
    intro a e
    subst e
    refine PySem.repr_of_reads' rd hs hn hg (by omega) (fun _ _ z => z) (fun h' t tk hk => ?_) hz'
    exact ⟨.str d.shown, H, I.kept (t' := tk) hk, ⟨t, rfl⟩, q⟩
  cases rd with
  | none => exact PySem.P.repr_of_none (by simpa only [PyData.shown] using fin _ _)
  | bool b => exact PySem.P.repr_of_bool (by simpa only [PyData.shown] using fin _ _)
  | int i t =>
    refine PySem.P.repr_of_int ?_ (by simpa only [PyData.shown] using fin _ _)
    simpa only [PyData.showable, decide_eq_true_eq] using hs
  | str x t => exact PySem.P.repr_of_str (by simpa only [PyData.shown] using fin _ _) (by simpa only [PyData.shown] using hz')
  | list => exact big _ rfl
  | tuple => exact big _ rfl
  | dict => exact big _ rfl

theorem pair_len (x y : Str) : (listText [x, y]).length = x.length + y.length + 4 := by
  show (((Str.ofString "[" ++ Str.ofString "" ++ x) ++ Str.ofString ", " ++ y) ++ Str.ofString "]").length = _
  have e0 : (Str.ofString "").length = 0 := by decide
  have e1 : (Str.ofString "[").length = 1 := by decide
  have e2 : (Str.ofString "]").length = 1 := by decide
  have e3 : (Str.ofString ", ").length = 2 := by decide
  simp only [Str.length_append, e0, e1, e2, e3]
  omega

theorem call_repr2 (hg : X.A.guards = some []) (hu : X.A.units + 64 < cLine) : CallR X (.builtin "repr") (rRepr2 X.K) := by
  intro pins s σ H xs us Q I r h
  obtain ⟨l, v1, v2, d1, d2, rfl, hl, t1, t2, ⟨a1, a2, a3⟩, ⟨b1, b2, b3⟩, q⟩ := h
  obtain ⟨u, rfl, ru⟩ := vals1 r
  cases ru
  obtain ⟨its, rv, ⟨o, n, ho, hc, _, hd⟩, _⟩ := I.list (SqL.of hl)
  obtain ⟨u1, u2, rfl, r1, r2⟩ := vals2 rv
  obtain ⟨as1, rd1, n1⟩ := It.rd I t1 r1
  obtain ⟨as2, rd2, n2⟩ := It.rd I t2 r2
  have z1 : d1.shown.length ≤ sizeLine := Nat.le_trans a3 lineOk
  have z2 : d2.shown.length ≤ sizeLine := Nat.le_trans b3 lineOk
  obtain ⟨bs1, m1, k1⟩ := ReprK.of_reads (prog := X.prog) (w := X.w) rd1 a1 n1 z1
  obtain ⟨bs2, m2, k2⟩ := ReprK.of_reads (prog := X.prog) (w := X.w) rd2 b1 n2 z2
  have rl : Reads s.heap (.ref l) (.list [d1, d2]) _ := Reads.list ho hc hd (.cons rd1 (.cons rd2 .nil))
  have hm : ReadAtMost s.heap (max d1.depth d2.depth) (bs1 ++ bs2) := by
    intro b hb
    cases List.mem_append.mp hb with
    | inl e =>
      obtain ⟨d', as', r', le⟩ := m1 b e
      exact ⟨d', as', r', Nat.le_trans le (Nat.le_max_left _ _)⟩
    | inr e =>
      obtain ⟨d', as', r', le⟩ := m2 b e
      exact ⟨d', as', r', Nat.le_trans le (Nat.le_max_right _ _)⟩
  have hna : l ∉ bs1 ++ bs2 := not_mem_of_deeper rl (by simp only [PyData.depth, PyData.depthAll]; omega) hm
  have ka : ReprK X.prog X.w (bs1 ++ bs2) s.heap (max d1.depth d2.depth) u1 d1.shown :=
    (k1.more fun b hb => List.mem_append_left _ hb).level_le (Nat.le_max_left _ _)
  have kb : ReprK X.prog X.w (bs1 ++ bs2) s.heap (max d1.depth d2.depth) u2 d2.shown :=
    (k2.more fun b hb => List.mem_append_right _ hb).level_le (Nat.le_max_right _ _)
  have hsz : (listText [d1.shown, d2.shown]).length ≤ sizeLine := by
    rw [pair_len, sizeLine_eq]
    omega
  have hmax : max d1.depth d2.depth ≤ 20 := Nat.max_le.mpr ⟨a2, b2⟩
  refine call_repr_slot (by omega) ⟨o, ho, hc⟩ F.slot_list_repr.toG ?_
  refine call_list_reprK (A := X.A.in1) (as := bs1 ++ bs2) (d := max d1.depth d2.depth) (ts := [d1.shown, d2.shown]) ho hc hd hna (by simp) ?_ hg
    (fun b _ => Clear.nil b) (by show X.A.units + 1 + _ < cLine; omega) (fun _ _ z => z) (fun h' t tk hk => ⟨_, _, rfl, ⟨.str _, H, I.kept (t' := tk) hk, ⟨t, rfl⟩, q⟩⟩) hsz
  intro i y hy
  match i, hy with
  | 0, hy =>
    have e : u1 = y := by simpa using hy
    exact ⟨_, rfl, e ▸ ka⟩
  | 1, hy =>
    have e : u2 = y := by simpa using hy
    exact ⟨_, rfl, e ▸ kb⟩
  | i + 2, hy => simp at hy
end
end K0


set_option Elab.async false
set_option linter.all false
set_option maxRecDepth 100000
set_option maxHeartbeats 4000000
namespace PySem
namespace K0x
open PySem.W PySem.Calls PyProof.Rows PySem.HandSPX
section
variable {M : Model} {prog : Program} {w : World} {A : Around} {E : Value → Shared → Prop} {R : Result → Shared → Prop}
  {h : Heap} {g : Array GenState} {d : Drawn} {t : Nat} {os : OsState}
variable {nm q : Str} {C N : Addr} {bs bm bmB : List Value} {hdct : Bool} {sn : List Str} {sub : List Value} {ab : Bool}
  {col : Option Bool} {dd : Option Addr} {k0 k1 k2 k3 k5 : Option Value} {B newId initId : String}

/-- an own exception class asked to make one, with keywords: the check of the built-in maker -/
theorem chk_new (F : ExcBaseFacts B newId initId bmB) (hT : ∀ X : String, bm.contains (.type X) = bmB.contains (.type X))
    {rest : List Value} {kw : List (Str × Value)} {Q : Unit → Shared → Prop}
    (hC : h.get? C = some (excClassObj nm q C N bs bm hdct sn sub ab col dd k0 k1 k2 k3 k5 newId)) (hq : Q () ⟨h, g, d, t, os⟩) :
    wpAny M A (checkBuiltinCall newId ⟨.ref C :: rest, kw⟩) Q E ⟨h, g, d, t, os⟩ := by
  have c1 : (Value.ref C :: bm).contains (.type B) = true := by
    rw [List.contains_cons, hT, F.hasB, Bool.or_true]
  have c2 := F.noStar
  simp only [checkBuiltinCall, F.newKind, F.newSplit, F.newRow]
  repeat (first
    | refine wpAny_loadPart_at hC ?_
    | (refine wpAny_isSubtype_exc hC ?_
       rw [c1])
    | refine wpAny_staticBase_exc hC ?_
    | refine wpAny_madeBy_exc hC ?_
    | simp only [bne_self_eq_false, Bool.false_eq_true, if_false]
    | wp_step)
  exact hq

theorem new_kw (F : ExcBaseFacts B newId initId bmB) (hT : ∀ X : String, bm.contains (.type X) = bmB.contains (.type X))
    {rest : List Value} {kw : List (Str × Value)}
    (hC : h.get? C = some (excClassObj nm q C N bs bm hdct sn sub ab col dd k0 k1 k2 k3 k5 newId))
    (hq : R (.ok (.ret (.ref (h.objs.size + 1)))) ⟨(h.push (kdv_tup rest)).push (excO C h.objs.size), g, d, t, os⟩)
    (hrest : rest.length ≤ sizeLine) :
    codeAny (model prog w) A (.builtin newId ⟨.ref C :: rest, kw⟩) R ⟨h, g, d, t, os⟩ := by
  have ends := F.ends
  have i1 : (Value.ref C :: bm).contains (.type B) = true := by
    rw [List.contains_cons, hT, F.hasB, Bool.or_true]
  have i2 : (Value.ref C :: bm).contains (.type "AttributeError") = false := by
    rw [List.contains_cons, hT, F.noAttr]
    rfl
  have i3 : (Value.ref C :: bm).contains (.type "NameError") = false := by
    rw [List.contains_cons, hT, F.noName]
    rfl
  refine codeAny_builtinAt F.entry ?_
  unfold Builtin.«BaseException.__new__»
  refine wpAt_bind ?_
  show wpAt _ _ _ (stack >>= _) _ _ _
  refine wpAt_bind (wpAt_stack fun p below => wpAt_of_wpAny ?_)
  wp_walk
  refine wpAt_of_wpAny ?_
  rw [F.owner]
  repeat (first
    | with_reducible refine wpAny_madeHere_exc F.canon hC ?_
    | with_reducible refine wpAny_loadPart_at hC ?_
    | (with_reducible refine wpAny_isSubtype_exc hC ?_
       first | rw [i1] | rw [i2] | rw [i3])
    | wp_step)
  show R _ _
  rw [Heap.size_push]
  exact hq

theorem type_kw (F : ExcBaseFacts B newId initId bmB) (hT : ∀ X : String, bm.contains (.type X) = bmB.contains (.type X))
    {rest : List Value} {kw : List (Str × Value)} {fI : Addr} {Q : Fin → Shared → Prop}
    (hC : h.get? C = some (excClassObj nm q C N bs bm hdct sn sub ab col dd k0 k1 k2 k3 k5 newId))
    (hi : W.Looks (model prog w) h (typeLookup (.ref C) "__init__") (some (.ref fI)))
    (hb : ∀ self, W.Looks (model prog w) h (bindSpecial (.ref fI) self) (.ref fI, [self])) (hrest : rest.length ≤ sizeLine)
    (hq : codeAny (model prog w) A (.call (.ref fI) ⟨.ref (h.objs.size + 1) :: rest, kw⟩)
      (fun r s' => match r with
        | .ok (.ret v) => v = .none ∧ Q (.done (.ret (.ref (h.objs.size + 1)))) s'
        | .ok _ => False
        | .error e => E e s')
      ⟨(h.push (kdv_tup rest)).push (excO C h.objs.size), g, d, t, os⟩) :
    wpAny (model prog w) A (Builtin.«type.__call__» ⟨.ref C :: rest, kw⟩) Q E ⟨h, g, d, t, os⟩ := by
  repeat (first
    | with_reducible refine wpAny_loadPart_at hC ?_
    | with_reducible refine wpAny_madeBy_exc hC ?_
    | wp_step)
  refine codeAny_call_builtin_code (Code.quiet_builtin _ F.quiet) (chk_new F hT hC ?_)
  refine new_kw F hT hC ?_ hrest
  show wpAny _ _ _ _ _ _
  have kp : ∀ b o, h.get? b = some o → ((h.push (kdv_tup rest)).push (excO C h.objs.size)).get? b = some o :=
    fun b o e => Heap.get?_push_of_some _ (Heap.get?_push_of_some _ e)
  have hC1 := kp _ _ hC
  have hx : ((h.push (kdv_tup rest)).push (excO C h.objs.size)).get? (h.objs.size + 1) = some (excO C h.objs.size) := by
    heap_get
  have self_in : (Value.ref C :: bm).contains (.ref C) = true := by
    simp
  have j1 := hi.keeps kp
  have j2 := (hb (.ref (h.objs.size + 1))).keeps kp
  unfold isInstance
  repeat (first
    | with_reducible refine wpAny_loadPart_at hx ?_
    | (with_reducible refine wpAny_isSubtype_exc hC1 ?_
       rw [self_in])
    | wp_step)
  show wpAny _ _ (typeLookup (.ref C) _) _ _ _
  refine j1.at ?_
  refine wpAny_holding (wpAny_bind (j2.at ?_))
  refine wpAny_bind (wpAny_call (codeAny_mono hq ?_))
  intro r s' z
  rcases r with e | (v | _ | _ | _) <;> first | exact z | exact z.elim | skip
  obtain ⟨rfl, z⟩ := z
  first
    | exact wpAny_pure (wpAny_pure z)
    | (wp_walk
       exact z)

theorem chk_type {rest : List Value} {kw : List (Str × Value)} {Q : Unit → Shared → Prop}
    (hC : h.get? C = some (excClassObj nm q C N bs bm hdct sn sub ab col dd k0 k1 k2 k3 k5 newId)) (hq : Q () ⟨h, g, d, t, os⟩) :
    wpAny M A (checkBuiltinCall "type.__call__" ⟨.ref C :: rest, kw⟩) Q E ⟨h, g, d, t, os⟩ := by
  have f3 := tc_sub
  have hTy : (⟨h, g, d, t, os⟩ : Shared).TypeIs (.ref C) "type" := ⟨_, hC, rfl⟩
  simp only [checkBuiltinCall, tc_kind, tc_split]
  repeat (any_goals (first
    | assumption
    | with_reducible refine wpAny_loadPart_at hC ?_
    | with_reducible refine wpAny_onRaise ?_
    | with_reducible refine wpAny_map ?_
    | wp_step))

theorem call_kw (F : ExcBaseFacts B newId initId bmB) (hT : ∀ X : String, bm.contains (.type X) = bmB.contains (.type X))
    {rest : List Value} {kw : List (Str × Value)} {fI : Addr}
    (hC : h.get? C = some (excClassObj nm q C N bs bm hdct sn sub ab col dd k0 k1 k2 k3 k5 newId))
    (hi : W.Looks (model prog w) h (typeLookup (.ref C) "__init__") (some (.ref fI)))
    (hb : ∀ self, W.Looks (model prog w) h (bindSpecial (.ref fI) self) (.ref fI, [self])) (hrest : rest.length ≤ sizeLine)
    (hq : codeAny (model prog w) (A.under (.builtin "type.__call__" ⟨.ref C :: rest, kw⟩))
      (.call (.ref fI) ⟨.ref (h.objs.size + 1) :: rest, kw⟩) (W.InitBack (h.objs.size + 1) R)
      ⟨(h.push (kdv_tup rest)).push (excO C h.objs.size), g, d, t, os⟩) :
    codeAny (model prog w) A (.call (.ref C) ⟨rest, kw⟩) R ⟨h, g, d, t, os⟩ := by
  have f1 := tc_lookup
  have f2 := tc_bind (.ref C)
  have hTy : (⟨h, g, d, t, os⟩ : Shared).TypeIs (.ref C) "type" := ⟨_, hC, rfl⟩
  refine codeAny_of_tree ?_
  show wpAny _ _ (callAny (.ref C) _) _ _ _
  repeat (any_goals (first
    | assumption
    | with_reducible refine wpAny_loadPart_at hC ?_
    | wp_step))
  refine ⟨rfl, ?_⟩
  refine codeAny_call_builtin_at (Code.quiet_builtin _ (by decide +kernel)) entry_typeCall (chk_type hC ?_)
  refine type_kw F hT hC hi hb hrest (codeAny_mono hq ?_)
  intro r s' z
  rcases r with e | (v | _ | _ | _) <;> exact z
end
end K0x
end PySem


set_option Elab.async false
set_option linter.all false
set_option maxRecDepth 100000
set_option maxHeartbeats 4000000
namespace PySem
namespace K0x
open PySem.W PySem.Calls PyProof.Rows PySem.HandSPX
section
variable {prog : Program} {w : World} {A : Around} {E : Value → Shared → Prop} {s : Shared} {K : Frag} {x D : Addr} {ox : Obj} {od : Option Obj}
/-- x.__class__ of an instance of an own exception class, whatever its own dict holds -/
theorem cls_asked {Q : Option Value → Shared → Prop}
    (h1 : findIn K (.ref D) "__getattribute__" = some (some (.builtin "BaseException.__getattribute__")))
    (h2 : findIn K (.ref D) "__getattr__" = some none) (h3 : subIn K (.ref D) (.type "BaseException") = some true)
    (h4 : hasDictIn K D = true) (h5 : findIn K (.ref D) "__class__" = some (some (.builtin "object.__class__")))
    (h6 : specialIn K (.builtin "object.__class__") "__get__" = some (some (.builtin "getset_descriptor.__get__")))
    (h7 : takesIn K (.builtin "object.__class__") = some true) (h8 : mroIn K D (.type "object") = some true)
    (X : K.In s.heap) (I : W.InstAt s.heap x ox D od) (h : Q (some (.ref D)) { s with toks := s.toks + 1 }) :
    wpAny (model prog w) A (getAttr? (.ref x) "__class__") Q E s := by
  have found : findObj K D od "__class__" = some (.bind (.builtin "getset_descriptor.__get__") (.builtin "object.__class__")) := by
    obtain ⟨cd, hc, _⟩ := any_some h4
    unfold findObj
    rw [hc, Option.bind_some, h5, Option.bind_some]
    simp [h6, h7]
  obtain ⟨hp, g, d, t, os⟩ := s
  have l0 := I.type (M := model prog w)
  have l1 := looks_findIn (M := model prog w) X h1
  have l2 := looks_findIn (M := model prog w) X h2
  have l3 := looks_find (M := model prog w) X I found
  have under : Looks (model prog w) hp (isInstance (.ref x) (.type "BaseException")) true :=
    l0.andThen (looks_subIn X h3)
  have n0 : (false && onTheHeap (Value.builtin "BaseException.__getattribute__")) = false := rfl
  have n2 : (Value.builtin "BaseException.__getattribute__" == Value.builtin "object.__getattribute__") = false := by
    decide +kernel
  have n1 : (onTheHeap (Value.ref D) &&
      Value.builtin "BaseException.__getattribute__" == Value.builtin "object.__getattribute__") = false := by
    rw [n2]
    rfl
  unfold getAttr? getAttrBy? getAttrBy
  refine wpAny_bind (wpAny_mkText (wpAny_bind (wpAny_attempt (wpAny_holding
    (wpAny_bind (l0.at (wpAny_bind (l1.at ?_))))))))
  show wpAny _ _ (if (onTheHeap (Value.ref D) &&
    Value.builtin "BaseException.__getattribute__" == Value.builtin "object.__getattribute__") = true then _ else _) _ _ _
  rw [n1, if_neg Bool.false_ne_true]
  unfold getAttrByItsOwn hookBefore
  refine wpAny_bind ?_
  rw [if_pos (show onTheHeap (Value.ref D) = true from rfl)]
  refine l2.at (wpAny_bind (wpAny_attempt (wpAny_holding ?_)))
  unfold callGetattribute
  rw [n0, if_neg Bool.false_ne_true]
  unfold boundAndCalled
  rw [PySem.F.excAttr_ValueError.ga.bind (.ref x)]
  refine wpAny_bind (wpAny_pure ?_)
  show wpAny _ _ (call (.builtin "BaseException.__getattribute__") [.ref x, .str "__class__" t]) _ _ _
  refine wpAny_call (codeAny_call_builtin PySem.F.excAttr_ValueError.ga.plain
    PySem.F.entry_bexc_ga ?_)
  refine @check_slot (model prog w) _ _ ⟨hp, g, d, t + 1, os⟩ "BaseException.__getattribute__" "BaseException"
    "__getattribute__" (.ref x) [.str "__class__" t] [] _ (by decide +kernel) (by decide +kernel) under
    (PySem.F.args_bexc_ga (.ref x) (.str "__class__" t)) ?_
  unfold Builtin.«object.__getattribute__»
  refine wpAny_bind (wpAny_of_eq (a := ((Value.ref x : Value), [Value.str "__class__" t]))
    (by first | rfl | (simp only [slotArgs]; rfl)) ?_)
  refine wpAny_bind (wpAny_pure (wpAny_bind (l0.at (wpAny_bind (l3.at ?_)))))
  show wpAny _ _ (holding [Value.builtin "object.__class__"]
    (call (.builtin "getset_descriptor.__get__") [.builtin "object.__class__", .ref x, .ref D]) >>= ret) _ _ _
  refine wpAny_bind (wpAny_holding (wpAny_call
    (class_get (s := ⟨hp, g, d, t + 1, os⟩) (ox := ox) (od := od) X I h8 ?_)))
  refine wpAny_pure ?_
  show wpAny _ _ (handedOut (.ref D)) _ _ _
  rw [handedOut_of (v := .ref D) rfl]
  first
    | exact wpAny_pure (wpAny_pure h)
    | exact wpAny_pure h
    | exact wpAny_pure (wpAny_bind (wpAny_pure (wpAny_pure h)))

theorem kit_exc
    (h1 : findIn K (.ref D) "__getattribute__" = some (some (.builtin "BaseException.__getattribute__")))
    (h2 : findIn K (.ref D) "__getattr__" = some none) (h3 : subIn K (.ref D) (.type "BaseException") = some true)
    (h4 : hasDictIn K D = true) (h5 : findIn K (.ref D) "__class__" = some (some (.builtin "object.__class__")))
    (h6 : specialIn K (.builtin "object.__class__") "__get__" = some (some (.builtin "getset_descriptor.__get__")))
    (h7 : takesIn K (.builtin "object.__class__") = some true) (h8 : mroIn K D (.type "object") = some true) :
    KitX K (.ref x) (.ref D) (fun h => ∃ ox od, W.InstAt h x ox D od) := by
  obtain ⟨cd, hcd, _⟩ := any_some h4
  have data : ∃ c' d' sl', K.lookup D = some ⟨c', d', .cls cd, sl'⟩ := by
    unfold clsIn at hcd
    split at hcd
    · rename_i c' d' cd' sl' ho
      cases hcd
      exact ⟨c', d', sl', ho⟩
    · cases hcd
  obtain ⟨c', d', sl', ho⟩ := data
  refine ⟨fun M h X I => ?_, fun M h X I => ?_, fun h tp dd its n sl X htp => ?_, fun X I k => ?_⟩
  · obtain ⟨ox, od, I⟩ := I
    exact I.type
  · intro A' Q' E' s' k q
    unfold isType loadHead
    exact wpAny_bind (wpAny_loadPart (k _ _ (X _ _ ho)) (wpAny_pure q))
  · refine Bool.eq_false_iff.mpr fun q => ?_
    have e : D = tp := Value.ref.inj (beq_iff_eq.mp q)
    subst e
    have z := (X _ _ ho).symm.trans htp
    cases z
  · obtain ⟨ox, od, I⟩ := I
    exact cls_asked h1 h2 h3 h4 h5 h6 h7 h8 X I k
end
end K0x
end PySem


set_option Elab.async false
set_option linter.all false
set_option maxRecDepth 100000
set_option maxHeartbeats 4000000
namespace K0
open PySem PySem.Spec PyProof.Rows L2

/-- a value's class, the instances of own exception classes among them -/
inductive TyE (K : PySem.W.Frag) (H : Hp) : V → Value → Prop where
  | base {x : V} {t : Value} (h : TyX K H x t) : TyE K H x t
  | err {a C : Addr} {d : Option Addr} (e : H a = some (exo a C d)) (hd : ∀ dd, d = some dd → ∃ o, H dd = some o) (T : ExcC K C) : TyE K H (.ref a) (.ref C)
  | err0 {a C : Addr} (e : H a = some (ExO (.ref C) a)) (T : ExcC K C) : TyE K H (.ref a) (.ref C)

section
variable {X : Cx} {pins : List (Addr × Obj)} {σ : L2.St} {H : Hp} {s : Shared}
theorem inst_exo {a C : Addr} {d : Option Addr} (I : Inv X pins σ H s) (e : H a = some (exo a C d)) (hd : ∀ dd, d = some dd → ∃ o, s.heap.get? dd = some o) :
    ∃ ox od, PySem.W.InstAt s.heap a ox C od := by
  obtain ⟨t1, ho⟩ := exo_at I.hok e
  cases d with
  | none => exact ⟨_, none, ho, rfl, rfl, trivial⟩
  | some dd =>
    obtain ⟨o, q⟩ := hd dd rfl
    exact ⟨_, some o, ho, rfl, rfl, q⟩
theorem obj_there {dd : Addr} {o : HO} (I : Inv X pins σ H s) (q : H dd = some o) : ∃ u, s.heap.get? dd = some u := by
  have hlt := (I.hok dd o q)
  cases o with
  | lst xs => obtain ⟨_, its, n, _, z⟩ := hlt; exact ⟨_, z⟩
  | tup xs => obtain ⟨_, its, _, o, z, _⟩ := hlt; exact ⟨_, z⟩
  | dK kvs => obtain ⟨_, _, vs, _, o, es, ep, z, _⟩ := hlt; exact ⟨_, z⟩
  | dT kvs => obtain ⟨_, _, vs, _, o, es, ep, z, _⟩ := hlt; exact ⟨_, z⟩
  | set S n => obtain ⟨o, _, _, _, z, _⟩ := hlt; exact ⟨_, z⟩
  | ins C' dx fs => obtain ⟨_, _, _, z, _⟩ := hlt; exact ⟨_, z⟩
  | own y => exact hlt
  | xd fs => obtain ⟨_, ⟨o, _, _, z, _⟩, _⟩ := hlt; exact ⟨_, z⟩
  | rng lo hi => obtain ⟨_, _, _, z⟩ := hlt; exact ⟨_, z⟩
  | frz o u => exact ⟨_, hlt.1⟩
  | tbl ps => exact ⟨_, hlt⟩
  | met f y => exact ⟨_, hlt⟩
  | ext φ => exact hlt.2.1
theorem kit_of' {x : V} {u t : Value} (I : Inv X pins σ H s) (rx : RelV x u) (ty : TyE X.K H x t) :
    ∃ P : Heap → Prop, PySem.W.KitX X.K u t P ∧ P s.heap ∧ u ≠ .builtin "__main__.__loader__#opaque" := by
  cases ty with
  | base h => exact kit_of I rx h
  | @err a C d e hd T =>
    cases rx
    refine ⟨_, PySem.K0x.kit_exc T.hg T.hk T.hs T.hd T.ha T.hn T.ht T.hm, ?_, fun z => nomatch z⟩
    refine inst_exo I e fun dd q => ?_
    obtain ⟨o, h⟩ := hd dd q
    exact obj_there I h
  | @err0 a C e T =>
    cases rx
    refine ⟨_, PySem.K0x.kit_exc T.hg T.hk T.hs T.hd T.ha T.hn T.ht T.hm, ?_, fun z => nomatch z⟩
    obtain ⟨⟨oe, vs, ho, hz, hv, _⟩, _, _⟩ := I.hok a _ e
    obtain ⟨oc, od, oda, osl⟩ := oe
    obtain ⟨z1, z2⟩ := hz
    dsimp only at z1 z2 hv
    subst z1 z2 hv
    exact ⟨_, none, ho, rfl, rfl, trivial⟩
end

def rIsA (K : PySem.W.Frag) : List V → Hp → VK → Prop := fun xs H Q => ∃ (x c : V) (t u : Value) (b : Bool),
  xs = [x, c] ∧ ClsV c u ∧ TyE K H x t ∧ PySem.W.kitOne K t u = some b ∧ Q (.bl b) H
def rIsT (K : PySem.W.Frag) : List V → Hp → VK → Prop := fun xs H Q => ∃ (x : V) (tp : Addr) (cs : List V) (t : Value) (us : List Value) (b : Bool),
  xs = [x, .ref tp] ∧ H tp = some (.tup cs) ∧ Paired ClsV cs us ∧ TyE K H x t ∧ PySem.W.kitAny K t us = some b ∧ Q (.bl b) H
section
variable {X : Cx}
theorem call_isA : CallR X (.builtin "isinstance") (rIsA X.K) := by
  intro pins s σ H xs us Q I r h
  obtain ⟨x, c, t, u, b, rfl, k, ty, e, q⟩ := h
  obtain ⟨u1, u2, rfl, r1, r2⟩ := vals2 r
  have e2 := k.eq r2
  subst e2
  obtain ⟨P, Z, p, hx⟩ := kit_of' I r1 ty
  exact PySem.W.kia_one Z I.kIn p e hx fun tk => ⟨.bl b, H, I.tok tk, rfl, q⟩
theorem call_isT : CallR X (.builtin "isinstance") (rIsT X.K) := by
  intro pins s σ H xs us Q I r h
  obtain ⟨x, tp, cs, t, ws, b, rfl, hT, k, ty, e, q⟩ := h
  obtain ⟨u1, u2, rfl, r1, r2⟩ := vals2 r
  cases (show u2 = Value.ref tp from r2)
  obtain ⟨P, Z, p, hx⟩ := kit_of' I r1 ty
  obtain ⟨_, its, rv, o, g1, g2, n, g3⟩ := I.hok tp _ hT
  have e3 := ClsV.all k rv
  subst e3
  obtain ⟨oc, od, dt, sl⟩ := o
  simp only at g2 g3
  subst g2 g3
  exact PySem.W.kia_tup Z I.kIn p g1 e hx fun tk => ⟨.bl b, H, I.tok tk, rfl, q⟩
end

/-! ### making an exception of an own class with an __init__ of its own -/
/-- C(e, ..) or C(k = v, ..) as a value; sp: what its __init__ promises -/
def tMkE (C : Addr) (sp : Sp) (g : List V → List V → List V) (t tk : TA) (n m : Nat) : TE := fun σ H Q => t σ H fun vs H1 => tk σ H1 fun zs H2 =>
  vs.length = n ∧ zs.length = m ∧ n ≤ 1000 ∧ ∀ a, H2 a = none → sp (g (.ref a :: vs) zs) (upd H2 a (exo a C none)) (fun v H3 => v = .non ∧ Q (.ref a) H3) E0
section
variable {X : Cx} {C fI : Addr} {k n : Nat} {fd : FuncData} {ps ks : List Str} {sp : Sp} {x : Str} {p pos : Pos} {e : Expr} {es : List Expr} {kws : List Keyword} {t tk : TA}
  {g : List Value → List Value → List Value} {gV : List V → List V → List V}
theorem run_mkE {pins : List (Addr × Obj)} {σ : L2.St} {H : Hp} {s : Shared} {Q : VK} {us ws : List Value} {vs zs : List V} (T : OexC X.K C)
    (iC : PySem.W.findIn X.K (.ref C) "__init__" = some (some (.ref fI))) (tI : PySem.W.typeIn X.K (.ref fI) = some (.type "function"))
    (F : FnOk X.prog X.w X.K X.mg X.base CX0 k fI fd ps sp) (hr : Room (k + 1) X.A) (hb : KBn X.K fd ps (n + 1) ks g gV)
    (I : Inv X pins σ H s) (r : Vals vs us) (rz : Vals zs ws) (l1 : vs.length = n) (l2 : zs.length = ks.length) (ln : n ≤ 1000)
    (h : ∀ a, H a = none → sp (gV (.ref a :: vs) zs) (upd H a (exo a C none)) (fun v H3 => v = .non ∧ Q (.ref a) H3) E0) :
    wpAny (model X.prog X.w) X.A (call (.ref C) us (ks.zip ws)) (EP X pins σ Q) X.xe s := by
  obtain ⟨nm, q, N, bs, bm, sn, sub, ab, col, dd, k0, k1, k2, k3, k5, hC, hbm⟩ := T.cls
  obtain ⟨hp, gg, dr, tk, os⟩ := s
  have hsz : hp.objs.size ≤ hp.objs.size + 1 := Nat.le_succ _
  have hq := h (hp.objs.size + 1) (I.hok.fresh hsz)
  have kk : ∀ b o, hp.get? b = some o →
      ((hp.push (PySem.W.kdv_tup us)).push (PySem.HandSPX.excO C hp.objs.size)).get? b = some o :=
    fun b o e => Heap.get?_push_of_some _ (Heap.get?_push_of_some _ e)
  have hget : ((hp.push (PySem.W.kdv_tup us)).push (PySem.HandSPX.excO C hp.objs.size)).get? (hp.objs.size + 1) =
      some (PySem.HandSPX.excO C hp.objs.size) := by
    heap_get
  have I2 : Inv X pins σ (upd H (hp.objs.size + 1) (exo (hp.objs.size + 1) C none))
      ⟨(hp.push (PySem.W.kdv_tup us)).push (PySem.HandSPX.excO C hp.objs.size), gg, dr, tk, os⟩ :=
    I.laid (t' := tk) (h' := (hp.push (PySem.W.kdv_tup us)).push (PySem.HandSPX.excO C hp.objs.size)) kk hsz (exo_ok hget)
  have ra : Vals (V.ref (hp.objs.size + 1) :: vs) (Value.ref (hp.objs.size + 1) :: us) := .cons rfl r
  have r2 := hb.rel ra rz
  have lu : us.length ≤ sizeLine := by
    have := Paired.length r
    rw [sizeLine_eq]
    omega
  have lu1 : (Value.ref (hp.objs.size + 1) :: us).length = n + 1 := by
    rw [List.length_cons, ← Paired.length r, l1]
  refine wpAny_call (PySem.K0x.call_kw PySem.F.excBase_ValueError (fun Y => PySem.HandSPX.refsVE_contains Y bm hbm) (I.kIn _ _ hC)
    (PySem.W.looks_findIn I.kIn iC) (fun self => PySem.W.bind_fn I.kIn self tI) lu
    (codeAny_mono (F.run _ X.stack _ _ ⟨Value.ref (hp.objs.size + 1) :: us, ks.zip ws⟩ _ _ _ E0 (hr.make C us (ks.zip ws))
      (I2.env0.make C us (ks.zip ws)) (hb.to _ _ ws I2.kIn lu1 ((Paired.length rz).symm.trans l2)) r2 hq) ?_))
  intro r' s' hq'
  cases r' with
  | error er => cases hq'
  | ok fl =>
    cases fl with
    | ret u =>
      obtain ⟨v, H3, I3, rv, ev, q3⟩ := I2.after hq'
      subst ev
      exact ⟨rv, V.ref (hp.objs.size + 1), H3, I3, rfl, q3⟩
    | next => cases hq'
    | brk => cases hq'
    | cont => cases hq'

/-- C(e, ..) -/
theorem pe_mkE (T : OexC X.K C)
    (iC : PySem.W.findIn X.K (.ref C) "__init__" = some (some (.ref fI))) (tI : PySem.W.typeIn X.K (.ref fI) = some (.type "function"))
    (F : FnOk X.prog X.w X.K X.mg X.base CX0 k fI fd ps sp) (hr : Room (k + 1) X.A) (hb : KBn X.K fd ps (n + 1) [] g gV)
    (hg : Gl X x) (hm : X.mg x = some (.ref C)) (ha : PA X (e :: es) t)
    (hdb : (x == ("__debug__" : Str)) = false := by decide)
    (he : starEach (e :: es) X.env = (false, eval e X.env) :: starEach es X.env := by rfl)
    (hpl : (backTo pos (starEach es X.env)).any (·.1) = false := by rfl) :
    PE X (.Call (.Name x p) (e :: es) [] pos) (tMkE C sp gV t tNil n 0) := by
  refine ⟨fun pins s σ H Q I h => wpAny_Call_Name_kw (ld_glob I hg hm ?_ hdb)⟩
  refine PySem.W.callWith_K (h₀ := X.base) I.ok.mod.kin T.kC
    (thn (ha.run pos pins s σ H _ I h) ?_) he hpl
  rintro us s1 ⟨vs, H1, I1, r, l1, _, ln, q⟩
  exact ⟨I1.kIn, run_mkE (ws := []) (zs := []) (ks := []) T iC tI F hr hb I1 r .nil l1 rfl ln q⟩
/-- C(k = v, ..) -/
theorem pe_mkEK (T : OexC X.K C)
    (iC : PySem.W.findIn X.K (.ref C) "__init__" = some (some (.ref fI))) (tI : PySem.W.typeIn X.K (.ref fI) = some (.type "function"))
    (F : FnOk X.prog X.w X.K X.mg X.base CX0 k fI fd ps sp) (hr : Room (k + 1) X.A) (hb : KBn X.K fd ps 1 ks g gV)
    (hg : Gl X x) (hm : X.mg x = some (.ref C)) (hkw : PK X kws tk)
    (hall : (backToKw pos (keywordEach kws X.env)).all (·.1.isSome) = true := by rfl)
    (hks : (backToKw pos (keywordEach kws X.env)).filterMap (·.1) = ks := by rfl)
    (hdb : (x == ("__debug__" : Str)) = false := by decide)
    (hpl : ((backTo pos (starEach [] X.env)).any (·.1) || (backToKw pos (keywordEach kws X.env)).any (·.1.isNone)) = false := by rfl) :
    PE X (.Call (.Name x p) [] kws pos) (tMkE C sp gV tNil tk 0 ks.length) := by
  refine ⟨fun pins s σ H Q I h => wpAny_Call_Name_kw (ld_glob I hg hm ?_ hdb)⟩
  refine PySem.W.callWith_KW0 (h₀ := X.base) I.ok.mod.kin T.kC hall
    (thn (hkw.run pos pins s σ H _ I h) ?_) hpl
  rintro ws s2 ⟨zs, H2, I2, rz, l1, l2, ln, q2⟩
  refine ⟨I2.kIn, ?_⟩
  rw [hks]
  exact run_mkE (us := []) (vs := []) T iC tI F hr hb I2 .nil rz rfl l2 ln q2
/-- f(k = v, ..) of a def, no value by place -/
theorem pe_kw0 {f : Addr} (F : FnOk X.prog X.w X.K X.mg X.base CX0 k f fd ps sp) (hr : Room k X.A) (hg : Gl X x) (hm : X.mg x = some (.ref f))
    (hk : PySem.W.keepIn X.K (.ref f) = true) (hb : KBn X.K fd ps 0 ks g gV) (hkw : PK X kws tk)
    (hall : (backToKw pos (keywordEach kws X.env)).all (·.1.isSome) = true := by rfl)
    (hks : (backToKw pos (keywordEach kws X.env)).filterMap (·.1) = ks := by rfl)
    (hdb : (x == ("__debug__" : Str)) = false := by decide)
    (hpl : ((backTo pos (starEach [] X.env)).any (·.1) || (backToKw pos (keywordEach kws X.env)).any (·.1.isNone)) = false := by rfl) :
    PE X (.Call (.Name x p) [] kws pos) (fun σ H Q => tk σ H fun zs H1 => zs.length = ks.length ∧ sp (gV [] zs) H1 Q E0) := by
  refine ⟨fun pins s σ H Q I h => wpAny_Call_Name_kw (ld_glob I hg hm ?_ hdb)⟩
  refine PySem.W.callWith_KW0 (h₀ := X.base) I.ok.mod.kin hk hall
    (thn (hkw.run pos pins s σ H _ I h) ?_) hpl
  rintro ws s2 ⟨zs, H2, I2, rz, l2, q2⟩
  refine ⟨I2.kIn, ?_⟩
  rw [hks]
  exact run_fnN (us := []) (vs := []) F hr hb pass0 I2 .nil rz rfl l2 q2
/-- e.f, e an exception that is held as a value -/
theorem pe_fldE {te : TE} {f : Str} {pos : Pos} {o : Expr} (he : PE X o te) (hb : attributeBase o f X.env (eval o X.env) = eval o X.env := by rfl) :
    PE X (.Attribute o f pos) (fun σ H Q => te σ H fun y H1 => ∃ (a C d : Addr) (fs : List (Str × V)) (v : V), y = .ref a ∧ H1 a = some (exo a C (some d)) ∧ H1 d = some (exd d fs) ∧
      XfC X.K C ∧ PySem.W.findIn X.K (.ref C) f = some none ∧ fs.lookup f = some v ∧ Q v H1) := by
  refine ⟨fun pins s σ H Q I h => attr_of hb (thn (he.run pins s σ H _ I h) ?_)⟩
  rintro u s1 ⟨y, H1, I1, rx, a, C, d, fs, v, rfl, ea, ed, T, hno, l, q⟩
  obtain rfl : u = Value.ref a := rx
  obtain ⟨t1, ho⟩ := exo_at I1.hok ea
  obtain ⟨mA, hns, hr⟩ := exd_at I1.hok ed
  obtain ⟨od, hod, hl⟩ := lookIn_ns hns
  obtain ⟨u, hu, ru⟩ := RelO.some_of (v := v) (o := mA f) (by rw [← l]; exact hr f)
  have J : PySem.W.InstAt s1.heap a _ C (some od) := ⟨ho, rfl, rfl, hod⟩
  exact HandSPX.exc_get I1.kIn J T.ga T.gg T.exC
    (PySem.W.findObj_own T.hdC hno rfl (by rw [hl, hu])) (handed_of ru) ⟨v, H1, I1.tok _, ru, q⟩
end
end K0


set_option Elab.async false
set_option linter.all false
set_option maxRecDepth 100000
set_option maxHeartbeats 4000000
namespace K0
open PySem PySem.Spec PyProof.Rows L2

section
variable {prog : Program} {w : World} {A : Around} {E : Value → Shared → Prop} {s : Shared} {K : PySem.W.Frag} {x C f : Addr} {ox : Obj} {od : Option Obj} {b : Value}
theorem ifBound_objNe {M : Model} {args : List Value} {Q : Option Value → Shared → Prop} (X : K.In s.heap) (I : PySem.W.InstAt s.heap x ox C od) (hs : PySem.W.findIn K (.ref C) "__ne__" = some (some (.builtin "object.__ne__")))
    (h : wpAny M A (call (.builtin "object.__ne__") (.ref x :: args)) (fun v => Q (some v)) E s) : wpAny M A (callSpecialIfBound? (.ref x) "__ne__" args) Q E s := by
  simp only [callSpecialIfBound?, bindSpecialIfBound?]
  refine wpAny_holding (wpAny_bind (wpAny_bind (wpAny_bind (I.type.here ((PySem.W.looks_findIn X hs).here ?_)))))
  refine wpAny_bind (wpAny_askSetting (wpAny_ite ?_))
  have fin : wpAny M A (call (.builtin "object.__ne__") ([.ref x] ++ args) >>= fun v => pure (some v)) Q E s := wpAny_bind (wpAny_mono h (fun v s' h' => wpAny_pure h') fun _ _ h' => h')
  split
  · exact wpAny_bind (wpAny_of_eq (F.cmp_object.ne.bind _) (wpAny_pure (by exact fin)))
  · exact wpAny_tryCatch (wpAny_bind (wpAny_of_eq (F.cmp_object.ne.bind _) (wpAny_pure (by exact fin))))
theorem objNe_K {Q : Fin → Shared → Prop} (hu : A.units < cLine) (X : K.In s.heap) (I : PySem.W.InstAt s.heap x ox C od) (hs : PySem.W.findIn K (.ref C) "__eq__" = some (some (.ref f))) (hf : PySem.W.isFn K (.ref f) = true)
    (hcall : wpAny (model prog w) A (call (.ref f) [.ref x, b]) (fun v s' => ∃ r, v = .bool r ∧ Q (.done (.ret (.bool (!r)))) s') E s) :
    wpAny (model prog w) A (Builtin.«object.__ne__» ⟨[.ref x, b], []⟩) Q E s := by
  unfold Builtin.«object.__ne__»
  repeat (first
    | with_reducible refine wpAny_cRoomFor hu ?_
    | (refine wpAny_bind (m := callSpecialIfBound? (.ref x) (Str.ofString "__eq__") [b])
        (PySem.W.ifBound_K X I hs hf (wpAny_mono hcall (fun r s' hr => by
          obtain ⟨b, rfl, hq⟩ := hr
          repeat (first | exact hq | exact wpAny_pure hq | exact wpAny_truthy_bool hq | (refine wpAny_bind (m := truthy (.bool _)) (wpAny_truthy_bool ?_)) | wp_step)) fun _ _ e => e)))
    | wp_step)
theorem ne_K {Q : Value → Shared → Prop} {y : Addr} (hu : A.units + 1 < cLine) (X : K.In s.heap) (I : PySem.W.InstAt s.heap x ox C od) {oy : Obj} {ody : Option Obj} (J : PySem.W.InstAt s.heap y oy C ody) (hn : PySem.W.findIn K (.ref C) "__ne__" = some (some (.builtin "object.__ne__")))
    (hm : PySem.W.mroIn K C (.type "object") = some true) (hs : PySem.W.findIn K (.ref C) "__eq__" = some (some (.ref f))) (hf : PySem.W.isFn K (.ref f) = true)
    (hcall : wpAny (model prog w) A.in1 (call (.ref f) [.ref x, .ref y]) (fun v s' => ∃ r, v = .bool r ∧ Q (.bool (!r)) s') E s) : wpAny (model prog w) A (richCompare .NotEq (.ref x) (.ref y)) Q E s := by
  have one : wpAny (model prog w) A (tryCompare (.ref x) "__ne__" (.ref y)) (fun r s' => ∃ v, r = some v ∧ Q v s') E s := by
    unfold tryCompare
    refine wpAny_bind (ifBound_objNe X I hn (wpAny_call (codeAny_call_builtin F.cmp_object.ne.plain F.cmpEntry_ne (PySem.W.check_slot F.cmpKind_ne F.cmpSplit_ne (I.type.andThen (PySem.W.looks_mroIn X hm)) (F.cmpArgs_ne _ _) ?_))))
    refine objNe_K (A := A.in1) hu X I hs hf (wpAny_mono hcall (fun v s' hv => ?_) fun _ _ z => z)
    obtain ⟨r, rfl, q⟩ := hv
    exact ⟨r, rfl, wpAny_pure ⟨_, rfl, q⟩⟩
  simp only [richCompare, cmpInfo_NotEq, oneThing_ref]
  refine wpAny_holding (wpAny_bind (wpAny_cRoomFor (Nat.lt_of_succ_lt hu) ?_))
  refine wpAny_bind (I.type.here (wpAny_bind (J.type.here ?_)))
  rw [show (Value.ref C != Value.ref C) = false from by simp]
  simp only [Bool.false_eq_true, if_false]
  refine wpAny_bind (wpAny_pure ?_)
  simp only [Bool.false_eq_true, if_false]
  refine wpAny_bind (wpAny_mono one (fun r s' z => ?_) fun _ _ e => e)
  obtain ⟨v, rfl, hq⟩ := z
  exact wpAny_pure hq
end
section
variable {X : Cx} {CX : CXT} {k : Nat} {f C : Addr} {fd : FuncData} {ps : List Str} {sp : Sp} {E : XK}
/-- the type of what == is asked of -/
def CmpTy (K : PySem.W.Frag) (H : Hp) (C : Addr) (y : V) : Prop := (∃ b dy gs, y = .ref b ∧ H b = some (.ins C dy gs)) ∨ ((∃ b xs, y = .ref b ∧ H b = some (.tup xs)) ∧ PySem.W.subIn K (.type "tuple") (.ref C) = some false)
/-- x == y, x of the class at C with the program's own __eq__ -/
theorem op_eqI (F : FnOk X.prog X.w X.K X.mg X.base CX k f fd ps sp) (hr : Room k X.A) (hs : PySem.W.findIn X.K (.ref C) "__eq__" = some (some (.ref f))) (hf : PySem.W.isFn X.K (.ref f) = true) (hb : Binds X.K fd ps []) (hx : Passes CX X E) :
    OpR X (compareOp .Eq) (fun x y H Q => ∃ a dx fs, x = .ref a ∧ H a = some (.ins C dx fs) ∧ CmpTy X.K H C y ∧ sp [x, y] H (fun v H' => ∃ b, v = .bl b ∧ Q (.bl b) H') E) := by
  intro pins s σ H x y v u Q I rx ry h
  obtain ⟨a, dx, fs, rfl, ha, hy, h⟩ := h
  cases rx
  obtain ⟨mA, J, _⟩ := ins_get I.hok ha
  obtain ⟨od, J, _⟩ := J.look
  obtain ⟨m, hF⟩ := I.fr
  have run : wpAny (model X.prog X.w) X.A (call (.ref f) [.ref a, u]) (EP X pins σ fun v H' => ∃ b, v = .bl b ∧ Q (.bl b) H') X.xe s := by
    have := run_fn (us := [.ref a, u]) (vs := [.ref a, y]) F hr hb .nil hx I (.cons rfl (.cons ry .nil)) (by simpa using h)
    simpa using this
  have back : ∀ v s', EP X pins σ (fun v H' => ∃ b, v = V.bl b ∧ Q (.bl b) H') v s' → PySem.W.CmpBack (EP X pins σ Q) v s' := by
    rintro v s' ⟨z, H', I', rz, b, rfl, q⟩
    cases rz
    show EP X pins σ Q (.bool b) s'
    exact ⟨.bl b, H', I', rfl, q⟩
  show wpAny (model X.prog X.w) X.A (richCompare .Eq _ u) (EP X pins σ Q) X.xe s
  rcases hy with ⟨b, dy, gs, rfl, hb'⟩ | ⟨⟨b, xs, rfl, hb'⟩, hsub⟩
  · cases ry
    obtain ⟨mB, J', _⟩ := ins_get I.hok hb'
    obtain ⟨od', J', _⟩ := J'.look
    exact PySem.W.cmp_K (op := .Eq) (tb := .ref C) hr.units0 hF I.ok.mod.kin J J'.type (by simp [PySem.W.notFirst]) hs hf (wpAny_mono run back fun _ _ z => z)
  · cases ry
    obtain ⟨_, its, _, o, ho, hc, _⟩ := I.hok b _ hb'
    refine PySem.W.cmp_K (op := .Eq) (tb := .type "tuple") hr.units0 hF I.ok.mod.kin J (hc ▸ (PySem.W.Looks.ld ho).andThen .now) ?_ hs hf (wpAny_mono run back fun _ _ z => z)
    unfold PySem.W.notFirst
    rw [hsub]
    simp
/-- x != y of two of the class at C -/
theorem op_neI (F : FnOk X.prog X.w X.K X.mg X.base CX k f fd ps sp) (hr : Room (k + 1) X.A) (hs : PySem.W.findIn X.K (.ref C) "__eq__" = some (some (.ref f))) (hf : PySem.W.isFn X.K (.ref f) = true) (hn : PySem.W.findIn X.K (.ref C) "__ne__" = some (some (.builtin "object.__ne__")))
    (hm : PySem.W.mroIn X.K C (.type "object") = some true) (hb : Binds X.K fd ps []) (hx : Passes CX X E) :
    OpR X (compareOp .NotEq) (fun x y H Q => ∃ a dx fs b dy gs, x = .ref a ∧ H a = some (.ins C dx fs) ∧ y = .ref b ∧ H b = some (.ins C dy gs) ∧ sp [x, y] H (fun v H' => ∃ b, v = .bl b ∧ Q (.bl (!b)) H') E) := by
  intro pins s σ H x y v u Q I rx ry h
  obtain ⟨a, dx, fs, b, dy, gs, rfl, ha, rfl, hb', h⟩ := h
  cases rx
  cases ry
  obtain ⟨mA, J, _⟩ := ins_get I.hok ha
  obtain ⟨od, J, _⟩ := J.look
  obtain ⟨mB, J', _⟩ := ins_get I.hok hb'
  obtain ⟨od', J', _⟩ := J'.look
  have hl : ([Value.ref a, Value.ref b] ++ []).length = ps.length := by
    have := F.len _ _ _ _ h
    simpa using this
  have run : wpAny (model X.prog X.w) X.A.in1 (call (.ref f) [.ref a, .ref b]) (EP X pins σ fun v H' => ∃ b, v = .bl b ∧ Q (.bl (!b)) H') X.xe s := by
    refine wpAny_call (codeAny_mono (F.run X.A.in1 X.stack s H ⟨[.ref a, .ref b], []⟩ [.ref a, .ref b] [.ref a, .ref b] _ E hr.in1 I.env0.in1 (by
      have := hb s [.ref a, .ref b] I.kIn hl
      simpa using this) (.cons rfl (.cons rfl .nil)) h) fun r s' hq => ?_)
    cases r with
    | error e => exact hx pins σ H s e s' I hq
    | ok fl =>
      cases fl with
      | ret u => exact I.after hq
      | next => exact False.elim hq
      | brk => exact False.elim hq
      | cont => exact False.elim hq
  show wpAny (model X.prog X.w) X.A (richCompare .NotEq _ _) (EP X pins σ Q) X.xe s
  refine ne_K (by have := hr.units; omega) I.kIn J J' hn hm hs hf (wpAny_mono run ?_ fun _ _ z => z)
  rintro v s' ⟨z, H', I', rz, c, rfl, q⟩
  cases rz
  exact ⟨c, rfl, .bl (!c), H', I', rfl, q⟩
end
end K0


set_option Elab.async false
set_option linter.all false
set_option maxRecDepth 100000
set_option maxHeartbeats 4000000
namespace K0
open PySem PySem.Spec PyProof.Rows L2

/-! ### defs, bundled -/
/-- the def x of the module stands at f and keeps sp -/
structure Dn (P : Program) (w : World) (K : PySem.W.Frag) (mg : Str → Option Value) (base : Heap) (k : Nat) (x : Str) (f : Addr) (ps : List Str) (sp : Sp) : Prop where
  ex : ∃ fd, FnOk P w K mg base CX0 k f fd ps sp ∧ Binds K fd ps []
  mg : mg x = some (.ref f)
  kp : PySem.W.keepIn K (.ref f) = true
/-- .. and what is bound where keywords ks are given -/
structure DnK (P : Program) (w : World) (K : PySem.W.Frag) (mg : Str → Option Value) (base : Heap) (k : Nat) (x : Str) (f : Addr) (ps ks : List Str) (gV : List V → List V → List V) (sp : Sp) : Prop where
  ex : ∃ fd g, FnOk P w K mg base CX0 k f fd ps sp ∧ KBn K fd ps 0 ks g gV
  mg : mg x = some (.ref f)
  kp : PySem.W.keepIn K (.ref f) = true
structure DnG (P : Program) (w : World) (K : PySem.W.Frag) (mg : Str → Option Value) (base : Heap) (k : Nat) (x : Str) (f : Addr) (ps : List Str) (sp : Sp) : Prop where
  ex : ∃ fd, FnG P w K mg base k f fd ps sp ∧ Binds K fd ps []
  mg : mg x = some (.ref f)
  kp : PySem.W.keepIn K (.ref f) = true
section
variable {X : Cx} {k : Nat} {f : Addr} {ps ks : List Str} {sp : Sp} {x : Str} {p pos : Pos} {e : Expr} {es : List Expr} {kws : List Keyword} {t tk : TA} {gV : List V → List V → List V}
def tDn (sp : Sp) (t : TA) : TE := fun σ H Q => t σ H fun vs H1 => sp vs H1 Q E0
theorem pe_dn (D : Dn X.prog X.w X.K X.mg X.base k x f ps sp) (hr : Room k X.A) (hg : Gl X x) (ha : PA X (e :: es) t)
    (hdb : (x == ("__debug__" : Str)) = false := by decide)
    (he : starEach (e :: es) X.env = (false, eval e X.env) :: starEach es X.env := by rfl)
    (hpl : (backTo pos (starEach es X.env)).any (·.1) = false := by rfl) :
    PE X (.Call (.Name x p) (e :: es) [] pos) (tDn sp t) := by
  obtain ⟨⟨fd, F, B⟩, m, kp⟩ := D
  have h := pe_call (p := p) F hr hg m kp B .nil pass0 ha hdb he hpl
  refine ⟨fun pins s σ H Q I q => h.run pins s σ H Q I ?_⟩
  have e1 : tCall sp [] E0 t σ H Q = tDn sp t σ H Q := by
    show t σ H (fun vs H1 => sp (vs ++ []) H1 Q E0) = _
    simp only [List.append_nil]
    rfl
  rw [e1]
  exact q
theorem pe_dk (D : DnK X.prog X.w X.K X.mg X.base k x f ps ks gV sp) (hr : Room k X.A) (hg : Gl X x) (hkw : PK X kws tk)
    (hall : (backToKw pos (keywordEach kws X.env)).all (·.1.isSome) = true := by rfl)
    (hks : (backToKw pos (keywordEach kws X.env)).filterMap (·.1) = ks := by rfl)
    (hdb : (x == ("__debug__" : Str)) = false := by decide)
    (hpl : ((backTo pos (starEach [] X.env)).any (·.1) || (backToKw pos (keywordEach kws X.env)).any (·.1.isNone)) = false := by rfl) :
    PE X (.Call (.Name x p) [] kws pos) (fun σ H Q => tk σ H fun zs H1 => zs.length = ks.length ∧ sp (gV [] zs) H1 Q E0) := by
  obtain ⟨⟨fd, g, F, B⟩, m, kp⟩ := D
  exact pe_kw0 F hr hg m kp B hkw hall hks hdb hpl
theorem pe_dg (D : DnG X.prog X.w X.K X.mg X.base k x f ps sp) (hG : X.A.guards = some []) (hr : Room k X.A) (hg : Gl X x) (ha : PA X (e :: es) t)
    (hdb : (x == ("__debug__" : Str)) = false := by decide)
    (he : starEach (e :: es) X.env = (false, eval e X.env) :: starEach es X.env := by rfl)
    (hpl : (backTo pos (starEach es X.env)).any (·.1) = false := by rfl) :
    PE X (.Call (.Name x p) (e :: es) [] pos) (tDn sp t) := by
  obtain ⟨⟨fd, F, B⟩, m, kp⟩ := D
  exact pe_callG F hG hr hg m kp B ha hdb he hpl
end

/-! ### exceptions, bundled -/
/-- an exception of the class at C with these fields stands at a -/
def ErrAt (H : Hp) (a C : Addr) (fs : List (Str × V)) : Prop := ∃ d, H a = some (exo a C (some d)) ∧ H d = some (exd d fs)
theorem ErrAt.same {H H' : Hp} {a C : Addr} {fs : List (Str × V)} (h : ErrAt H a C fs) (s : Same H H') : ErrAt H' a C fs := by
  obtain ⟨d, h1, h2⟩ := h
  exact ⟨d, s _ _ h1, s _ _ h2⟩
/-- what __init__ promises: the fields named are stored -/
def spI (C : Addr) (n : Nat) (fs : List V → List (Str × V)) : Sp := fun vs H Q _ => ∃ (a : Addr) (ws : List V), vs = .ref a :: ws ∧ ws.length = n ∧ H a = some (exo a C none) ∧
  ∀ (d : Addr) (H' : Hp), H d = none → d ≠ a → H' a = some (exo a C (some d)) → H' d = some (exd d (fs ws)) → (∀ b o, b ≠ a → H b = some o → H' b = some o) → Q .non H'
/-- the class x of the module stands at C; its maker binds by place, and by the keywords ks -/
structure Ec (P : Program) (w : World) (K : PySem.W.Frag) (mg : Str → Option Value) (base : Heap) (x : Str) (C : Addr) (n : Nat) (ks : List Str) (gV : List V → List V) (fs : List V → List (Str × V)) : Prop where
  ox : OexC K C
  xf : XfC K C
  ec : ExcC K C
  ex : ∃ fI fd ps g1 g2, PySem.W.findIn K (.ref C) "__init__" = some (some (.ref fI)) ∧ PySem.W.typeIn K (.ref fI) = some (.type "function") ∧ FnOk P w K mg base CX0 1 fI fd ps (spI C n fs) ∧
    KBn K fd ps (n + 1) [] g1 (fun vs _ => vs) ∧ KBn K fd ps 1 ks g2 (fun vs zs => vs ++ gV zs)
  len : ∀ zs : List V, zs.length = ks.length → (gV zs).length = n
  nk : n ≤ 1000
  mg : mg x = some (.ref C)
  no : ∀ ws : List V, ws.length = n → ∀ q ∈ fs ws, PySem.W.findIn K (.ref C) q.1 = some none
section
variable {X : Cx} {C : Addr} {n : Nat} {ks : List Str} {x : Str} {p pos : Pos} {e : Expr} {es : List Expr} {kws : List Keyword} {t tk : TA} {gV : List V → List V} {fs : List V → List (Str × V)}
/-- the reading of C(e, ..) -/
def tEc (C : Addr) (n : Nat) (fs : List V → List (Str × V)) (t : TA) : TE := fun σ H Q => t σ H fun vs H1 => vs.length = n ∧
  ∀ (a : Addr) (H2 : Hp), H1 a = none → ErrAt H2 a C (fs vs) → Same H1 H2 → Q (.ref a) H2
theorem ini_way {H1 : Hp} {Q : VK} {ws : List V} (hl : ws.length = n) (h : ∀ (a : Addr) (H2 : Hp), H1 a = none → ErrAt H2 a C (fs ws) → Same H1 H2 → Q (.ref a) H2) :
    ∀ a, H1 a = none → spI C n fs (.ref a :: ws) (upd H1 a (exo a C none)) (fun v H3 => v = .non ∧ Q (.ref a) H3) E0 := by
  intro a ha
  refine ⟨a, ws, rfl, hl, upd_same, fun d H' hd hda h1 h2 hk => ⟨rfl, h a H' ha ⟨d, h1, h2⟩ fun b o hb => ?_⟩⟩
  have hba : b ≠ a := ne_of_none hb ha
  exact hk b o hba (by rw [upd_ne hba]; exact hb)
theorem pe_ec (D : Ec X.prog X.w X.K X.mg X.base x C n ks gV fs) (hr : Room 2 X.A) (hg : Gl X x) (ha : PA X (e :: es) t)
    (hdb : (x == ("__debug__" : Str)) = false := by decide)
    (he : starEach (e :: es) X.env = (false, eval e X.env) :: starEach es X.env := by rfl)
    (hpl : (backTo pos (starEach es X.env)).any (·.1) = false := by rfl) :
    PE X (.Call (.Name x p) (e :: es) [] pos) (tEc C n fs t) := by
  obtain ⟨fI, fd, ps, g1, g2, h1, h2, F, b1, b2⟩ := D.ex
  refine ⟨fun pins s σ H Q I q => wpAny_Call_Name_kw (ld_glob I hg D.mg ?_ hdb)⟩
  refine PySem.W.callWith_K (h₀ := X.base) I.ok.mod.kin D.ox.kC
    (thn (ha.run pos pins s σ H _ I q) ?_) he hpl
  rintro us s1 ⟨vs, H1, I1, r, l1, q1⟩
  exact ⟨I1.kIn, run_mkE (ws := []) (zs := []) (ks := []) D.ox h1 h2 F hr b1 I1 r .nil l1 rfl D.nk (ini_way l1 q1)⟩
theorem pe_eck (D : Ec X.prog X.w X.K X.mg X.base x C n ks gV fs) (hr : Room 2 X.A) (hg : Gl X x) (hkw : PK X kws tk)
    (hall : (backToKw pos (keywordEach kws X.env)).all (·.1.isSome) = true := by rfl)
    (hks : (backToKw pos (keywordEach kws X.env)).filterMap (·.1) = ks := by rfl)
    (hdb : (x == ("__debug__" : Str)) = false := by decide)
    (hpl : ((backTo pos (starEach [] X.env)).any (·.1) || (backToKw pos (keywordEach kws X.env)).any (·.1.isNone)) = false := by rfl) :
    PE X (.Call (.Name x p) [] kws pos) (fun σ H Q => tk σ H fun zs H1 => zs.length = ks.length ∧
      ∀ (a : Addr) (H2 : Hp), H1 a = none → ErrAt H2 a C (fs (gV zs)) → Same H1 H2 → Q (.ref a) H2) := by
  obtain ⟨fI, fd, ps, g1, g2, h1, h2, F, b1, b2⟩ := D.ex
  refine ⟨fun pins s σ H Q I h => wpAny_Call_Name_kw (ld_glob I hg D.mg ?_ hdb)⟩
  refine PySem.W.callWith_KW0 (h₀ := X.base) I.ok.mod.kin D.ox.kC hall
    (thn (hkw.run pos pins s σ H _ I h) ?_) hpl
  rintro ws s2 ⟨zs, H2, I2, rz, l2, q2⟩
  refine ⟨I2.kIn, ?_⟩
  rw [hks]
  exact run_mkE (us := []) (vs := []) (n := 0) D.ox h1 h2 F hr b2 I2 .nil rz rfl l2 (Nat.zero_le _) (ini_way (D.len zs l2) q2)
/-- e.f of such an exception -/
theorem fld_err {K : PySem.W.Frag} {H : Hp} {a : Addr} {f : Str} {v : V} {ws : List V} {Q : VK} {P : Program} {w : World} {mg : Str → Option Value} {base : Heap} (D : Ec P w K mg base x C n ks gV fs) (h : ErrAt H a C (fs ws)) (hn : ws.length = n)
    (hl : (fs ws).lookup f = some v) (q : Q v H) :
    ∃ (b C' d : Addr) (fs' : List (Str × V)) (v' : V), V.ref a = .ref b ∧ H b = some (exo b C' (some d)) ∧ H d = some (exd d fs') ∧
      XfC K C' ∧ PySem.W.findIn K (.ref C') f = some none ∧ fs'.lookup f = some v' ∧ Q v' H := by
  obtain ⟨d, h1, h2⟩ := h
  refine ⟨a, C, d, fs ws, v, rfl, h1, h2, D.xf, ?_, hl, q⟩
  have key : ∀ (l : List (Str × V)), l.lookup f = some v → ∃ q ∈ l, q.1 = f := by
    intro l
    induction l with
    | nil => intro h; cases h
    | cons p l ih =>
      intro h
      obtain ⟨f', z⟩ := p
      rw [lookup_put] at h
      by_cases e : f = f'
      · exact ⟨_, List.mem_cons_self, e.symm⟩
      · rw [if_neg e] at h
        obtain ⟨q, hq, hf⟩ := ih h
        exact ⟨q, List.mem_cons_of_mem _ hq, hf⟩
  obtain ⟨q', hq, hf⟩ := key _ hl
  rw [← hf]
  exact D.no ws hn q' hq
end
end K0


set_option Elab.async false
set_option linter.all false
set_option maxRecDepth 100000
set_option maxHeartbeats 4000000
namespace K0
open PySem PySem.Spec PyProof.Rows L2

def topS (i : Nat) : Stmt := PySem.Challenge.pw_spindleway_k31_likenesses_lead_and_lead.main.body.getD i (.Pass ⟨0, 0, 0, 0⟩)
abbrev st_is_integer : Stmt := topS 7
abbrev st_is_within : Stmt := topS 8
abbrev st_is_list : Stmt := topS 9
abbrev st_are_integers : Stmt := topS 10
abbrev st_is_point : Stmt := topS 11
abbrev st__are_places : Stmt := topS 16
abbrev st__one_then : Stmt := topS 17
abbrev st__law_drum : Stmt := topS 19
abbrev st__law_beat : Stmt := topS 20
abbrev st__law_choose : Stmt := topS 21
abbrev st__law_stirred : Stmt := topS 22
abbrev st__law_drawn : Stmt := topS 23
abbrev st__law_led : Stmt := topS 24
abbrev st__law_point : Stmt := topS 25
abbrev st__law_told : Stmt := topS 26
abbrev st__law_due : Stmt := topS 27
abbrev st__law_one_right : Stmt := topS 28
abbrev st__law_two_right : Stmt := topS 29
abbrev st__law_heard : Stmt := topS 30
abbrev st__law_refused_right : Stmt := topS 31
abbrev st_law : Stmt := topS 32
abbrev si_BadNumber : Stmt := inClass (topS 2) 0
abbrev si_BadPoint : Stmt := inClass (topS 3) 0
abbrev si_BadLikeness : Stmt := inClass (topS 4) 0
abbrev si_Misfit : Stmt := inClass (topS 5) 0
abbrev sm_init : Stmt := inClass (topS 15) 0
abbrev sm_eq : Stmt := inClass (topS 15) 1
abbrev sm_led : Stmt := inClass (topS 15) 2
abbrev sm_then : Stmt := inClass (topS 15) 3
abbrev sm_back : Stmt := inClass (topS 15) 4
abbrev sm_same : Stmt := inClass (topS 15) 5

/-- names of the module that are the built-ins still -/
structure Nm (mg : Str → Option Value) : Prop where
  n_isinstance : mg "isinstance" = none
  n_int : mg "int" = none
  n_bool : mg "bool" = none
  n_list : mg "list" = none
  n_tuple : mg "tuple" = none
  n_len : mg "len" = none
  n_all : mg "all" = none
  n_abs : mg "abs" = none
  n_repr : mg "repr" = none
  n_sorted : mg "sorted" = none
  n_range : mg "range" = none
  n_enumerate : mg "enumerate" = none
  n_zip : mg "zip" = none
  c_LEAST_WIDE : ∃ t, mg "LEAST_WIDE" = some (.int 2 t)
  c_MOST_WIDE : ∃ t, mg "MOST_WIDE" = some (.int 6 t)
/-! ### kinds of values -/
def isI : V → Bool
  | .int _ => true
  | _ => false
/-- what isinstance tells of v: of int, of bool, of list and tuple -/
def Asks (K : PySem.W.Frag) (H : Hp) (v : V) (q : Bool) : Prop := ∃ (t : Value) (i b : Bool), TyE K H v t ∧
  PySem.W.kitOne K t (.type "int") = some i ∧ PySem.W.kitOne K t (.type "bool") = some b ∧ (i && !b) = isI v ∧
  PySem.W.kitAny K t [.type "list", .type "tuple"] = some q
section
variable {K : PySem.W.Frag} {H : Hp}
theorem any2 {t : Value} {b1 b2 : Bool} (h1 : PySem.W.kitOne K t (.type "list") = some b1) (h2 : PySem.W.kitOne K t (.type "tuple") = some b2) :
    PySem.W.kitAny K t [.type "list", .type "tuple"] = some (b1 || b2) :=
  kitAny_cons h1 (fun e => by
    subst e
    exact kitAny_cons h2 (fun e => by subst e; exact kitAny_nil) (fun e => by subst e; rfl)) (fun e => by subst e; rfl)
theorem Asks.int (n : Int) : Asks K H (.int n) false :=
  ⟨.type "int", true, false, .base (.base (.int n)), kit_ty (by decide +kernel), kit_ty (by decide +kernel), rfl,
    any2 (kit_ty (r := false) (by decide +kernel)) (kit_ty (r := false) (by decide +kernel))⟩
theorem Asks.bl (b : Bool) : Asks K H (.bl b) false :=
  ⟨.type "bool", true, true, .base (.base (.bl b)), kit_ty (by decide +kernel), kit_ty (by decide +kernel), rfl,
    any2 (kit_ty (r := false) (by decide +kernel)) (kit_ty (r := false) (by decide +kernel))⟩
theorem Asks.non : Asks K H .non false :=
  ⟨.type "NoneType", false, false, .base (.base .non), kit_ty (by decide +kernel), kit_ty (by decide +kernel), rfl,
    any2 (kit_ty (r := false) (by decide +kernel)) (kit_ty (r := false) (by decide +kernel))⟩
theorem Asks.str (x : Str) : Asks K H (.str x) false :=
  ⟨.type "str", false, false, .base (.base (.str x)), kit_ty (by decide +kernel), kit_ty (by decide +kernel), rfl,
    any2 (kit_ty (r := false) (by decide +kernel)) (kit_ty (r := false) (by decide +kernel))⟩
theorem Asks.lst {a : Addr} {xs : List V} (h : H a = some (.lst xs)) : Asks K H (.ref a) true :=
  ⟨.type "list", false, false, .base (.base (.lst h)), kit_ty (by decide +kernel), kit_ty (by decide +kernel), rfl,
    any2 (kit_ty (r := true) (by decide +kernel)) (kit_ty (r := false) (by decide +kernel))⟩
theorem Asks.tup {a : Addr} {xs : List V} (h : H a = some (.tup xs)) : Asks K H (.ref a) true :=
  ⟨.type "tuple", false, false, .base (.base (.tup h)), kit_ty (by decide +kernel), kit_ty (by decide +kernel), rfl,
    any2 (kit_ty (r := false) (by decide +kernel)) (kit_ty (r := true) (by decide +kernel))⟩
theorem Asks.dict {a : Addr} {kvs : List (Key × V)} (h : H a = some (.dK kvs)) : Asks K H (.ref a) false :=
  ⟨.type "dict", false, false, .base (.base (.dK h)), kit_ty (by decide +kernel), kit_ty (by decide +kernel), rfl,
    any2 (kit_ty (r := false) (by decide +kernel)) (kit_ty (r := false) (by decide +kernel))⟩
/-- what an own class of errors, at C, tells of its instances -/
structure KindsC (K : PySem.W.Frag) (C : Addr) : Prop where
  ki : PySem.W.kitOne K (.ref C) (.type "int") = some false
  kb : PySem.W.kitOne K (.ref C) (.type "bool") = some false
  kl : PySem.W.kitOne K (.ref C) (.type "list") = some false
  kt : PySem.W.kitOne K (.ref C) (.type "tuple") = some false
theorem Asks.err0 {a C : Addr} (h : H a = some (ExO (.ref C) a)) (T : ExcC K C) (k : KindsC K C) : Asks K H (.ref a) false :=
  ⟨.ref C, false, false, .err0 h T, k.ki, k.kb, rfl, any2 k.kl k.kt⟩
end
theorem pe_tyn {X : Cx} {x : Str} {pos : Pos} (n : String) (hg : Gl X x) (hm : X.mg x = none) (hv : bootBuiltins x = some (.type n)) (hn : x ≠ "__name__" := by decide)
    (hd : (x == ("__debug__" : Str)) = false := by decide) : PE X (.Name x pos) (tC (.ty n)) := pe_bltn hg hm hv rfl hn hd
end K0


set_option Elab.async false
set_option linter.all false
set_option maxRecDepth 100000
set_option maxHeartbeats 4000000
namespace K0
open PySem PySem.Spec PyProof.Rows L2

theorem TyOf.same {K : PySem.W.Frag} {H H' : Hp} {v : V} {t : Value} (s : Same H H') (h : TyOf K H v t) : TyOf K H' v t := by
  cases h with
  | non => exact .non
  | bl x => exact .bl x
  | int i => exact .int i
  | str x => exact .str x
  | flt x => exact .flt x
  | lst e => exact .lst (s _ _ e)
  | frz e => exact .frz (s _ _ e)
  | tup e => exact .tup (s _ _ e)
  | dK e => exact .dK (s _ _ e)
  | dT e => exact .dT (s _ _ e)
  | ins e cl ha hn htk hm => exact .ins (s _ _ e) cl ha hn htk hm
theorem TyX.same {K : PySem.W.Frag} {H H' : Hp} {v : V} {t : Value} (s : Same H H') (h : TyX K H v t) : TyX K H' v t := by
  cases h with
  | base h => exact .base (TyOf.same s h)
  | byt b => exact .byt b
  | set e => exact .set (s _ _ e)
  | kList e c => exact .kList e c
  | kTuple e c => exact .kTuple e c
  | kDict e c => exact .kDict e c
  | fTuple e => exact .fTuple (s _ _ e)
  | fDict e => exact .fDict (s _ _ e)
theorem TyE.same {K : PySem.W.Frag} {H H' : Hp} {v : V} {t : Value} (s : Same H H') (h : TyE K H v t) : TyE K H' v t := by
  cases h with
  | base h => exact .base (TyX.same s h)
  | err e hd T => exact .err (s _ _ e) (fun dd q => let ⟨o, z⟩ := hd dd q; ⟨o, s _ _ z⟩) T
  | err0 e T => exact .err0 (s _ _ e) T
theorem Asks.same {K : PySem.W.Frag} {H H' : Hp} {v : V} {q : Bool} (s : Same H H') (h : Asks K H v q) : Asks K H' v q := by
  obtain ⟨t, i, b, ty, r⟩ := h
  exact ⟨t, i, b, ty.same s, r⟩

/-! ### is_integer, is_within -/
def spIsInt (K : PySem.W.Frag) : Sp := fun vs H Q _ => ∃ (v : V) (q : Bool), vs = [v] ∧ Asks K H v q ∧ ∀ H', Same H H' → Q (.bl (isI v)) H'
def leB : V → Int → Bool
  | .int k, n => decide (k ≤ n)
  | _, _ => true
def geB : V → Int → Bool
  | .int k, n => decide (n ≤ k)
  | _, _ => true
/-- whether v is an integer from l to m -/
def within : V → V → V → Bool
  | .int n, l, m => leB l n && geB m n
  | _, _, _ => false
def Bd (l : V) : Prop := l = .non ∨ ∃ k, l = .int k
def spWithin (K : PySem.W.Frag) : Sp := fun vs H Q _ => ∃ (v l m : V) (q : Bool), vs = [v, l, m] ∧ Asks K H v q ∧ Bd l ∧ Bd m ∧ ∀ H', Same H H' → Q (.bl (within v l m)) H'

section
variable {P : Program} {w : World} {K : PySem.W.Frag} {mg : Str → Option Value} {base : Heap} {f g : Addr} {fd : FuncData}
theorem sc_is_integer : FnScope ["value"] ["value"] (defScope st_is_integer) := ⟨rfl, rfl, rfl, by decide +kernel, rfl, by decide +kernel, by decide +kernel⟩
theorem ok_is_integer (F : Fun K "is_integer" "is_integer" st_is_integer f fd) (T : Nm mg) : FnOk P w K mg base CX0 1 f fd ["value"] (spIsInt K) := by
  refine F.ok sc_is_integer (fun vs H Q E h => ?_) (fun cdv A outer s H vs Q E hr h => ?_)
  · obtain ⟨v, q, rfl, _⟩ := h
    rfl
  · obtain ⟨v, q, rfl, ⟨t, i, b, ty, hi, hb, hib, _⟩, k⟩ := h
    refine ⟨_, (pss_one (ps_ret (pe_and (pe_callB call_isA (by rfl) T.n_isinstance (by decide +kernel) (pa_cons (pv 0) (pa_cons (pe_tyn "int" (by rfl) T.n_int (by decide +kernel)) pa_nil))) (pe_one (pe_not (pe_callB call_isA (by rfl) T.n_isinstance (by decide +kernel) (pa_cons (pv 0) (pa_cons (pe_tyn "bool" (by rfl) T.n_bool (by decide +kernel)) pa_nil)))))))), ?_⟩
    refine ⟨_, rfl, v, .ty "int", t, .type "int", i, rfl, .ty _, ty, hi, i, rfl, ?_⟩
    cases i with
    | false =>
      refine iteF ?_
      have e : isI v = false := hib.symm
      rw [← e]
      exact k H (Same.refl H)
    | true =>
      refine iteT ?_
      refine ⟨_, rfl, v, .ty "bool", t, .type "bool", b, rfl, .ty _, ty, hb, b, rfl, ?_⟩
      have e : isI v = !b := hib.symm
      rw [← e]
      exact k H (Same.refl H)
theorem sc_is_within : FnScope ["value", "least", "most"] ["value", "least", "most"] (defScope st_is_within) := ⟨rfl, rfl, rfl, by decide +kernel, rfl, by decide +kernel, by decide +kernel⟩
theorem ok_is_within (F : Fun K "is_within" "is_within" st_is_within f fd) (T : Nm mg) (D_is_integer : Dn P w K mg base 1 "is_integer" g ["value"] (spIsInt K)) :
    FnOk P w K mg base CX0 2 f fd ["value", "least", "most"] (spWithin K) := by
  refine F.ok sc_is_within (fun vs H Q E h => ?_) (fun cdv A outer s H vs Q E hr h => ?_)
  · obtain ⟨v, l, m, q, rfl, _⟩ := h
    rfl
  · obtain ⟨v, l, m, q, rfl, av, bl, bm, k⟩ := h
    refine ⟨_, (pss_cons (ps_if (pt_not (pt_val (pe_dn D_is_integer (hr.mono (by decide)) rfl (pa_cons (pv 0) pa_nil)))) (pss_one (ps_ret pe_bl)) pss_nil)
    (pss_one (ps_ret (pe_and (pe_or (pe_cmp (pc_isN (pv 1)) rfl) (pe_one (pe_cmpR op_le (pv 1) (pv 0) (nomark _)))) (pe_one (pe_or (pe_cmp (pc_isN (pv 2)) rfl) (pe_one (pe_cmpR op_le (pv 0) (pv 2) (nomark _))))))))), ?_⟩
    refine ⟨_, rfl, v, q, rfl, av, fun H1 s1 => ⟨_, rfl, ?_⟩⟩
    cases v with
    | int n =>
      refine iteF ?_
      have low : ∀ R : VK, R (.bl (leB l n)) H1 → (tOrV (tIsN (tVar 1)) (tOp (rI0 fun i j => .bl (decide (i ≤ j))) (tVar 1) (tVar 0))) [some (.int n), some l, some m] H1 R := by
        intro R hR
        refine ⟨l, rfl, _, rfl, ?_⟩
        rcases bl with rfl | ⟨k1, rfl⟩
        · exact iteT hR
        · exact iteF ⟨_, rfl, _, rfl, _, _, rfl, rfl, hR⟩
      have high : ∀ R : VK, R (.bl (geB m n)) H1 → (tOrV (tIsN (tVar 2)) (tOp (rI0 fun i j => .bl (decide (i ≤ j))) (tVar 0) (tVar 2))) [some (.int n), some l, some m] H1 R := by
        intro R hR
        refine ⟨m, rfl, _, rfl, ?_⟩
        rcases bm with rfl | ⟨k1, rfl⟩
        · exact iteT hR
        · exact iteF ⟨_, rfl, _, rfl, _, _, rfl, rfl, hR⟩
      refine low _ ⟨_, rfl, ?_⟩
      have hk : Q (.bl (leB l n && geB m n)) H1 := k H1 s1
      cases e : leB l n with
      | false =>
        rw [e] at hk
        exact iteF hk
      | true =>
        rw [e] at hk
        exact iteT (high _ hk)
    | non => exact iteT (k H1 s1)
    | bl b => exact iteT (k H1 s1)
    | str x => exact iteT (k H1 s1)
    | byt x => exact iteT (k H1 s1)
    | flt x => exact iteT (k H1 s1)
    | ref x => exact iteT (k H1 s1)
    | ty x => exact iteT (k H1 s1)
end
end K0


set_option Elab.async false
set_option linter.all false
set_option maxRecDepth 100000
set_option maxHeartbeats 4000000
namespace K0
open PySem PySem.Spec PyProof.Rows L2

theorem same_upd {H : Hp} {p : Addr} {o : HO} (h : H p = none) : Same H (upd H p o) := fun b u e => by
  rw [upd_ne (ne_of_none e h)]
  exact e
theorem same_at {H : Hp} {p : Addr} {o o' : HO} (h : H p = some o) {H0 : Hp} (s : Same H0 H) (hn : H0 p = none) : Same H0 (upd H p o') := fun b u e => by
  rw [upd_ne (ne_of_none e hn)]
  exact s b u e
theorem same_sqT {K : PySem.W.Frag} {H H' : Hp} {a : Addr} {xs : List V} (e : Same H H') (h : SqT K H a xs) : SqT K H' a xs := by
  rcases h with (h | ⟨o, h⟩) | h
  · exact .inl (.inl (e _ _ h))
  · exact .inl (.inr ⟨o, e _ _ h⟩)
  · exact .inr h

/-- what a comprehension holds behind i items, all else as it was -/
def LcI (H1 : Hp) (D : Addr) (l : List V) (H : Hp) : Prop := H D = some (.lst l) ∧ Same H1 H
theorem take_get {α : Type} : ∀ {l : List α} {i : Nat} {x : α}, l[i]? = some x → l.take (i + 1) = l.take i ++ [x]
  | [], i, x, h => by simp at h
  | a :: l, 0, x, h => by
    have e : a = x := Option.some.inj h
    subst e
    rfl
  | a :: l, i + 1, x, h => by
    have ih := take_get (l := l) (i := i) (x := x) h
    show a :: l.take (i + 1) = a :: l.take i ++ [x]
    rw [ih]
    rfl
section
variable {K : PySem.W.Frag} {a D : Addr} {xs : List V} {i0 : Nat} {tt : TT} {te : TE} {vs : List Nat} {σ : L2.St} {H1 : Hp} {Qd : Hp → Prop} (sel : V → Option V)
/-- one turn of a comprehension that only looks -/
theorem lc_turn (hD : H1 D = none) (hz : xs.length < sizeLine) (hw : ∀ x, wipe ((wipe σ vs).set i0 (some x)) vs = wipe σ vs)
    (ht : ∀ x ∈ xs, ∀ H, Same H1 H → ∀ R : Bool → Hp → Prop, (∀ H', Same H H' → R (sel x).isSome H') → tt ((wipe σ vs).set i0 (some x)) H R)
    (he : ∀ x ∈ xs, ∀ y, sel x = some y → ∀ H, Same H1 H → ∀ R : VK, (∀ H', Same H H' → R y H') → te ((wipe σ vs).set i0 (some x)) H R)
    {i : Nat} {x : V} {H : Hp} (hx : xs[i]? = some x) (p : LcI H1 D ((xs.take i).filterMap sel) H) :
    gName i0 x (wipe σ vs) H fun σ2 H2 => wipe σ2 vs = wipe σ vs ∧ tt σ2 H2 fun b H3 =>
      if b = true then te σ2 H3 fun y H4 => ∃ acc, H4 D = some (.lst acc) ∧ acc.length < sizeLine ∧ LcI H1 D ((xs.take (i + 1)).filterMap sel) (upd H4 D (.lst (acc ++ [y])))
      else LcI H1 D ((xs.take (i + 1)).filterMap sel) H3 := by
  have hm : x ∈ xs := List.mem_of_getElem? hx
  obtain ⟨pd, ps⟩ := p
  refine ⟨hw x, ht x hm H ps _ fun H3 s3 => ?_⟩
  rw [take_get hx, List.filterMap_append]
  cases e : sel x with
  | none =>
    refine iteF ⟨?_, ps.trans s3⟩
    simp only [List.filterMap_cons, e, List.filterMap_nil, List.append_nil]
    exact s3 _ _ pd
  | some y =>
    refine iteT (he x hm y e H3 (ps.trans s3) _ fun H4 s4 => ⟨_, s4 _ _ (s3 _ _ pd), ?_, ?_, ?_⟩)
    · refine Nat.lt_of_le_of_lt (List.length_filterMap_le ..) (Nat.lt_of_le_of_lt ?_ hz)
      rw [List.length_take]
      exact Nat.min_le_right _ _
    · rw [upd_same]
      simp only [List.filterMap_cons, e, List.filterMap_nil]
    · exact same_at (s4 _ _ (s3 _ _ pd)) ((ps.trans s3).trans s4) hD
theorem lcl (hD : H1 D = none) (hS : SqL K H1 a xs) (hz : xs.length < sizeLine) (hw : ∀ x, wipe ((wipe σ vs).set i0 (some x)) vs = wipe σ vs)
    (ht : ∀ x ∈ xs, ∀ H, Same H1 H → ∀ R : Bool → Hp → Prop, (∀ H', Same H H' → R (sel x).isSome H') → tt ((wipe σ vs).set i0 (some x)) H R)
    (he : ∀ x ∈ xs, ∀ y, sel x = some y → ∀ H, Same H1 H → ∀ R : VK, (∀ H', Same H H' → R y H') → te ((wipe σ vs).set i0 (some x)) H R)
    (hd : ∀ H, LcI H1 D (xs.filterMap sel) H → Qd H) :
    ∃ W : Nat → Nat → Hp → Prop, (∃ m, W 0 m (upd H1 D (.lst []))) ∧ ∀ i m H, W i m H →
      ((Itl K a).stop i H ∧ Qd H) ∨ ((Itl K a).go i H ∧ ∃ Nx : Hp → Prop, (∀ H', Nx H' → ∃ m', m' < m ∧ W (i + 1) m' H') ∧ ∀ x H', (Itl K a).yld i H x H' →
        gName i0 x (wipe σ vs) H' fun σ2 H2 => wipe σ2 vs = wipe σ vs ∧ tt σ2 H2 fun b H3 =>
          if b = true then te σ2 H3 fun y H4 => ∃ acc, H4 D = some (.lst acc) ∧ acc.length < sizeLine ∧ Nx (upd H4 D (.lst (acc ++ [y]))) else Nx H3) := by
  refine lc_list (xs := xs) (fun i H => LcI H1 D ((xs.take i).filterMap sel) H) ⟨upd_same, same_upd hD⟩ (fun i H _ p => p.2.seq hS)
    (fun i x H hx p => lc_turn sel hD hz hw ht he hx p) fun H p => hd H ?_
  rw [List.take_length] at p
  exact p
theorem lct (hD : H1 D = none) (hS : SqT K H1 a xs) (hz : xs.length < sizeLine) (hw : ∀ x, wipe ((wipe σ vs).set i0 (some x)) vs = wipe σ vs)
    (ht : ∀ x ∈ xs, ∀ H, Same H1 H → ∀ R : Bool → Hp → Prop, (∀ H', Same H H' → R (sel x).isSome H') → tt ((wipe σ vs).set i0 (some x)) H R)
    (he : ∀ x ∈ xs, ∀ y, sel x = some y → ∀ H, Same H1 H → ∀ R : VK, (∀ H', Same H H' → R y H') → te ((wipe σ vs).set i0 (some x)) H R)
    (hd : ∀ H, LcI H1 D (xs.filterMap sel) H → Qd H) :
    ∃ W : Nat → Nat → Hp → Prop, (∃ m, W 0 m (upd H1 D (.lst []))) ∧ ∀ i m H, W i m H →
      ((Itt K a).stop i H ∧ Qd H) ∨ ((Itt K a).go i H ∧ ∃ Nx : Hp → Prop, (∀ H', Nx H' → ∃ m', m' < m ∧ W (i + 1) m' H') ∧ ∀ x H', (Itt K a).yld i H x H' →
        gName i0 x (wipe σ vs) H' fun σ2 H2 => wipe σ2 vs = wipe σ vs ∧ tt σ2 H2 fun b H3 =>
          if b = true then te σ2 H3 fun y H4 => ∃ acc, H4 D = some (.lst acc) ∧ acc.length < sizeLine ∧ Nx (upd H4 D (.lst (acc ++ [y]))) else Nx H3) := by
  refine lc_tup (xs := xs) (fun i H => LcI H1 D ((xs.take i).filterMap sel) H) ⟨upd_same, same_upd hD⟩ (fun i H _ p => same_sqT p.2 hS)
    (fun i x H hx p => lc_turn sel hD hz hw ht he hx p) fun H p => hd H ?_
  rw [List.take_length] at p
  exact p
/-- the ints from lo on, n of them -/
def ups (lo : Int) (n : Nat) : List V := (List.range n).map fun i => V.int (lo + (i : Nat))
theorem ups_len (lo : Int) (n : Nat) : (ups lo n).length = n := by simp [ups]
theorem ups_get (lo : Int) (n : Nat) {i : Nat} (h : i < n) : (ups lo n)[i]? = some (.int (lo + (i : Nat))) := by
  simp [ups, h]
theorem lcr {lo : Int} {n : Nat} (hD : H1 D = none) (hz : n < sizeLine) (hw : ∀ x, wipe ((wipe σ vs).set i0 (some x)) vs = wipe σ vs)
    (ht : ∀ x ∈ ups lo n, ∀ H, Same H1 H → ∀ R : Bool → Hp → Prop, (∀ H', Same H H' → R (sel x).isSome H') → tt ((wipe σ vs).set i0 (some x)) H R)
    (he : ∀ x ∈ ups lo n, ∀ y, sel x = some y → ∀ H, Same H1 H → ∀ R : VK, (∀ H', Same H H' → R y H') → te ((wipe σ vs).set i0 (some x)) H R)
    (hd : ∀ H, LcI H1 D ((ups lo n).filterMap sel) H → Qd H) :
    ∃ W : Nat → Nat → Hp → Prop, (∃ m, W 0 m (upd H1 D (.lst []))) ∧ ∀ i m H, W i m H →
      ((Itr lo n).stop i H ∧ Qd H) ∨ ((Itr lo n).go i H ∧ ∃ Nx : Hp → Prop, (∀ H', Nx H' → ∃ m', m' < m ∧ W (i + 1) m' H') ∧ ∀ x H', (Itr lo n).yld i H x H' →
        gName i0 x (wipe σ vs) H' fun σ2 H2 => wipe σ2 vs = wipe σ vs ∧ tt σ2 H2 fun b H3 =>
          if b = true then te σ2 H3 fun y H4 => ∃ acc, H4 D = some (.lst acc) ∧ acc.length < sizeLine ∧ Nx (upd H4 D (.lst (acc ++ [y]))) else Nx H3) := by
  refine lc_range (fun i H => LcI H1 D (((ups lo n).take i).filterMap sel) H) ⟨upd_same, same_upd hD⟩
    (fun i H hi p => lc_turn sel hD (by rw [ups_len]; exact hz) hw ht he (ups_get lo n hi) p) fun H p => hd H ?_
  have e : (ups lo n).take n = ups lo n := List.take_of_length_le (by rw [ups_len]; exact Nat.le_refl _)
  rw [e] at p
  exact p
end
end K0


set_option Elab.async false
set_option linter.all false
set_option maxRecDepth 100000
set_option maxHeartbeats 4000000
namespace K0
open PySem PySem.Spec PyProof.Rows L2

/-- v is no list or tuple, or one of these items -/
def Seqs (K : PySem.W.Frag) (H : Hp) (v : V) : Option (List V) → Prop
  | none => Asks K H v false
  | some xs => Asks K H v true ∧ xs.length < sizeLine ∧ ∃ a, v = .ref a ∧ (SqL K H a xs ∨ SqT K H a xs)
theorem Seqs.asks {K : PySem.W.Frag} {H : Hp} {v : V} {o : Option (List V)} (h : Seqs K H v o) : Asks K H v o.isSome := by
  cases o with
  | none => exact h
  | some xs => exact h.1
theorem Seqs.same {K : PySem.W.Frag} {H H' : Hp} {v : V} {o : Option (List V)} (s : Same H H') (h : Seqs K H v o) : Seqs K H' v o := by
  cases o with
  | none => exact Asks.same s h
  | some xs =>
    obtain ⟨h1, hz, a, e, h2⟩ := h
    refine ⟨h1.same s, hz, a, e, ?_⟩
    rcases h2 with h2 | h2
    · exact .inl (Same.seq s h2)
    · exact .inr (same_sqT s h2)
/-- whether a list of this length is within the bounds -/
def lenB (o : Option (List V)) (l m : V) : Bool := match o with
  | none => false
  | some xs => within (.int xs.length) l m
def spIsList (K : PySem.W.Frag) : Sp := fun vs H Q _ => ∃ (v l m : V) (o : Option (List V)), vs = [v, l, m] ∧ Seqs K H v o ∧ Bd l ∧ Bd m ∧ ∀ H', Same H H' → Q (.bl (lenB o l m)) H'
/-- whether all of a list are integers -/
def intsB (o : Option (List V)) : Bool := match o with
  | none => false
  | some xs => xs.all isI
/-- the items can be asked -/
def Items (K : PySem.W.Frag) (H : Hp) (o : Option (List V)) : Prop := ∀ xs, o = some xs → ∀ x ∈ xs, ∃ q, Asks K H x q
theorem Items.same {K : PySem.W.Frag} {H H' : Hp} {o : Option (List V)} (s : Same H H') (h : Items K H o) : Items K H' o := fun xs e x hx =>
  let ⟨q, z⟩ := h xs e x hx
  ⟨q, z.same s⟩
def spAreInts (K : PySem.W.Frag) : Sp := fun vs H Q _ => ∃ (v : V) (o : Option (List V)), vs = [v] ∧ Seqs K H v o ∧ Items K H o ∧ ∀ H', Same H H' → Q (.bl (intsB o)) H'
def spIsPoint (K : PySem.W.Frag) : Sp := fun vs H Q _ => ∃ (v : V) (k : Int) (o : Option (List V)), vs = [v, .int k] ∧ Seqs K H v o ∧ Items K H o ∧
  ∀ H', Same H H' → Q (.bl (lenB o (.int k) (.int k) && intsB o)) H'
/-- ascending from lo on below many -/
def ascB : Int → Int → List V → Bool
  | _, _, [] => true
  | lo, many, .int n :: r => decide (lo ≤ n) && decide (n < many) && ascB (n + 1) many r
  | _, _, _ :: _ => false
def lotB (o : Option (List V)) (many : Int) : Bool := match o with
  | none => false
  | some xs => xs.all isI && ascB 0 many xs
def spIsLot (K : PySem.W.Frag) : Sp := fun vs H Q _ => ∃ (v : V) (many : Int) (o : Option (List V)), vs = [v, .int many] ∧ Seqs K H v o ∧ Items K H o ∧
  ∀ H', Same H H' → Q (.bl (lotB o many)) H'

section
variable {P : Program} {w : World} {K : PySem.W.Frag} {mg : Str → Option Value} {base : Heap} {f g g2 : Addr} {fd : FuncData}
theorem sc_is_list : FnScope ["value", "least", "most"] ["value", "least", "most"] (defScope st_is_list) := ⟨rfl, rfl, rfl, by decide +kernel, rfl, by decide +kernel, by decide +kernel⟩
theorem ok_is_list (F : Fun K "is_list" "is_list" st_is_list f fd) (T : Nm mg) (D_is_within : Dn P w K mg base 2 "is_within" g ["value", "least", "most"] (spWithin K)) :
    FnOk P w K mg base CX0 3 f fd ["value", "least", "most"] (spIsList K) := by
  refine F.ok sc_is_list (fun vs H Q E h => ?_) (fun cdv A outer s H vs Q E hr h => ?_)
  · obtain ⟨v, l, m, o, rfl, _⟩ := h
    rfl
  · obtain ⟨v, l, m, o, rfl, hv, bl, bm, k⟩ := h
    refine ⟨_, (pss_one (ps_ret (pe_and (pe_callB call_isT (by rfl) T.n_isinstance (by decide +kernel) (pa_cons (pv 0) (pa_cons (pe_tup (pa_cons (pe_tyn "list" (by rfl) T.n_list (by decide +kernel)) (pa_cons (pe_tyn "tuple" (by rfl) T.n_tuple (by decide +kernel)) pa_nil))) pa_nil))) (pe_one (pe_dn D_is_within (hr.mono (by decide)) rfl (pa_cons (pe_callB call_len_seq (by rfl) T.n_len (by decide +kernel) (pa_cons (pv 0) pa_nil)) (pa_cons (pv 1) (pa_cons (pv 2) pa_nil)))))))), ?_⟩
    refine ⟨_, rfl, (by show 2 ≤ sizeLine; decide), fun p hp => ?_⟩
    have s1 : Same H (upd H p (.tup [.ty "list", .ty "tuple"])) := same_upd hp
    obtain ⟨t, i, b, ty, _, _, _, hq⟩ := (hv.asks).same s1
    refine ⟨v, p, [.ty "list", .ty "tuple"], t, [.type "list", .type "tuple"], o.isSome, rfl, upd_same, .cons (.ty _) (.cons (.ty _) .nil), ty, hq, _, rfl, ?_⟩
    cases o with
    | none => exact iteF (k _ s1)
    | some xs =>
      refine iteT ?_
      obtain ⟨_, hz, a, rfl, hS⟩ := Seqs.same s1 hv
      refine ⟨_, rfl, a, xs, rfl, hS, _, rfl, _, rfl, .int xs.length, l, m, false, rfl, .int _, bl, bm, fun H' s2 => ?_⟩
      exact k H' (s1.trans s2)
theorem sc_are_integers : FnScope ["value", "each"] ["value"] (defScope st_are_integers) := ⟨rfl, rfl, rfl, by decide +kernel, rfl, by decide +kernel, by decide +kernel⟩
theorem all_filterMap_isI (xs : List V) : (xs.filterMap fun x => some (V.bl (isI x))) = (xs.map isI).map V.bl := by
  induction xs with
  | nil => rfl
  | cons x xs ih => simp only [List.filterMap_cons, List.map_cons, ih]
theorem all_id_map (xs : List V) : ((xs.map isI).all id) = xs.all isI := by
  induction xs with
  | nil => rfl
  | cons x xs ih => simp only [List.map_cons, List.all_cons, ih, id]
theorem ok_are_integers (F : Fun K "are_integers" "are_integers" st_are_integers f fd) (T : Nm mg) (D_is_integer : Dn P w K mg base 1 "is_integer" g2 ["value"] (spIsInt K))
    (D_is_list : Dn P w K mg base 3 "is_list" g ["value", "least", "most"] (spIsList K)) :
    FnOk P w K mg base CX0 4 f fd ["value"] (spAreInts K) := by
  refine F.ok sc_are_integers (fun vs H Q E h => ?_) (fun cdv A outer s H vs Q E hr h => ?_)
  · obtain ⟨v, o, rfl, _⟩ := h
    rfl
  · obtain ⟨v, o, rfl, hv, hi, k⟩ := h
    have elt : ∀ {xs : List V}, o = some xs → ∀ {H1 : Hp}, Same H H1 → ∀ x ∈ xs, ∀ y, (fun x => some (V.bl (isI x))) x = some y → ∀ H2, Same H1 H2 → ∀ R : VK, (∀ H', Same H2 H' → R y H') →
        tDn (spIsInt K) (tCons (tVar 1) tNil) ((wipe [some v, none] [1]).set 1 (some x)) H2 R := by
      intro xs e H1 s1 x hx y hy H2 s2 R hR
      obtain ⟨q, aq⟩ := hi xs e x hx
      cases hy
      exact ⟨x, rfl, x, q, rfl, (aq.same s1).same s2, hR⟩
    have way : ∀ (t : TE) (ht : ∀ xs, o = some xs → ∀ H1, Same H H1 → ∀ R : VK, (∀ H' D, Same H1 H' → H' D = some (.lst ((xs.map isI).map V.bl)) → R (.ref D) H') → t [some v, none] H1 R),
        tRet (tAndV (tDn (spIsList K) (tCons (tVar 0) (tCons (tC .non) (tCons (tC .non) tNil)))) (tCB (rAll K) (tCons t tNil))) { nx := fun _ H' => Q .non H', rt := Q } [some v, none] H := by
      intro t ht
      refine ⟨v, rfl, v, .non, .non, o, rfl, hv, .inl rfl, .inl rfl, fun H1 s1 => ⟨_, rfl, ?_⟩⟩
      cases o with
      | none => exact iteF (k H1 s1)
      | some xs =>
        refine iteT (ht xs rfl H1 s1 _ fun H' D s2 hD => ⟨D, _, rfl, .of hD, ?_⟩)
        rw [all_id_map]
        exact k H' (s1.trans s2)
    have fin : ∀ {xs : List V} {H1 : Hp} {D : Addr} {R : VK}, (∀ H' D, Same H1 H' → H' D = some (.lst ((xs.map isI).map V.bl)) → R (.ref D) H') → ∀ H', LcI H1 D (xs.filterMap fun x => some (V.bl (isI x))) H' → R (.ref D) H' := by
      intro xs H1 D R hR H' p
      obtain ⟨p1, p2⟩ := p
      rw [all_filterMap_isI] at p1
      exact hR H' D p2 p1
    by_cases ht : ∃ xs a, o = some xs ∧ v = .ref a ∧ SqT K H a xs
    · obtain ⟨xs0, a, e0, rfl, hT⟩ := ht
      refine ⟨_, (pss_one (ps_ret (pe_and (pe_dn D_is_list (hr.mono (by decide)) rfl (pa_cons (pv 0) (pa_cons pe_non (pa_cons pe_non pa_nil)))) (pe_one (pe_callB (cr_all rfl) (by rfl) T.n_all (by decide +kernel) (pa_cons (pe_lc (own := [("each", 1)]) (g := gName 1) (tt := tYes) rfl sc_are_integers.nd (pi_tup (pv 0)) (blkOk_by (N := ["value", "each"]) (sc := defScope st_are_integers) (by decide +kernel)) (fun _ _ _ _ _ => pg_name (i := 1) sc_are_integers.nd rfl (Or.inl rfl)) (fun _ _ _ _ _ => pts_nil) (fun _ _ _ _ _ => (pe_dn D_is_integer (hr.mono (by decide)) rfl (pa_cons (pv 1) pa_nil)))) pa_nil)))))), way _ ?_⟩
      intro xs e H1 s1 R hR
      have ee : xs0 = xs := Option.some.inj (e0.symm.trans e)
      subst ee
      have hz : xs0.length < sizeLine := by
        rw [e0] at hv
        exact hv.2.1
      refine ⟨_, rfl, a, rfl, ⟨_, same_sqT s1 hT⟩, fun D hD => lct (xs := xs0) (fun x => some (V.bl (isI x))) hD (same_sqT s1 hT) hz (fun _ => rfl) (fun x _ H2 _ R h => h H2 (Same.refl H2)) (elt e s1) (fin hR)⟩
    · refine ⟨_, (pss_one (ps_ret (pe_and (pe_dn D_is_list (hr.mono (by decide)) rfl (pa_cons (pv 0) (pa_cons pe_non (pa_cons pe_non pa_nil)))) (pe_one (pe_callB (cr_all rfl) (by rfl) T.n_all (by decide +kernel) (pa_cons (pe_lc (own := [("each", 1)]) (g := gName 1) (tt := tYes) rfl sc_are_integers.nd (pi_list (pv 0)) (blkOk_by (N := ["value", "each"]) (sc := defScope st_are_integers) (by decide +kernel)) (fun _ _ _ _ _ => pg_name (i := 1) sc_are_integers.nd rfl (Or.inl rfl)) (fun _ _ _ _ _ => pts_nil) (fun _ _ _ _ _ => (pe_dn D_is_integer (hr.mono (by decide)) rfl (pa_cons (pv 1) pa_nil)))) pa_nil)))))), way _ ?_⟩
      intro xs e H1 s1 R hR
      have hv' := hv
      rw [e] at hv'
      obtain ⟨_, hz, a, rfl, hS⟩ := hv'
      rcases hS with hS | hS
      · refine ⟨_, rfl, a, rfl, ⟨_, Same.seq s1 hS⟩, fun D hD => lcl (xs := xs) (fun x => some (V.bl (isI x))) hD (Same.seq s1 hS) hz (fun _ => rfl) (fun x _ H2 _ R h => h H2 (Same.refl H2)) (elt e s1) (fin hR)⟩
      · exact absurd ⟨xs, a, e, rfl, hS⟩ ht
theorem sc_is_point : FnScope ["value", "wide"] ["value", "wide"] (defScope st_is_point) := ⟨rfl, rfl, rfl, by decide +kernel, rfl, by decide +kernel, by decide +kernel⟩
theorem ok_is_point (F : Fun K "is_point" "is_point" st_is_point f fd) (D_are_integers : Dn P w K mg base 4 "are_integers" g2 ["value"] (spAreInts K))
    (D_is_list : Dn P w K mg base 3 "is_list" g ["value", "least", "most"] (spIsList K)) :
    FnOk P w K mg base CX0 5 f fd ["value", "wide"] (spIsPoint K) := by
  refine F.ok sc_is_point (fun vs H Q E h => ?_) (fun cdv A outer s H vs Q E hr h => ?_)
  · obtain ⟨v, n, o, rfl, _⟩ := h
    rfl
  · obtain ⟨v, n, o, rfl, hv, hi, k⟩ := h
    refine ⟨_, (pss_one (ps_ret (pe_and (pe_dn D_is_list (hr.mono (by decide)) rfl (pa_cons (pv 0) (pa_cons (pv 1) (pa_cons (pv 1) pa_nil)))) (pe_one (pe_dn D_are_integers (hr.mono (by decide)) rfl (pa_cons (pv 0) pa_nil)))))), ?_⟩
    refine ⟨v, rfl, _, rfl, _, rfl, v, .int n, .int n, o, rfl, hv, .inr ⟨n, rfl⟩, .inr ⟨n, rfl⟩, fun H1 s1 => ⟨_, rfl, ?_⟩⟩
    cases e : lenB o (.int n) (.int n) with
    | false =>
      refine iteF ?_
      have k1 := k H1 s1
      rw [e] at k1
      exact k1
    | true =>
      refine iteT ⟨v, rfl, v, o, rfl, hv.same s1, hi.same s1, fun H2 s2 => ?_⟩
      have k1 := k H2 (s1.trans s2)
      rw [e] at k1
      exact k1
end
end K0


set_option Elab.async false
set_option linter.all false
set_option maxRecDepth 100000
set_option maxHeartbeats 2000000
/-! zip of two, each a list or a tuple -/
namespace K0z
open PySem RZ
open PySem.Sem (wp)
/-- at l: a tuple (b) or a list of these items -/
def IsSq (b : Bool) (h : Heap) (l : Addr) (xs : Array Value) : Prop := match b with | true => h.IsTuple l xs | false => h.IsList l xs
def IsIt (b : Bool) (h : Heap) (it l : Addr) (i : Nat) : Prop := match b with | true => h.IsTupleIter it l i | false => h.IsListIter it l i
def itName (b : Bool) : String := match b with | true => "tuple_iterator" | false => "list_iterator"
theorem IsSq.extBut {b : Bool} {h h' : Heap} {a c items} (x : IsSq b h a items) (hs : Heap.ExtBut c h h') (hab : a ≠ c) : IsSq b h' a items := by
  cases b
  · exact Heap.IsList.extBut x hs hab
  · exact Heap.IsTuple.extBut x hs hab
theorem IsSq.push {b : Bool} {h : Heap} {a items} (x : IsSq b h a items) (o : Obj) : IsSq b (h.push o) a items := by
  cases b
  · exact Heap.IsList.push x o
  · exact Heap.IsTuple.push x o
theorem IsIt.extBut {b : Bool} {h h' : Heap} {a c l i} (x : IsIt b h a l i) (hs : Heap.ExtBut c h h') (hab : a ≠ c) : IsIt b h' a l i := by
  cases b
  · exact Heap.IsListIter.extBut x hs hab
  · exact Heap.IsTupleIter.extBut x hs hab
theorem IsIt.at {b : Bool} {h h' : Heap} {a l i} (x : IsIt b h a l i) (e : ∀ o, h.get? a = some o → h'.get? a = some o) : IsIt b h' a l i := by
  cases b
  · exact Heap.IsListIter.at x e
  · exact Heap.IsTupleIter.at x e
theorem IsIt.obj {b : Bool} {h : Heap} {a l i} (x : IsIt b h a l i) : ∃ o : Obj, h.get? a = some o ∧ o.data = .fields #[.ref l, .int i 0] := by
  cases b
  · obtain ⟨o, e, _, d⟩ := x
    exact ⟨o, e, d⟩
  · obtain ⟨o, e, _, d⟩ := x
    exact ⟨o, e, d⟩
theorem IsIt.lt {b : Bool} {h : Heap} {a l i} (x : IsIt b h a l i) : a < h.objs.size := by
  obtain ⟨o, e, _⟩ := x.obj
  exact Heap.lt_size e
theorem IsIt.mk {b : Bool} {h : Heap} {a l : Addr} (e : h.get? a = some { cls := .type (itName b), data := .fields #[.ref l, .int 0 0] }) : IsIt b h a l 0 := by
  cases b
  · exact ⟨_, e, rfl, rfl⟩
  · exact ⟨_, e, rfl, rfl⟩
section
variable {prog : Program} {w : World} {A : Around} {E : Value → Shared → Prop} {s : Shared}
theorem nextOf_item {b : Bool} {it l : Addr} {i : Nat} {items} {x : Value} {Q : Value → Shared → Prop} (hit : IsIt b s.heap it l i)
    (hl : IsSq b s.heap l items) (hx : items[i]? = some x)
    (hQ : ∀ h', IsIt b h' it l (i + 1) → Heap.SameBut it s.heap h' → Q x { s with heap := h' }) :
    wpAny (model prog w) A (Builtin.SmallTypes.nextOf (.ref it)) Q E s := by
  cases b
  · exact wpAny_nextOf_list_item hit hl hx hQ
  · exact nextOf_tuple_item hit hl hx hQ
theorem nextOf_end {b : Bool} {it l : Addr} {i : Nat} {items} {Q : Value → Shared → Prop} (hh : A.handled = none)
    (hit : IsIt b s.heap it l i) (hl : IsSq b s.heap l items) (hx : items[i]? = none)
    (hE : ∀ h' e, Heap.ExtBut it s.heap h' → (∃ o, h'.get? e = some o ∧ o.cls = .type "StopIteration") → E (.ref e) { s with heap := h' }) :
    wpAny (model prog w) A (Builtin.SmallTypes.nextOf (.ref it)) Q E s := by
  cases b
  · exact wpAny_nextOf_list_end hh hit hl hx hE
  · exact nextOf_tuple_end hh hit hl hx hE
theorem pyIter_sq {b : Bool} {l : Addr} {xs : Array Value} {Q : Value → Shared → Prop} (hl : IsSq b s.heap l xs)
    (h : Q (.ref s.heap.objs.size) { s with heap := s.heap.push { cls := .type (itName b), data := .fields #[.ref l, .int 0 0] } }) :
    wpAny (model prog w) A (pyIter (.ref l)) Q E s := by
  cases b
  · exact wpAny_pyIter_list hl h
  · exact wpAny_pyIter_tuple hl h
theorem zipM_next_item {z TI TO i1 i2 l1 l2 : Addr} {b1 b2 : Bool} {k1 k2 : Nat} {xs ys : Array Value} {x y a b : Value} {Q : Value → Shared → Prop} (D : ZipApart z TI TO i1 i2 l1 l2)
    (hz : IsZip s.heap z TI TO .none) (hTI : IsPair s.heap TI (.ref i1) (.ref i2)) (hTO : IsPair s.heap TO a b)
    (h1 : IsIt b1 s.heap i1 l1 k1) (h2 : IsIt b2 s.heap i2 l2 k2) (hl1 : IsSq b1 s.heap l1 xs) (hl2 : IsSq b2 s.heap l2 ys) (hx : xs[k1]? = some x) (hy : ys[k2]? = some y)
    (hQ : ∀ h', IsZip h' z TI TO (rawInt s.heap.objs.size) → IsPair h' TO x y → IsIt b1 h' i1 l1 (k1 + 1) → IsIt b2 h' i2 l2 (k2 + 1) → IsPair h' s.heap.objs.size x y → h'.objs.size = s.heap.objs.size + 1 →
      (∀ c o, c ≠ z → c ≠ TO → c ≠ i1 → c ≠ i2 → s.heap.get? c = some o → h'.get? c = some o) → Q (.ref s.heap.objs.size) { s with heap := h' }) :
    wpAny (model prog w) A (Builtin.«zip.__next__» ⟨[.ref z], []⟩) (fun fin s' => ∃ v, fin = .done (.ret v) ∧ Q v s') E s := by
  show wpAny _ _ (field (.ref z) 2 >>= _) _ _ _
  refine wpAny_bind (wpAny_field hz rfl (x := .bool false) rfl ?_)
  show wpAny _ _ (field (.ref z) 3 >>= _) _ _ _
  refine wpAny_bind (wpAny_field hz rfl (x := .ref TI) rfl ?_)
  refine wpAny_bind (wpAny_seqItems hTI rfl ?_)
  show wpAny _ _ (Builtin.SmallTypes.ownedTupleIsFree (.ref z) >>= _) _ _ _
  refine wpAny_bind ?_
  unfold Builtin.SmallTypes.ownedTupleIsFree
  refine wpAny_bind (wpAny_field hz rfl (x := .none) rfl (wpAny_pure ?_))
  simp only [if_true]
  refine wpAny_bind (wpAny_rule ?_)
  refine wpAny_bind (wpAny_field hz rfl (x := .ref TO) rfl ?_)
  refine wpAny_bind (wpAny_setField_rec hz (by simp) fun h₁ hz₁ hs₁ => ?_)
  replace hz₁ : IsZip h₁ z TI TO .ellipsis := hz₁
  refine wpAny_bind ?_
  simp only [List.zipIdx_cons, List.zipIdx_nil, List.forIn_cons, List.forIn_nil]

  refine wpAny_bind (wpAny_bind (wpAny_onRaise ?_))
  show wpAny _ _ (Builtin.SmallTypes.nextOf (.ref i1) >>= _) _ _ _
  refine wpAny_bind (nextOf_item (h1.extBut hs₁.extBut D.i1z) (hl1.extBut hs₁.extBut D.l1z) hx fun h₂ h1₂ hs₂ => wpAny_pure ?_)
  have hTO₂ : IsPair h₂ TO a b := hs₂.extBut _ _ D.TOi1 (hs₁.extBut _ _ D.TOz hTO)
  refine wpAny_bind (wpAny_seqItems hTO₂ rfl ?_)
  refine wpAny_bind (wpAny_updateSeq_pair hTO₂ fun h₃ hTO₃ hs₃ => ?_)
  replace hTO₃ : IsPair h₃ TO x b := hTO₃
  refine wpAny_bind (wpAny_letGo (wpAny_pure ?_))

  refine wpAny_bind (wpAny_bind (wpAny_onRaise ?_))
  show wpAny _ _ (Builtin.SmallTypes.nextOf (.ref i2) >>= _) _ _ _
  refine wpAny_bind (nextOf_item (((h2.extBut hs₁.extBut D.i2z).extBut hs₂.extBut D.i12.symm).extBut hs₃.extBut D.TOi2.symm)
    (((hl2.extBut hs₁.extBut D.l2z).extBut hs₂.extBut D.l2i1).extBut hs₃.extBut D.l2TO) hy fun h₄ h2₄ hs₄ => wpAny_pure ?_)
  have hTO₄ : IsPair h₄ TO x b := hs₄.extBut _ _ D.TOi2 hTO₃
  refine wpAny_bind (wpAny_seqItems hTO₄ rfl ?_)
  refine wpAny_bind (wpAny_updateSeq_pair hTO₄ fun h₅ hTO₅ hs₅ => ?_)
  replace hTO₅ : IsPair h₅ TO x y := hTO₅
  refine wpAny_bind (wpAny_letGo (wpAny_pure (wpAny_pure ?_)))

  refine wpAny_bind (wpAny_seqItems hTO₅ rfl ?_)
  refine wpAny_bind (wpAny_newTuple ?_)
  have hsz : h₅.objs.size = s.heap.objs.size := by rw [hs₅.1, hs₄.1, hs₃.1, hs₂.1, hs₁.1]
  have hz₅ : IsZip h₅ z TI TO .ellipsis := hs₅.extBut _ _ D.TOz.symm (hs₄.extBut _ _ D.i2z.symm (hs₃.extBut _ _ D.TOz.symm (hs₂.extBut _ _ D.i1z.symm hz₁)))
  have hk₅ : ∀ c o, c ≠ z → c ≠ TO → c ≠ i1 → c ≠ i2 → s.heap.get? c = some o → h₅.get? c = some o := fun c o c1 c2 c3 c4 e =>
    hs₅.extBut _ _ c2 (hs₄.extBut _ _ c4 (hs₃.extBut _ _ c2 (hs₂.extBut _ _ c3 (hs₁.extBut _ _ c1 e))))
  have h1₅ : IsIt b1 h₅ i1 l1 (k1 + 1) := ((h1₂.extBut hs₃.extBut D.TOi1.symm).extBut hs₄.extBut D.i12).extBut hs₅.extBut D.TOi1.symm
  have h2₅ : IsIt b2 h₅ i2 l2 (k2 + 1) := h2₄.extBut hs₅.extBut D.TOi2.symm
  have hzlt : z < h₅.objs.size := Heap.lt_size hz₅
  have hTOlt : TO < h₅.objs.size := Heap.lt_size hTO₅
  have hi1lt : i1 < h₅.objs.size := h1₅.lt
  have hi2lt : i2 < h₅.objs.size := h2₅.lt
  show wpAny _ _ (Builtin.SmallTypes.ownedTupleHandOut (.ref z) (.ref h₅.objs.size) >>= _) _ _ _
  refine wpAny_bind ?_
  unfold Builtin.SmallTypes.ownedTupleHandOut
  have hz₆ : IsZip (h₅.push { cls := .type "tuple", data := .seq #[x, y] }) z TI TO .ellipsis := Heap.get?_push_of_some _ hz₅
  refine wpAny_bind (wpAny_setField_rec hz₆ (by simp) fun h₇ hz₇ hs₇ => ?_)
  replace hz₇ : IsZip h₇ z TI TO (rawInt h₅.objs.size) := hz₇
  refine wpAny_setField_rec hz₇ (by simp) fun h₈ hz₈ hs₈ => ?_
  replace hz₈ : IsZip h₈ z TI TO (rawInt h₅.objs.size) := hz₈
  have up : ∀ c o, c ≠ z → h₅.get? c = some o → h₈.get? c = some o := fun c o c1 e => hs₈.extBut _ _ c1 (hs₇.extBut _ _ c1 (Heap.get?_push_of_some _ e))
  have hT₈ : IsPair h₈ h₅.objs.size x y := hs₈.extBut _ _ (Nat.ne_of_gt hzlt) (hs₇.extBut _ _ (Nat.ne_of_gt hzlt) (Heap.get?_push_size _ rfl))
  have hz8 : h₈.objs.size = h₅.objs.size + 1 := by rw [hs₈.1, hs₇.1, Heap.size_push]
  rw [hsz] at hz₈ hT₈ hz8
  refine wpAny_pure ⟨_, rfl, ?_⟩
  show Q (.ref h₅.objs.size) _
  rw [hsz]
  exact hQ h₈ hz₈ (up _ _ D.TOz hTO₅) (h1₅.at fun o e => up _ o D.i1z e) (h2₅.at fun o e => up _ o D.i2z e) hT₈ hz8 fun c o c1 c2 c3 c4 e => up c o c1 (hk₅ c o c1 c2 c3 c4 e)

theorem zipM_next_end {z TI TO i1 i2 l1 l2 : Addr} {b1 b2 : Bool} {k1 k2 : Nat} {xs ys : Array Value} {a b : Value} {Q : Fin → Shared → Prop} (hh : A.handled = none) (D : ZipApart z TI TO i1 i2 l1 l2)
    (hz : IsZip s.heap z TI TO .none) (hTI : IsPair s.heap TI (.ref i1) (.ref i2)) (hTO : IsPair s.heap TO a b)
    (h1 : IsIt b1 s.heap i1 l1 k1) (h2 : IsIt b2 s.heap i2 l2 k2) (hl1 : IsSq b1 s.heap l1 xs) (hl2 : IsSq b2 s.heap l2 ys) (hend : xs[k1]? = none ∨ ys[k2]? = none)
    (hE : ∀ h' e, (∀ c o, c ≠ z → c ≠ TO → c ≠ i1 → c ≠ i2 → s.heap.get? c = some o → h'.get? c = some o) → (∃ o, h'.get? e = some o ∧ o.cls = .type "StopIteration") → E (.ref e) { s with heap := h' }) :
    wpAny (model prog w) A (Builtin.«zip.__next__» ⟨[.ref z], []⟩) Q E s := by
  show wpAny _ _ (field (.ref z) 2 >>= _) _ _ _
  refine wpAny_bind (wpAny_field hz rfl (x := .bool false) rfl ?_)
  show wpAny _ _ (field (.ref z) 3 >>= _) _ _ _
  refine wpAny_bind (wpAny_field hz rfl (x := .ref TI) rfl ?_)
  refine wpAny_bind (wpAny_seqItems hTI rfl ?_)
  show wpAny _ _ (Builtin.SmallTypes.ownedTupleIsFree (.ref z) >>= _) _ _ _
  refine wpAny_bind ?_
  unfold Builtin.SmallTypes.ownedTupleIsFree
  refine wpAny_bind (wpAny_field hz rfl (x := .none) rfl (wpAny_pure ?_))
  simp only [if_true]
  refine wpAny_bind (wpAny_rule ?_)
  refine wpAny_bind (wpAny_field hz rfl (x := .ref TO) rfl ?_)
  refine wpAny_bind (wpAny_setField_rec hz (by simp) fun h₁ hz₁ hs₁ => ?_)
  replace hz₁ : IsZip h₁ z TI TO .ellipsis := hz₁
  refine wpAny_bind ?_
  simp only [List.zipIdx_cons, List.zipIdx_nil, List.forIn_cons, List.forIn_nil]
  refine wpAny_bind (wpAny_bind (wpAny_onRaise ?_))
  show wpAny _ _ (Builtin.SmallTypes.nextOf (.ref i1) >>= _) _ _ _
  cases hx : xs[k1]? with
  | none =>
    refine wpAny_bind (nextOf_end hh (h1.extBut hs₁.extBut D.i1z) (hl1.extBut hs₁.extBut D.l1z) hx fun h₂ e hs₂ he => ?_)
    obtain ⟨oe, hoe, hce⟩ := he
    have hz₂ : IsZip h₂ z TI TO .ellipsis := hs₂ _ _ D.i1z.symm hz₁
    have hez : e ≠ z := fun x => by subst x; rw [hz₂] at hoe; cases hoe; simp at hce
    refine wpAny_setField_rec hz₂ (by simp) fun h₃ _ hs₃ => hE h₃ e (fun c o c1 _ c3 _ x => hs₃.extBut _ _ c1 (hs₂ _ _ c3 (hs₁.extBut _ _ c1 x))) ⟨oe, hs₃.extBut _ _ hez hoe, hce⟩
  | some x =>
    have hy : ys[k2]? = none := by rcases hend with h | h; rw [hx] at h; cases h; exact h
    refine wpAny_bind (nextOf_item (h1.extBut hs₁.extBut D.i1z) (hl1.extBut hs₁.extBut D.l1z) hx fun h₂ h1₂ hs₂ => wpAny_pure ?_)
    have hTO₂ : IsPair h₂ TO a b := hs₂.extBut _ _ D.TOi1 (hs₁.extBut _ _ D.TOz hTO)
    refine wpAny_bind (wpAny_seqItems hTO₂ rfl ?_)
    refine wpAny_bind (wpAny_updateSeq_pair hTO₂ fun h₃ hTO₃ hs₃ => ?_)
    refine wpAny_bind (wpAny_letGo (wpAny_pure ?_))
    refine wpAny_bind (wpAny_bind (wpAny_onRaise ?_))
    show wpAny _ _ (Builtin.SmallTypes.nextOf (.ref i2) >>= _) _ _ _
    refine wpAny_bind (nextOf_end hh (((h2.extBut hs₁.extBut D.i2z).extBut hs₂.extBut D.i12.symm).extBut hs₃.extBut D.TOi2.symm)
      (((hl2.extBut hs₁.extBut D.l2z).extBut hs₂.extBut D.l2i1).extBut hs₃.extBut D.l2TO) hy fun h₄ e hs₄ he => ?_)
    obtain ⟨oe, hoe, hce⟩ := he
    have hz₄ : IsZip h₄ z TI TO .ellipsis := hs₄ _ _ D.i2z.symm (hs₃.extBut _ _ D.TOz.symm (hs₂.extBut _ _ D.i1z.symm hz₁))
    have hez : e ≠ z := fun x => by subst x; rw [hz₄] at hoe; cases hoe; simp at hce
    refine wpAny_setField_rec hz₄ (by simp) fun h₅ _ hs₅ => hE h₅ e (fun c o c1 c2 c3 c4 x => hs₅.extBut _ _ c1 (hs₄ _ _ c4 (hs₃.extBut _ _ c2 (hs₂.extBut _ _ c3 (hs₁.extBut _ _ c1 x))))) ⟨oe, hs₅.extBut _ _ hez hoe, hce⟩

theorem pyNext_zipM_item {z TI TO i1 i2 l1 l2 : Addr} {b1 b2 : Bool} {k1 k2 : Nat} {xs ys : Array Value} {x y a b : Value} {Q : Option Value → Shared → Prop} (D : ZipApart z TI TO i1 i2 l1 l2)
    (hz : IsZip s.heap z TI TO .none) (hTI : IsPair s.heap TI (.ref i1) (.ref i2)) (hTO : IsPair s.heap TO a b)
    (h1 : IsIt b1 s.heap i1 l1 k1) (h2 : IsIt b2 s.heap i2 l2 k2) (hl1 : IsSq b1 s.heap l1 xs) (hl2 : IsSq b2 s.heap l2 ys) (hx : xs[k1]? = some x) (hy : ys[k2]? = some y)
    (hQ : ∀ h', IsZip h' z TI TO (rawInt s.heap.objs.size) → IsPair h' TO x y → IsIt b1 h' i1 l1 (k1 + 1) → IsIt b2 h' i2 l2 (k2 + 1) → IsPair h' s.heap.objs.size x y → h'.objs.size = s.heap.objs.size + 1 →
      (∀ c o, c ≠ z → c ≠ TO → c ≠ i1 → c ≠ i2 → s.heap.get? c = some o → h'.get? c = some o) → Q (some (.ref s.heap.objs.size)) { s with heap := h' }) :
    wpAny (model prog w) A (pyNext (.ref z)) Q E s := by
  have hT : s.TypeIs (.ref z) "zip" := ⟨_, hz, rfl⟩
  unfold pyNext
  exact wpAny_bind (wpAny_attempt (wpAny_callSpecial?_slot (name := Str.ofString "__next__") hT F.slot_zip_next
    (wpAny_call_entry F.slot_zip_next hT F.entry_zip_next
      (zipM_next_item D hz hTI hTO h1 h2 hl1 hl2 hx hy fun h' a1 a2 a3 a4 a5 a6 a7 => wpAny_pure (hQ h' a1 a2 a3 a4 a5 a6 a7)) (F.args_zip_next_1 _))))

theorem pyNext_zipM_end {z TI TO i1 i2 l1 l2 : Addr} {b1 b2 : Bool} {k1 k2 : Nat} {xs ys : Array Value} {a b : Value} {Q : Option Value → Shared → Prop} (hh : A.handled = none) (D : ZipApart z TI TO i1 i2 l1 l2)
    (hz : IsZip s.heap z TI TO .none) (hTI : IsPair s.heap TI (.ref i1) (.ref i2)) (hTO : IsPair s.heap TO a b)
    (h1 : IsIt b1 s.heap i1 l1 k1) (h2 : IsIt b2 s.heap i2 l2 k2) (hl1 : IsSq b1 s.heap l1 xs) (hl2 : IsSq b2 s.heap l2 ys) (hend : xs[k1]? = none ∨ ys[k2]? = none)
    (hQ : ∀ h', (∀ c o, c ≠ z → c ≠ TO → c ≠ i1 → c ≠ i2 → s.heap.get? c = some o → h'.get? c = some o) → Q none { s with heap := h' }) : wpAny (model prog w) A (pyNext (.ref z)) Q E s := by
  have hT : s.TypeIs (.ref z) "zip" := ⟨_, hz, rfl⟩
  unfold pyNext
  refine wpAny_bind (wpAny_attempt (wpAny_callSpecial?_slot (name := Str.ofString "__next__") hT F.slot_zip_next
    (wpAny_call_entry F.slot_zip_next hT F.entry_zip_next (zipM_next_end hh D hz hTI hTO h1 h2 hl1 hl2 hend fun h' e hk he => ?_) (F.args_zip_next_1 _))))
  obtain ⟨o, ho, hc⟩ := he
  refine wpAny_bind (wpAny_isInstance (T := "StopIteration") (b := true) ⟨o, ho, hc⟩ isSubtype_stop ?_)
  exact wpAny_pure (hQ _ hk)
end

abbrev zipMH1 (b1 : Bool) (h : Heap) (l1 : Addr) : Heap := h.push { cls := .type (itName b1), data := .fields #[.ref l1, .int 0 0] }
abbrev zipMH2 (b1 b2 : Bool) (h : Heap) (l1 l2 : Addr) : Heap := (zipMH1 b1 h l1).push { cls := .type (itName b2), data := .fields #[.ref l2, .int 0 0] }
abbrev zipMH3 (b1 b2 : Bool) (h : Heap) (l1 l2 : Addr) : Heap := (zipMH2 b1 b2 h l1 l2).push { cls := .type "tuple", data := .seq #[.ref h.objs.size, .ref (zipMH1 b1 h l1).objs.size] }
abbrev zipMH4 (b1 b2 : Bool) (h : Heap) (l1 l2 : Addr) : Heap := (zipMH3 b1 b2 h l1 l2).push { cls := .type "tuple", data := .seq #[.none, .none] }
abbrev zipMH5 (b1 b2 : Bool) (h : Heap) (l1 l2 : Addr) : Heap := (zipMH4 b1 b2 h l1 l2).push { cls := .type "zip", data := .fields #[.none, .bool false, .bool false, .ref (zipMH2 b1 b2 h l1 l2).objs.size, .ref (zipMH3 b1 b2 h l1 l2).objs.size] }

theorem meets_zipM_new (b1 b2 : Bool) (l1 l2 : Addr) (xs ys : Array Value) :
    Meets (Builtin.«zip.__new__» ⟨[.type "zip", .ref l1, .ref l2], []⟩) (fun _ R s => IsSq b1 s.heap l1 xs ∧ IsSq b2 s.heap l2 ys ∧
      R (.ok (.ret (.ref (zipMH4 b1 b2 s.heap l1 l2).objs.size))) { s with heap := zipMH5 b1 b2 s.heap l1 l2 }) :=
  .of_wp fun prog w A R s h => by
    obtain ⟨hp, g, d, tk, os⟩ := s; obtain ⟨hl1, hl2, h⟩ := h
    have hsub := sub_zip
    have hL1 : IsSq b1 (Shared.heap ⟨hp, g, d, tk, os⟩) l1 xs := hl1
    have hL2 : IsSq b2 (Shared.heap ⟨hp.push { cls := .type (itName b1), data := .fields #[.ref l1, .int 0 0] }, g, d, tk, os⟩) l2 ys := IsSq.push hl2 _
    wp_walk using pyIter_sq hL1, pyIter_sq hL2
    exact ⟨_, rfl, h⟩

section
variable {prog : Program} {w : World} {A : Around} {E : Value → Shared → Prop} {s : Shared}

theorem call_zipM {b1 b2 : Bool} {l1 l2 : Addr} {xs ys : Array Value} {Q : Value → Shared → Prop} (hl1 : IsSq b1 s.heap l1 xs) (hl2 : IsSq b2 s.heap l2 ys)
    (h : ∀ h', IsZip h' (s.heap.objs.size + 4) (s.heap.objs.size + 2) (s.heap.objs.size + 3) .none → IsPair h' (s.heap.objs.size + 2) (.ref s.heap.objs.size) (.ref (s.heap.objs.size + 1)) →
      IsPair h' (s.heap.objs.size + 3) .none .none → IsIt b1 h' s.heap.objs.size l1 0 → IsIt b2 h' (s.heap.objs.size + 1) l2 0 → h'.objs.size = s.heap.objs.size + 5 →
      (∀ c o, s.heap.get? c = some o → h'.get? c = some o) → Q (.ref (s.heap.objs.size + 4)) { s with heap := h' }) :
    wpAny (model prog w) A (call (.type "zip") [.ref l1, .ref l2]) Q E s := by
  refine callType_new F.called_zip (by decide) (F.typeCall_zip_2 _ _) (F.newCall_zip_2 _ _) (fun obj => F.args_object_init_3 obj _ _) F.entry_zip_new
    (meets_zipM_new b1 b2 l1 l2 xs ys) ⟨hl1, hl2, ?_⟩
  have z1 : (zipMH1 b1 s.heap l1).objs.size = s.heap.objs.size + 1 := Heap.size_push ..
  have z2 : (zipMH2 b1 b2 s.heap l1 l2).objs.size = s.heap.objs.size + 2 := by rw [Heap.size_push, z1]
  have z3 : (zipMH3 b1 b2 s.heap l1 l2).objs.size = s.heap.objs.size + 3 := by rw [Heap.size_push, z2]
  have z4 : (zipMH4 b1 b2 s.heap l1 l2).objs.size = s.heap.objs.size + 4 := by rw [Heap.size_push, z3]
  have z5 : (zipMH5 b1 b2 s.heap l1 l2).objs.size = s.heap.objs.size + 5 := by rw [Heap.size_push, z4]
  have g5 : (zipMH5 b1 b2 s.heap l1 l2).get? (zipMH4 b1 b2 s.heap l1 l2).objs.size = some _ := Heap.get?_push_size _ rfl
  have g4 : (zipMH5 b1 b2 s.heap l1 l2).get? (zipMH3 b1 b2 s.heap l1 l2).objs.size = some _ := Heap.get?_push_of_some _ (Heap.get?_push_size _ rfl)
  have g3 : (zipMH5 b1 b2 s.heap l1 l2).get? (zipMH2 b1 b2 s.heap l1 l2).objs.size = some _ := Heap.get?_push_of_some _ (Heap.get?_push_of_some _ (Heap.get?_push_size _ rfl))
  have g2 : (zipMH5 b1 b2 s.heap l1 l2).get? (zipMH1 b1 s.heap l1).objs.size = some _ := Heap.get?_push_of_some _ (Heap.get?_push_of_some _ (Heap.get?_push_of_some _ (Heap.get?_push_size _ rfl)))
  have g1 : (zipMH5 b1 b2 s.heap l1 l2).get? s.heap.objs.size = some _ := Heap.get?_push_of_some _ (Heap.get?_push_of_some _ (Heap.get?_push_of_some _ (Heap.get?_push_of_some _ (Heap.get?_push_size _ rfl))))
  show _ ∧ _
  rw [z2, z3, z4] at g5
  rw [z1, z2] at g3
  rw [z3] at g4
  rw [z1] at g2
  rw [z4]
  exact ⟨⟨_, g5, rfl⟩, h _ g5 g3 g4 (IsIt.mk g1) (IsIt.mk g2) z5 fun c o x =>
    Heap.get?_push_of_some _ (Heap.get?_push_of_some _ (Heap.get?_push_of_some _ (Heap.get?_push_of_some _ (Heap.get?_push_of_some _ x))))⟩
end
end K0z


set_option Elab.async false
set_option linter.all false
set_option maxRecDepth 100000
set_option maxHeartbeats 4000000
namespace K0
open PySem PySem.Spec PyProof.Rows L2 RZ K0z

/-! ### a list or a tuple -/
def SqB (K : PySem.W.Frag) (b : Bool) (H : Hp) (a : Addr) (xs : List V) : Prop := match b with | true => SqT K H a xs | false => SqL K H a xs
theorem SqB.same {K : PySem.W.Frag} {b : Bool} {H H' : Hp} {a : Addr} {xs : List V} (s : Same H H') (h : SqB K b H a xs) : SqB K b H' a xs := by
  cases b
  · exact Same.seq s h
  · exact same_sqT s h
theorem SqB.or {K : PySem.W.Frag} {H : Hp} {a : Addr} {xs : List V} (h : SqL K H a xs ∨ SqT K H a xs) : ∃ b, SqB K b H a xs := by
  rcases h with h | h
  · exact ⟨false, h⟩
  · exact ⟨true, h⟩
theorem SqB.to {K : PySem.W.Frag} {b : Bool} {H : Hp} {a : Addr} {xs : List V} (h : SqB K b H a xs) : SqL K H a xs ∨ SqT K H a xs := by
  cases b
  · exact .inl h
  · exact .inr h
section
variable {X : Cx} {pins : List (Addr × Obj)} {σ : L2.St} {H : Hp} {s : Shared}
theorem SqB.got {b : Bool} {a : Addr} {xs : List V} (I : Inv X pins σ H s) (h : SqB X.K b H a xs) : ∃ its : List Value, Vals xs its ∧ IsSq b s.heap a its.toArray ∧ a < s.heap.objs.size := by
  cases b
  · obtain ⟨its, rv, p, _⟩ := I.list h
    exact ⟨its, rv, p.isList, p.lt⟩
  · obtain ⟨its, rv, p, _⟩ := I.tuple h
    obtain ⟨o1, ho1, _⟩ := id p
    exact ⟨its, rv, p, Heap.lt_size ho1⟩
theorem SqB.inj {b : Bool} {a : Addr} {xs ys : List V} (I : Inv X pins σ H s) (h : SqB X.K b H a xs) (h' : SqB X.K b H a ys) : xs = ys := by
  cases b
  · exact I.list_inj h h'
  · exact I.tuple_inj h h'
end
def Itb (K : PySem.W.Frag) (b : Bool) (a : Addr) : L2.It := match b with | true => Itt K a | false => Itl K a
def iSeq (K : PySem.W.Frag) (tl : TE) : TI := fun σ H R => tl σ H fun x H1 => ∃ b a, x = .ref a ∧ (∃ xs, SqB K b H1 a xs) ∧ R (Itb K b a) H1
theorem pi_seq {X : Cx} {tg l : Expr} {tl : TE} (hl : PE X l tl) : PI X tg l (iSeq X.K tl) := by
  refine ⟨fun pins s σ H R I h => ?_⟩
  refine thn (hl.run pins s σ H _ I h) fun v s1 ⟨x, H1, I1, r1, q1⟩ => ?_
  obtain ⟨b, a, e, ⟨xs, hq⟩, q⟩ := q1
  subst e
  cases r1
  cases b with
  | false =>
    obtain ⟨its, rv, p, hz⟩ := I1.list hq
    refine wpAny_pyIter_list p.isList ?_
    refine ⟨s1.heap.objs.size, [s1.heap.objs.size], _, _, H1, rfl, I1.kept (t' := s1.toks) fun b o e => Heap.get?_push_of_some _ e, turn_list a _, ⟨_, Heap.get?_push_size _ rfl, rfl, rfl⟩, fun b hb => ?_, q⟩
    have e : b = s1.heap.objs.size := by simpa using hb
    subst e
    exact I1.fpOk (Nat.le_refl _) (I1.hok.fresh (Nat.le_refl _))
  | true =>
    obtain ⟨its, rv, p, hz⟩ := I1.tuple hq
    refine wpAny_pyIter_tuple (show s1.heap.IsTuple a its.toArray from p) ?_
    refine ⟨s1.heap.objs.size, [s1.heap.objs.size], _, _, H1, rfl, I1.kept (t' := s1.toks) fun b o e => Heap.get?_push_of_some _ e, turn_tuple a _, ⟨_, Heap.get?_push_size _ rfl, rfl, rfl⟩, fun b hb => ?_, q⟩
    have e : b = s1.heap.objs.size := by simpa using hb
    subst e
    exact I1.fpOk (Nat.le_refl _) (I1.hok.fresh (Nat.le_refl _))
theorem walk_seq {K : PySem.W.Frag} {b : Bool} {a : Addr} {xs : List V} : Walk (Itb K b a) xs.length (fun H => SqB K b H a xs) (YAt xs) := by
  cases b
  · exact walk_list
  · exact walk_tup

/-! ### zip of two, each a list or a tuple -/
def ItzM (K : PySem.W.Frag) (b1 b2 : Bool) (a b : Addr) : L2.It :=
  ⟨fun i H => ∃ (xs ys : List V) (x y : V), SqB K b1 H a xs ∧ SqB K b2 H b ys ∧ xs[i]? = some x ∧ ys[i]? = some y,
    fun i H v H' => ∃ T x y, v = .ref T ∧ H T = none ∧ H' = upd H T (.tup [x, y]) ∧ (∀ xs, SqB K b1 H a xs → xs[i]? = some x) ∧ ∀ ys, SqB K b2 H b ys → ys[i]? = some y,
    fun i H => ∃ xs ys : List V, SqB K b1 H a xs ∧ SqB K b2 H b ys ∧ (xs.length ≤ i ∨ ys.length ≤ i)⟩
theorem turn_zipM {P : Program} {w : World} {K : PySem.W.Frag} {elts : List Expr} {kk : Nat} {tpos : Pos} {b1 b2 : Bool} {a b z TI TO i1 i2 : Addr} (D : ZipApart z TI TO i1 i2 a b) :
    Turn P w K (.Tuple elts kk tpos) (ItzM K b1 b2 a b) [z, TI, TO, i1, i2] z (fun i h => IsZip h z TI TO .none ∧ IsPair h TI (.ref i1) (.ref i2) ∧ (∃ x y, IsPair h TO x y) ∧ IsIt b1 h i1 a i ∧ IsIt b2 h i2 b i) where
  mem := by simp
  obj := fun i h st c hc => by
    obtain ⟨hz, hTI, ⟨x, y, hTO⟩, h1, h2⟩ := st
    obtain ⟨o1, e1, d1⟩ := h1.obj
    obtain ⟨o2, e2, d2⟩ := h2.obj
    have e' : c = z ∨ c = TI ∨ c = TO ∨ c = i1 ∨ c = i2 := by simpa using hc
    rcases e' with q | q | q | q | q
    · rw [q]; exact ⟨_, hz, fun v q => nomatch q⟩
    · rw [q]; exact ⟨_, hTI, fun v q => nomatch q⟩
    · rw [q]; exact ⟨_, hTO, fun v q => nomatch q⟩
    · rw [q]; exact ⟨o1, e1, fun v q => by rw [d1] at q; cases q⟩
    · rw [q]; exact ⟨o2, e2, fun v q => by rw [d2] at q; cases q⟩
  keep := fun i h h' st k => by
    obtain ⟨hz, hTI, ⟨x, y, hTO⟩, h1, h2⟩ := st
    exact ⟨k z (by simp) _ hz, k TI (by simp) _ hTI, ⟨x, y, k TO (by simp) _ hTO⟩, h1.at fun o q => k i1 (by simp) o q, h2.at fun o q => k i2 (by simp) o q⟩
  item := by
    intro X hP hw hK hc i pins s σ H E I hf st hg
    subst hP hw hK
    obtain ⟨hz, hTI, ⟨x0, y0, hTO⟩, h1, h2⟩ := st
    obtain ⟨xs, ys, x, y, hqx, hqy, hx, hy⟩ := hg
    obtain ⟨its, rv, p, _⟩ := SqB.got I hqx
    obtain ⟨its2, rv2, p2, _⟩ := SqB.got I hqy
    obtain ⟨u, hu, ru⟩ := rv.get hx
    obtain ⟨u2, hu2, ru2⟩ := rv2.get hy
    have hzl : z < s.heap.objs.size := Heap.lt_size hz
    refine pyNext_zipM_item D hz hTI hTO h1 h2 p p2 (x := u) (y := u2) (by simpa using hu) (by simpa using hu2) fun h' z' TO' h1' h2' hT hsz hk => ?_
    refine ⟨_, rfl, wpAny_letOwnedTupleGo_zip (s := { s with heap := h' }) z' fun h'' z'' sb => ?_⟩
    have hT2 : h''.get? s.heap.objs.size = some { cls := .type "tuple", data := .seq #[u, u2] } := (sb.2 _ (Nat.ne_of_gt hzl)).trans hT
    have new : ObjOk X.prog X.w (upd H s.heap.objs.size (.tup [x, y])) h'' s.heap.objs.size (.tup [x, y]) :=
      ⟨by show 2 ≤ sizeLine; decide, [u, u2], .cons ru (.cons ru2 .nil), ⟨_, hT2, rfl, _, rfl⟩⟩
    have I1 : Inv X pins σ (upd H s.heap.objs.size (.tup [x, y])) { s with heap := h'' } :=
      I.turnedNew (t' := s.toks) (ch := [z, TI, TO, i1, i2]) (fun c o hb q => (sb.2 c (fun q' => hb (by simp [q']))).trans (hk c o (fun q' => hb (by simp [q'])) (fun q' => hb (by simp [q'])) (fun q' => hb (by simp [q'])) (fun q' => hb (by simp [q'])) q)) hf (Nat.le_refl _) new
    refine ⟨.ref s.heap.objs.size, _, I1, rfl, ⟨_, x, y, rfl, I.hok.fresh (Nat.le_refl _), rfl, fun l hl => by rw [SqB.inj I hl hqx]; exact hx, fun l hl => by rw [SqB.inj I hl hqy]; exact hy⟩, ⟨z'', ?_, ⟨u, u2, ?_⟩, ?_, ?_⟩, fun c hcm => ?_⟩
    · exact (sb.2 _ D.TIz).trans (hk _ _ D.TIz D.TITO D.TIi1 D.TIi2 hTI)
    · exact (sb.2 _ D.TOz).trans TO'
    · exact h1'.at fun o q => (sb.2 _ D.i1z).trans q
    · exact h2'.at fun o q => (sb.2 _ D.i2z).trans q
    · have hlt : c < s.heap.objs.size := by
        have e' : c = z ∨ c = TI ∨ c = TO ∨ c = i1 ∨ c = i2 := by simpa using hcm
        rcases e' with q | q | q | q | q
        · rw [q]; exact hzl
        · rw [q]; exact Heap.lt_size hTI
        · rw [q]; exact Heap.lt_size hTO
        · rw [q]; exact h1.lt
        · rw [q]; exact h2.lt
      rw [upd_ne (Nat.ne_of_lt hlt)]
      exact (hf c hcm).1
  done := by
    intro X hP hw hK hc i pins s σ H E I hf st hg
    subst hP hw hK
    obtain ⟨hz, hTI, ⟨x0, y0, hTO⟩, h1, h2⟩ := st
    obtain ⟨xs, ys, hqx, hqy, hend⟩ := hg
    obtain ⟨its, rv, p, _⟩ := SqB.got I hqx
    obtain ⟨its2, rv2, p2, _⟩ := SqB.got I hqy
    have l1 := rv.length
    have l2 := rv2.length
    have he : its.toArray[i]? = none ∨ its2.toArray[i]? = none := by
      rcases hend with q | q
      · exact .inl (by simp; omega)
      · exact .inr (by simp; omega)
    exact pyNext_zipM_end (I.ok.hd hc) D hz hTI hTO h1 h2 p p2 he fun h' hk => ⟨rfl, I.turnedL (t' := s.toks) (ch := [z, TI, TO, i1, i2]) (fun c o hb q =>
      hk c o (fun q' => hb (by simp [q'])) (fun q' => hb (by simp [q'])) (fun q' => hb (by simp [q'])) (fun q' => hb (by simp [q'])) q) hf⟩
  self := fun A i s Q E st h => wpAny_pyIter_zip st.1 h
def iZipM (K : PySem.W.Frag) (ta : TA) : TI := fun σ H R => ta σ H fun vs H1 => ∃ b1 b2 a b xs ys, vs = [.ref a, .ref b] ∧ SqB K b1 H1 a xs ∧ SqB K b2 H1 b ys ∧ R (ItzM K b1 b2 a b) H1
theorem pi_zipM {X : Cx} {e e2 : Expr} {ta : TA} {p pos tpos : Pos} {elts : List Expr} {kk : Nat} (hg : Gl X "zip") (hm : X.mg "zip" = none) (ha : PA X [e, e2] ta)
    (hs : starEach [e, e2] X.env = (false, eval e X.env) :: starEach [e2] X.env := by rfl) (hpl : (backTo pos (starEach [e2] X.env)).any (·.1) = false := by rfl) :
    PI X (.Tuple elts kk tpos) (.Call (.Name "zip" p) [e, e2] [] pos) (iZipM X.K ta) := by
  refine ⟨fun pins s σ H R I h => ?_⟩
  refine Call_ (ld_blt I hg hm PyProof.Rows.boot_zip (PyProof.Rows.callWith_type1 (thn (ha.run pos pins s σ H _ I h) fun us s1 ⟨vs, H1, I1, r1, q1⟩ => ?_) hs hpl))
  obtain ⟨b1, b2, a, b, xs, ys, ex, hqx, hqy, q⟩ := q1
  subst ex
  obtain ⟨u1, u2, rfl, r, r'⟩ := vals2 r1
  cases r
  cases r'
  have fresh5 : ∀ c, c ∈ [s1.heap.objs.size + 4, s1.heap.objs.size + 2, s1.heap.objs.size + 3, s1.heap.objs.size, s1.heap.objs.size + 1] → FpOk X pins H1 c := fun c hcm => by
    have e' : c = s1.heap.objs.size + 4 ∨ c = s1.heap.objs.size + 2 ∨ c = s1.heap.objs.size + 3 ∨ c = s1.heap.objs.size ∨ c = s1.heap.objs.size + 1 := by simpa using hcm
    have hle : s1.heap.objs.size ≤ c := by
      rcases e' with z | z | z | z | z
      · rw [z]; exact Nat.le_add_right _ _
      · rw [z]; exact Nat.le_add_right _ _
      · rw [z]; exact Nat.le_add_right _ _
      · rw [z]; exact Nat.le_refl _
      · rw [z]; exact Nat.le_add_right _ _
    exact I1.fpOk hle (I1.hok.fresh hle)
  obtain ⟨its, rv, p1, l1⟩ := SqB.got I1 hqx
  obtain ⟨its2, rv2, p2, l2⟩ := SqB.got I1 hqy
  refine call_zipM p1 p2 fun h' hz hTI hTO h1 h2 hsz hk => wpAny_pyIter_zip hz ?_
  have I2 : Inv X pins σ H1 { s1 with heap := h' } := I1.kept (t' := s1.toks) hk
  exact ⟨s1.heap.objs.size + 4, [s1.heap.objs.size + 4, s1.heap.objs.size + 2, s1.heap.objs.size + 3, s1.heap.objs.size, s1.heap.objs.size + 1], _, _, H1, rfl, I2, turn_zipM (PySem.W.ktu_apart s1.heap.objs.size a b l1 l2), ⟨hz, hTI, ⟨_, _, hTO⟩, h1, h2⟩, fresh5, q⟩
theorem walk_zipM {K : PySem.W.Frag} {b1 b2 : Bool} {a b : Addr} {xs ys : List V} {n : Nat} (hn : n = min xs.length ys.length) : Walk (ItzM K b1 b2 a b) n (fun H => SqB K b1 H a xs ∧ SqB K b2 H b ys) (YPair (fun i => xs[i]?) (fun i => ys[i]?)) := by
  subst hn
  refine ⟨fun i _ hi q => ?_, fun _ q => ⟨xs, ys, q.1, q.2, by omega⟩, fun i H v H' _ q y => ?_⟩
  · have h1 : i < xs.length := by omega
    have h2 : i < ys.length := by omega
    exact ⟨xs, ys, xs[i], ys[i], q.1, q.2, by simp [h1], by simp [h2]⟩
  · obtain ⟨T, x, z, h1, h2, h3, h4, h5⟩ := y
    exact ⟨T, x, z, h1, h2, h3, h4 xs q.1, h5 ys q.2⟩

/-! ### the heap but for one address -/
def Off (c : Addr) (H : Hp) : Hp := fun b => if b = c then none else H b
theorem off_ne {c b : Addr} {H : Hp} (h : b ≠ c) : Off c H b = H b := if_neg h
theorem off_self {c : Addr} {H : Hp} : Off c H c = none := if_pos rfl
theorem off_same (c : Addr) (H : Hp) : Same (Off c H) H := fun b o e => by
  unfold Off at e
  split at e
  · cases e
  · exact e
theorem same_off {c : Addr} {H H' : Hp} (h : ∀ b o, b ≠ c → H b = some o → H' b = some o) : Same (Off c H) (Off c H') := fun b o e => by
  unfold Off at e ⊢
  split at e
  · cases e
  · rename_i n
    rw [if_neg n]
    exact h b o n e
theorem same_off' {c : Addr} {H H' : Hp} (h : Same H H') : Same (Off c H) (Off c H') := same_off fun b o _ e => h b o e
theorem to_off {c : Addr} {H H' : Hp} (h : Same H H') (hc : H c = none) : Same H (Off c H') := fun b o e => by
  rw [off_ne (ne_of_none e hc)]
  exact h b o e
theorem off_upd {c : Addr} {H : Hp} {o : HO} : Off c (upd H c o) = Off c H := by
  funext b
  unfold Off
  by_cases h : b = c
  · rw [if_pos h, if_pos h]
  · rw [if_neg h, if_neg h, upd_ne h]

/-! ### a comprehension without a test, over anything that is walked; what is made holds R, told off the list itself -/
def LcR (H1 : Hp) (D : Addr) (R : Nat → V → Hp → Prop) (n : Nat) (H : Hp) : Prop := ∃ acc : List V, acc.length = n ∧ H D = some (.lst acc) ∧ Same H1 H ∧ ∀ i y, acc[i]? = some y → R i y (Off D H)
section
variable {J : L2.It} {n : Nat} {G : Hp → Prop} {Y : Nat → Hp → V → Hp → Prop} {D : Addr} {te : TE} {g : TG} {vs : List Nat} {σ : L2.St} {H1 : Hp} {Qd : Hp → Prop} (R : Nat → V → Hp → Prop)
theorem lc_rel (w : Walk J n G Y) (hD : H1 D = none) (hz : n < sizeLine) (hG : ∀ H, Same H1 H → G H) (hR : ∀ i y H H', Same H H' → R i y H → R i y H')
    (hs : ∀ i x H H', i < n → Same H1 H → (∃ acc, H D = some (.lst acc)) → Y i H x H' → ∀ Rk : VK, (∀ y H4, Same H H4 → R i y (Off D H4) → Rk y H4) → g x (wipe σ vs) H' fun σ2 H2 => wipe σ2 vs = wipe σ vs ∧ te σ2 H2 Rk)
    (hd : ∀ H, LcR H1 D R n H → Qd H) :
    ∃ W : Nat → Nat → Hp → Prop, (∃ m, W 0 m (upd H1 D (.lst []))) ∧ ∀ i m H, W i m H →
      (J.stop i H ∧ Qd H) ∨ (J.go i H ∧ ∃ Nx : Hp → Prop, (∀ H', Nx H' → ∃ m', m' < m ∧ W (i + 1) m' H') ∧ ∀ x H', J.yld i H x H' → g x (wipe σ vs) H' fun σ2 H2 => wipe σ2 vs = wipe σ vs ∧ tYes σ2 H2 fun b H3 =>
        if b = true then te σ2 H3 fun y H4 => ∃ acc, H4 D = some (.lst acc) ∧ acc.length < sizeLine ∧ Nx (upd H4 D (.lst (acc ++ [y]))) else Nx H3) := by
  refine lc_it w (fun i H => LcR H1 D R i H) ⟨[], rfl, upd_same, same_upd hD, fun i y e => by cases e⟩ (fun i H _ p => hG H (by obtain ⟨_, _, _, s, _⟩ := p; exact s)) ?_ hd
  rintro i x H H' hi ⟨acc, la, hDa, s1, hr⟩ hy
  refine hs i x H H' hi s1 ⟨acc, hDa⟩ hy (fun y H4 => ∃ acc, H4 D = some (.lst acc) ∧ acc.length < sizeLine ∧ LcR H1 D R (i + 1) (upd H4 D (.lst (acc ++ [y])))) fun y H4 s4 r => ?_
  have hD4 := s4 _ _ hDa
  refine ⟨acc, hD4, by omega, acc ++ [y], by rw [List.length_append, la]; rfl, upd_same, same_at hD4 (s1.trans s4) hD, fun k z hk => ?_⟩
  rw [off_upd]
  by_cases hlt : k < acc.length
  · rw [List.getElem?_append_left hlt] at hk
    exact hR k z _ _ (same_off' s4) (hr k z hk)
  · rw [List.getElem?_append_right (by omega)] at hk
    have e0 : k - acc.length = 0 := by
      refine Nat.eq_zero_of_not_pos fun q => ?_
      rw [List.getElem?_eq_none (by show 1 ≤ k - acc.length; omega)] at hk
      cases hk
    rw [e0] at hk
    have ek : k = i := by omega
    rw [ek]
    cases hk
    exact r
/-- .. what is made is told ahead -/
theorem lc_fun (f : Nat → V) (w : Walk J n G Y) (hD : H1 D = none) (hz : n < sizeLine) (hG : ∀ H, Same H1 H → G H)
    (hs : ∀ i x H H', i < n → Same H1 H → (∃ acc, H D = some (.lst acc)) → Y i H x H' → ∀ Rk : VK, (∀ H4, Same H H4 → Rk (f i) H4) → g x (wipe σ vs) H' fun σ2 H2 => wipe σ2 vs = wipe σ vs ∧ te σ2 H2 Rk)
    (hd : ∀ H, H D = some (.lst ((List.range n).map f)) → Same H1 H → Qd H) :
    ∃ W : Nat → Nat → Hp → Prop, (∃ m, W 0 m (upd H1 D (.lst []))) ∧ ∀ i m H, W i m H →
      (J.stop i H ∧ Qd H) ∨ (J.go i H ∧ ∃ Nx : Hp → Prop, (∀ H', Nx H' → ∃ m', m' < m ∧ W (i + 1) m' H') ∧ ∀ x H', J.yld i H x H' → g x (wipe σ vs) H' fun σ2 H2 => wipe σ2 vs = wipe σ vs ∧ tYes σ2 H2 fun b H3 =>
        if b = true then te σ2 H3 fun y H4 => ∃ acc, H4 D = some (.lst acc) ∧ acc.length < sizeLine ∧ Nx (upd H4 D (.lst (acc ++ [y]))) else Nx H3) := by
  refine lc_rel (R := fun i y _ => y = f i) w hD hz hG (fun _ _ _ _ _ h => h) (fun i x H H' hi s1 ha hy Rk k => hs i x H H' hi s1 ha hy Rk fun H4 s4 => k (f i) H4 s4 rfl) fun H ⟨acc, la, hDa, s1, hr⟩ => hd H ?_ s1
  rw [hDa]
  congr 2
  refine List.ext_getElem (by simp [la]) fun k k1 k2 => ?_
  have := hr k acc[k] (List.getElem?_eq_getElem k1)
  rw [this]
  simp
end
end K0


set_option Elab.async false
set_option linter.all false
set_option maxRecDepth 100000
set_option maxHeartbeats 4000000
/-! rules with the written part told, so that they stand within comprehensions -/
namespace K0
open PySem PySem.Spec PyProof.Rows L2 RZ K0z
def rTupOf (K : PySem.W.Frag) : List V → Hp → VK → Prop := fun xs H Q => ∃ b p ys, xs = [.ref p] ∧ SqB K b H p ys ∧ (b = false → ∀ l, H l = none → Q (.ref l) (upd H l (.tup ys))) ∧ (b = true → Q (.ref p) H)
def rListOf (K : PySem.W.Frag) : List V → Hp → VK → Prop := fun xs H Q => ∃ b p ys, xs = [.ref p] ∧ SqB K b H p ys ∧ ∀ l, H l = none → Q (.ref l) (upd H l (.lst ys))
def rLen (K : PySem.W.Frag) : List V → Hp → VK → Prop := fun xs H Q => ∃ b p ys, xs = [.ref p] ∧ SqB K b H p ys ∧ Q (.int ys.length) H
def rIxB (K : PySem.W.Frag) : R2 := fun x y H Q => ∃ b p xs i v, x = .ref p ∧ y = .int i ∧ SqB K b H p xs ∧ atI xs i = some v ∧ Q v H
section
variable {X : Cx} {K : PySem.W.Frag}
theorem call_tupK (K : PySem.W.Frag) (e : X.K = K := by rfl) : CallR X (.type "tuple") (rTupOf K) := by
  subst e
  intro pins s σ H xs us Q I r h
  obtain ⟨b, p, ys, rfl, h, h1, h2⟩ := h
  refine call_tuple_of pins s σ H _ us Q I r ⟨p, ys, rfl, ?_⟩
  cases b
  · exact .inl ⟨h, h1 rfl⟩
  · exact .inr ⟨h, h2 rfl⟩
theorem call_listK (K : PySem.W.Frag) (e : X.K = K := by rfl) : CallR X (.type "list") (rListOf K) := by
  subst e
  intro pins s σ H xs us Q I r h
  obtain ⟨b, p, ys, rfl, h, h1⟩ := h
  exact call_list_of pins s σ H _ us Q I r ⟨p, ys, rfl, h.to, h1⟩
theorem call_lenK (K : PySem.W.Frag) (e : X.K = K := by rfl) : CallR X (.builtin "len") (rLen K) := by
  subst e
  intro pins s σ H xs us Q I r h
  obtain ⟨b, p, ys, rfl, h, h1⟩ := h
  exact call_len_seq pins s σ H _ us Q I r ⟨p, ys, rfl, h.to, h1⟩
theorem ix_K (K : PySem.W.Frag) (e : X.K = K := by rfl) : IxR X (rIxB K) := by
  subst e
  intro value slice pins s σ H x y v u Q I rx ry h hs
  obtain ⟨b, p, xs, i, z, e1, e2, h, e3, q⟩ := h
  cases b
  · exact ix_list _ _ pins s σ H x y v u Q I rx ry ⟨p, xs, i, z, e1, e2, h, e3, q⟩ hs
  · exact ix_tup _ _ pins s σ H x y v u Q I rx ry ⟨p, xs, i, z, e1, e2, h, e3, q⟩ hs
theorem call_isTK (K : PySem.W.Frag) (e : X.K = K := by rfl) : CallR X (.builtin "isinstance") (rIsT K) := by subst e; exact call_isT
theorem call_isAK (K : PySem.W.Frag) (e : X.K = K := by rfl) : CallR X (.builtin "isinstance") (rIsA K) := by subst e; exact call_isA
theorem pi_seqK {tg l : Expr} {tl : TE} (K : PySem.W.Frag) (hl : PE X l tl) (e : X.K = K := by rfl) : PI X tg l (iSeq K tl) := by subst e; exact pi_seq hl
theorem pi_zipMK {e e2 : Expr} {ta : TA} {p pos tpos : Pos} {elts : List Expr} {kk : Nat} (K : PySem.W.Frag) (hg : Gl X "zip") (hm : X.mg "zip" = none) (ha : PA X [e, e2] ta) (eK : X.K = K := by rfl)
    (hs : starEach [e, e2] X.env = (false, eval e X.env) :: starEach [e2] X.env := by rfl) (hpl : (backTo pos (starEach [e2] X.env)).any (·.1) = false := by rfl) :
    PI X (.Tuple elts kk tpos) (.Call (.Name "zip" p) [e, e2] [] pos) (iZipM K ta) := by subst eK; exact pi_zipM hg hm ha hs hpl
/-- xs != [], whatever the items -/
def rNeNil (K : PySem.W.Frag) : R2 := fun x y H Q => ∃ a b xs, x = .ref a ∧ y = .ref b ∧ SqL K H a xs ∧ SqL K H b [] ∧ Q (.bl (!xs.isEmpty)) H
theorem op_neNil (K : PySem.W.Frag) (hu : X.A.units + 64 < cLine) (e : X.K = K := by rfl) : OpR X (compareOp .NotEq) (rNeNil K) := by
  subst e
  intro pins s σ H x y v u Q I rx ry h
  obtain ⟨a, b, xs, rfl, rfl, hx, hy, q⟩ := h
  cases xs with
  | nil => exact op_neD hu pins s σ H _ _ _ _ Q I rx ry ⟨.list [], .list [], .lst hx .nil, .lst hy .nil, by decide, by decide, q⟩
  | cons z zs =>
    cases rx
    cases ry
    obtain ⟨its, rv, p1, _⟩ := I.list hx
    obtain ⟨its2, rv2, p2, _⟩ := I.list hy
    cases rv2
    cases rv with
    | cons r1 r2 => exact PySem.SeqAt.RcNeAt.lists_lengths p1.isList p2.isList (by simp) (by omega) X.prog X.w X.xe (EP X pins σ Q) ⟨.bl _, H, I, rfl, q⟩
end
end K0


set_option Elab.async false
set_option linter.all false
set_option maxRecDepth 100000
set_option maxHeartbeats 4000000
namespace K0
open PySem PySem.Spec PyProof.Rows L2 RZ K0z
/-- what a comprehension with a test has made: of the turns that c tells, in order -/
def LcF (H1 : Hp) (D : Addr) (R : Nat → V → Hp → Prop) (c : Nat → Bool) (n : Nat) (H : Hp) : Prop := ∃ acc : List V, acc.length = ((List.range n).filter c).length ∧ H D = some (.lst acc) ∧ Same H1 H ∧
  ∀ (k : Nat) (y : V) (i : Nat), acc[k]? = some y → ((List.range n).filter c)[k]? = some i → R i y (Off D H)
section
variable {J : L2.It} {n : Nat} {G : Hp → Prop} {Y : Nat → Hp → V → Hp → Prop} {D : Addr} {te : TE} {tt : TT} {g : TG} {vs : List Nat} {σ : L2.St} {H1 : Hp} {Qd : Hp → Prop} (R : Nat → V → Hp → Prop)
theorem lc_relF (c : Nat → Bool) (w : Walk J n G Y) (hD : H1 D = none) (hz : n < sizeLine) (hG : ∀ H, Same H1 H → G H) (hR : ∀ i y H H', Same H H' → R i y H → R i y H')
    (hs : ∀ i x H H', i < n → Same H1 H → (∃ acc, H D = some (.lst acc)) → Y i H x H' → ∀ Rt : Hp → Prop, ∀ Rk : VK, (c i = false → ∀ H3, Same H H3 → Rt H3) → (c i = true → ∀ y H4, Same H H4 → R i y (Off D H4) → Rk y H4) →
      g x (wipe σ vs) H' fun σ2 H2 => wipe σ2 vs = wipe σ vs ∧ tt σ2 H2 fun b H3 => if b = true then te σ2 H3 Rk else Rt H3)
    (hd : ∀ H, LcF H1 D R c n H → Qd H) :
    ∃ W : Nat → Nat → Hp → Prop, (∃ m, W 0 m (upd H1 D (.lst []))) ∧ ∀ i m H, W i m H →
      (J.stop i H ∧ Qd H) ∨ (J.go i H ∧ ∃ Nx : Hp → Prop, (∀ H', Nx H' → ∃ m', m' < m ∧ W (i + 1) m' H') ∧ ∀ x H', J.yld i H x H' → g x (wipe σ vs) H' fun σ2 H2 => wipe σ2 vs = wipe σ vs ∧ tt σ2 H2 fun b H3 =>
        if b = true then te σ2 H3 fun y H4 => ∃ acc, H4 D = some (.lst acc) ∧ acc.length < sizeLine ∧ Nx (upd H4 D (.lst (acc ++ [y]))) else Nx H3) := by
  refine lc_it w (fun i H => LcF H1 D R c i H) ⟨[], rfl, upd_same, same_upd hD, fun k y i e => by cases e⟩ (fun i H _ p => hG H (by obtain ⟨_, _, _, s, _⟩ := p; exact s)) ?_ hd
  rintro i x H H' hi ⟨acc, la, hDa, s1, hr⟩ hy
  have es : (List.range (i + 1)).filter c = (List.range i).filter c ++ if c i = true then [i] else [] := by
    rw [List.range_succ, List.filter_append]
    congr 1
    by_cases h : c i = true
    · simp [h]
    · simp [h]
  refine hs i x H H' hi s1 ⟨acc, hDa⟩ hy _ (fun y H4 => ∃ acc, H4 D = some (.lst acc) ∧ acc.length < sizeLine ∧ LcF H1 D R c (i + 1) (upd H4 D (.lst (acc ++ [y])))) (fun hc H3 s3 => ?_) fun hc y H4 s4 r => ?_
  · refine ⟨acc, ?_, s3 _ _ hDa, s1.trans s3, fun k y j h1 h2 => hR _ _ _ _ (same_off' s3) (hr k y j h1 ?_)⟩
    · rw [es, hc, la]; simp
    · rw [es, hc] at h2; simpa using h2
  · have hD4 := s4 _ _ hDa
    rw [hc, if_pos rfl] at es
    have lz : acc.length < sizeLine := by
      rw [la]
      exact Nat.lt_of_le_of_lt (List.length_filter_le ..) (by rw [List.length_range]; omega)
    refine ⟨acc, hD4, lz, acc ++ [y], ?_, upd_same, same_at hD4 (s1.trans s4) hD, fun k z j hk hj => ?_⟩
    · rw [es, List.length_append, List.length_append, la]; rfl
    rw [off_upd]
    by_cases hlt : k < acc.length
    · rw [List.getElem?_append_left hlt] at hk
      rw [es, List.getElem?_append_left (by rw [← la]; exact hlt)] at hj
      exact hR j z _ _ (same_off' s4) (hr k z j hk hj)
    · rw [List.getElem?_append_right (by omega)] at hk
      have e0 : k - acc.length = 0 := by
        refine Nat.eq_zero_of_not_pos fun q => ?_
        rw [List.getElem?_eq_none (by show 1 ≤ k - acc.length; omega)] at hk
        cases hk
      rw [e0] at hk
      rw [es, List.getElem?_append_right (by omega), ← la, e0] at hj
      cases hk
      cases hj
      exact r
/-- .. what is made is told ahead -/
theorem lc_funF (c : Nat → Bool) (f : Nat → V) (w : Walk J n G Y) (hD : H1 D = none) (hz : n < sizeLine) (hG : ∀ H, Same H1 H → G H)
    (hs : ∀ i x H H', i < n → Same H1 H → (∃ acc, H D = some (.lst acc)) → Y i H x H' → ∀ Rt : Hp → Prop, ∀ Rk : VK, (c i = false → ∀ H3, Same H H3 → Rt H3) → (c i = true → ∀ H4, Same H H4 → Rk (f i) H4) →
      g x (wipe σ vs) H' fun σ2 H2 => wipe σ2 vs = wipe σ vs ∧ tt σ2 H2 fun b H3 => if b = true then te σ2 H3 Rk else Rt H3)
    (hd : ∀ H, H D = some (.lst (((List.range n).filter c).map f)) → Same H1 H → Qd H) :
    ∃ W : Nat → Nat → Hp → Prop, (∃ m, W 0 m (upd H1 D (.lst []))) ∧ ∀ i m H, W i m H →
      (J.stop i H ∧ Qd H) ∨ (J.go i H ∧ ∃ Nx : Hp → Prop, (∀ H', Nx H' → ∃ m', m' < m ∧ W (i + 1) m' H') ∧ ∀ x H', J.yld i H x H' → g x (wipe σ vs) H' fun σ2 H2 => wipe σ2 vs = wipe σ vs ∧ tt σ2 H2 fun b H3 =>
        if b = true then te σ2 H3 fun y H4 => ∃ acc, H4 D = some (.lst acc) ∧ acc.length < sizeLine ∧ Nx (upd H4 D (.lst (acc ++ [y]))) else Nx H3) := by
  refine lc_relF (R := fun i y _ => y = f i) c w hD hz hG (fun _ _ _ _ _ h => h) (fun i x H H' hi s1 ha hy Rt Rk h1 h2 => hs i x H H' hi s1 ha hy Rt Rk h1 fun hc H4 s4 => h2 hc (f i) H4 s4 rfl) fun H ⟨acc, la, hDa, s1, hr⟩ => hd H ?_ s1
  rw [hDa]
  congr 2
  refine List.ext_getElem (by simp [la]) fun k k1 k2 => ?_
  have h2 : k < ((List.range n).filter c).length := by rw [← la]; exact k1
  have := hr k acc[k] _ (List.getElem?_eq_getElem k1) (List.getElem?_eq_getElem h2)
  rw [this]
  simp
end
theorem range_map_getD {α β : Type} (l : List α) (d : α) (g : α → β) : (List.range l.length).map (fun i => g (l.getD i d)) = l.map g := by
  refine List.ext_getElem (by simp) fun i h1 h2 => ?_
  simp at h2
  simp [List.getD_eq_getElem?_getD, List.getElem?_eq_getElem h2]
theorem erase_filter {α β : Type} (d : α) (f : α → β) : ∀ (l : List α) (k : Nat), (l.eraseIdx k).map f = ((List.range l.length).filter (fun i => i != k)).map (fun i => f (l.getD i d))
  | [], k => by simp
  | a :: l, 0 => by
    rw [List.length_cons, List.range_succ_eq_map, List.filter_cons_of_neg (by simp), List.filter_map, List.map_map]
    rw [List.filter_eq_self.mpr (by intro i _; simp)]
    show l.map f = _
    rw [← range_map_getD l d f]
    rfl
  | a :: l, k + 1 => by
    have ih := erase_filter d f l k
    rw [List.length_cons, List.range_succ_eq_map, List.filter_cons_of_pos (by simp), List.filter_map, List.map_cons, List.map_map]
    show f a :: (l.eraseIdx k).map f = _
    rw [ih]
    congr 1
    have e : (fun i => i != k + 1) ∘ Nat.succ = fun i => i != k := by
      funext i
      simp [Function.comp]
    rw [e]
    rfl
theorem find_filter {α : Type} (d : α) (p : α → Bool) : ∀ (l : List α), ((List.range l.length).filter (fun i => p (l.getD i d))).head? = l.findIdx? p
  | [] => rfl
  | a :: l => by
    have ih := find_filter d p l
    rw [List.length_cons, List.range_succ_eq_map]
    by_cases h : p a = true
    · rw [List.filter_cons_of_pos (by simpa using h)]
      simp [List.findIdx?_cons, h]
    · rw [List.filter_cons_of_neg (by simpa using h), List.filter_map]
      have e : (fun i => p ((a :: l).getD i d)) ∘ Nat.succ = fun i => p (l.getD i d) := by
        funext i
        simp [Function.comp]
      rw [e, List.head?_map, ih, List.findIdx?_cons]
      simp [h]
end K0


set_option Elab.async false
set_option linter.all false
set_option maxRecDepth 100000
set_option maxHeartbeats 4000000
namespace K0
open PySem PySem.Spec PyProof.Rows L2

/-! ### flat values as data -/
def toD : V → PyData
  | .bl b => .bool b
  | .int i => .int i
  | .str x => .str x
  | _ => .none
def flat : V → Bool
  | .non | .bl _ | .int _ => true
  | .str x => PyData.strOk x
  | _ => false
section
variable {K : PySem.W.Frag} {H : Hp}
theorem dpF : ∀ {v : V}, flat v = true → Dp K H v (toD v)
  | .non, _ => .non
  | .bl b, _ => .bl b
  | .int i, _ => .int i
  | .str x, _ => .str x
theorem dpAllF : ∀ {xs : List V}, xs.all flat = true → DpAll K H xs (xs.map toD)
  | [], _ => .nil
  | x :: xs, h => by
    rw [List.all_cons, Bool.and_eq_true] at h
    exact .cons (dpF h.1) (dpAllF h.2)
theorem layF : ∀ {xs : List V}, xs.all flat = true → PyData.canLayAll0 (xs.map toD) = true
  | [], _ => rfl
  | x :: xs, h => by
    rw [List.all_cons, Bool.and_eq_true] at h
    have ih := layF h.2
    cases x with
    | str z =>
      have hz : PyData.strOk z = true := h.1
      simp [toD, PyData.canLayAll0, PyData.canLay0, ih, hz]
    | _ => simp [toD, PyData.canLayAll0, PyData.canLay0, ih]
theorem depF : ∀ (xs : List V), PyData.depthAll (xs.map toD) = 0
  | [] => rfl
  | x :: xs => by
    have ih := depF xs
    cases x <;> simp [toD, PyData.depthAll, PyData.depth, ih]
theorem shapedL {xs : List V} (h : xs.all flat = true) : SeqAt.shaped (.list (xs.map toD)) = true := by
  unfold SeqAt.shaped
  rw [Bool.and_eq_true]
  refine ⟨?_, ?_⟩
  · simp only [PyData.canLay0]
    exact layF h
  · simp only [PyData.depth, depF]
    decide
theorem shapedNil : SeqAt.shaped (.list []) = true := shapedL (xs := []) rfl
theorem dpL {a : Addr} {xs : List V} (h : SqL K H a xs) (f : xs.all flat = true) : Dp K H (.ref a) (.list (xs.map toD)) := .lst h (dpAllF f)
theorem dpNil {a : Addr} (h : SqL K H a []) : Dp K H (.ref a) (.list []) := .lst h .nil
theorem eqvNil (xs : List V) : PyData.eqv (.list (xs.map toD)) (.list []) = xs.isEmpty := by
  cases xs <;> simp [PyData.eqv, PyData.eqvAll]
theorem eqv_ints : ∀ (ns ms : List Int), PyData.eqvAll ((ns.map V.int).map toD) ((ms.map V.int).map toD) = decide (ns = ms)
  | [], [] => by simp [PyData.eqvAll]
  | [], m :: ms => by simp [PyData.eqvAll]
  | n :: ns, [] => by simp [PyData.eqvAll]
  | n :: ns, m :: ms => by
    have ih := eqv_ints ns ms
    simp only [List.map_cons, toD, PyData.eqvAll, PyData.eqv, ih]
    by_cases e : n = m
    · subst e
      by_cases e2 : ns = ms
      · subst e2; simp
      · simp [e2]
    · simp [e]
theorem eqvL_ints (ns ms : List Int) : PyData.eqv (.list ((ns.map V.int).map toD)) (.list ((ms.map V.int).map toD)) = decide (ns = ms) := by
  simp only [PyData.eqv]
  exact eqv_ints ns ms
theorem flat_ints (ns : List Int) : (ns.map V.int).all flat = true := by
  induction ns with
  | nil => rfl
  | cons n ns ih => simp only [List.map_cons, List.all_cons, ih, flat, Bool.and_self]
theorem flat_bls (bs : List Bool) : (bs.map V.bl).all flat = true := by
  induction bs with
  | nil => rfl
  | cons n ns ih => simp only [List.map_cons, List.all_cons, ih, flat, Bool.and_self]
theorem eqv_same {xs : List V} (h : xs.all flat = true) : PyData.eqv (.list (xs.map toD)) (.list (xs.map toD)) = true := SeqAt.eqv_refl _ (by simp only [PyData.canLay0]; exact layF h)
end
end K0


set_option Elab.async false
set_option linter.all false
set_option maxRecDepth 100000
set_option maxHeartbeats 4000000
namespace K0
open PySem PySem.Spec PyProof.Rows L2

/-! ### the makers of the errors -/
def fs1 (f : Str) : List V → List (Str × V)
  | [v] => [(f, v)]
  | _ => []
def fs2 : List V → List (Str × V)
  | [x, y] => [("most", y), ("what", x)]
  | _ => []
section
variable {P : Program} {w : World} {K : PySem.W.Frag} {mg : Str → Option Value} {base : Heap} {f C : Addr} {fd : FuncData}
theorem sci_BadNumber : FnScope ["self", "part"] ["self", "part"] (defScope si_BadNumber) := ⟨rfl, rfl, rfl, by decide +kernel, rfl, by decide +kernel, by decide +kernel⟩
theorem oki_BadNumber (F : Fun K "__init__" "BadNumber.__init__" si_BadNumber f fd) (T : OexC K C) (no : PySem.W.findIn K (.ref C) "part" = some none) : FnOk P w K mg base CX0 1 f fd ["self", "part"] (spI C 1 (fs1 "part")) := by
  refine F.ok sci_BadNumber (fun vs H Q E h => ?_) (fun cdv A outer s H vs Q E hr h => ?_)
  · obtain ⟨a, ws, rfl, hl, _⟩ := h
    show ws.length + 1 = 2
    omega
  · obtain ⟨a, ws, rfl, hl, ha, k⟩ := h
    match ws, hl with
    | [v], _ =>
      refine ⟨_, (pss_one (ps_ost (pv 0) (pv 1))), ?_⟩
      refine ⟨_, rfl, _, rfl, a, C, rfl, T, no, .inl ⟨ha, fun d hd hda => ?_⟩⟩
      refine k d _ hd hda upd_same (by rw [upd_ne hda, upd_same]; rfl) fun b o hb e => ?_
      rw [upd_ne hb, upd_ne (ne_of_none e hd)]
      exact e
theorem sci_BadPoint : FnScope ["self", "part"] ["self", "part"] (defScope si_BadPoint) := ⟨rfl, rfl, rfl, by decide +kernel, rfl, by decide +kernel, by decide +kernel⟩
theorem oki_BadPoint (F : Fun K "__init__" "BadPoint.__init__" si_BadPoint f fd) (T : OexC K C) (no : PySem.W.findIn K (.ref C) "part" = some none) : FnOk P w K mg base CX0 1 f fd ["self", "part"] (spI C 1 (fs1 "part")) := by
  refine F.ok sci_BadPoint (fun vs H Q E h => ?_) (fun cdv A outer s H vs Q E hr h => ?_)
  · obtain ⟨a, ws, rfl, hl, _⟩ := h
    show ws.length + 1 = 2
    omega
  · obtain ⟨a, ws, rfl, hl, ha, k⟩ := h
    match ws, hl with
    | [v], _ =>
      refine ⟨_, (pss_one (ps_ost (pv 0) (pv 1))), ?_⟩
      refine ⟨_, rfl, _, rfl, a, C, rfl, T, no, .inl ⟨ha, fun d hd hda => ?_⟩⟩
      refine k d _ hd hda upd_same (by rw [upd_ne hda, upd_same]; rfl) fun b o hb e => ?_
      rw [upd_ne hb, upd_ne (ne_of_none e hd)]
      exact e
theorem sci_BadLikeness : FnScope ["self", "part"] ["self", "part"] (defScope si_BadLikeness) := ⟨rfl, rfl, rfl, by decide +kernel, rfl, by decide +kernel, by decide +kernel⟩
theorem oki_BadLikeness (F : Fun K "__init__" "BadLikeness.__init__" si_BadLikeness f fd) (T : OexC K C) (no : PySem.W.findIn K (.ref C) "part" = some none) : FnOk P w K mg base CX0 1 f fd ["self", "part"] (spI C 1 (fs1 "part")) := by
  refine F.ok sci_BadLikeness (fun vs H Q E h => ?_) (fun cdv A outer s H vs Q E hr h => ?_)
  · obtain ⟨a, ws, rfl, hl, _⟩ := h
    show ws.length + 1 = 2
    omega
  · obtain ⟨a, ws, rfl, hl, ha, k⟩ := h
    match ws, hl with
    | [v], _ =>
      refine ⟨_, (pss_one (ps_ost (pv 0) (pv 1))), ?_⟩
      refine ⟨_, rfl, _, rfl, a, C, rfl, T, no, .inl ⟨ha, fun d hd hda => ?_⟩⟩
      refine k d _ hd hda upd_same (by rw [upd_ne hda, upd_same]; rfl) fun b o hb e => ?_
      rw [upd_ne hb, upd_ne (ne_of_none e hd)]
      exact e
theorem sci_Misfit : FnScope ["self", "part"] ["self", "part"] (defScope si_Misfit) := ⟨rfl, rfl, rfl, by decide +kernel, rfl, by decide +kernel, by decide +kernel⟩
theorem oki_Misfit (F : Fun K "__init__" "Misfit.__init__" si_Misfit f fd) (T : OexC K C) (no : PySem.W.findIn K (.ref C) "part" = some none) : FnOk P w K mg base CX0 1 f fd ["self", "part"] (spI C 1 (fs1 "part")) := by
  refine F.ok sci_Misfit (fun vs H Q E h => ?_) (fun cdv A outer s H vs Q E hr h => ?_)
  · obtain ⟨a, ws, rfl, hl, _⟩ := h
    show ws.length + 1 = 2
    omega
  · obtain ⟨a, ws, rfl, hl, ha, k⟩ := h
    match ws, hl with
    | [v], _ =>
      refine ⟨_, (pss_one (ps_ost (pv 0) (pv 1))), ?_⟩
      refine ⟨_, rfl, _, rfl, a, C, rfl, T, no, .inl ⟨ha, fun d hd hda => ?_⟩⟩
      refine k d _ hd hda upd_same (by rw [upd_ne hda, upd_same]; rfl) fun b o hb e => ?_
      rw [upd_ne hb, upd_ne (ne_of_none e hd)]
      exact e
end
theorem vals_rev {xs : List V} {us : List Value} (r : Vals xs us) : Vals xs.reverse us.reverse := by
  induction r with
  | nil => exact .nil
  | cons h t ih =>
    rw [List.reverse_cons, List.reverse_cons]
    exact ih.append (.cons h .nil)
/-- the bundle of a class with one field -/
theorem ec1 {P : Program} {w : World} {K : PySem.W.Frag} {mg : Str → Option Value} {base : Heap} {x f q : Str} {st : Stmt} {C fI : Addr} {fd : FuncData} (o : OexC K C) (xf : XfC K C) (ec : ExcC K C)
    (h1 : PySem.W.findIn K (.ref C) "__init__" = some (some (.ref fI))) (h2 : PySem.W.typeIn K (.ref fI) = some (.type "function")) (F : Fun K "__init__" q st fI fd)
    (G : FnOk P w K mg base CX0 1 fI fd ["self", f] (spI C 1 (fs1 f))) (m : mg x = some (.ref C)) (no : PySem.W.findIn K (.ref C) f = some none)
    (b1 : ∀ (kV doc pm : Value) (an : Option Addr) (cdv ct : Value) (u v : Value), bindArgs (PySem.W.fnOf "__init__" q (defArgs st) (defBody st) (defScope st) .none kV doc pm an cdv ct) ⟨[u, v], []⟩ = pure [(("self" : Str), u), (f, v)])
    (b2 : ∀ (kV doc pm : Value) (an : Option Addr) (cdv ct : Value) (u v : Value), bindArgs (PySem.W.fnOf "__init__" q (defArgs st) (defBody st) (defScope st) .none kV doc pm an cdv ct) ⟨[u], [(f, v)]⟩ = pure [(("self" : Str), u), (f, v)]) :
    Ec P w K mg base x C 1 [f] List.reverse (fs1 f) := by
  obtain ⟨oc, od, kV, doc, pm, an, cdv, ct, osl, rfl, lk, hcd⟩ := F.ex
  refine ⟨o, xf, ec, ⟨fI, _, _, fun us _ => us, fun us ws => us ++ ws.reverse, h1, h2, G, ⟨fun s us ws X l1 l2 => ?_, fun r _ => r⟩, ⟨fun s us ws X l1 l2 => ?_, fun r rz => ?_⟩⟩, fun zs h => by rw [List.length_reverse]; exact h, by decide, m, fun ws hw q hq => ?_⟩
  · match us, ws, l1, l2 with
    | [u, v], [], _, _ => exact .of_eq (b1 kV doc pm an cdv ct u v)
  · match us, ws, l1, l2 with
    | [u], [v], _, _ => exact .of_eq (b2 kV doc pm an cdv ct u v)
  · refine r.append ?_
    rename_i vs us zs ws
    exact vals_rev rz
  · match ws, hw with
    | [v], _ =>
      cases List.mem_singleton.mp hq
      exact no
end K0


set_option Elab.async false
set_option linter.all false
set_option maxRecDepth 100000
set_option maxHeartbeats 4000000
/-! a caught exception, held beyond its clause -/
namespace L2
open PySem PySem.Spec PyProof.Rows
/-- at a: an exception that was raised once, of the class at C, its dict at d -/
def exq (a C d : Addr) : HO := .ext fun h => ∃ (oe : Obj) (vs : Array Value), h.get? a = some oe ∧ oe.cls = .ref C ∧ oe.dict = some d ∧ oe.data = .fields vs
theorem exq_ok {P : Program} {w : World} {H : Hp} {h : Heap} {a C d : Addr} {oe : Obj} {vs : Array Value} (he : h.get? a = some oe) (h1 : oe.cls = .ref C) (h2 : oe.dict = some d) (h3 : oe.data = .fields vs) : ObjOk P w H h a (exq a C d) :=
  ⟨⟨oe, vs, he, h1, h2, h3⟩, ⟨_, he⟩, fun hp1 hp2 z k => by
    obtain ⟨o, vs, q, r⟩ := z
    exact ⟨o, vs, k _ q, r⟩⟩
theorem exq_at {P : Program} {w : World} {H : Hp} {h : Heap} {a C d : Addr} (hok : HOk P w H h) (he : H a = some (exq a C d)) : ∃ (vs : Array Value) (sl : Array (Option Value)), h.get? a = some ({ cls := .ref C, dict := some d, data := .fields vs, slots := sl } : Obj) := by
  have x : ObjOk P w H h a (.ext fun h => ∃ (oe : Obj) (vs : Array Value), h.get? a = some oe ∧ oe.cls = .ref C ∧ oe.dict = some d ∧ oe.data = .fields vs) := hok a _ he
  obtain ⟨⟨oe, vs, q1, q2, q3, q4⟩, _, _⟩ := x
  obtain ⟨oc, od, oda, osl⟩ := oe
  dsimp only at q2 q3 q4
  subst q2 q3 q4
  exact ⟨vs, osl, q1⟩
section
variable {X : Cx} {pins : List (Addr × Obj)} {σ : L2.St} {H : Hp} {s : Shared}
/-- an object that stands already is tracked from now on -/
theorem Inv.track {a : Addr} {oe : Obj} {vs : Array Value} {o : HO} (I : Inv X pins σ H s) (ha : s.heap.get? a = some oe) (hd : oe.data = .fields vs) (nH : H a = none) (nL : a ≠ X.env.locals) (npin : ∀ p ∈ X.pn ++ pins, p.1 ≠ a) (n0 : X.s_0.heap.get? a = none)
    (ok : ObjOk X.prog X.w (upd H a o) s.heap a o) : Inv X pins σ (upd H a o) s := by
  refine ⟨I.ok, I.os, I.bare, ⟨I.base.keep, I.base.slot, fun b ob q n hx => ?_, I.base.there, fun b xs q => ?_, fun b ob u q => ?_, fun b ps q => ?_⟩, I.loc, I.cell, ?_, fun x c e => ?_, fun p hp => ?_, ?_, I.len⟩
  · have hb : b ≠ a := fun z => by rw [z, n0] at q; cases q
    rw [upd_ne hb]
    exact I.base.free b ob q n hx
  · have e := I.base.tups b xs q
    rw [upd_ne (ne_of_none e nH)]
    exact e
  · have e := I.base.frzs b ob u q
    rw [upd_ne (ne_of_none e nH)]
    exact e
  · obtain ⟨more, e⟩ := I.base.tbls b ps q
    exact ⟨more, by rw [upd_ne (ne_of_none e nH)]; exact e⟩
  · rw [upd_ne (Ne.symm nL)]
    exact I.free
  · obtain ⟨v, ob, q1, q2⟩ := I.cell x c e
    have hc : c ≠ a := fun z => by
      rw [z, ha] at q1
      cases q1
      rw [hd] at q2
      cases q2
    rw [upd_ne hc]
    exact I.freeC x c e
  · obtain ⟨e, n, r⟩ := I.pin p hp
    exact ⟨e, by rw [upd_ne (npin p hp)]; exact n, r⟩
  · exact I.hok.laidN (fun _ _ q => q) nH ok
end
/-- what 'except x as n: y = n' wishes of an exception of the body -/
def wKeep (K : PySem.W.Frag) (c : Value) (i j l : Nat) (D : Ends) : WX := fun cls d σ H =>
  ∃ C dd, cls = .ref C ∧ d = some dd ∧ PySem.W.exmOne K cls c = some true ∧ ∀ a, H a = none → σ.length = l → D.nx ((((σ.set i (some (.ref a))).set j (some (.ref a))).set i none)) (upd H a (exq a C dd))
section
variable {X : Cx} {x n y : Str} {c : Value} {i j : Nat} {body : List Stmt} {np pos pos' p1 p2 p3 : Pos} {tb : WX → TS}
theorem ps_try_keep (hs : X.stack = X.env :: X.outer) (hf : X.env.frame = some X.env.locals) (hN : X.N.Nodup) (hi : X.N[i]? = some n) (hj : X.N[j]? = some y) (hln : X.env.kindOf n = some .local) (hly : X.env.scope.names.lookup y = some .local) (hil : i < X.N.length) (hc : Names X x c)
    (hex : X.ex = [])
    (hb : ∀ (W : WX) (pn : List (Addr × Obj)) (xe : Value → Shared → Prop), Takes (X.tr pn xe) W → PassesOwn (model X.prog X.w) X.A X.env xe → PSs (X.tr pn xe) body (tb W))
    (hdb : (n == ("__debug__" : Str)) = false := by decide) (hcd : (n == ("__classdict__" : Str)) = false := by decide) :
    PS X (.Try body [.ExceptHandler (some (.Name x np)) (some n) [.Assign [.Name y p1] (.Name n p2) p3] pos'] [] [] pos) (fun D σ H => tb (wKeep X.K c i j X.N.length D) D σ H) := by
  refine ⟨fun pins s σ H D I h => ?_⟩
  have ok := I.ok
  have hfr : X.A.frames = some (X.env :: X.outer) := by rw [ok.frames, hs]
  have hloc : Loc X.env.scope n := .inl hln
  refine wpAny_Try_except ?_
  refine wpAny_mono ((hb (wKeep X.K c i j X.N.length D) (X.pn ++ pins) (fun e s₁ => wpAny (model X.prog X.w) X.A (noteFrame e X.env) (fun _ s₂ => wpAny (model X.prog X.w) X.A (setFlight e none) (fun _ s₃ =>
    wpAny (model X.prog X.w) X.A (handleBy e X.env [.ExceptHandler (some (.Name x np)) (some n) [.Assign [.Name y p1] (.Name n p2) p3] pos']) (SP X pins D) X.xe s₃) X.xe s₂) X.xe s₁) (fun u s' xx => ?_) PassesOwn.looking).run [] s σ H D (I.toTry _) h) (fun f s1 hsp => ?_) (fun e s1 he => he)
  · obtain ⟨a, B, sI, pins', σ', H', cls, d, rfl, J', nb, up, sky, na, os, ag, C, dd, rfl, rfl, hb1, hyes⟩ := xx
    have J : Inv X pins σ' H' sI := J'.ofTry ok
    have sky' : Sky B (X.env :: X.outer) a (Zc (.ref C) (some dd)) X.env.locals s'.heap := by rw [← hs]; exact sky
    show wpAny (model X.prog X.w) X.A (noteFrame (.ref a) X.env) _ _ _
    refine Sky.land Zc.steady hfr hf sky' fun h3 fl3 up3 => ?_
    have J3 : Inv X pins σ' H' { s' with heap := h3 } := J.landed nb fl3.1 (up.trans up3) os ag
    obtain ⟨oe3, vs3, he3, hz3, hd3⟩ := fl3.there
    have notFr : ∀ {h : Heap} {o : Obj} {vs : Array Value}, h.FunFrames B (X.env :: X.outer) → h.get? a = some o → o.data = .fields vs → a ∉ frs (X.env :: X.outer) := fun {h o vs} ff e dd hm => by
      obtain ⟨_, o', e', hnf⟩ := ff.mem hm
      rw [e] at e'; cases e'
      exact hnf _ dd
    have nfr := notFr fl3.2.2.1 he3 hd3
    have nL : a ≠ X.env.locals := fun z => nfr (List.mem_filterMap.mpr ⟨X.env, List.mem_cons_self, by rw [hf, z]⟩)
    have nF : a ∉ X.fs := fun hm => by
      obtain ⟨e, he, q⟩ := List.mem_filterMap.mp hm
      exact nfr (List.mem_filterMap.mpr ⟨e, List.mem_cons_of_mem _ he, q⟩)
    have gB : B.get? a = none := fl3.2.1
    have n0 : X.s_0.heap.get? a = none := by
      cases e : X.s_0.heap.get? a with
      | none => rfl
      | some o =>
        obtain ⟨o', e'⟩ := J.base.there a o e (by rw [hex]; exact List.not_mem_nil)
        have q := nb a o' e' (by rw [hs]; exact nfr)
        rw [gB] at q
        cases q
    have npin : ∀ p ∈ X.pn ++ pins, p.1 ≠ a := fun p hp z => by
      obtain ⟨e, _, nl, nf, _⟩ := J.pin p hp
      have q := nb p.1 p.2 e (by rw [hs, z]; exact nfr)
      rw [z, gB] at q
      cases q
    have S3 := J3.suite he3 hd3 na nL nF
    refine wpAny_handleBy_cons (codeAny_handlers_test ?_) (by intro q; cases q)
    have LT : PySem.W.Looks (model X.prog X.w) h3 (typeOf (.ref a)) (.ref C) := fun A Q E s k q => wpAny_typeOf_ref (k _ _ he3) (by rw [hz3.1]; exact q)
    have LM := PySem.W.exm_one (M := model X.prog X.w) (J3.kIn) LT hb1
    have test : ∀ {Q : Value → Shared → Prop} {E : Value → Shared → Prop}, Q c { s' with heap := h3 } → wpAny (model X.prog X.w) (X.A.mark (some (.ref a))) (eval (.Name x np) X.env) Q E { s' with heap := h3 } := fun {Q E} q => by
      obtain ⟨hg, hdbg, hm | ⟨hm, hv, hnn⟩⟩ := hc
      · exact ld_glob (X := X.suite a ((a, oe3) :: (X.pn ++ pins))) S3 hg hm q hdbg
      · exact ld_blt (X := X.suite a ((a, oe3) :: (X.pn ++ pins))) S3 hg hm hv q hnn hdbg
    refine test (LM.here ?_)
    refine codeAny_handlers_suite_as ?_
    refine HandSPX.lands_againZ fl3 fun h4 fl4 up4 => ?_
    have J4 : Inv X pins σ' H' { s' with heap := h4 } := J.landed nb fl4.1 ((up.trans up3).trans up4) os ag
    obtain ⟨oe4, vs4, he4, hz4, hd4⟩ := fl4.there
    have S4 := J4.suite he4 hd4 na nL nF
    refine store_ok (X := X.suite a ((a, oe4) :: (X.pn ++ pins))) (v := .ref a) S4 hN hi hloc rfl (fun s5 S5 => ?_) (.inr hln)
    have hpv : PSs (X.suite a ((a, oe4) :: (X.pn ++ pins))) [.Assign [.Name y p1] (.Name n p2) p3] (tAsg (tVar i) (gName j)) := pss_one (ps_set (X := X.suite a ((a, oe4) :: (X.pn ++ pins))) hN hj (.inl hly) (pe_var (X := X.suite a ((a, oe4) :: (X.pn ++ pins))) hi (.inl hln) hdb hcd) rfl (.inr hly))
    have hlen : i < σ'.length := by rw [J.len]; exact hil
    refine wpAny_mono (hpv.run [] s5 _ H' { nx := fun σ6 H6 => σ6 = (σ'.set i (some (.ref a))).set j (some (.ref a)) ∧ H6 = H', rt := fun _ _ => False, bk := fun _ _ => False, ct := fun _ _ => False } S5 ⟨.ref a, List.getElem?_set_self hlen, rfl, rfl⟩) (fun f s6 hsp => ?_) (fun _ _ z => False.elim z)
    cases f with
    | next =>
      obtain ⟨σ6, H6, S6, rfl, rfl⟩ := hsp
      refine gone_ok (X := X.suite a ((a, oe4) :: (X.pn ++ pins))) S6 hN hi hln fun s7 S7 => ?_
      obtain ⟨g7, _, _, _, _⟩ := S7.pin (a, oe4) (List.mem_append_left _ List.mem_cons_self)
      have J7 : Inv X pins _ H6 s7 := S7.unsuite ok
      exact ⟨_, _, J7.track g7 hd4 na nL npin n0 (exq_ok g7 hz4.1 hz4.2 hd4), hyes a na J.len⟩
    | brk =>
      obtain ⟨σ6, H6, S6, q6⟩ := hsp
      exact q6.elim
    | cont =>
      obtain ⟨σ6, H6, S6, q6⟩ := hsp
      exact q6.elim
    | ret u =>
      obtain ⟨v6, σ6, H6, S6, r6, q6⟩ := hsp
      exact q6.elim
  · cases f with
    | next =>
      obtain ⟨σ', H', J', q⟩ := hsp
      exact wpAny_execs_nil ⟨σ', H', J'.ofTry ok, q⟩
    | brk =>
      obtain ⟨σ', H', J', q⟩ := hsp
      exact ⟨σ', H', J'.ofTry ok, q⟩
    | cont =>
      obtain ⟨σ', H', J', q⟩ := hsp
      exact ⟨σ', H', J'.ofTry ok, q⟩
    | ret u =>
      obtain ⟨v, σ', H', J', r, q⟩ := hsp
      exact ⟨v, σ', H', J'.ofTry ok, r, q⟩
end
end L2


set_option Elab.async false
set_option linter.all false
set_option maxRecDepth 100000
set_option maxHeartbeats 4000000
set_option exponentiation.threshold 100000
namespace K0
open PySem PySem.Spec PyProof.Rows L2 RZ K0z

theorem pe_cint {X : Cx} {x : Str} {pos : Pos} {n : Int} (hg : Gl X x) (hm : ∃ t, X.mg x = some (.int n t)) (hd : (x == ("__debug__" : Str)) = false := by decide) : PE X (.Name x pos) (tC (.int n)) := by
  obtain ⟨t, h⟩ := hm
  exact pe_glob hg h ⟨t, rfl⟩ hd
/-- what a raise of the class x, by place, wants -/
def RaiseC (P : Program) (w : World) (K : PySem.W.Frag) (mg : Str → Option Value) (base : Heap) (x : Str) (C : Addr) (f : Str) : Prop :=
  ∃ fI fd ps, PySem.W.findIn K (.ref C) "__init__" = some (some (.ref fI)) ∧ PySem.W.typeIn K (.ref fI) = some (.type "function") ∧ FnOk P w K mg base CX0 1 fI fd ps (spI C 1 (fs1 f)) ∧ Binds K fd ps [] ∧ OexC K C ∧ mg x = some (.ref C)
section
variable {X : Cx} {C : Addr} {x f : Str} {p pos : Pos} {e : Expr} {v : V}
theorem pmk_c (D : RaiseC X.prog X.w X.K X.mg X.base x C f) (hr : Room 2 X.A) (hg : Gl X x) (ha : PA X [e] (tCons (tC v) tNil))
    (hdb : (x == ("__debug__" : Str)) = false := by decide) (hs : starEach [e] X.env = (false, eval e X.env) :: starEach [] X.env := by rfl) :
    PMk X (.Call (.Name x p) [e] [] pos) (fun _ H Q => ∀ (d : Addr) (H' : Hp), H d = none → H' d = some (.xd (fs1 f [v])) → Same H H' → Q (.ref C) (some d) H') := by
  obtain ⟨fI, fd, ps, h1, h2, F, B, T, m⟩ := D
  have h := pmk_oex (p := p) (pos := pos) T h1 h2 F hr B .nil pass0 hg m ha hdb hs (by rfl)
  intro pins s σ H1 Q I q
  refine h pins s σ H1 Q I ?_
  refine ⟨by show 1 ≤ 1000; decide, fun a ha => ⟨a, [v], rfl, rfl, upd_same, fun d H2 hd hda e1 e2 e3 => ⟨rfl, d, _, e1, e2, ?_, ?_⟩⟩⟩
  · rw [upd_ne hda] at hd
    exact hd
  · rw [upd_ne hda] at hd
    refine q d _ hd upd_same fun b o hb => ?_
    have nb : b ≠ d := ne_of_none hb hd
    have nba : b ≠ a := ne_of_none hb ha
    rw [upd_ne nb, del_ne nba]
    exact e3 b o nba (by rw [upd_ne nba]; exact hb)
end
end K0


set_option Elab.async false
set_option linter.all false
set_option maxRecDepth 100000
set_option maxHeartbeats 4000000
namespace K0
open PySem PySem.Spec PyProof.Rows L2

/-! ### what draws -/
/-- the coil at c: its cells at d, how many were begun (at most m), what is left -/
def Coil (H : Hp) (c d : Addr) (ns : List Int) (m : Nat) : Prop := ns.length ≤ 63 ∧ c ≠ d ∧ H d = some (.lst (ns.map V.int)) ∧
  ∃ a b : Int, H c = some (.lst [.ref d, .int a, .int b]) ∧ 0 ≤ a ∧ a ≤ m ∧ 0 ≤ b
def SameBut (c : Addr) (H H' : Hp) : Prop := ∀ b o, b ≠ c → H b = some o → H' b = some o
theorem SameBut.refl (c : Addr) (H : Hp) : SameBut c H H := fun _ _ _ e => e
theorem SameBut.trans {c : Addr} {H H1 H2 : Hp} (a : SameBut c H H1) (b : SameBut c H1 H2) : SameBut c H H2 := fun x o n e => b x o n (a x o n e)
theorem SameBut.of {c : Addr} {H H' : Hp} (s : Same H H') : SameBut c H H' := fun b o _ e => s b o e
theorem SameBut.to {c : Addr} {H H0 H' : Hp} (s : SameBut c H H') (h : Same H0 H) (hc : H0 c = none) : Same H0 H' := fun b o e => s b o (ne_of_none e hc) (h b o e)
def spCoil (K : PySem.W.Frag) : Sp := fun vs H Q _ => ∃ (a : Addr) (ns : List Int), vs = [.ref a] ∧ SqL K H a (ns.map V.int) ∧ ns.length ≤ 63 ∧
  ∀ (c d : Addr) (H' : Hp), H c = none → Same H H' → Coil H' c d (ns.take 60) 0 → Q (.ref c) H'
def spTurn : Sp := fun vs H Q _ => ∃ (c d : Addr) (ns : List Int) (m : Nat) (many : Int), vs = [.ref c, .int many] ∧ Coil H c d ns m ∧ m ≤ 100000 ∧ 0 < many ∧ many.natAbs < 2 ^ 9000 ∧
  ∀ (r : Int) (H' : Hp), 0 ≤ r → r < many → Coil H' c d ns (m + 1) → SameBut c H H' → Q (.int r) H'
section
variable {P : Program} {w : World} {K : PySem.W.Frag} {mg : Str → Option Value} {base : Heap} {f g g2 : Addr} {fd : FuncData}
theorem sc_coil : FnScope ["script", "cell"] ["script"] (defScope st__law_drum) := ⟨rfl, rfl, rfl, by decide +kernel, rfl, by decide +kernel, by decide +kernel⟩
theorem int_sel (ns : List Int) : (ns.map V.int).filterMap (fun x => match x with | .int n => some (V.int n) | _ => none) = ns.map V.int := by
  induction ns with
  | nil => rfl
  | cons n ns ih => simp only [List.map_cons, List.filterMap_cons, ih]
theorem ok_coil (F : Fun K "_law_drum" "_law_drum" st__law_drum f fd) (T : Nm mg) : FnOk P w K mg base CX0 1 f fd ["script"] (spCoil K) := by
  refine F.ok sc_coil (fun vs H Q E h => ?_) (fun cdv A outer s H vs Q E hr h => ?_)
  · obtain ⟨a, ns, rfl, _⟩ := h
    rfl
  · obtain ⟨a, ns, rfl, hS, hl, k⟩ := h
    refine ⟨_, (pss_one (ps_ret (pe_lst (pa_cons (pe_lc (own := [("cell", 1)]) (g := gName 1) (tt := tYes) rfl sc_coil.nd (pi_list (pe_slice sl_list (pv 0) po_none (po_some pe_int))) (blkOk_by (N := ["script", "cell"]) (sc := defScope st__law_drum) (by decide +kernel)) (fun _ _ _ _ _ => pg_name (i := 1) sc_coil.nd rfl (Or.inl rfl)) (fun _ _ _ _ _ => pts_nil) (fun _ _ _ _ _ => (pe_callTy call_int1 (by rfl) T.n_int (by decide +kernel) (pa_cons (pv 1) pa_nil)))) (pa_cons pe_int (pa_cons pe_int pa_nil)))))), ?_⟩
    have lt60' : (ns.take 60).length ≤ 60 := by rw [List.length_take]; omega
    have ec : cutV (ns.map V.int) none (some 60) = (ns.take 60).map V.int := by
      show ((ns.map V.int).drop 0).take (HT.sIx (ns.map V.int).length (ns.map V.int).length (some ((60 : Nat) : Int)) - 0) = _
      rw [HT.sIx_nat, List.drop_zero, List.map_take, List.length_map, Nat.sub_zero]
      by_cases h : 60 ≤ ns.length
      · rw [Nat.min_eq_left h]
      · rw [Nat.min_eq_right (by omega), List.take_of_length_le (by rw [List.length_map]; omega), List.take_of_length_le (by rw [List.length_map]; omega)]
    refine ⟨_, rfl, 60, rfl, a, _, rfl, hS, fun p hp => ⟨p, rfl, ⟨_, .of upd_same⟩, fun D hD => ?_⟩⟩
    rw [ec] at hD ⊢
    refine lcl (xs := (ns.take 60).map V.int) (fun x => match x with | .int n => some (V.int n) | _ => none) hD (.of upd_same) (by rw [List.length_map]; exact Nat.lt_of_le_of_lt lt60' (by decide)) (fun _ => rfl) ?_ ?_ ?_
    · intro x hx H2 _ R hR
      obtain ⟨n, _, rfl⟩ := List.mem_map.mp hx
      exact hR H2 (Same.refl H2)
    · intro x hx y hy H2 _ R hR
      obtain ⟨n, _, rfl⟩ := List.mem_map.mp hx
      cases hy
      exact ⟨_, rfl, .inl ⟨n, rfl, hR H2 (Same.refl H2)⟩⟩
    · rintro H2 ⟨h1, h2⟩
      rw [int_sel] at h1
      refine ⟨(by show 3 ≤ sizeLine; decide), fun c hc => ?_⟩
      have s0 : Same H H2 := (same_upd hp).trans h2
      have ncd : c ≠ D := fun e => by
        rw [e, h1] at hc
        cases hc
      refine k c D _ (s0.free hc) (s0.trans (same_upd hc)) ⟨by omega, ncd, ?_, 0, 0, upd_same, by decide, by decide, by decide⟩
      rw [upd_ne (Ne.symm ncd)]
      exact h1
theorem sc_turn : FnScope ["drum", "many", "left", "turn", "cell", "mixed"] ["drum", "many"] (defScope st__law_beat) := ⟨rfl, rfl, rfl, by decide +kernel, rfl, by decide +kernel, by decide +kernel⟩
theorem mod_rng {i j : Int} (h : 0 < j) : 0 ≤ i % j ∧ i % j < j := ⟨Int.emod_nonneg i (by omega), Int.emod_lt_of_pos i h⟩
theorem mix_bound {x a : Int} (h0 : 0 ≤ a) (h1 : a ≤ 100000) (hx0 : 0 ≤ x) (hx1 : x < 2147483563) : (x * (2 * a + 7019) + 63029 * a * a + 41047).natAbs < 2 ^ 64 := by
  have e1 : x * (2 * a + 7019) ≤ 2147483563 * 207019 := Int.mul_le_mul (by omega) (by omega) (by omega) (by omega)
  have e2 : 0 ≤ x * (2 * a + 7019) := Int.mul_nonneg hx0 (by omega)
  have e3 : 63029 * a * a ≤ 6302900000 * 100000 := Int.mul_le_mul (by omega) h1 h0 (by omega)
  have e4 : 0 ≤ 63029 * a * a := Int.mul_nonneg (by omega) h0
  generalize x * (2 * a + 7019) = y at e1 e2 ⊢
  generalize 63029 * a * a = z at e3 e4 ⊢
  omega
theorem ok_turn (F : Fun K "_law_beat" "_law_beat" st__law_beat f fd) (T : Nm mg) : FnOk P w K mg base CX0 1 f fd ["drum", "many"] spTurn := by
  refine F.ok sc_turn (fun vs H Q E h => ?_) (fun cdv A outer s H vs Q E hr h => ?_)
  · obtain ⟨c, d, ns, m, many, rfl, _⟩ := h
    rfl
  · obtain ⟨c, d, ns, m, many, rfl, ⟨hl, ncd, hd, a, b, hc, ha0, ha1, hb⟩, hm, hp, hw, k⟩ := h
    have hdiv : ∀ x : Int, CDivW x many := fun x => wide_div (b := 9000) hp hw (by decide) (by decide)
    have qdiv : ∀ x : Int, 0 ≤ x → 0 ≤ x / many := fun x hx => Int.ediv_nonneg hx (by omega)
    refine ⟨_, (pss_cons (ps_if (pt_cmpR op_gt (pe_ix ix_list (pv 0) pe_int (fun _ _ => rfl)) pe_int (nomark _)) (pss_cons (ps_set (i := 2) sc_turn.nd rfl (Or.inl rfl) (pe_callTy call_int1 (by rfl) T.n_int (by decide +kernel) (pa_cons (pe_ix ix_list (pv 0) pe_int (fun _ _ => rfl)) pa_nil)))
    (pss_cons (ps_asg (pe_op op_fdivW (pv 2) (pv 1)) (pg_sub (pv 0) pe_int set_list))
    (pss_one (ps_ret (pe_op op_mod (pe_callTy call_int1 (by rfl) T.n_int (by decide +kernel) (pa_cons (pv 2) pa_nil)) (pv 1)))))) pss_nil)
    (pss_cons (ps_set (i := 3) sc_turn.nd rfl (Or.inl rfl) (pe_ix ix_list (pv 0) pe_int (fun _ _ => rfl)))
    (pss_cons (ps_asg (pe_op op_add (pv 3) pe_int) (pg_sub (pv 0) pe_int set_list))
    (pss_cons (ps_set (i := 4) sc_turn.nd rfl (Or.inl rfl) (pe_op op_add (pe_op op_mul pe_int (pv 3)) pe_int))
    (pss_cons (ps_if (pt_cmpR (op_neD hr.units) (pe_ix ix_list (pv 0) pe_int (fun _ _ => rfl)) (pe_lst pa_nil) (nomark _)) (pss_one (ps_set (i := 4) sc_turn.nd rfl (Or.inl rfl) (pe_ix ix_list (pe_ix ix_list (pv 0) pe_int (fun _ _ => rfl)) (pe_op op_mod (pe_callTy call_int1 (by rfl) T.n_int (by decide +kernel) (pa_cons (pv 3) pa_nil)) (pe_callB call_len_seq (by rfl) T.n_len (by decide +kernel) (pa_cons (pe_ix ix_list (pv 0) pe_int (fun _ _ => rfl)) pa_nil))) (fun _ _ => rfl)))) pss_nil)
    (pss_cons (ps_if (PW.pt (pw_and (pt_cmpR op_lt (pv 3) (pe_callB call_len_seq (by rfl) T.n_len (by decide +kernel) (pa_cons (pe_ix ix_list (pv 0) pe_int (fun _ _ => rfl)) pa_nil)) (nomark _)) (pw_and1 (pt_cmpR op_ge (pe_callB call_abs (by rfl) T.n_abs (by decide +kernel) (pa_cons (pv 4) pa_nil)) (pe_op op_pow pe_int pe_int) (nomark _))))) (pss_cons (ps_set (i := 2) sc_turn.nd rfl (Or.inl rfl) (pe_op op_add (pe_op op_mul pe_int (pe_op op_sub (pe_callB call_abs (by rfl) T.n_abs (by decide +kernel) (pa_cons (pv 4) pa_nil)) (pe_op op_pow pe_int pe_int))) (pe_callTy call_int1 (by rfl) T.n_int (by decide +kernel) (pa_cons (pe_cmpR op_lt (pv 4) pe_int (nomark _)) pa_nil))))
    (pss_cons (ps_asg (pe_op op_fdivW (pv 2) (pv 1)) (pg_sub (pv 0) pe_int set_list))
    (pss_one (ps_ret (pe_op op_mod (pe_callTy call_int1 (by rfl) T.n_int (by decide +kernel) (pa_cons (pv 2) pa_nil)) (pv 1)))))) pss_nil)
    (pss_cons (ps_set (i := 5) sc_turn.nd rfl (Or.inl rfl) (pe_op op_mod (pe_callTy call_int1 (by rfl) T.n_int (by decide +kernel) (pa_cons (pe_op op_pow (pe_op op_add (pe_op op_add (pe_op op_mod (pe_callTy call_int1 (by rfl) T.n_int (by decide +kernel) (pa_cons (pv 4) pa_nil)) pe_int) (pe_op op_mul pe_int (pv 3))) pe_int) pe_int) pa_nil)) pe_int))
    (pss_cons (ps_set (i := 5) sc_turn.nd rfl (Or.inl rfl) (pe_op op_mod (pe_callTy call_int1 (by rfl) T.n_int (by decide +kernel) (pa_cons (pe_op op_pow (pe_op op_add (pe_op op_add (pe_op op_mul (pv 5) (pe_op op_add (pe_op op_mul pe_int (pv 3)) pe_int)) (pe_op op_mul (pe_op op_mul pe_int (pv 3)) (pv 3))) pe_int) pe_int) pa_nil)) pe_int))
    (pss_one (ps_ret (pe_op op_mod (pe_callTy call_int1 (by rfl) T.n_int (by decide +kernel) (pa_cons (pe_op op_fdivW (pv 5) pe_int) pa_nil)) (pv 1)))))))))))), ?_⟩
    -- coil[2] > 0
    refine ⟨_, rfl, c, _, 2, _, rfl, rfl, .of hc, atI_nat (j := 2) rfl, ⟨b, 0, rfl, rfl, _, rfl, ?_⟩⟩
    by_cases cb : 0 < b
    · rw [decide_eq_true cb]
      refine iteT ⟨_, rfl, c, _, 2, _, rfl, rfl, .of hc, atI_nat (j := 2) rfl, (.inl ⟨b, rfl, ?_⟩)⟩
      refine ⟨_, rfl, _, rfl, b, many, rfl, rfl, hdiv b, _, rfl, c, _, 2, 2, rfl, rfl, hc, rfl, ?_⟩
      refine ⟨_, rfl, .inl ⟨b, rfl, _, rfl, b, many, rfl, rfl, hp, ?_⟩⟩
      refine k _ _ (mod_rng hp).1 (mod_rng hp).2 ⟨hl, ncd, (by rw [upd_ne (Ne.symm ncd)]; exact hd), a, b / many, upd_same, ha0, by omega, qdiv b (by omega)⟩ fun x o n e => ?_
      rw [upd_ne n]
      exact e
    · rw [decide_eq_false cb]
      have eb : b = 0 := by omega
      subst eb
      -- at = coil[1]; coil[1] = at + 1; cell = ..
      refine iteF ⟨_, rfl, c, _, 1, _, rfl, rfl, .of hc, atI_nat (j := 1) rfl, ?_⟩
      refine ⟨_, rfl, a, 1, rfl, rfl, _, rfl, c, _, 1, 1, rfl, rfl, hc, rfl, ?_⟩
      refine ⟨_, rfl, 63029, a, rfl, rfl, .inl ⟨by decide, by decide⟩, _, 7019, rfl, rfl, ?_⟩
      have hd1 : upd H c (.lst [.ref d, .int (a + 1), .int 0]) d = some (.lst (ns.map V.int)) := by
        rw [upd_ne (Ne.symm ncd)]
        exact hd
      -- what comes behind the choice of the cell
      have tail : ∀ (x : Int) (H2 : Hp), H2 c = some (.lst [.ref d, .int (a + 1), .int 0]) → H2 d = some (.lst (ns.map V.int)) → SameBut c H H2 →
          (tSeq (tIfS (tAnd (tTest (tOp (rI0 fun i j => .bl (decide (i < j))) (tVar 3) (tCB (fun xs H Q => ∃ p ys, xs = [.ref p] ∧ (SqL K H p ys ∨ SqT K H p ys) ∧ Q (.int ys.length) H) (tCons (tOp (rIxL K) (tVar 0) (tC (.int 0))) tNil))))
              (tTest (tOp (rI0 fun i j => .bl (decide (j ≤ i))) (tCB (fun xs H Q => ∃ i, xs = [.int i] ∧ Q (.int (if i < 0 then -i else i)) H) (tCons (tVar 4) tNil)) (tOp (rI CPow fun i j => .int (i ^ j.toNat)) (tC (.int 10)) (tC (.int 18))))))
            (tSeq (tAsg (tOp (rI0 fun i j => .int (i + j)) (tOp (rI CMul fun i j => .int (i * j)) (tC (.int 2)) (tOp (rI0 fun i j => .int (i - j)) (tCB (fun xs H Q => ∃ i, xs = [.int i] ∧ Q (.int (if i < 0 then -i else i)) H) (tCons (tVar 4) tNil)) (tOp (rI CPow fun i j => .int (i ^ j.toNat)) (tC (.int 10)) (tC (.int 18)))))
                (tCB (fun xs H Q => (∃ i, xs = [.int i] ∧ Q (.int i) H) ∨ ∃ k, xs = [.bl k] ∧ Q (.int (if k then 1 else 0)) H) (tCons (tOp (rI0 fun i j => .bl (decide (i < j))) (tVar 4) (tC (.int 0))) tNil))) (gName 2))
              (tSeq (tAsg (tOp (rI CDivW fun i j => .int (i / j)) (tVar 2) (tVar 1)) (gSub (tVar 0) (tC (.int 2)) rSetL))
                (tRet (tOp (rI (fun _ j => 0 < j) fun i j => .int (i % j)) (tCB (fun xs H Q => (∃ i, xs = [.int i] ∧ Q (.int i) H) ∨ ∃ k, xs = [.bl k] ∧ Q (.int (if k then 1 else 0)) H) (tCons (tVar 2) tNil)) (tVar 1))))) tNext)
          (tSeq (tAsg (tOp (rI (fun _ j => 0 < j) fun i j => .int (i % j)) (tCB (fun xs H Q => (∃ i, xs = [.int i] ∧ Q (.int i) H) ∨ ∃ k, xs = [.bl k] ∧ Q (.int (if k then 1 else 0)) H) (tCons (tOp (rI CPow fun i j => .int (i ^ j.toNat)) (tOp (rI0 fun i j => .int (i + j)) (tOp (rI0 fun i j => .int (i + j)) (tOp (rI (fun _ j => 0 < j) fun i j => .int (i % j)) (tCB (fun xs H Q => (∃ i, xs = [.int i] ∧ Q (.int i) H) ∨ ∃ k, xs = [.bl k] ∧ Q (.int (if k then 1 else 0)) H) (tCons (tVar 4) tNil)) (tC (.int 2147483497))) (tOp (rI CMul fun i j => .int (i * j)) (tC (.int 41047)) (tVar 3))) (tC (.int 7019))) (tC (.int 5))) tNil)) (tC (.int 2147483563))) (gName 5))
          (tSeq (tAsg (tOp (rI (fun _ j => 0 < j) fun i j => .int (i % j)) (tCB (fun xs H Q => (∃ i, xs = [.int i] ∧ Q (.int i) H) ∨ ∃ k, xs = [.bl k] ∧ Q (.int (if k then 1 else 0)) H) (tCons (tOp (rI CPow fun i j => .int (i ^ j.toNat)) (tOp (rI0 fun i j => .int (i + j)) (tOp (rI0 fun i j => .int (i + j)) (tOp (rI CMul fun i j => .int (i * j)) (tVar 5) (tOp (rI0 fun i j => .int (i + j)) (tOp (rI CMul fun i j => .int (i * j)) (tC (.int 2)) (tVar 3)) (tC (.int 7019)))) (tOp (rI CMul fun i j => .int (i * j)) (tOp (rI CMul fun i j => .int (i * j)) (tC (.int 63029)) (tVar 3)) (tVar 3))) (tC (.int 41047))) (tC (.int 3))) tNil)) (tC (.int 2147483543))) (gName 5))
            (tRet (tOp (rI (fun _ j => 0 < j) fun i j => .int (i % j)) (tCB (fun xs H Q => (∃ i, xs = [.int i] ∧ Q (.int i) H) ∨ ∃ k, xs = [.bl k] ∧ Q (.int (if k then 1 else 0)) H) (tCons (tOp (rI CDivW fun i j => .int (i / j)) (tVar 5) (tC (.int 32))) tNil)) (tVar 1))))))
          { nx := fun _ H' => Q .non H', rt := Q } [some (.ref c), some (.int many), none, some (.int a), some (.int x), none] H2 := by
        intro x H2 hc2 hd2 sb
        have mixed : (tSeq (tAsg (tOp (rI (fun _ j => 0 < j) fun i j => .int (i % j)) (tCB (fun xs H Q => (∃ i, xs = [.int i] ∧ Q (.int i) H) ∨ ∃ k, xs = [.bl k] ∧ Q (.int (if k then 1 else 0)) H) (tCons (tOp (rI CPow fun i j => .int (i ^ j.toNat)) (tOp (rI0 fun i j => .int (i + j)) (tOp (rI0 fun i j => .int (i + j)) (tOp (rI (fun _ j => 0 < j) fun i j => .int (i % j)) (tCB (fun xs H Q => (∃ i, xs = [.int i] ∧ Q (.int i) H) ∨ ∃ k, xs = [.bl k] ∧ Q (.int (if k then 1 else 0)) H) (tCons (tVar 4) tNil)) (tC (.int 2147483497))) (tOp (rI CMul fun i j => .int (i * j)) (tC (.int 41047)) (tVar 3))) (tC (.int 7019))) (tC (.int 5))) tNil)) (tC (.int 2147483563))) (gName 5))
          (tSeq (tAsg (tOp (rI (fun _ j => 0 < j) fun i j => .int (i % j)) (tCB (fun xs H Q => (∃ i, xs = [.int i] ∧ Q (.int i) H) ∨ ∃ k, xs = [.bl k] ∧ Q (.int (if k then 1 else 0)) H) (tCons (tOp (rI CPow fun i j => .int (i ^ j.toNat)) (tOp (rI0 fun i j => .int (i + j)) (tOp (rI0 fun i j => .int (i + j)) (tOp (rI CMul fun i j => .int (i * j)) (tVar 5) (tOp (rI0 fun i j => .int (i + j)) (tOp (rI CMul fun i j => .int (i * j)) (tC (.int 2)) (tVar 3)) (tC (.int 7019)))) (tOp (rI CMul fun i j => .int (i * j)) (tOp (rI CMul fun i j => .int (i * j)) (tC (.int 63029)) (tVar 3)) (tVar 3))) (tC (.int 41047))) (tC (.int 3))) tNil)) (tC (.int 2147483543))) (gName 5))
            (tRet (tOp (rI (fun _ j => 0 < j) fun i j => .int (i % j)) (tCB (fun xs H Q => (∃ i, xs = [.int i] ∧ Q (.int i) H) ∨ ∃ k, xs = [.bl k] ∧ Q (.int (if k then 1 else 0)) H) (tCons (tOp (rI CDivW fun i j => .int (i / j)) (tVar 5) (tC (.int 32))) tNil)) (tVar 1)))))
          { nx := fun _ H' => Q .non H', rt := Q } [some (.ref c), some (.int many), none, some (.int a), some (.int x), none] H2 := by
          have b1 := mod_rng (i := x) (j := 2147483497) (by decide)
          refine ⟨_, rfl, .inl ⟨x, rfl, x, 2147483497, rfl, rfl, (by show (0 : Int) < 2147483497; decide), ?_⟩⟩
          refine ⟨_, rfl, 41047, a, rfl, rfl, .inl ⟨by decide, by decide⟩, _, _, rfl, rfl, _, 7019, rfl, rfl, _, 5, rfl, rfl, ⟨by decide, by decide, ?_⟩, .inl ⟨_, rfl, _, 2147483563, rfl, rfl, (by show (0 : Int) < 2147483563; decide), ?_⟩⟩
          · generalize x % 2147483497 = z at b1 ⊢
            omega
          · dsimp only
            generalize ((x % 2147483497 + 41047 * a + 7019) ^ (5 : Int).toNat) = y
            have b2 := mod_rng (i := y) (j := 2147483563) (by decide)
            generalize y % 2147483563 = z at b2 ⊢
            refine ⟨_, rfl, _, rfl, 2, a, rfl, rfl, .inl ⟨by decide, by decide⟩, _, 7019, rfl, rfl, z, _, rfl, rfl, .inl ⟨by omega, by omega⟩, ?_⟩
            refine ⟨_, rfl, 63029, a, rfl, rfl, .inl ⟨by decide, by decide⟩, _, rfl, _, a, rfl, rfl, .inr ⟨by omega, by omega⟩, _, _, rfl, rfl, _, 41047, rfl, rfl, _, 3, rfl, rfl, ⟨by decide, by decide, ?_⟩, .inl ⟨_, rfl, _, 2147483543, rfl, rfl, (by show (0 : Int) < 2147483543; decide), ?_⟩⟩
            · exact mix_bound ha0 (by omega) b2.1 b2.2
            · dsimp only
              generalize ((z * (2 * a + 7019) + 63029 * a * a + 41047) ^ (3 : Int).toNat) = y2
              refine ⟨_, rfl, _, 32, rfl, rfl, wide_div (b := 10) (by decide) (by decide) (by decide) (by decide), .inl ⟨_, rfl, _, rfl, _, many, rfl, rfl, hp, ?_⟩⟩
              exact k _ _ (mod_rng hp).1 (mod_rng hp).2 ⟨hl, ncd, hd2, a + 1, 0, hc2, by omega, by omega, by decide⟩ sb
        refine ⟨_, rfl, _, rfl, c, _, 0, _, rfl, rfl, .of hc2, atI_nat (j := 0) rfl, ⟨d, ns.map V.int, rfl, .inl (.of hd2), a, _, rfl, rfl, _, rfl, ?_⟩⟩
        by_cases c1 : a < ((ns.map V.int).length : Nat)
        · rw [decide_eq_true c1]
          refine iteT ⟨_, rfl, x, rfl, 10, 18, rfl, rfl, ⟨by decide, by decide, by decide⟩, _, _, rfl, rfl, _, rfl, ?_⟩
          generalize hP : (10 : Int) ^ (18 : Int).toNat = P
          by_cases c2 : P ≤ (if x < 0 then -x else x)
          · rw [decide_eq_true c2]
            refine iteT ⟨_, rfl, x, rfl, 10, 18, rfl, rfl, ⟨by decide, by decide, by decide⟩, _, _, rfl, rfl, 2, _, rfl, rfl, .inl ⟨by decide, by decide⟩, ?_⟩
            rw [hP]
            refine ⟨_, rfl, x, 0, rfl, rfl, .inr ⟨_, rfl, _, _, rfl, rfl, ?_⟩⟩
            dsimp only
            generalize hz : 2 * ((if x < 0 then -x else x) - P) + (if (decide (x < 0)) = true then 1 else 0) = z
            have hz0 : 0 ≤ z := by
              rw [← hz]
              split <;> omega
            refine ⟨_, rfl, _, rfl, z, many, rfl, rfl, hdiv z, _, rfl, c, _, 2, 2, rfl, rfl, hc2, rfl, ?_⟩
            refine ⟨_, rfl, .inl ⟨z, rfl, _, rfl, z, many, rfl, rfl, hp, ?_⟩⟩
            refine k _ _ (mod_rng hp).1 (mod_rng hp).2 ⟨hl, ncd, (by rw [upd_ne (Ne.symm ncd)]; exact hd2), a + 1, z / many, upd_same, by omega, by omega, qdiv z hz0⟩ fun y o n e => ?_
            rw [upd_ne n]
            exact sb y o n e
          · rw [decide_eq_false c2]
            exact iteF mixed
        · rw [decide_eq_false c1]
          exact iteF mixed
      have sb1 : SameBut c H (upd H c (.lst [.ref d, .int (a + 1), .int 0])) := fun y o n e => by
        rw [upd_ne n]
        exact e
      refine ⟨_, rfl, c, _, 0, _, rfl, rfl, .of (upd_same), atI_nat (j := 0) rfl, ⟨(by show 0 ≤ sizeLine; decide), fun p hp2 => ?_⟩⟩
      have hp2 : (upd H c (.lst [.ref d, .int (a + 1), .int 0])) p = none := hp2
      have npc : p ≠ c := fun e => by
        rw [e, upd_same] at hp2
        cases hp2
      have npd : p ≠ d := fun e => by
        rw [e, hd1] at hp2
        cases hp2
      have hc3 : (upd (upd H c (.lst [.ref d, .int (a + 1), .int 0])) p (.lst [])) c = some (.lst [.ref d, .int (a + 1), .int 0]) := by
        rw [upd_ne (Ne.symm npc), upd_same]
      have hd3 : (upd (upd H c (.lst [.ref d, .int (a + 1), .int 0])) p (.lst [])) d = some (.lst (ns.map V.int)) := by
        rw [upd_ne (Ne.symm npd)]
        exact hd1
      have sb3 : SameBut c H (upd (upd H c (.lst [.ref d, .int (a + 1), .int 0])) p (.lst [])) := fun y o n e => by
        have e1 := sb1 y o n e
        rw [upd_ne (ne_of_none e1 hp2)]
        exact e1
      refine ⟨.list ((ns.map V.int).map toD), .list [], dpL (.of hd3) (flat_ints ns), dpNil (.of upd_same), shapedL (flat_ints ns), shapedNil, _, rfl, ?_⟩
      rw [eqvNil]
      cases hns : (ns.map V.int).isEmpty with
      | true => exact iteF (tail _ _ hc3 hd3 sb3)
      | false =>
        refine iteT ?_
        have hlen : 0 < ns.length := by
          cases ns with
          | nil => cases hns
          | cons n1 nr => exact Nat.succ_pos _
        refine ⟨_, rfl, c, _, 0, _, rfl, rfl, .of hc3, atI_nat (j := 0) rfl, _, rfl, .inl ⟨a, rfl, _, rfl, c, _, 0, _, rfl, rfl, .of hc3, atI_nat (j := 0) rfl, d, ns.map V.int, rfl, .inl (.of hd3), a, _, rfl, rfl, ?_, ?_⟩⟩
        · rw [List.length_map]
          show (0 : Int) < (ns.length : Int)
          omega
        · have hb2 := mod_rng (i := a) (j := ((ns.map V.int).length : Nat)) (by rw [List.length_map]; omega)
          rw [List.length_map] at hb2 ⊢
          dsimp only
          generalize hz : a % (ns.length : Int) = z at hb2 ⊢
          obtain ⟨j, rfl⟩ : ∃ j : Nat, z = (j : Int) := ⟨z.toNat, by omega⟩
          have hj : j < ns.length := by omega
          refine ⟨d, ns.map V.int, _, .int ns[j], rfl, rfl, .of hd3, atI_nat (by simp [hj]), ?_⟩
          exact tail _ _ hc3 hd3 sb3
end
end K0


set_option Elab.async false
set_option linter.all false
set_option maxRecDepth 100000
set_option maxHeartbeats 4000000
set_option exponentiation.threshold 100000
namespace K0
open PySem PySem.Spec PyProof.Rows L2 RZ K0z

theorem Coil.but {H H' : Hp} {c d : Addr} {ns : List Int} {m : Nat} (h : Coil H c d ns m) (s : Same H H') : Coil H' c d ns m := by
  obtain ⟨h1, h2, h3, a, b, h4, r⟩ := h
  exact ⟨h1, h2, s _ _ h3, a, b, s _ _ h4, r⟩
theorem Coil.ne {H : Hp} {c d : Addr} {ns : List Int} {m : Nat} (h : Coil H c d ns m) {p : Addr} (hp : H p = none) : p ≠ c ∧ p ≠ d := by
  obtain ⟨h1, h2, h3, a, b, h4, r⟩ := h
  exact ⟨fun e => (by rw [e, h4] at hp; cases hp), fun e => (by rw [e, h3] at hp; cases hp)⟩
theorem Coil.upd {H : Hp} {p c d : Addr} {o : HO} {ns : List Int} {m : Nat} (h : Coil H c d ns m) (hc : p ≠ c) (hd : p ≠ d) : Coil (upd H p o) c d ns m := by
  obtain ⟨h1, h2, h3, a, b, h4, r⟩ := h
  exact ⟨h1, h2, by rw [upd_ne (Ne.symm hd)]; exact h3, a, b, by rw [upd_ne (Ne.symm hc)]; exact h4, r⟩
theorem Coil.more {H : Hp} {c d : Addr} {ns : List Int} {m m' : Nat} (h : Coil H c d ns m) (l : m ≤ m') : Coil H c d ns m' := by
  obtain ⟨h1, h2, h3, a, b, h4, h5, h6, h7⟩ := h
  exact ⟨h1, h2, h3, a, b, h4, h5, by omega, h7⟩
theorem SameBut.off {c : Addr} {H H' : Hp} (s : SameBut c H H') : Same (Off c H) (Off c H') := same_off s
theorem SameBut.up {c : Addr} {H H' : Hp} (s : SameBut c H H') : Same (Off c H) H' := s.off.trans (off_same c H')
theorem sameBut_of {c : Addr} {H H' : Hp} (s : Same (Off c H) H') : SameBut c H H' := fun b o n e => s b o (by rw [off_ne n]; exact e)
theorem new_but {c : Addr} {H : Hp} {p : Addr} {o : HO} (hp : H p = none) : SameBut c H (upd H p o) := SameBut.of (same_upd hp)
section
variable {P : Program} {w : World} {K : PySem.W.Frag} {mg : Str → Option Value} {base : Heap} {f g g2 g3 : Addr} {fd : FuncData}
def spOne (K : PySem.W.Frag) : Sp := fun vs H Q _ => ∃ (c d : Addr) (ns : List Int) (m : Nat) (b : Bool) (a : Addr) (xs : List V), vs = [.ref c, .ref a] ∧ Coil H c d ns m ∧ m ≤ 100000 ∧ SqB K b (Off c H) a xs ∧ 0 < xs.length ∧ xs.length ≤ 100000 ∧
  ∀ (i : Nat) (y : V) (H' : Hp), xs[i]? = some y → Coil H' c d ns (m + 1) → SameBut c H H' → Q y H'
theorem sc_one_of : FnScope ["drum", "some"] ["drum", "some"] (defScope st__law_choose) := ⟨rfl, rfl, rfl, by decide +kernel, rfl, by decide +kernel, by decide +kernel⟩
theorem natAbs_small {n k : Nat} (h : n ≤ 100000) : ((n : Nat) : Int).natAbs < 2 ^ 9000 := by
  have : (100000 : Nat) < 2 ^ 9000 := Nat.lt_of_lt_of_le (by decide : 100000 < 2 ^ 17) (Nat.pow_le_pow_right (by decide) (by decide))
  omega
theorem small9000 {n : Int} (h : n.natAbs < 2 ^ 200) : n.natAbs < 2 ^ 9000 := Nat.lt_of_lt_of_le h (Nat.pow_le_pow_right (by decide) (by decide))
theorem ok_one_of (F : Fun K "_law_choose" "_law_choose" st__law_choose f fd) (T : Nm mg) (D__law_beat : Dn P w K mg base 1 "_law_beat" g ["drum", "many"] spTurn) : FnOk P w K mg base CX0 2 f fd ["drum", "some"] (spOne K) := by
  refine F.ok sc_one_of (fun vs H Q E h => ?_) (fun cdv A outer s H vs Q E hr h => ?_)
  · obtain ⟨c, d, ns, m, b, a, xs, rfl, _⟩ := h
    rfl
  · obtain ⟨c, d, ns, m, b, a, xs, rfl, hC, hm, hx, h0, h1, k⟩ := h
    refine ⟨_, (pss_one (ps_ret (pe_ix (ix_K K) (pv 1) (pe_dn D__law_beat (hr.mono (by decide)) rfl (pa_cons (pv 0) (pa_cons (pe_callB (call_lenK K) (by rfl) T.n_len (by decide +kernel) (pa_cons (pv 1) pa_nil)) pa_nil))) (fun _ _ => rfl)))), ?_⟩
    refine ⟨_, rfl, _, rfl, _, rfl, b, a, xs, rfl, hx.same (off_same c H), c, d, ns, m, (xs.length : Nat), rfl, hC, hm, by omega, natAbs_small (k := 0) h1, fun r H1 r0 r1 hC1 sb => ?_⟩
    obtain ⟨j, rfl⟩ : ∃ j : Nat, r = (j : Int) := ⟨r.toNat, by omega⟩
    have hj : j < xs.length := by omega
    have e := List.getElem?_eq_getElem hj
    exact ⟨b, a, xs, _, _, rfl, rfl, hx.same sb.up, atI_nat e, k j _ H1 e hC1 sb⟩
/-! ### stirred -/
theorem perm_erase {α : Type} : ∀ (l : List α) (j : Nat) (h : j < l.length), ([l[j]] ++ l.eraseIdx j).Perm l
  | a :: l, 0, _ => List.Perm.refl _
  | a :: l, j + 1, h => by
    have hj : j < l.length := by simpa using h
    have ih := perm_erase l j hj
    show (l[j] :: a :: l.eraseIdx j).Perm (a :: l)
    exact (List.Perm.swap a l[j] _).trans (List.Perm.cons a ih)

def spStir (K : PySem.W.Frag) : Sp := fun vs H Q _ => ∃ (c d : Addr) (ns : List Int) (m : Nat) (b : Bool) (a : Addr) (xs : List V), vs = [.ref c, .ref a] ∧ Coil H c d ns m ∧ m + 100 ≤ 100000 ∧ SqB K b (Off c H) a xs ∧ xs.length ≤ 60 ∧
  ∀ (p : Addr) (ys : List V) (H' : Hp), ys.Perm xs → H p = none → p ≠ c → p ≠ d → H' p = some (.lst ys) → Coil H' c d ns (m + xs.length) → SameBut c H H' → Q (.ref p) H'
theorem sc_stirred : FnScope ["drum", "some", "left", "found"] ["drum", "some"] (defScope st__law_stirred) := ⟨rfl, rfl, rfl, by decide +kernel, rfl, by decide +kernel, by decide +kernel⟩
theorem ok_stirred (F : Fun K "_law_stirred" "_law_stirred" st__law_stirred f fd) (T : Nm mg) (D__law_beat : Dn P w K mg base 1 "_law_beat" g ["drum", "many"] spTurn) : FnOk P w K mg base CX0 2 f fd ["drum", "some"] (spStir K) := by
  refine F.ok sc_stirred (fun vs H Q E h => ?_) (fun cdv A outer s H vs Q E hr h => ?_)
  · obtain ⟨c, d, ns, m, b, a, xs, rfl, _⟩ := h
    rfl
  · obtain ⟨c, d, ns, m, b, a, xs, rfl, hC, hm, hx, hz, k⟩ := h
    refine ⟨_, (pss_cons (ps_par (i := 2) (j := 3) (by rfl) sc_stirred.nd rfl rfl (by decide) rfl rfl (pa_cons (pe_callTy (call_listK K) (by rfl) T.n_list (by decide +kernel) (pa_cons (pv 1) pa_nil)) (pa_cons (pe_lst pa_nil) pa_nil)) (by rfl))
    (pss_cons (ps_while PassesOwn.never (pt_cmpR (op_neNil K hr.units) (pv 2) (pe_lst pa_nil) (nomark _)) (pss_one (ps_expr (pe_bm PySem.F.plainAttrs_list PySem.F.slot_list_append PySem.F.type_list_append mt_append (pv 3) (pa_cons (pe_bm PySem.F.plainAttrs_list PySem.F.slot_list_pop PySem.F.type_list_pop mt_popAt (pv 2) (pa_cons (pe_dn D__law_beat (hr.mono (by decide)) rfl (pa_cons (pv 0) (pa_cons (pe_callB (call_lenK K) (by rfl) T.n_len (by decide +kernel) (pa_cons (pv 2) pa_nil)) pa_nil))) pa_nil)) pa_nil)))))
    (pss_one (ps_ret (pv 3))))), ?_⟩
    refine ⟨_, rfl, b, a, xs, rfl, hx.same (off_same c H), fun L hL => ⟨(by show 0 ≤ sizeLine; decide), fun Fd hF => ⟨_, _, rfl, ?_⟩⟩⟩
    have nLF : L ≠ Fd := fun e => by rw [← e, upd_same] at hF; cases hF
    obtain ⟨nLc, nLd⟩ := hC.ne hL
    have hC1 := hC.upd (o := .lst xs) nLc nLd
    obtain ⟨nFc, nFd⟩ := hC1.ne hF
    have hC2 := hC1.upd (o := .lst []) nFc nFd
    have hFH : H Fd = none := by rw [upd_ne (Ne.symm nLF)] at hF; exact hF
    refine while_by (fun σ H2 => σ = [some (.ref c), some (.ref a), some (.ref L), some (.ref Fd)] ∧ ∃ ls fs : List V, H2 L = some (.lst ls) ∧ H2 Fd = some (.lst fs) ∧ (fs ++ ls).Perm xs ∧ Coil H2 c d ns (m + fs.length) ∧ SameBut c H H2)
      (fun σ H2 => match H2 L with | some (.lst l) => l.length | _ => 0) ⟨rfl, xs, [], ?_, upd_same, by simp, hC2, ?_⟩ ?_ ?_
    · rw [upd_ne nLF, upd_same]
    · exact (new_but hL).trans (new_but hF)
    · rintro σ H2 ⟨rfl, ls, fs, h1, h2, hp, hC3, sb⟩
      refine ⟨_, rfl, (by show 0 ≤ sizeLine; decide), fun p hpn => ⟨L, p, ls, rfl, rfl, .of ?_, .of upd_same, _, rfl, ?_⟩⟩
      · rw [upd_ne (ne_of_none h1 hpn)]; exact h1
      have s2 : Same H2 (upd H2 p (.lst [])) := same_upd hpn
      have lp : fs.length + ls.length = xs.length := by rw [← List.length_append]; exact hp.length_eq
      cases ls with
      | nil =>
        refine iteF ⟨_, rfl, ?_⟩
        rw [List.append_nil] at hp
        have hf : fs.length = xs.length := hp.length_eq
        rw [hf] at hC3
        exact k Fd fs _ hp hFH nFc nFd (s2 _ _ h2) (hC3.but s2) (sb.trans (SameBut.of s2))
      | cons l0 lr =>
        refine iteT ?_
        have hlen : (l0 :: lr).length = lr.length + 1 := rfl
        refine ⟨.ref Fd, rfl, .inl ⟨rfl, _, .of (s2 _ _ h2)⟩, .ref L, rfl, .inl ⟨rfl, _, .of (s2 _ _ h1)⟩, _, rfl, _, rfl, false, L, _, rfl, .of (s2 _ _ h1), c, d, ns, _, _, rfl, hC3.but s2, by omega, by rw [hlen]; omega, natAbs_small (k := 0) (by omega), fun r H3 r0 r1 hC4 sb4 => ?_⟩
        obtain ⟨j, rfl⟩ : ∃ j : Nat, r = (j : Int) := ⟨r.toNat, by omega⟩
        have hj : j < (l0 :: lr).length := by omega
        have e := List.getElem?_eq_getElem hj
        have h31 := sb4 _ _ nLc (s2 _ _ h1)
        have h32 := sb4 _ _ nFc (s2 _ _ h2)
        refine ⟨L, l0 :: lr, (j : Nat), j, _, rfl, rfl, h31, by omega, by omega, PySem.seqIndex_of (by omega) (by omega), e, ?_⟩
        refine ⟨Fd, fs, _, rfl, rfl, by rw [upd_ne (Ne.symm nLF)]; exact h32, Nat.lt_of_le_of_lt (by omega : fs.length ≤ 60) (by decide), ?_⟩
        have nl : ((l0 :: lr).eraseIdx j).length = lr.length := by rw [List.length_eraseIdx_of_lt hj]; rfl
        refine ⟨⟨rfl, (l0 :: lr).eraseIdx j, fs ++ [(l0 :: lr)[j]], ?_, upd_same, ?_, ?_, ?_⟩, ?_⟩
        · rw [upd_ne nLF, upd_same]
        · refine List.Perm.trans ?_ hp
          rw [List.append_assoc]
          refine List.Perm.append_left fs ?_
          exact perm_erase _ j hj
        · rw [List.length_append]
          exact (hC4.upd nLc nLd).upd nFc nFd
        · intro x o n e
          rw [upd_ne (ne_of_none e hFH), upd_ne (ne_of_none e hL)]
          exact sb4 x o n (s2 x o (sb x o n e))
        · have e1 : upd (upd H3 L (.lst ((l0 :: lr).eraseIdx j))) Fd (.lst (fs ++ [(l0 :: lr)[j]])) L = some (.lst ((l0 :: lr).eraseIdx j)) := by rw [upd_ne nLF, upd_same]
          rw [e1, h1]
          show ((l0 :: lr).eraseIdx j).length < (l0 :: lr).length
          rw [nl]
          exact Nat.lt_succ_self _
    · rintro σ H2 Q1 Q2 hh ⟨v, e1, h1, z⟩
      refine ⟨v, e1, h1, fun p hp => ?_⟩
      obtain ⟨a1, b1, xs1, q1, q2, q3, q4, kk, q5, q6⟩ := z p hp
      exact ⟨a1, b1, xs1, q1, q2, q3, q4, kk, q5, hh _ _ q6⟩
end
end K0


set_option Elab.async false
set_option linter.all false
set_option maxRecDepth 100000
set_option maxHeartbeats 4000000
namespace K0
open PySem PySem.Spec PyProof.Rows L2 RZ K0z

/-! ### sorted of a list or a tuple -/
section
variable {prog : Program} {w : World} {A : Around} {E : Value → Shared → Prop} {s : Shared}
theorem collect_tup {l : Addr} {vs : List Value} {Q : List Value → Shared → Prop} (hl : s.heap.IsTuple l vs.toArray)
    (h : Q vs { s with heap := (s.heap.push (seqObj "list" #[] 0)).update s.heap.objs.size (Obj.mapSeq (· ++ vs.toArray)) }) (hsz : vs.length ≤ sizeLine) :
    wpAny (model prog w) A (collect (.ref l)) Q E s := by
  obtain ⟨o, ho, hc, n, hd⟩ := id hl
  unfold collect
  refine wpAny_bind (wpAny_runValue (codeAny_builtin entry_proto_collect' ?_))
  show wpAny _ _ (do again (.builtin "list.__iadd__" ⟨[← newList [], .ref l], []⟩)) _ _ s
  refine wpAny_bind (wpAny_newList (wpAny_pure ⟨Code.quiet_builtin _ (by decide +kernel), codeAny_builtin entry_list_iadd' ?_⟩))
  show wpAny _ _ (Builtin.List.listExtendWith (.ref s.heap.objs.size) (.ref l) (.ref s.heap.objs.size)) _ _ { s with heap := s.heap.push (seqObj "list" #[] 0) }
  unfold Builtin.List.listExtendWith
  have ho' : (s.heap.push (seqObj "list" #[] 0)).get? l = some o := Heap.get?_push_of_some _ ho
  refine wpAny_bind (wpAny_typeOf (T := "tuple") ⟨o, ho', hc⟩ ?_)
  have ht : (Value.type "tuple" == Value.type "tuple") = true := by rfl
  rw [if_pos (by rw [ht]; simp)]
  refine wpAny_bind (listItems_at ho' hd ?_)
  refine wpAny_bind (listItems_at (xs := #[]) (n := 0) (Heap.get?_push_size _ rfl) rfl ?_)
  rw [if_neg (by simp)]
  refine wpAny_bind (listUpdate_at (xs := #[]) (n := 0) (Heap.get?_push_size _ rfl) rfl ?_ (Nat.zero_le _) (by show (#[] ++ vs.toArray).size ≤ sizeLine + 1; simp only [Array.size_append, List.size_toArray, List.length_nil]; omega))
  refine wpAny_pure ?_
  show wpAny (model prog w) A (do
      let o ← load s.heap.objs.size
      match o.data with
      | .seq xs _ => pure xs.toList
      | _ => unsupported "internal:collect") Q E { s with heap := (s.heap.push (seqObj "list" #[] 0)).update s.heap.objs.size (Obj.mapSeq (· ++ vs.toArray)) }
  refine wpAny_bind (wpAny_load (get?_update_seq (Heap.get?_push_size _ rfl) _) ?_)
  show wpAny _ _ (pure ((#[] : Array Value) ++ vs.toArray).toList) Q E _
  rw [show ((#[] : Array Value) ++ vs.toArray).toList = vs by simp]
  exact wpAny_pure h
theorem sorted_tints {l : Addr} {vs : List Value} {ns : List Int} {Q : Value → Shared → Prop} (hl : s.heap.IsTuple l vs.toArray) (hI : IntsAre vs ns) (h64 : vs.length < 64)
    (h : ∀ (out : Array Value) (ns' : List Int), IntsAre out.toList ns' → ns'.Perm ns → ns'.Pairwise (· ≤ ·) → Q (.ref (s.heap.objs.size + 1)) { s with heap := sortedAll s.heap vs out }) :
    wpAny (model prog w) A (call (.builtin "sorted") [.ref l]) Q E s := by
  refine Calls.call_function_entry kind_sorted plain_sorted entry_sorted (args_sorted1 _) ?_
  unfold Builtin.«sorted»
  refine wpAny_bind (m := checkCount "sorted" 1 1 _) (wpAny_pure ?_)
  refine wpAny_bind (collect_tup hl ?_ (small64 h64))
  refine wpAny_bind (wpAny_newList ?_ (small64 h64))
  have hsz : ((s.heap.push (seqObj "list" #[] 0)).update s.heap.objs.size (Obj.mapSeq (· ++ vs.toArray))).objs.size = s.heap.objs.size + 1 := by
    rw [Heap.size_update, size_push']
  have hoL : (((s.heap.push (seqObj "list" #[] 0)).update s.heap.objs.size (Obj.mapSeq (· ++ vs.toArray))).push (seqObj "list" vs.toArray 0)).get? (s.heap.objs.size + 1) = some (seqObj "list" vs.toArray 0) := by
    rw [← hsz]; exact Heap.get?_push_size _ rfl
  show wpAny _ _ _ _ _ { s with heap := ((s.heap.push (seqObj "list" #[] 0)).update s.heap.objs.size (Obj.mapSeq (· ++ vs.toArray))).push (seqObj "list" vs.toArray 0) }
  rw [hsz]
  refine wpAny_bind (wpAny_holding (wpAny_call_entry slot_list_sort ⟨_, hoL, rfl⟩ entry_list_sort (list_sort_tree hoL hI h64 fun out ns' a1 a2 a3 => ⟨_, rfl, ?_⟩) (args_list_sort _)))
  exact wpAny_pure ⟨_, rfl, h out ns' a1 a2 a3⟩
end
def rSortB (K : PySem.W.Frag) : List V → Hp → VK → Prop := fun vs H Q => ∃ (b : Bool) (a : Addr) (ns : List Int), vs = [V.ref a] ∧ SqB K b H a (ns.map V.int) ∧ ns.length < 64 ∧
  ∀ (ns' : List Int) (p : Addr), ns'.Perm ns → ns'.Pairwise (· ≤ ·) → H p = none → Q (.ref p) (upd H p (.lst (ns'.map V.int)))
theorem cr_sortB {X : Cx} (K : PySem.W.Frag) (eK : X.K = K := by rfl) : CallR X (.builtin "sorted") (rSortB K) := by
  subst eK
  intro pins s σ H vs us Q I r h
  obtain ⟨b, a, ns, rfl, hs, h64, q⟩ := h
  cases b with
  | false => exact cr_sorted pins s σ H _ us Q I r ⟨a, ns, rfl, hs, h64, q⟩
  | true =>
    obtain ⟨its, rv, hl, _⟩ := I.tuple hs
    rw [Vals.ref1 r]
    have hi := rv.ints
    refine sorted_tints hl hi (by rw [hi.length]; exact h64) fun out ns' h1 h2 h3 => ?_
    obtain ⟨ep, he'⟩ := PyProof.Rows.sortedAll_at s.heap its out
    have hlen : (ns'.map V.int).length ≤ sizeLine := by rw [List.length_map, h2.length_eq]; exact small64 h64
    exact ⟨.ref _, upd H (s.heap.objs.size + 1) (.lst (ns'.map V.int)), I.laid (t' := s.toks) (fun _ _ => PyProof.Rows.sortedAll_old) (Nat.le_succ _) ⟨hlen, out.toList, ep, vals_of_ints h1, he'⟩, rfl, q ns' _ h2 h3 (I.hok.fresh (Nat.le_succ _))⟩

/-! ### t.index(n) -/
theorem mt_tixI {X : Cx} : MtR X "tuple.index" (fun x xs H Q => ∃ (a : Addr) (ns : List Int) (k : Int), x = .ref a ∧ xs = [.int k] ∧ SqT X.K H a (ns.map V.int) ∧ k ∈ ns ∧ Q (.int (ns.idxOf k : Nat)) H) := by
  intro pins s σ H x xs v us Q I rx rxs h
  obtain ⟨a, ns, k, rfl, rfl, hs, hk, q⟩ := h
  cases rx
  obtain ⟨u, rfl, t, rfl⟩ := vals1 rxs
  obtain ⟨its, rv, hl, _⟩ := I.tuple hs
  exact PySem.SeqAt.tuple_index_ints hl rv.ints hk ⟨.int (ns.idxOf k : Nat), H, I.tok _, ⟨_, rfl⟩, q⟩
theorem mt_lixI {X : Cx} : MtR X "list.index" (fun x xs H Q => ∃ (a : Addr) (ns : List Int) (k : Int), x = .ref a ∧ xs = [.int k] ∧ SqL X.K H a (ns.map V.int) ∧ ns.length ≤ 1000 ∧ k ∈ ns ∧ Q (.int (ns.idxOf k : Nat)) H) := by
  intro pins s σ H x xs v us Q I rx rxs h
  obtain ⟨a, ns, k, rfl, rfl, hs, hz, hk, q⟩ := h
  cases rx
  obtain ⟨u, rfl, t, rfl⟩ := vals1 rxs
  obtain ⟨its, rv, hl, _⟩ := I.list hs
  exact PySem.SeqAt.list_index_ints hl.isList rv.ints (by rw [sizeLine_eq]; omega) hk ⟨.int (ns.idxOf k : Nat), H, I.tok _, ⟨_, rfl⟩, q⟩

/-! ### methods called with keywords, static methods -/
section
variable {X : Cx} {CX : CXT} {k : Nat} {f C p g : Addr} {mc : Value} {fd : FuncData} {ps ks : List Str} {sp : Sp} {E : XK} {x m : Str} {pos apos : Pos} {e o : Expr} {es : List Expr} {kws : List Keyword} {ta : TE} {t tk : TA} {pl : Sem Bool} {gg : List Value → List Value → List Value} {gV : List V → List V → List V}
theorem run_fnn {n : Nat} {pins : List (Addr × Obj)} {σ : L2.St} {H : Hp} {s : Shared} {Q : VK} {us ws : List Value} {vs zs : List V} (F : FnOk X.prog X.w X.K X.mg X.base CX k f fd ps sp) (hr : Room k X.A) (hb : KBn X.K fd ps n ks gg gV) (hx : Passes CX X E)
    (I : Inv X pins σ H s) (r : Vals vs us) (rz : Vals zs ws) (l1 : vs.length = n) (l2 : zs.length = ks.length) (h : sp (gV vs zs) H Q E) : wpAny (model X.prog X.w) X.A (call (.ref f) us (ks.zip ws)) (EP X pins σ Q) X.xe s := by
  have r2 := hb.rel r rz
  refine wpAny_call (codeAny_mono (F.run X.A X.stack s H ⟨us, ks.zip ws⟩ (gg us ws) (gV vs zs) Q E hr I.env0 (hb.to s us ws I.kIn (r.length.symm.trans l1) (rz.length.symm.trans l2)) r2 h) fun r s' hq => ?_)
  cases r with
  | error e => exact hx pins σ H s e s' I hq
  | ok fl =>
    cases fl with
    | ret u => exact I.after hq
    | next => exact False.elim hq
    | brk => exact False.elim hq
    | cont => exact False.elim hq
/-- o.m(k = v, ..) -/
theorem pe_methN (he : PE X o ta) (c : Cls X.K C) (hm : Meth X.K C m f) (F : FnOk X.prog X.w X.K X.mg X.base CX k f fd ps sp) (hr : Room k X.A) (hb : KBn X.K fd ps 1 ks gg gV) (hx : Passes CX X E) (hkw : PK X kws tk)
    (hall : (backToKw pos (keywordEach kws X.env)).all (·.1.isSome) = true := by rfl) (hks : (backToKw pos (keywordEach kws X.env)).filterMap (·.1) = ks := by rfl)
    (hpl : ((backTo pos (starEach [] X.env)).any (·.1) || (backToKw pos (keywordEach kws X.env)).any (·.1.isNone)) = false := by rfl)
    (ht : eval (.Call (.Attribute o m apos) [] kws pos) X.env = (do
      let ov ← eval o X.env
      standAt apos.atName
      let (f, first) ← holding [ov] (getMethod ov m pl)
      callWith pos f first (backTo pos (starEach [] X.env)) (backToKw pos (keywordEach kws X.env))) := by rfl) :
    PE X (.Call (.Attribute o m apos) [] kws pos) (fun σ H Q => ta σ H fun x H1 => ∃ a dx fs, x = .ref a ∧ H1 a = some (.ins C dx fs) ∧ fs.lookup m = none ∧ tk σ H1 fun zs H2 => zs.length = ks.length ∧ sp (gV [x] zs) H2 Q E) := by
  refine ⟨fun pins s σ H Q I h => ?_⟩
  refine PySem.W.methodCall_KW (pl := pl) (thn (he.run pins s σ H _ I h) fun u s1 ⟨x, H1, I1, rx, a, dx, fs, ex, ea, l, q⟩ => ?_) ht
  subst ex
  obtain rfl : u = Value.ref a := rx
  refine getmeth_ok I1 ea c hm l ?_
  refine PySem.W.callWith_KW0 (first := [.ref a]) (h₀ := X.base) I.ok.mod.kin hm.kp hall (thn (hkw.run pos pins s1 σ H1 _ I1 q) fun ws s2 ⟨zs, H2, I2, rz, l2, q2⟩ => ⟨I2.kIn, ?_⟩) hpl
  rw [hks]
  exact run_fnn (us := [.ref a]) (vs := [.ref a]) F hr hb hx I2 (.cons rfl .nil) rz rfl l2 q2
/-- C.m is a static method: its record at p, its def at g -/
structure SMet (K : PySem.W.Frag) (C : Addr) (mc : Value) (m : Str) (p g : Addr) : Prop where
  at_ : PySem.W.findCls K (.ref C) mc m = some (.get (.builtin "staticmethod.__get__") (.ref p) .none (.ref C))
  rc : ∃ rest, PySem.W.recIn K p "staticmethod" = some (.ref g :: rest)
  kp : PySem.W.keepIn K (.ref g) = true
theorem getmethsm_ok {pins : List (Addr × Obj)} {σ : L2.St} {H : Hp} {s : Shared} {A : Around} {E : Value → Shared → Prop} {Q : Value × List Value → Shared → Prop} (I : Inv X pins σ H s) (r : ClX.CRead X.K C mc) (k : SMet X.K C mc m p g)
    (h : ∀ s', Inv X pins σ H s' → Q (.ref g, []) s') : wpAny (model X.prog X.w) A (getMethod (.ref C) m pl) Q E s := by
  refine PySem.W.method_cls I.kIn r.ga ?_
  obtain ⟨rest, hp⟩ := k.rc
  refine PySem.W.cls_bind I.kIn r.rd k.at_ ?_
  refine wpAny_call (PySem.W.sm_get (s := { s with toks := s.toks + 1 }) I.kIn hp (PySem.W.handed_on rfl ?_))
  exact h _ (I.tok _)
/-- C.m(e, ..) -/
theorem pe_static (hC : X.mg x = some (.ref C)) (hg : Gl X x) (r : ClX.CRead X.K C mc) (sm : SMet X.K C mc m p g) (F : FnOk X.prog X.w X.K X.mg X.base CX k g fd ps sp) (hr : Room k X.A) (hb : Binds X.K fd ps []) (hx : Passes CX X E) (ha : PA X (e :: es) t) {npos : Pos}
    (hdb : (x == ("__debug__" : Str)) = false := by decide)
    (hst : starEach (e :: es) X.env = (false, eval e X.env) :: starEach es X.env := by rfl) (hpl : (backTo pos (starEach es X.env)).any (·.1) = false := by rfl)
    (ht : eval (.Call (.Attribute (.Name x npos) m apos) (e :: es) [] pos) X.env = (do
      let ov ← eval (.Name x npos) X.env
      standAt apos.atName
      let (f, first) ← holding [ov] (getMethod ov m pl)
      callWith pos f first (backTo pos (starEach (e :: es) X.env)) (backToKw pos (keywordEach [] X.env))) := by rfl) :
    PE X (.Call (.Attribute (.Name x npos) m apos) (e :: es) [] pos) (fun σ H Q => t σ H fun vs H1 => sp vs H1 Q E) := by
  refine ⟨fun pins s σ H Q I h => ?_⟩
  refine PySem.W.methodCall_KW (pl := pl) (ld_glob I hg hC ?_ hdb) ht
  refine getmethsm_ok I r sm fun s1 I1 => ?_
  refine PySem.W.callWith_K (first := []) (h₀ := X.base) I.ok.mod.kin sm.kp (thn (ha.run pos pins s1 σ H _ I1 h) fun us s2 ⟨vs, H2, I2, r2, q2⟩ => ⟨I2.kIn, ?_⟩) hst hpl
  have := run_fn (us := us) (vs := vs) (dvs := []) (ds := []) F hr hb .nil hx I2 r2 (by simpa using q2)
  simpa using this
/-- C.m(k = v, ..) -/
theorem pe_staticN (hC : X.mg x = some (.ref C)) (hg : Gl X x) (r : ClX.CRead X.K C mc) (sm : SMet X.K C mc m p g) (F : FnOk X.prog X.w X.K X.mg X.base CX k g fd ps sp) (hr : Room k X.A) (hb : KBn X.K fd ps 0 ks gg gV) (hx : Passes CX X E) (hkw : PK X kws tk) {npos : Pos}
    (hdb : (x == ("__debug__" : Str)) = false := by decide)
    (hall : (backToKw pos (keywordEach kws X.env)).all (·.1.isSome) = true := by rfl) (hks : (backToKw pos (keywordEach kws X.env)).filterMap (·.1) = ks := by rfl)
    (hpl : ((backTo pos (starEach [] X.env)).any (·.1) || (backToKw pos (keywordEach kws X.env)).any (·.1.isNone)) = false := by rfl)
    (ht : eval (.Call (.Attribute (.Name x npos) m apos) [] kws pos) X.env = (do
      let ov ← eval (.Name x npos) X.env
      standAt apos.atName
      let (f, first) ← holding [ov] (getMethod ov m pl)
      callWith pos f first (backTo pos (starEach [] X.env)) (backToKw pos (keywordEach kws X.env))) := by rfl) :
    PE X (.Call (.Attribute (.Name x npos) m apos) [] kws pos) (fun σ H Q => tk σ H fun zs H1 => zs.length = ks.length ∧ sp (gV [] zs) H1 Q E) := by
  refine ⟨fun pins s σ H Q I h => ?_⟩
  refine PySem.W.methodCall_KW (pl := pl) (ld_glob I hg hC ?_ hdb) ht
  refine getmethsm_ok I r sm fun s1 I1 => ?_
  refine PySem.W.callWith_KW0 (first := []) (h₀ := X.base) I.ok.mod.kin sm.kp hall (thn (hkw.run pos pins s1 σ H _ I1 h) fun ws s2 ⟨zs, H2, I2, rz, l2, q2⟩ => ⟨I2.kIn, ?_⟩) hpl
  rw [hks]
  exact run_fnn (us := []) (vs := []) F hr hb hx I2 .nil rz rfl l2 q2
/-- C(k = v, ..), keywords alone -/
theorem pe_makeN0 (M : Mk X.K C f) (F : FnOk X.prog X.w X.K X.mg X.base CX k f fd ps sp) (hr : Room (k + 1) X.A) (hg : Gl X x) (hm : X.mg x = some (.ref C)) (hb : KBn X.K fd ps 1 ks gg gV) (hx : Passes CX X E) {npos : Pos}
    (hkw : PK X kws tk) (hall : (backToKw pos (keywordEach kws X.env)).all (·.1.isSome) = true := by rfl) (hks : (backToKw pos (keywordEach kws X.env)).filterMap (·.1) = ks := by rfl)
    (hdb : (x == ("__debug__" : Str)) = false := by decide)
    (hpl : ((backTo pos (starEach [] X.env)).any (·.1) || (backToKw pos (keywordEach kws X.env)).any (·.1.isNone)) = false := by rfl) :
    PE X (.Call (.Name x npos) [] kws pos) (fun σ H Q => tk σ H fun zs H2 => zs.length = ks.length ∧
      ∀ x dx, H2 x = none → H2 dx = none → dx ≠ x → sp (gV [.ref x] zs) (upd (upd H2 dx (.own x)) x (.ins C dx [])) (fun v H3 => v = .non ∧ Q (.ref x) H3) E) := by
  refine ⟨fun pins s σ H Q I h => ?_⟩
  refine wpAny_Call_Name_kw (ld_glob I hg hm ?_ hdb)
  refine PySem.W.callWith_KW0 (h₀ := X.base) I.ok.mod.kin M.kp hall (thn (hkw.run pos pins s σ H _ I h) fun ws s2 ⟨zs, H2, I2, rz, l2, q2⟩ => ⟨I2.kIn, ?_⟩) hpl
  rw [hks]
  exact run_makeN (us := []) (vs := []) M F hr hb hx I2 .nil rz rfl l2 q2
end
end K0


set_option Elab.async false
set_option linter.all false
set_option maxRecDepth 100000
set_option maxHeartbeats 8000000
namespace K0
open PySem PySem.Spec PyProof.Rows L2 RZ K0z

/-! ### tuples that are known to have no dict: their methods can be called -/
def TpF (H : Hp) (p : Addr) (xs : List V) : Prop := ∃ o : Obj, H p = some (.frz o (.tup xs)) ∧ o.cls = .type "tuple" ∧ o.dict = none
theorem TpF.same {H H' : Hp} {p : Addr} {xs : List V} (h : TpF H p xs) (s : Same H H') : TpF H' p xs := by
  obtain ⟨o, h1, h2⟩ := h
  exact ⟨o, s _ _ h1, h2⟩
theorem TpF.sq {K : PySem.W.Frag} {H : Hp} {p : Addr} {xs : List V} (h : TpF H p xs) : SqT K H p xs := by
  obtain ⟨o, h1, h2⟩ := h
  exact .inl (.inr ⟨o, h1⟩)
theorem TpF.ne {H : Hp} {p a C dx : Addr} {xs : List V} {fs : List (Str × V)} (h : TpF H p xs) (ha : H a = some (.ins C dx fs)) : p ≠ a := by
  obtain ⟨o, h1, h2⟩ := h
  intro e
  rw [e, ha] at h1
  cases h1
theorem TpF.updI {H : Hp} {p a C dx : Addr} {xs : List V} {fs : List (Str × V)} {o : HO} (h : TpF H p xs) (ha : H a = some (.ins C dx fs)) : TpF (upd H a o) p xs := by
  have n := h.ne ha
  obtain ⟨u, h1, h2⟩ := h
  exact ⟨u, by rw [upd_ne n]; exact h1, h2⟩
theorem Asks.tupF {K : PySem.W.Frag} {H : Hp} {a : Addr} {xs : List V} (h : TpF H a xs) : Asks K H (.ref a) true := by
  obtain ⟨o, h1, _⟩ := h
  exact ⟨.type "tuple", false, false, .base (.fTuple h1), kit_ty (by decide +kernel), kit_ty (by decide +kernel), rfl,
    any2 (kit_ty (r := false) (by decide +kernel)) (kit_ty (r := true) (by decide +kernel))⟩
def rTupF (K : PySem.W.Frag) : List V → Hp → VK → Prop := fun xs H Q => ∃ b p ys, xs = [.ref p] ∧ SqB K b H p ys ∧ (b = false → ∀ l o, H l = none → o.cls = .type "tuple" → o.dict = none → Q (.ref l) (upd H l (.frz o (.tup ys)))) ∧ (b = true → Q (.ref p) H)
theorem call_tupF {X : Cx} (K : PySem.W.Frag) (e : X.K = K := by rfl) : CallR X (.type "tuple") (rTupF K) := by
  subst e
  intro pins s σ H xs us Q I r h
  obtain ⟨b, p, ys, rfl, h, h1, h2⟩ := h
  obtain ⟨u, rfl, rx⟩ := vals1 r
  cases rx
  cases b
  · obtain ⟨its, r', pl, hz⟩ := I.list h
    have hlen := r'.length
    refine call_tuple_list pl.isList (fun h' kp => ?_) (by simp only [List.size_toArray] <;> omega)
    have I1 : Inv X pins σ H { s with heap := h' } := I.kept (t' := s.toks) kp
    have I2 : Inv X pins σ (upd H h'.objs.size (.frz { cls := .type "tuple", data := .seq its.toArray } (.tup ys))) { s with heap := h'.push { cls := .type "tuple", data := .seq its.toArray } } :=
      I1.laid (t' := s.toks) (fun b o e => Heap.get?_push_of_some _ e) (Nat.le_refl _) (show ObjOk X.prog X.w _ _ _ (.frz _ (.tup ys)) from ⟨Heap.get?_push_size _ rfl, hz, its, r', IsTup.new _ _⟩)
    exact ⟨.ref h'.objs.size, _, I2, rfl, h1 rfl _ _ (I1.hok.fresh (Nat.le_refl _)) rfl rfl⟩
  · obtain ⟨its, r', pl, hz⟩ := I.tuple h
    exact call_tuple_same pl ⟨.ref p, H, I, rfl, h2 rfl⟩
@[irreducible] def jTupOf (K : PySem.W.Frag) : List V → Hp → VK → Prop := rTupOf K
@[irreducible] def jTupF (K : PySem.W.Frag) : List V → Hp → VK → Prop := rTupF K
theorem jTupOf_eq (K : PySem.W.Frag) : jTupOf K = rTupOf K := by unfold jTupOf; rfl
theorem jTupF_eq (K : PySem.W.Frag) : jTupF K = rTupF K := by unfold jTupF; rfl
theorem call_tupJ {X : Cx} (K : PySem.W.Frag) (e : X.K = K := by rfl) : CallR X (.type "tuple") (jTupOf K) := by rw [jTupOf_eq]; exact call_tupK K e
theorem call_tupFJ {X : Cx} (K : PySem.W.Frag) (e : X.K = K := by rfl) : CallR X (.type "tuple") (jTupF K) := by rw [jTupF_eq]; exact call_tupF K e
/-- a tuple of what stands there, the same one or a new one -/
theorem tup_way {K : PySem.W.Frag} {b : Bool} {H : Hp} {p : Addr} {xs : List V} {Q : VK} (h : SqB K b H p xs)
    (k : ∀ q H', Same H H' → SqT K H' q xs → Q (.ref q) H') : jTupOf K [.ref p] H Q := by
  rw [jTupOf_eq]
  exact ⟨b, p, xs, rfl, h, fun _ l hl => k l _ (same_upd hl) (.of upd_same), fun e => by subst e; exact k p H (Same.refl _) h⟩
theorem tup_wayF {K : PySem.W.Frag} {H : Hp} {p : Addr} {xs : List V} {Q : VK} (h : SqL K H p xs ∨ TpF H p xs)
    (k : ∀ q H', Same H H' → TpF H' q xs → Q (.ref q) H') : jTupF K [.ref p] H Q := by
  rw [jTupF_eq]
  rcases h with h | h
  · exact ⟨false, p, xs, rfl, h, fun _ l o hl h1 h2 => k l _ (same_upd hl) ⟨o, upd_same, h1, h2⟩, fun e => (by cases e)⟩
  · exact ⟨true, p, xs, rfl, h.sq, fun e => (by cases e), fun _ => k p H (Same.refl _) h⟩
/-! ### the call of a tuple's method -/
def tTM (K : PySem.W.Frag) (r : V → List V → Hp → VK → Prop) (to : TE) (t : TA) : TE := fun σ H Q => to σ H fun x H1 => (∃ p xs, x = .ref p ∧ TpF H1 p xs) ∧ t σ H1 fun xs H2 => r x xs H2 Q
theorem pe_tm {X : Cx} {o e : Expr} {es : List Expr} {to : TE} {t : TA} {name : Str} {apos cpos : Pos} {id : String} {r : V → List V → Hp → VK → Prop} (K : PySem.W.Frag) (slot : Slot "tuple" name id) (hty : typeOf (.builtin id) = pure (.type "method_descriptor")) (hm : MtR X id r) (ho : PE X o to) (ha : PA X (e :: es) t)
    (hbase : attributeBase o name X.env (eval o X.env) = eval o X.env := by rfl)
    (hfew : ((backTo cpos (starEach (e :: es) X.env)).all (fun x => !x.1) && (backToKw cpos (keywordEach [] X.env)).all (fun x => x.1.isSome)
      && decide ((e :: es).length + ([] : List Keyword).length + (if ([] : List Keyword).isEmpty then 0 else 1) < 30)) = true := by rfl)
    (hline : (apos.endLine == cpos.line) = true := by rfl) (hs : starEach (e :: es) X.env = (false, eval e X.env) :: starEach es X.env := by rfl) (hplain : (backTo cpos (starEach es X.env)).any (·.1) = false := by rfl) :
    PE X (.Call (.Attribute o name apos) (e :: es) [] cpos) (tTM K r to t) := by
  refine ⟨fun pins s σ H Q I h => ?_⟩
  refine wpAny_Call_method_late hbase hfew hline rfl (thn (ho.run pins s σ H _ I h) fun v s1 ⟨x, H1, I1, r1, ⟨p, xs, ex, u, hu, hc, hd⟩, q1⟩ => ?_)
  subst ex
  cases r1
  obtain ⟨ho', _⟩ := (show ObjOk X.prog X.w H1 s1.heap p (.frz u (.tup xs)) from I1.hok p _ hu)
  refine ⟨"tuple", id, PySem.F.plainAttrs_tuple, slot, hty, ⟨u, ho', hc⟩, fun a e => by cases e; exact ⟨u, ho', hd⟩, ?_⟩
  have hA := ha.run cpos pins s1 σ H1 _ I1 q1
  rw [hs] at hA ⊢
  refine Calls.callWith_builtin (by show (false || (backTo cpos (starEach es X.env)).any (·.1)) = false; rw [hplain] <;> rfl) (Calls.evalArgs_plain ?_)
  exact thn hA fun us s2 ⟨vs, H2, I2, r2, q2⟩ => hm pins s2 σ H2 (.ref p) vs _ us Q I2 rfl r2 q2
end K0


set_option Elab.async false
set_option linter.all false
set_option maxRecDepth 100000
set_option maxHeartbeats 8000000
namespace K0
open PySem PySem.Spec PyProof.Rows L2 RZ K0z

/-! ### places -/
def toI : V → Option Int
  | .int n => some n
  | _ => none
def intsOf (xs : List V) : List Int := xs.filterMap toI
def rng (n : Nat) : List Int := (List.range n).map fun (i : Nat) => (i : Int)
theorem rng_len (n : Nat) : (rng n).length = n := by simp [rng]
theorem rng_rgV (n : Nat) : rgV 0 (n : Nat) = (rng n).map V.int := by
  unfold rgV rng
  rw [List.map_map, show ((n : Int) - 0).toNat = n by omega]
  refine List.map_congr_left fun i _ => ?_
  show V.int (0 + (i : Int)) = V.int (i : Int)
  rw [Int.zero_add]
theorem rng_sorted (n : Nat) : (rng n).Pairwise (· ≤ ·) := by
  unfold rng
  rw [List.pairwise_map]
  exact List.Pairwise.imp (fun h => by omega) List.pairwise_lt_range
theorem intsOf_map (ns : List Int) : intsOf (ns.map V.int) = ns := by
  unfold intsOf
  induction ns with
  | nil => rfl
  | cons n r ih => rw [List.map_cons, List.filterMap_cons_some (b := n) (f := toI) (a := V.int n) rfl, ih]
theorem map_intsOf {xs : List V} (h : xs.all isI = true) : xs = (intsOf xs).map V.int := by
  induction xs with
  | nil => rfl
  | cons x r ih =>
    rw [List.all_cons, Bool.and_eq_true] at h
    have e := ih h.2
    cases x with
    | int n => rw [show intsOf (V.int n :: r) = n :: intsOf r from rfl, List.map_cons, ← e]
    | _ => cases h.1
theorem sorted_eq {l1 l2 : List Int} (p : l1.Perm l2) (h1 : l1.Pairwise (· ≤ ·)) (h2 : l2.Pairwise (· ≤ ·)) : l1 = l2 := by
  exact List.Perm.eq_of_pairwise (fun a b _ _ h1 h2 => Int.le_antisymm h1 h2) h1 h2 p
theorem map_int_get {ns : List Int} {i : Nat} {x : V} (h : (ns.map V.int)[i]? = some x) : ∃ n, ns[i]? = some n ∧ x = .int n := by
  rw [List.getElem?_map] at h
  cases e : ns[i]? with
  | none => rw [e] at h; cases h
  | some z =>
    rw [e] at h
    exact ⟨z, rfl, (Option.some.inj h).symm⟩
theorem getD_of {α : Type} {l : List α} {i : Nat} (h : i < l.length) (d : α) : l.getD i d = l[i] := by
  rw [List.getD_eq_getElem?_getD, List.getElem?_eq_getElem h]
  rfl
theorem make_same {H1 H2 : Hp} {x dx C : Addr} (sb : ∀ b o, b ≠ x → upd (upd H1 dx (.own x)) x (.ins C dx []) b = some o → H2 b = some o) (hx : H1 x = none) (hdx : H1 dx = none) : Same H1 H2 := fun b o hb => by
  have nbx : b ≠ x := ne_of_none hb hx
  refine sb b o nbx ?_
  rw [upd_ne nbx, upd_ne (ne_of_none hb hdx)]
  exact hb
/-- whether these are places -/
def permB (ns : List Int) : Bool := decide (ns.Perm (rng ns.length))
def plB (o : Option (List V)) : Bool := lenB o (.int 2) (.int 6) && intsB o && permB (intsOf (o.getD []))
theorem lenB_of {xs : List V} {l m : Int} (h : lenB (some xs) (.int l) (.int m) = true) : l ≤ xs.length ∧ (xs.length : Int) ≤ m := by
  have h' : (decide (l ≤ (xs.length : Int)) && decide ((xs.length : Int) ≤ m)) = true := h
  simpa using h'
def spPlc (K : PySem.W.Frag) : Sp := fun vs H Q _ => ∃ (v : V) (o : Option (List V)), vs = [v] ∧ Seqs K H v o ∧ Items K H o ∧ ∀ H', Same H H' → Q (.bl (plB o)) H'
section
variable {P : Program} {w : World} {K : PySem.W.Frag} {mg : Str → Option Value} {base : Heap} {f g g2 : Addr} {fd : FuncData}
theorem sc_plc : FnScope ["value"] ["value"] (defScope st__are_places) := ⟨rfl, rfl, rfl, by decide +kernel, rfl, by decide +kernel, by decide +kernel⟩
theorem ok_plc (F : Fun K "_are_places" "_are_places" st__are_places f fd) (T : Nm mg) (D_is_list : Dn P w K mg base 3 "is_list" g ["value", "least", "most"] (spIsList K)) (D_are_integers : Dn P w K mg base 4 "are_integers" g2 ["value"] (spAreInts K)) :
    FnOk P w K mg base CX0 5 f fd ["value"] (spPlc K) := by
  refine F.ok sc_plc (fun vs H Q E h => ?_) (fun cdv A outer s H vs Q E hr h => ?_)
  · obtain ⟨v, o, rfl, _⟩ := h
    rfl
  · obtain ⟨v, o, rfl, hv, hi, k⟩ := h
    refine ⟨_, (pss_cons (ps_if (PW.pt (pw_or (pt_not (pt_val (pe_dn D_is_list (hr.mono (by decide)) rfl (pa_cons (pv 0) (pa_cons (pe_cint (by rfl) T.c_LEAST_WIDE) (pa_cons (pe_cint (by rfl) T.c_MOST_WIDE) pa_nil)))))) (pw_or1 (pt_not (pt_val (pe_dn D_are_integers (hr.mono (by decide)) rfl (pa_cons (pv 0) pa_nil))))))) (pss_one (ps_ret pe_bl)) pss_nil)
    (pss_one (ps_ret (pe_cmpR (op_eqD hr.units) (pe_callB (cr_sortB K) (by rfl) T.n_sorted (by decide +kernel) (pa_cons (pv 0) pa_nil)) (pe_listRg rfl (by rfl) T.n_list (prg_1 (by rfl) T.n_range (pe_callB (call_lenK K) (by rfl) T.n_len (by decide +kernel) (pa_cons (pv 0) pa_nil)))) (nomark _))))), ?_⟩
    refine ⟨_, rfl, v, .int 2, .int 6, o, rfl, hv, .inr ⟨2, rfl⟩, .inr ⟨6, rfl⟩, fun H1 s1 => ⟨_, rfl, ?_⟩⟩
    have eB : plB o = (lenB o (.int 2) (.int 6) && intsB o && permB (intsOf (o.getD []))) := rfl
    cases e1 : lenB o (.int 2) (.int 6) with
    | false =>
      rw [e1] at eB
      have := k H1 s1
      rw [eB] at this
      exact iteT this
    | true =>
      refine iteF ⟨v, rfl, v, o, rfl, Seqs.same s1 hv, Items.same s1 hi, fun H2 s2 => ⟨_, rfl, ?_⟩⟩
      cases e2 : intsB o with
      | false =>
        have := k H2 (s1.trans s2)
        rw [eB, e1, e2] at this
        exact iteT this
      | true =>
        refine iteF ?_
        cases o with
        | none => cases e2
        | some xs =>
          rw [e1, e2] at eB
          have k' := k
          rw [eB] at k'
          obtain ⟨a1, a2⟩ := lenB_of e1
          have ex := map_intsOf (xs := xs) e2
          have exl : xs.length = (intsOf xs).length := (congrArg List.length ex).trans (List.length_map _)
          have s12 := s1.trans s2
          obtain ⟨_, hz, a, rfl, hS⟩ := Seqs.same s12 hv
          obtain ⟨b, hS⟩ := SqB.or hS
          refine ⟨_, rfl, b, a, intsOf xs, rfl, by rw [← ex]; exact hS, by omega, fun ns' p hp hsrt hpn => ?_⟩
          have s3 := same_upd (o := .lst (ns'.map V.int)) hpn
          refine ⟨_, rfl, b, a, xs, rfl, hS.same s3, _, rfl, ?_⟩
          refine ⟨⟨by decide, by decide, ?_, ?_, ?_⟩, fun q hq => ?_⟩
          · omega
          · omega
          · show (((xs.length : Nat) : Int) - 0).toNat ≤ sizeLine
            exact Nat.le_trans (by omega : _ ≤ 6) (by decide)
          have s4 := same_upd (o := .lst (rgV 0 ((xs.length : Nat) : Int))) hq
          have z1 : upd (upd H2 p (.lst (ns'.map V.int))) q (.lst (rgV 0 ((xs.length : Nat) : Int))) p = some (.lst (ns'.map V.int)) := s4 _ _ upd_same
          have z2 : upd (upd H2 p (.lst (ns'.map V.int))) q (.lst (rgV 0 ((xs.length : Nat) : Int))) q = some (.lst ((rng xs.length).map V.int)) := by rw [upd_same, rng_rgV]
          refine ⟨_, _, dpL (.of z1) (flat_ints ns'), dpL (.of z2) (flat_ints _), shapedL (flat_ints _), shapedL (flat_ints _), ?_⟩
          rw [eqvL_ints]
          have ed : decide (ns' = rng xs.length) = permB (intsOf xs) := by
            unfold permB
            rw [← exl]
            refine decide_eq_decide.mpr ⟨fun e => ?_, fun e => sorted_eq (hp.trans e) hsrt (rng_sorted _)⟩
            rw [← e]
            exact hp.symm
          rw [ed]
          exact k' _ (s12.trans (s3.trans s4))
end
end K0


set_option Elab.async false
set_option linter.all false
set_option maxRecDepth 100000
set_option maxHeartbeats 8000000
namespace K0
open PySem PySem.Spec PyProof.Rows L2 RZ K0z

/-! ### errors that a def raises -/
def raisesN (CB : Addr) (nm : Str) (H : Hp) (E : XK) : Prop := ∀ (dd : Addr) (H' : Hp), H dd = none → H' dd = some (.xd (fs1 "part" [.str nm])) → Same H H' → E (.ref CB) (some dd) H'
theorem raisesN.same {CB : Addr} {nm : Str} {H H' : Hp} {E : XK} (h : raisesN CB nm H E) (s : Same H H') : raisesN CB nm H' E := fun dd H2 h1 h2 s2 => h dd H2 (s.free h1) h2 (s.trans s2)
theorem op_inK {X : Cx} (K : PySem.W.Frag) (eK : X.K = K := by rfl) : OpR X (compareOp .In) (rIn K false) := by subst eK; exact op_in_seq
theorem look_put {f g : Str} {v : V} {fs : List (Str × V)} (h : g ≠ f) : (putF f v fs).lookup g = fs.lookup g := by rw [lookup_putF, if_neg h]
theorem look_new {f : Str} {v : V} {fs : List (Str × V)} : (putF f v fs).lookup f = some v := by rw [lookup_putF, if_pos rfl]

/-! ### likenesses -/
/-- places and signs -/
structure Lik (ps ss : List Int) : Prop where
  n2 : 2 ≤ ps.length
  n6 : ps.length ≤ 6
  len : ss.length = ps.length
  perm : ps.Perm (rng ps.length)
  sg : ∀ s ∈ ss, s = 1 ∨ s = -1
structure LikC (K : PySem.W.Frag) (C : Addr) : Prop where
  cl : Cls K C
  nP : NoAttr K C "places"
  nS : NoAttr K C "signs"
  nW : NoAttr K C "wide"
/-- a likeness stands at a -/
def LikAt (K : PySem.W.Frag) (H : Hp) (a C : Addr) (ps ss : List Int) : Prop := Lik ps ss ∧ ∃ dx p s fs, H a = some (.ins C dx fs) ∧ TpF H p (ps.map V.int) ∧ SqT K H s (ss.map V.int) ∧
  fs.lookup ("places" : Str) = some (V.ref p) ∧ fs.lookup ("signs" : Str) = some (V.ref s) ∧ fs.lookup ("wide" : Str) = some (V.int ps.length) ∧ ∀ m : Str, m ≠ ("places" : Str) → m ≠ ("signs" : Str) → m ≠ ("wide" : Str) → fs.lookup m = none
theorem LikAt.same {K : PySem.W.Frag} {H H' : Hp} {a C : Addr} {ps ss : List Int} (h : LikAt K H a C ps ss) (s : Same H H') : LikAt K H' a C ps ss := by
  obtain ⟨l, dx, p, q, fs, h1, h2, h3, r⟩ := h
  exact ⟨l, dx, p, q, fs, s _ _ h1, h2.same s, same_sqT s h3, r⟩
/-- whether these are n signs -/
def sgB (s : Int) : Bool := s == 1 || s == -1
def siB (o : Option (List V)) (n : Int) : Bool := (lenB o (.int n) (.int n) && intsB o) && (intsOf (o.getD [])).all sgB
theorem lik_of {xs ys : List V} (h1 : plB (some xs) = true) (h2 : siB (some ys) xs.length = true) : Lik (intsOf xs) (intsOf ys) ∧ xs = (intsOf xs).map V.int ∧ ys = (intsOf ys).map V.int := by
  have h1' : (lenB (some xs) (.int 2) (.int 6) && intsB (some xs) && permB (intsOf xs)) = true := h1
  have h2' : ((lenB (some ys) (.int xs.length) (.int xs.length) && intsB (some ys)) && (intsOf ys).all sgB) = true := h2
  rw [Bool.and_eq_true, Bool.and_eq_true] at h1' h2'
  obtain ⟨⟨a1, a2⟩, a3⟩ := h1'
  obtain ⟨⟨b1, b2⟩, b3⟩ := h2'
  obtain ⟨l2, l6⟩ := lenB_of a1
  obtain ⟨k1, k2⟩ := lenB_of b1
  have ex := map_intsOf (xs := xs) a2
  have ey := map_intsOf (xs := ys) b2
  have exl : xs.length = (intsOf xs).length := (congrArg List.length ex).trans (List.length_map _)
  have eyl : ys.length = (intsOf ys).length := (congrArg List.length ey).trans (List.length_map _)
  refine ⟨⟨by omega, by omega, by omega, of_decide_eq_true a3, fun s hs => ?_⟩, ex, ey⟩
  have := List.all_eq_true.mp b3 s hs
  unfold sgB at this
  rw [Bool.or_eq_true] at this
  simpa using this
theorem plB_lik {ps ss : List Int} (L : Lik ps ss) : plB (some (ps.map V.int)) = true := by
  show (lenB (some (ps.map V.int)) (.int 2) (.int 6) && intsB (some (ps.map V.int)) && permB (intsOf (ps.map V.int))) = true
  rw [Bool.and_eq_true, Bool.and_eq_true]
  refine ⟨⟨?_, ?_⟩, ?_⟩
  · show (decide ((2 : Int) ≤ ((ps.map V.int).length : Int)) && decide (((ps.map V.int).length : Int) ≤ 6)) = true
    have := L.n2
    have := L.n6
    rw [List.length_map]
    simp
    omega
  · show (ps.map V.int).all isI = true
    simp [List.all_map, isI]
  · rw [intsOf_map]
    exact decide_eq_true L.perm
theorem siB_lik {ps ss : List Int} (L : Lik ps ss) : siB (some (ss.map V.int)) ((ps.map V.int).length : Nat) = true := by
  show (lenB (some (ss.map V.int)) (.int _) (.int _) && intsB (some (ss.map V.int)) && (intsOf (ss.map V.int)).all sgB) = true
  rw [Bool.and_eq_true, Bool.and_eq_true]
  refine ⟨⟨?_, ?_⟩, ?_⟩
  · show (decide ((((ps.map V.int).length : Nat) : Int) ≤ ((ss.map V.int).length : Int)) && decide (((ss.map V.int).length : Int) ≤ (((ps.map V.int).length : Nat) : Int))) = true
    have := L.len
    rw [List.length_map, List.length_map, this]
    simp
  · show (ss.map V.int).all isI = true
    simp [List.all_map, isI]
  · rw [intsOf_map, List.all_eq_true]
    intro s hs
    rcases L.sg s hs with rfl | rfl <;> rfl
theorem sqT_updI {K : PySem.W.Frag} {H : Hp} {a p C dx : Addr} {fs : List (Str × V)} {o : HO} {xs : List V} (h : SqT K H p xs) (ha : H a = some (.ins C dx fs)) : SqT K (upd H a o) p xs := by
  rcases h with (h | ⟨u, h⟩) | h
  · exact .inl (.inl (by rw [upd_ne (fun e => by rw [e, ha] at h; cases h)]; exact h))
  · exact .inl (.inr ⟨u, by rw [upd_ne (fun e => by rw [e, ha] at h; cases h)]; exact h⟩)
  · exact .inr h
theorem sqL_updI {K : PySem.W.Frag} {H : Hp} {a p C dx : Addr} {fs : List (Str × V)} {o : HO} {xs : List V} (h : SqL K H p xs) (ha : H a = some (.ins C dx fs)) : SqL K (upd H a o) p xs := by
  rcases h with (h | ⟨u, h⟩) | h
  · exact .inl (.inl (by rw [upd_ne (fun e => by rw [e, ha] at h; cases h)]; exact h))
  · exact .inl (.inr ⟨u, by rw [upd_ne (fun e => by rw [e, ha] at h; cases h)]; exact h⟩)
  · exact .inr h
theorem sqB_updI {K : PySem.W.Frag} {b : Bool} {H : Hp} {a p C dx : Addr} {fs : List (Str × V)} {o : HO} {xs : List V} (h : SqB K b H p xs) (ha : H a = some (.ins C dx fs)) : SqB K b (upd H a o) p xs := by
  cases b with
  | true => exact sqT_updI h ha
  | false => exact sqL_updI h ha
def spLkI (K : PySem.W.Frag) (CB C : Addr) : Sp := fun vs H Q E => ∃ (a dx : Addr) (v1 v2 : V) (o1 o2 : Option (List V)), vs = [.ref a, v1, v2] ∧ H a = some (.ins C dx []) ∧ Seqs K H v1 o1 ∧ Items K H o1 ∧ (∀ xs, o1 = some xs → ∃ p, v1 = .ref p ∧ (SqL K H p xs ∨ TpF H p xs)) ∧ Seqs K H v2 o2 ∧ Items K H o2 ∧
  (plB o1 = false → raisesN CB "places" H E) ∧ (∀ xs, o1 = some xs → plB o1 = true → (siB o2 xs.length = false → raisesN CB "signs" H E) ∧
    (∀ ys, o2 = some ys → siB o2 xs.length = true → ∀ H', LikAt K H' a C (intsOf xs) (intsOf ys) → (∀ b o, b ≠ a → H b = some o → H' b = some o) → Q .non H'))
theorem inV_sg (s : Int) : inV (.int s) [.int 1, .int (-1)] = sgB s := by
  unfold sgB
  have : inV (.int s) [.int 1, .int (-1)] = ((1 : Int) == s || ((-1 : Int) == s || false)) := rfl
  rw [this, Bool.or_false, Bool.eq_iff_iff]
  simp only [Bool.or_eq_true, beq_iff_eq]
  omega
section
variable {P : Program} {w : World} {K : PySem.W.Frag} {mg : Str → Option Value} {base : Heap} {f g g2 C CB : Addr} {fd : FuncData}
abbrev N_init : List Str := ["self", "places", "signs", "sign"]
theorem sc_init : FnScope N_init ["self", "places", "signs"] (defScope sm_init) := ⟨rfl, rfl, rfl, by decide +kernel, rfl, by decide +kernel, by decide +kernel⟩
theorem ok_init (F : Fun K "__init__" "Likeness.__init__" sm_init f fd) (T : Nm mg) (U : LikC K C) (D_is_point : Dn P w K mg base 5 "is_point" g ["value", "wide"] (spIsPoint K)) (D__are_places : Dn P w K mg base 5 "_are_places" g2 ["value"] (spPlc K))
    (R_BadLikeness : RaiseC P w K mg base "BadLikeness" CB "part") : FnOk P w K mg base (L2.CX P w) 6 f fd ["self", "places", "signs"] (spLkI K CB C) := by
  refine F.okX sc_init (fun vs H Q E h => ?_) (fun cdv A outer s H vs Q E hr h => ?_)
  · obtain ⟨a, dx, v1, v2, _, _, rfl, _⟩ := h
    rfl
  · obtain ⟨a, dx, v1, v2, o1, o2, rfl, ha, hv1, hi1, hF, hv2, hi2, k1, k2⟩ := h
    refine ⟨_, (pss_cons (ps_if (pt_not (pt_val (pe_dn D__are_places (hr.mono (by decide)) rfl (pa_cons (pv 1) pa_nil)))) (pss_one (ps_raise rfl (takes_of rfl rfl rfl rfl) (pmk_c R_BadLikeness (hr.mono (by decide)) rfl (pa_cons pe_str pa_nil)))) pss_nil)
    (pss_cons (ps_if (PW.pt (pw_or (pt_not (pt_val (pe_dn D_is_point (hr.mono (by decide)) rfl (pa_cons (pv 2) (pa_cons (pe_callB (call_lenK K) (by rfl) T.n_len (by decide +kernel) (pa_cons (pv 1) pa_nil)) pa_nil))))) (pw_or1 (pt_not (pt_val (pe_callB (cr_all rfl) (by rfl) T.n_all (by decide +kernel) (pa_cons (pe_lc (own := [("sign", 3)]) (g := gName 3) (tt := tYes) rfl sc_init.nd (pi_seqK K (pv 2)) (blkOk_by (N := N_init) (sc := defScope sm_init) (by decide +kernel)) (fun _ _ _ _ _ => (pg_name (i := 3) sc_init.nd rfl (Or.inl rfl))) (fun _ _ _ _ _ => pts_nil) (fun _ _ _ _ _ => (pe_cmpR (op_inK K) (pv 3) (pe_tup (pa_cons pe_int (pa_cons (pe_un un_neg pe_int) pa_nil))) (by rfl)))) pa_nil))))))) (pss_one (ps_raise rfl (takes_of rfl rfl rfl rfl) (pmk_c R_BadLikeness (hr.mono (by decide)) rfl (pa_cons pe_str pa_nil)))) pss_nil)
    (pss_cons (ps_fld (pv 0) (pe_callTy (call_tupFJ K) (by rfl) T.n_tuple (by decide +kernel) (pa_cons (pv 1) pa_nil)) rfl)
    (pss_cons (ps_fld (pv 0) (pe_callTy (call_tupJ K) (by rfl) T.n_tuple (by decide +kernel) (pa_cons (pv 2) pa_nil)) rfl)
    (pss_one (ps_fld (pv 0) (pe_callB (call_lenK K) (by rfl) T.n_len (by decide +kernel) (pa_cons (pe_fld (pv 0) rfl) pa_nil)) rfl)))))), ?_⟩
    have hl1 : ∀ xs, o1 = some xs → plB o1 = true → xs.length ≤ 6 ∧ 2 ≤ xs.length := fun xs e e1 => by
      rw [e] at e1
      have h1' : (lenB (some xs) (.int 2) (.int 6) && intsB (some xs) && permB (intsOf xs)) = true := e1
      rw [Bool.and_eq_true, Bool.and_eq_true] at h1'
      have := lenB_of h1'.1.1
      omega
    refine ⟨_, rfl, v1, o1, rfl, hv1, hi1, fun H1 s1 => ⟨_, rfl, ?_⟩⟩
    cases e1 : plB o1 with
    | false => exact iteT (fun dd H' h1 h2 s2 => (k1 e1).same s1 dd H' h1 h2 s2)
    | true =>
      refine iteF ?_
      cases o1 with
      | none => cases e1
      | some xs =>
        obtain ⟨n6, n2⟩ := hl1 xs rfl e1
        obtain ⟨k3, k4⟩ := k2 xs rfl e1
        obtain ⟨_, hz, p0, rfl, hS⟩ := Seqs.same s1 hv1
        obtain ⟨b1, hS⟩ := SqB.or hS
        have eB : siB o2 xs.length = ((lenB o2 (.int xs.length) (.int xs.length) && intsB o2) && (intsOf (o2.getD [])).all sgB) := rfl
        refine ⟨_, rfl, _, rfl, b1, p0, xs, rfl, hS, v2, _, o2, rfl, Seqs.same s1 hv2, Items.same s1 hi2, fun H2 s2 => ⟨_, rfl, ?_⟩⟩
        have s12 := s1.trans s2
        cases e2 : (lenB o2 (.int xs.length) (.int xs.length) && intsB o2) with
        | false => exact iteT (iteT (fun dd H' h1 h2 s3 => (k3 (by rw [eB, e2]; rfl)).same s12 dd H' h1 h2 s3))
        | true =>
          refine iteF ?_
          cases o2 with
          | none => cases e2
          | some ys =>
          rw [Bool.and_eq_true] at e2
          obtain ⟨l1, l2⟩ := lenB_of e2.1
          have ey := map_intsOf (xs := ys) e2.2
          obtain ⟨_, hzy, p1, rfl, hS2⟩ := Seqs.same s12 hv2
          obtain ⟨b2, hS2⟩ := SqB.or hS2
          refine ⟨_, rfl, b2, p1, rfl, ⟨_, hS2⟩, fun D hD => lc_fun (fun i => V.bl (sgB ((intsOf ys).getD i 0))) (walk_seq (b := b2) (xs := ys)) hD hzy (fun H3 s3 => hS2.same s3) ?_ ?_⟩
          · rintro i x H3 H4 hi s3 _ ⟨rfl, hx⟩ Rk kk
            rw [ey] at hx
            obtain ⟨n, hn, rfl⟩ := map_int_get hx
            refine ⟨rfl, _, rfl, _, rfl, (by show 2 ≤ sizeLine; decide), fun t ht => ⟨t, _, rfl, .inr (.of upd_same), rfl, rfl, ?_⟩⟩
            have q := kk _ (same_upd (o := .tup [.int 1, .int (-1)]) ht)
            rw [List.getD_eq_getElem?_getD, hn] at q
            dsimp only [Option.getD_some] at q
            rw [← inV_sg] at q
            exact q
          intro H3 hD3 s3
          have eD : (List.range ys.length).map (fun i => V.bl (sgB ((intsOf ys).getD i 0))) = ((intsOf ys).map sgB).map V.bl := by
            rw [show ys.length = (intsOf ys).length from (congrArg List.length ey).trans (List.length_map _), range_map_getD (intsOf ys) 0 (fun x => V.bl (sgB x)), List.map_map]
            rfl
          rw [eD] at hD3
          refine ⟨D, _, rfl, .of hD3, ⟨_, rfl, ?_⟩⟩
          rw [show (((intsOf ys).map sgB).all id) = (intsOf ys).all sgB from by rw [List.all_map]; rfl]
          have s13 := s12.trans s3
          cases e3 : (intsOf ys).all sgB with
          | false => exact iteT (fun dd H' h1 h2 s4 => (k3 (by rw [eB]; simp only [Option.getD_some]; rw [e3, Bool.and_false])).same s13 dd H' h1 h2 s4)
          | true =>
            have e5 : siB (some ys) xs.length = true := by rw [eB, e2.1, e2.2]; simp only [Option.getD_some]; rw [e3]; rfl
            obtain ⟨hLk, ex, _⟩ := lik_of e1 e5
            have k5 := k4 ys rfl e5
            refine iteF ?_
            have hS3 : SqL K H3 p0 xs ∨ TpF H3 p0 xs := by
              obtain ⟨p, e, h⟩ := hF xs rfl
              cases e
              rcases h with h | h
              · exact .inl (Same.seq s13 h)
              · exact .inr (h.same s13)
            have hS4 : SqB K b2 H3 p1 ys := hS2.same s3
            have ha3 := s13 _ _ ha
            clear k1 k2 k3 k4 hS hS2 s12 s1 s2 s3 hD3 eD eB e2 e3 e5 hD
            have step : ∀ (H2 : Hp) (fs : List (Str × V)) (nm : Str) (v : V), H2 a = some (.ins C dx fs) → (∀ b o, b ≠ a → H b = some o → H2 b = some o) →
              upd H2 a (.ins C dx (putF nm v fs)) a = some (.ins C dx (putF nm v fs)) ∧ (∀ b o, b ≠ a → H b = some o → upd H2 a (.ins C dx (putF nm v fs)) b = some o) ∧ (putF nm v fs).length ≤ fs.length + 1 :=
              fun H2 fs nm v h1 h3 => ⟨upd_same, fun b o n z => by rw [upd_ne n]; exact h3 b o n z, length_putF nm v fs⟩
            refine ⟨_, rfl, tup_wayF hS3 fun q1 H4 s4 hq1 => ⟨_, rfl, a, C, dx, [], rfl, s4 _ _ ha3, U.cl, U.nP, by decide, ?_⟩⟩
            have ha4 := s4 _ _ ha3
            have hS5 := hS4.same s4
            obtain ⟨ha5, sb5, l5⟩ := step H4 [] "places" (.ref q1) ha4 (fun b o _ z => s4 _ _ (s13 _ _ z))
            have hq5 := hq1.updI (o := .ins C dx (putF "places" (.ref q1) [])) ha4
            have hS6 := sqB_updI (o := .ins C dx (putF "places" (.ref q1) [])) hS5 ha4
            have n1 : ∀ m : Str, m ≠ ("places" : Str) → (putF ("places" : Str) (V.ref q1) []).lookup m = none := fun m h => look_put h
            have f1 : (putF ("places" : Str) (V.ref q1) []).lookup ("places" : Str) = some (V.ref q1) := look_new
            generalize upd H4 a (.ins C dx (putF "places" (.ref q1) [])) = H5 at ha5 sb5 hq5 hS6 ⊢
            generalize putF ("places" : Str) (V.ref q1) [] = fs1 at ha5 l5 f1 n1 ⊢
            clear hS5 ha4 hq1 s4 hS4 hS3 ha3
            refine ⟨_, rfl, tup_way hS6 fun q2 H6 s6 hq2 => ⟨_, rfl, a, C, dx, fs1, rfl, s6 _ _ ha5, U.cl, U.nS, Nat.lt_of_le_of_lt l5 (by decide), ?_⟩⟩
            have ha6 := s6 _ _ ha5
            obtain ⟨ha7, sb7, l7⟩ := step H6 fs1 "signs" (.ref q2) ha6 (fun b o n z => s6 _ _ (sb5 b o n z))
            have hq6 := (hq5.same s6).updI (o := .ins C dx (putF "signs" (.ref q2) fs1)) ha6
            have hq7 := sqT_updI (o := .ins C dx (putF "signs" (.ref q2) fs1)) hq2 ha6
            have n2' : ∀ m : Str, m ≠ ("places" : Str) → m ≠ ("signs" : Str) → (putF ("signs" : Str) (V.ref q2) fs1).lookup m = none := fun m h1 h2 => (look_put h2).trans (n1 m h1)
            have f2 : (putF ("signs" : Str) (V.ref q2) fs1).lookup ("places" : Str) = some (V.ref q1) := (look_put (by decide)).trans f1
            have f3 : (putF ("signs" : Str) (V.ref q2) fs1).lookup ("signs" : Str) = some (V.ref q2) := look_new
            generalize upd H6 a (.ins C dx (putF "signs" (.ref q2) fs1)) = H7 at ha7 sb7 hq6 hq7 ⊢
            generalize putF ("signs" : Str) (V.ref q2) fs1 = fs2 at ha7 l7 f2 f3 n2' ⊢
            clear ha6 hq2 s6 hq5 hS6 sb5
            refine ⟨_, rfl, a, C, dx, fs2, _, rfl, ha7, U.cl, U.nP, f2, true, q1, _, rfl, hq6.sq, _, rfl, a, C, dx, fs2, rfl, ha7, U.cl, U.nW, ?_, ?_⟩
            · have e0 : ([] : List (Str × V)).length = 0 := rfl
              omega
            obtain ⟨ha8, sb8, l8⟩ := step H7 fs2 "wide" (.int xs.length) ha7 sb7
            refine k5 _ ⟨hLk, dx, q1, q2, _, ha8, ?_, ?_, (look_put (by decide)).trans f2, (look_put (by decide)).trans f3, ?_, fun m h1 h2 h3 => (look_put h3).trans (n2' m h1 h2)⟩ sb8
            · rw [← ex]
              exact hq6.updI ha7
            · rw [← ey]
              exact sqT_updI hq7 ha7
            · rw [look_new, show xs.length = (intsOf xs).length from (congrArg List.length ex).trans (List.length_map _)]
end
end K0


set_option Elab.async false
set_option linter.all false
set_option maxRecDepth 100000
set_option maxHeartbeats 8000000
namespace K0
open PySem PySem.Spec PyProof.Rows L2 RZ K0z

/-! ### what is asked of the class -/
structure LikD (K : PySem.W.Frag) (C : Addr) : Prop extends LikC K C, KindsC K C where
  ha : PySem.W.findIn K (.ref C) "__class__" = some (some (.builtin "object.__class__"))
  hn : PySem.W.specialIn K (.builtin "object.__class__") "__get__" = some (some (.builtin "getset_descriptor.__get__"))
  htk : PySem.W.takesIn K (.builtin "object.__class__") = some true
  hm : PySem.W.mroIn K C (.type "object") = some true
  me : PySem.W.kitOne K (.ref C) (.ref C) = some true
  kN : PySem.W.kitOne K (.type "NoneType") (.ref C) = some false
  kI : PySem.W.kitOne K (.type "int") (.ref C) = some false
  kL : PySem.W.kitOne K (.type "list") (.ref C) = some false
  kT : PySem.W.kitOne K (.type "tuple") (.ref C) = some false
/-- y is no likeness -/
def NoLik (K : PySem.W.Frag) (C : Addr) (H : Hp) (y : V) : Prop := ∃ t, TyE K H y t ∧ PySem.W.kitOne K t (.ref C) = some false
section
variable {K : PySem.W.Frag} {C : Addr} {H : Hp}
theorem NoLik.same {H' : Hp} {y : V} (h : NoLik K C H y) (s : Same H H') : NoLik K C H' y := by
  obtain ⟨t, ty, e⟩ := h
  exact ⟨t, ty.same s, e⟩
theorem NoLik.non (D : LikD K C) : NoLik K C H .non := ⟨_, .base (.base .non), D.kN⟩
theorem NoLik.int (D : LikD K C) (n : Int) : NoLik K C H (.int n) := ⟨_, .base (.base (.int n)), D.kI⟩
theorem NoLik.lst (D : LikD K C) {a : Addr} {xs : List V} (h : H a = some (.lst xs)) : NoLik K C H (.ref a) := ⟨_, .base (.base (.lst h)), D.kL⟩
theorem NoLik.tup (D : LikD K C) {a : Addr} {xs : List V} (h : H a = some (.tup xs)) : NoLik K C H (.ref a) := ⟨_, .base (.base (.tup h)), D.kT⟩
theorem lik_ty (D : LikD K C) {a dx : Addr} {fs : List (Str × V)} (h : H a = some (.ins C dx fs)) : TyE K H (.ref a) (.ref C) := .base (.base (.ins h D.cl D.ha D.hn D.htk D.hm))
theorem Asks.lik (D : LikD K C) {a dx : Addr} {fs : List (Str × V)} (h : H a = some (.ins C dx fs)) : Asks K H (.ref a) false :=
  ⟨.ref C, false, false, lik_ty D h, D.ki, D.kb, rfl, any2 D.kl D.kt⟩
end

/-! ### alike -/
theorem eqvT_ints (ns ms : List Int) : PyData.eqv (.tuple ((ns.map V.int).map toD)) (.tuple ((ms.map V.int).map toD)) = decide (ns = ms) := by
  rw [← eqvL_ints]; rfl
theorem dpT {K : PySem.W.Frag} {H : Hp} {a : Addr} {xs : List V} (h : SqT K H a xs) (f : xs.all flat = true) : Dp K H (.ref a) (.tuple (xs.map toD)) := .tup h (dpAllF f)
theorem shapedT {xs : List V} (h : xs.all flat = true) : SeqAt.shaped (.tuple (xs.map toD)) = true := by
  have := shapedL h
  exact this
def likEq (ps ss ps' ss' : List Int) : Bool := decide (ps = ps') && decide (ss = ss')
def spLkEq (K : PySem.W.Frag) (C : Addr) : Sp := fun vs H Q _ => ∃ (a : Addr) (ps ss : List Int) (y : V), vs = [.ref a, y] ∧ LikAt K H a C ps ss ∧
  ((∃ (b : Addr) (ps' ss' : List Int), y = .ref b ∧ LikAt K H b C ps' ss' ∧ Q (.bl (likEq ps ss ps' ss')) H) ∨ (NoLik K C H y ∧ Q (.bl false) H))
section
variable {P : Program} {w : World} {K : PySem.W.Frag} {mg : Str → Option Value} {base : Heap} {f g C : Addr} {fd : FuncData}
theorem sc_leq : FnScope ["self", "other"] ["self", "other"] (defScope sm_eq) := ⟨rfl, rfl, rfl, by decide +kernel, rfl, by decide +kernel, by decide +kernel⟩
theorem ok_leq (F : Fun K "__eq__" "Likeness.__eq__" sm_eq f fd) (T : Nm mg) (D : LikD K C) (mC : mg "Likeness" = some (.ref C)) : FnOk P w K mg base CX0 1 f fd ["self", "other"] (spLkEq K C) := by
  refine F.ok sc_leq (fun vs H Q E h => ?_) (fun cdv A outer s H vs Q E hr h => ?_)
  · obtain ⟨a, ps, ss, y, rfl, _⟩ := h
    rfl
  · obtain ⟨a, ps, ss, y, rfl, hP, h⟩ := h
    refine ⟨_, (pss_one (ps_ret (pe_and (pe_callB (call_isAK K) (by rfl) T.n_isinstance (by decide +kernel) (pa_cons (pv 1) (pa_cons (pe_glob (v := .ref C) (by rfl) mC rfl (by decide)) pa_nil))) (pe_and (pe_cmpR (op_eqD hr.units) (pe_fld (pv 0) rfl) (pe_fld (pv 1) rfl) (nomark _)) (pe_one (pe_cmpR (op_eqD hr.units) (pe_fld (pv 0) rfl) (pe_fld (pv 1) rfl) (nomark _))))))), ?_⟩
    obtain ⟨_, dx, p, q, fs, ha, hp, hq, f1, f2, _⟩ := hP
    rcases h with ⟨b, ps', ss', rfl, hP', k⟩ | ⟨⟨t, ty, e⟩, k⟩
    · obtain ⟨_, dy, p', q', gs, hb, hp', hq', g1, g2, _⟩ := hP'
      refine ⟨_, rfl, _, .ref C, _, _, true, rfl, .own _, lik_ty D hb, D.me, _, rfl, iteT ?_⟩
      refine ⟨_, rfl, a, C, dx, fs, _, rfl, ha, D.cl, D.nP, f1, _, rfl, b, C, dy, gs, _, rfl, hb, D.cl, D.nP, g1, ?_⟩
      refine ⟨_, _, dpT hp.sq (flat_ints _), dpT hp'.sq (flat_ints _), shapedT (flat_ints _), shapedT (flat_ints _), _, rfl, ?_⟩
      rw [eqvT_ints]
      have k' := k
      unfold likEq at k'
      cases e1 : decide (ps = ps') with
      | false =>
        rw [e1] at k'
        exact iteF k'
      | true =>
        rw [e1] at k'
        refine iteT ?_
        refine ⟨_, rfl, a, C, dx, fs, _, rfl, ha, D.cl, D.nS, f2, _, rfl, b, C, dy, gs, _, rfl, hb, D.cl, D.nS, g2, ?_⟩
        refine ⟨_, _, dpT hq (flat_ints _), dpT hq' (flat_ints _), shapedT (flat_ints _), shapedT (flat_ints _), ?_⟩
        rw [eqvT_ints]
        exact k'
    · exact ⟨_, rfl, _, .ref C, _, _, false, rfl, .own _, ty, e, _, rfl, iteF k⟩
end

/-! ### == and != -/
section
variable {prog : Program} {w : World} {A : Around} {E : Value → Shared → Prop} {s : Shared} {K : PySem.W.Frag} {x C f : Addr} {ox : Obj} {od : Option Obj} {b : Value}
theorem ne_KT {Q : Value → Shared → Prop} {tb : Value} (hu : A.units + 1 < cLine) (X : K.In s.heap) (I : PySem.W.InstAt s.heap x ox C od) (hb : PySem.W.Looks (model prog w) s.heap (typeOf b) tb) (hn0 : PySem.W.notFirst K C tb = true) (hn : PySem.W.findIn K (.ref C) "__ne__" = some (some (.builtin "object.__ne__")))
    (hm : PySem.W.mroIn K C (.type "object") = some true) (hs : PySem.W.findIn K (.ref C) "__eq__" = some (some (.ref f))) (hf : PySem.W.isFn K (.ref f) = true)
    (hcall : wpAny (model prog w) A.in1 (call (.ref f) [.ref x, b]) (fun v s' => ∃ r, v = .bool r ∧ Q (.bool (!r)) s') E s) : wpAny (model prog w) A (richCompare .NotEq (.ref x) b) Q E s := by
  have one : wpAny (model prog w) A (tryCompare (.ref x) "__ne__" b) (fun r s' => ∃ v, r = some v ∧ Q v s') E s := by
    unfold tryCompare
    refine wpAny_bind (ifBound_objNe X I hn (wpAny_call (codeAny_call_builtin F.cmp_object.ne.plain F.cmpEntry_ne (PySem.W.check_slot F.cmpKind_ne F.cmpSplit_ne (I.type.andThen (PySem.W.looks_mroIn X hm)) (F.cmpArgs_ne _ _) ?_))))
    refine objNe_K (A := A.in1) hu X I hs hf (wpAny_mono hcall (fun v s' hv => ?_) fun _ _ z => z)
    obtain ⟨r, rfl, q⟩ := hv
    exact ⟨r, rfl, wpAny_pure ⟨_, rfl, q⟩⟩
  simp only [richCompare, cmpInfo_NotEq, oneThing_ref]
  refine wpAny_holding (wpAny_bind (wpAny_cRoomFor (Nat.lt_of_succ_lt hu) ?_))
  refine wpAny_bind (I.type.here (wpAny_bind (hb.here ?_)))
  split
  · rename_i q
    have e : PySem.W.subIn K tb (.ref C) = some false := by
      rcases Bool.or_eq_true_iff.mp hn0 with e | e
      · rw [beq_iff_eq.mp e] at q; simp at q
      · exact beq_iff_eq.mp e
    refine wpAny_bind ((PySem.W.looks_subIn X e).here ?_)
    simp only [Bool.false_eq_true, if_false]
    refine wpAny_bind (wpAny_mono one (fun r s' z => ?_) fun _ _ e => e)
    obtain ⟨v, rfl, hq⟩ := z
    exact wpAny_pure hq
  · refine wpAny_bind (wpAny_pure ?_)
    simp only [Bool.false_eq_true, if_false]
    refine wpAny_bind (wpAny_mono one (fun r s' z => ?_) fun _ _ e => e)
    obtain ⟨v, rfl, hq⟩ := z
    exact wpAny_pure hq
end
structure EqD (P : Program) (w : World) (K : PySem.W.Frag) (mg : Str → Option Value) (base : Heap) (C : Addr) : Prop where
  ex : ∃ f fd, FnOk P w K mg base CX0 1 f fd ["self", "other"] (spLkEq K C) ∧ PySem.W.findIn K (.ref C) "__eq__" = some (some (.ref f)) ∧ PySem.W.isFn K (.ref f) = true ∧ Binds K fd ["self", "other"] []
  ne : PySem.W.findIn K (.ref C) "__ne__" = some (some (.builtin "object.__ne__"))
  hm : PySem.W.mroIn K C (.type "object") = some true
  tup : PySem.W.subIn K (.type "tuple") (.ref C) = some false
  lst : PySem.W.subIn K (.type "list") (.ref C) = some false
/-- y is a likeness, a tuple, a list -/
inductive LkOr (K : PySem.W.Frag) (C : Addr) (H : Hp) (ps ss : List Int) : V → Bool → Prop where
  | lik {b : Addr} {ps' ss' : List Int} (h : LikAt K H b C ps' ss') : LkOr K C H ps ss (.ref b) (likEq ps ss ps' ss')
  | tup {b : Addr} {xs : List V} (h : H b = some (.tup xs)) : LkOr K C H ps ss (.ref b) false
  | lst {b : Addr} {xs : List V} (h : H b = some (.lst xs)) : LkOr K C H ps ss (.ref b) false
def rEqL (K : PySem.W.Frag) (C : Addr) : R2 := fun x y H Q => ∃ (a : Addr) (ps ss : List Int) (r : Bool), x = .ref a ∧ LikAt K H a C ps ss ∧ LkOr K C H ps ss y r ∧ Q (.bl r) H
def rNeL (K : PySem.W.Frag) (C : Addr) : R2 := fun x y H Q => ∃ (a : Addr) (ps ss : List Int) (r : Bool), x = .ref a ∧ LikAt K H a C ps ss ∧ LkOr K C H ps ss y r ∧ Q (.bl (!r)) H
section
variable {X : Cx} {C : Addr}
theorem lk_run {pins : List (Addr × Obj)} {σ : L2.St} {H : Hp} {s : Shared} {K : PySem.W.Frag} {a : Addr} {ps ss : List Int} {y : V} {r : Bool} {Q : VK} {f : Addr} {fd : FuncData} (L : LikD X.K C) (hP : LikAt X.K H a C ps ss) (h : LkOr X.K C H ps ss y r) (q : Q (.bl r) H) : spLkEq X.K C [.ref a, y] H Q E0 := by
  refine ⟨a, ps, ss, y, rfl, hP, ?_⟩
  cases h with
  | lik h => exact .inl ⟨_, _, _, rfl, h, q⟩
  | tup h => exact .inr ⟨.tup L h, q⟩
  | lst h => exact .inr ⟨.lst L h, q⟩
theorem lk_look {pins : List (Addr × Obj)} {σ : L2.St} {H : Hp} {s : Shared} {ps ss : List Int} {y : V} {u : Value} {r : Bool} (D : EqD X.prog X.w X.K X.mg X.base C) (I : Inv X pins σ H s) (ry : RelV y u) (h : LkOr X.K C H ps ss y r) :
    ∃ tb, PySem.W.Looks (model X.prog X.w) s.heap (typeOf u) tb ∧ PySem.W.notFirst X.K C tb = true := by
  cases h with
  | lik h =>
    obtain ⟨_, dx, p, q, fs, hb, _⟩ := h
    cases ry
    obtain ⟨mB, J', _⟩ := ins_get I.hok hb
    obtain ⟨od', J', _⟩ := J'.look
    exact ⟨.ref C, J'.type, by simp [PySem.W.notFirst]⟩
  | tup h =>
    cases ry
    obtain ⟨_, its, _, o, ho, hc, _⟩ := I.hok _ _ h
    refine ⟨.type "tuple", hc ▸ (PySem.W.Looks.ld ho).andThen .now, ?_⟩
    unfold PySem.W.notFirst
    rw [D.tup]
    simp
  | lst h =>
    cases ry
    obtain ⟨_, its, ep, _, ho⟩ := I.hok _ _ h
    refine ⟨.type "list", (PySem.W.Looks.ld ho).andThen .now, ?_⟩
    unfold PySem.W.notFirst
    rw [D.lst]
    simp
theorem op_eqL (D : EqD X.prog X.w X.K X.mg X.base C) (L : LikD X.K C) (hr : Room 2 X.A) (K : PySem.W.Frag) (eK : X.K = K := by rfl) : OpR X (compareOp .Eq) (rEqL K C) := by
  subst eK
  obtain ⟨f, fd, F, h1, h2, B⟩ := D.ex
  intro pins s σ H x y v u Q I rx ry h
  obtain ⟨a, ps, ss, r, rfl, hP, hy, q⟩ := h
  obtain ⟨tb, lk, nf⟩ := lk_look D I ry hy
  obtain ⟨_, dx, _, _, fs, ha, _⟩ := id hP
  cases rx
  obtain ⟨mA, J, _⟩ := ins_get I.hok ha
  obtain ⟨od, J, _⟩ := J.look
  obtain ⟨m, hF⟩ := I.fr
  have run : wpAny (model X.prog X.w) X.A (call (.ref f) [.ref a, u]) (EP X pins σ fun v H' => v = .bl r ∧ Q (.bl r) H') X.xe s := by
    have := run_fn (us := [.ref a, u]) (vs := [.ref a, y]) F (hr.mono (by decide)) B .nil pass0 I (.cons rfl (.cons ry .nil)) (by simpa using lk_run (f := f) (fd := fd) (K := X.K) (pins := pins) (σ := σ) (s := s) (Q := fun v H' => v = .bl r ∧ Q (.bl r) H') L hP hy ⟨rfl, q⟩)
    simpa using this
  show wpAny (model X.prog X.w) X.A (richCompare .Eq _ u) (EP X pins σ Q) X.xe s
  refine PySem.W.cmp_K (op := .Eq) (tb := tb) hr.units0 hF I.ok.mod.kin J lk nf h1 h2 (wpAny_mono run ?_ fun _ _ z => z)
  rintro v s' ⟨z, H', I', rz, rfl, q⟩
  cases rz
  show EP X pins σ Q (.bool r) s'
  exact ⟨.bl r, H', I', rfl, q⟩
theorem op_neL (D : EqD X.prog X.w X.K X.mg X.base C) (L : LikD X.K C) (hr : Room 2 X.A) (K : PySem.W.Frag) (eK : X.K = K := by rfl) : OpR X (compareOp .NotEq) (rNeL K C) := by
  subst eK
  obtain ⟨f, fd, F, h1, h2, B⟩ := D.ex
  intro pins s σ H x y v u Q I rx ry h
  obtain ⟨a, ps, ss, r, rfl, hP, hy, q⟩ := h
  obtain ⟨tb, lk, nf⟩ := lk_look D I ry hy
  obtain ⟨_, dx, _, _, fs, ha, _⟩ := id hP
  cases rx
  obtain ⟨mA, J, _⟩ := ins_get I.hok ha
  obtain ⟨od, J, _⟩ := J.look
  have hh := lk_run (f := f) (fd := fd) (K := X.K) (pins := pins) (σ := σ) (s := s) (Q := fun v H' => v = .bl r ∧ Q (.bl (!r)) H') L hP hy ⟨rfl, q⟩
  have hl : ([Value.ref a, u] ++ []).length = 2 := rfl
  have run : wpAny (model X.prog X.w) X.A.in1 (call (.ref f) [.ref a, u]) (EP X pins σ fun v H' => v = .bl r ∧ Q (.bl (!r)) H') X.xe s := by
    refine wpAny_call (codeAny_mono (F.run X.A.in1 X.stack s H ⟨[.ref a, u], []⟩ [.ref a, u] [.ref a, y] _ E0 (hr.mono (by decide)).in1 I.env0.in1 (by
      have := B s [.ref a, u] I.kIn hl
      simpa using this) (.cons rfl (.cons ry .nil)) hh) fun r s' hq => ?_)
    cases r with
    | error e => exact pass0 pins σ H s e s' I hq
    | ok fl =>
      cases fl with
      | ret u => exact I.after hq
      | next => exact False.elim hq
      | brk => exact False.elim hq
      | cont => exact False.elim hq
  show wpAny (model X.prog X.w) X.A (richCompare .NotEq _ u) (EP X pins σ Q) X.xe s
  refine ne_KT (by have := hr.units; omega) I.kIn J lk nf D.ne D.hm h1 h2 (wpAny_mono run ?_ fun _ _ z => z)
  rintro v s' ⟨z, H', I', rz, rfl, q⟩
  cases rz
  exact ⟨r, rfl, .bl (!r), H', I', rfl, q⟩
end
end K0


set_option Elab.async false
set_option linter.all false
set_option maxRecDepth 100000
set_option maxHeartbeats 8000000
set_option exponentiation.threshold 100000
namespace K0
open PySem PySem.Spec PyProof.Rows L2 RZ K0z

/-! ### defs that may raise -/
structure DnX (P : Program) (w : World) (K : PySem.W.Frag) (mg : Str → Option Value) (base : Heap) (k : Nat) (x : Str) (f : Addr) (ps : List Str) (sp : Sp) : Prop where
  ex : ∃ fd, FnOk P w K mg base (L2.CX P w) k f fd ps sp ∧ Binds K fd ps []
  mg : mg x = some (.ref f)
  kp : PySem.W.keepIn K (.ref f) = true
structure DnKX (P : Program) (w : World) (K : PySem.W.Frag) (mg : Str → Option Value) (base : Heap) (k : Nat) (x : Str) (f : Addr) (ps ks : List Str) (gV : List V → List V → List V) (sp : Sp) : Prop where
  ex : ∃ fd g, FnOk P w K mg base (L2.CX P w) k f fd ps sp ∧ KBn K fd ps 0 ks g gV
  mg : mg x = some (.ref f)
  kp : PySem.W.keepIn K (.ref f) = true
section
variable {X : Cx} {k : Nat} {f : Addr} {ps ks : List Str} {sp : Sp} {x : Str} {p pos : Pos} {e : Expr} {es : List Expr} {kws : List Keyword} {t tk : TA} {gV : List V → List V → List V}
theorem pe_dnx (D : DnX X.prog X.w X.K X.mg X.base k x f ps sp) (hr : Room k X.A) (hg : Gl X x) (ha : PA X (e :: es) t)
    (hdb : (x == ("__debug__" : Str)) = false := by decide)
    (he : starEach (e :: es) X.env = (false, eval e X.env) :: starEach es X.env := by rfl)
    (hpl : (backTo pos (starEach es X.env)).any (·.1) = false := by rfl) :
    PE X (.Call (.Name x p) (e :: es) [] pos) (tDn sp t) := by
  obtain ⟨⟨fd, F, B⟩, m, kp⟩ := D
  have h := pe_call (p := p) F hr hg m kp B .nil passL ha hdb he hpl
  refine ⟨fun pins s σ H Q I q => h.run pins s σ H Q I ?_⟩
  have e1 : tCall sp [] E0 t σ H Q = tDn sp t σ H Q := by
    show t σ H (fun vs H1 => sp (vs ++ []) H1 Q E0) = _
    simp only [List.append_nil]
    rfl
  rw [e1]
  exact q
theorem pe_dkx (D : DnKX X.prog X.w X.K X.mg X.base k x f ps ks gV sp) (hr : Room k X.A) (hg : Gl X x) (hkw : PK X kws tk)
    (hall : (backToKw pos (keywordEach kws X.env)).all (·.1.isSome) = true := by rfl)
    (hks : (backToKw pos (keywordEach kws X.env)).filterMap (·.1) = ks := by rfl)
    (hdb : (x == ("__debug__" : Str)) = false := by decide)
    (hpl : ((backTo pos (starEach [] X.env)).any (·.1) || (backToKw pos (keywordEach kws X.env)).any (·.1.isNone)) = false := by rfl) :
    PE X (.Call (.Name x p) [] kws pos) (fun σ H Q => tk σ H fun zs H1 => zs.length = ks.length ∧ sp (gV [] zs) H1 Q E0) := by
  obtain ⟨⟨fd, g, F, hb⟩, hm, hk⟩ := D
  refine ⟨fun pins s σ H Q I h => wpAny_Call_Name_kw (ld_glob I hg hm ?_ hdb)⟩
  refine PySem.W.callWith_KW0 (h₀ := X.base) I.ok.mod.kin hk hall
    (thn (hkw.run pos pins s σ H _ I h) ?_) hpl
  rintro ws s2 ⟨zs, H2, I2, rz, l2, q2⟩
  refine ⟨I2.kIn, ?_⟩
  rw [hks]
  exact run_fnN (us := []) (vs := []) F hr hb passL I2 .nil rz rfl l2 q2
end
/-- the def, its code object at c -/
def FunC (K : PySem.W.Frag) (x qual : Str) (st : Stmt) (f : Addr) (fd : FuncData) (c : Addr) : Prop :=
  ∃ (oc : Value) (od : Option Addr) (kV doc pm : Value) (an : Option Addr) (ct : Value) (osl : Array (Option Value)),
    fd = PySem.W.fnOf x qual (defArgs st) (defBody st) (defScope st) .none kV doc pm an (.ref c) ct ∧ K.lookup f = some ⟨oc, od, .func fd, osl⟩ ∧ PySem.W.codeIn K (.ref c) qual = true
theorem Fun_okC {P : Program} {w : World} {K : PySem.W.Frag} {mg : Str → Option Value} {base : Heap}
    {x qual : Str} {st : Stmt} {f c : Addr} {fd : FuncData} {N ps : List Str} {k : Nat} {sp : Sp}
    (F : FunC K x qual st f fd c) (S : FnScope N ps (defScope st))
    (len : ∀ vs H Q E, sp vs H Q E → vs.length = ps.length)
    (hbody : ∀ (A : Around) (outer : List Env) (s : Shared) (H : Hp) (vs : List V) (Q : VK) (E : XK),
      A.guards = some [] → Room k (A.deeper (envOfC qual (defScope st) s.heap.objs.size f (.ref c))) → sp vs H Q E →
      ∃ t, PSs (cxOf CX0 P w K mg base N qual (defScope st) f (.ref c) A outer s H E).nox (defBody st) t ∧
        t { nx := fun _ H' => Q .non H', rt := Q } (start N vs) H) :
    FnG P w K mg base (k + 1) f fd ps sp := by
  obtain ⟨oc, od, kV, doc, pm, an, ct, osl, rfl, lk, hcd⟩ := F
  refine ⟨len, ?_⟩
  intro A outer s H args us vs Q E hg hr e0 hb r hsp
  have kept : ∀ b o, base.get? b = some o → s.heap.get? b = some o := fun b o e => (e0.bs b o e).1
  have KX : K.In s.heap := e0.mod.kin.keeps kept
  have lim : s.heap.NoLimit := e0.mod.nolimit.keeps kept
  refine codeAny_call_function hr.depth (KX _ _ lk) rfl S.co S.gen rfl
    (PySem.W.codeRec_of KX hcd) (hb _ _ _ _ ?_)
  refine wpAny_newFunctionEnv_cells S.kind ?_ ?_
  · rintro ⟨n, v⟩ hy
    cases S.par n (List.of_mem_zip hy).1 with
    | inl q => exact Or.inl q
    | inr q => exact Or.inr ⟨q, PySem.W.cellsFrom_some _ _ _ (Or.inl q)⟩
  · intro env he s1 x
    subst he
    obtain ⟨t, ht', hq⟩ := hbody A outer s H vs Q E hg (hr.deeper _) hsp
    have ht := ht'.nox
    refine ⟨lim.keeps x.toInCall.keep, codeAny_func ?_⟩
    have I := inv_start (CX := CX0) (E := E) (N := N) (cd := .ref c) S hr.hd e0 (len _ _ _ _ hsp) r x
    refine wpAny_mono (ht.run [] s1 (start N vs) H _ I hq) ?_ (fun _ _ z => z)
    intro fl s' hs
    cases fl with
    | ret u =>
      obtain ⟨v, σ', H', J, rv, q⟩ := hs
      exact ⟨v, H', J.os, J.bare, J.base, J.hok, rv, q⟩
    | next =>
      obtain ⟨σ', H', J, q⟩ := hs
      exact ⟨.non, H', J.os, J.bare, J.base, J.hok, rfl, q⟩
    | brk =>
      obtain ⟨_, _, _, q⟩ := hs
      cases q
    | cont =>
      obtain ⟨_, _, _, q⟩ := hs
      cases q
def kw1 : List V → List V → List V := fun _ zs => zs
theorem tabs_upd {T : List (Addr × Str)} {H : Hp} {p : Addr} {o : HO} {xs : List V} (t : LamX.Tabs T H) (h : H p = some (.lst xs)) : LamX.Tabs T (upd H p o) := by
  intro q hq
  obtain ⟨ps, h1, h2, h3⟩ := t q hq
  refine ⟨ps, ?_, h2, fun pos cv hc => ?_⟩
  · rw [upd_ne (fun e => by rw [e, h] at h1; cases h1)]
    exact h1
  · obtain ⟨c', e1, e2⟩ := h3 pos cv hc
    refine ⟨c', e1, ?_⟩
    rw [upd_ne (fun e => by rw [e, h] at e2; cases e2)]
    exact e2
def SBN (c : Addr) (H H' : Hp) : Prop := ∀ b o, b ≠ c → H b = some o → (∀ ps, o ≠ .tbl ps) → H' b = some o
theorem SBN.of {c : Addr} {H H' : Hp} (s : SameBut c H H') : SBN c H H' := fun b o n e _ => s b o n e
theorem SBN.ext {c : Addr} {H H' : Hp} (s : LamX.ExtN H H') : SBN c H H' := fun b o _ e q => s b o e q
theorem SBN.trans {c : Addr} {H H1 H2 : Hp} (a : SBN c H H1) (b : SBN c H1 H2) : SBN c H H2 := fun x o n e q => b x o n (a x o n e q) q
theorem Coil.ext {H H' : Hp} {c d : Addr} {ns : List Int} {m : Nat} (h : Coil H c d ns m) (s : LamX.ExtN H H') : Coil H' c d ns m := by
  obtain ⟨h1, h2, h3, a, b, h4, r⟩ := h
  exact ⟨h1, h2, s _ _ h3 (by intro ps e; cases e), a, b, s _ _ h4 (by intro ps e; cases e), r⟩
theorem tabs_but {T : List (Addr × Str)} {H H' : Hp} {c d : Addr} {ns : List Int} {m : Nat} (t : LamX.Tabs T H) (hC : Coil H c d ns m) (s : SameBut c H H') : LamX.Tabs T H' := by
  obtain ⟨_, _, _, a, b, h4, _⟩ := hC
  intro p hp
  obtain ⟨ps, h1, h2, h3⟩ := t p hp
  refine ⟨ps, s _ _ (fun e => by rw [e, h4] at h1; cases h1) h1, h2, fun pos cv hc => ?_⟩
  obtain ⟨c', e1, e2⟩ := h3 pos cv hc
  exact ⟨c', e1, s _ _ (fun e => by rw [e, h4] at e2; cases e2) e2⟩
theorem Fun_okN {P : Program} {w : World} {K : PySem.W.Frag} {mg : Str → Option Value} {base : Heap}
    {x qual : Str} {st : Stmt} {f : Addr} {fd : FuncData} {N ps : List Str} {k : Nat} {sp : Sp}
    (F : Fun K x qual st f fd) (S : FnScope N ps (defScope st))
    (len : ∀ vs H Q E, sp vs H Q E → vs.length = ps.length)
    (hbody : ∀ (cdv : Value) (A : Around) (outer : List Env) (s : Shared) (H : Hp) (vs : List V) (Q : VK) (E : XK),
      A.guards = some [] → Room k (A.deeper (envOfC qual (defScope st) s.heap.objs.size f cdv)) → sp vs H Q E →
      ∃ t, PSs (cxOf CX0 P w K mg base N qual (defScope st) f cdv A outer s H E).nox (defBody st) t ∧
        t { nx := fun _ H' => Q .non H', rt := Q } (start N vs) H) :
    FnG P w K mg base (k + 1) f fd ps sp :=
  Fun_okG F S len fun cdv A outer s H vs Q E hg hr h => let ⟨t, ht, q⟩ := hbody cdv A outer s H vs Q E hg hr h; ⟨t, ht.nox, q⟩

end K0


set_option Elab.async false
set_option linter.all false
set_option maxRecDepth 100000
set_option maxHeartbeats 8000000
namespace K0
open PySem PySem.Spec PyProof.Rows L2 RZ K0z

/-! ### what a likeness leads to, by numbers -/
def ledL (ps ss pt : List Int) : List Int := (List.range ps.length).map fun k => ss.getD k 0 * pt.getD (ps.getD k 0).toNat 0
def thenP (ps ps' : List Int) : List Int := ps'.map fun k => ps.getD k.toNat 0
def backP (ps : List Int) : List Int := (List.range ps.length).map fun (k : Nat) => (ps.idxOf (k : Int) : Int)
def backS (ps ss : List Int) : List Int := (backP ps).map fun k => ss.getD k.toNat 0
theorem Lik.at {ps ss : List Int} (L : Lik ps ss) {p : Int} (h : p ∈ ps) : ∃ j : Nat, p = j ∧ j < ps.length := by
  have := (L.perm.mem_iff).mp h
  unfold rng at this
  obtain ⟨j, hj, rfl⟩ := List.mem_map.mp this
  exact ⟨j, rfl, List.mem_range.mp hj⟩
theorem ledL_len (ps ss pt : List Int) : (ledL ps ss pt).length = ps.length := by simp [ledL]

/-! ### likenesses made -/
/-- the class stands at C -/
structure LikM (P : Program) (w : World) (K : PySem.W.Frag) (mg : Str → Option Value) (base : Heap) (C CB : Addr) : Prop where
  ex : ∃ fI fd, Mk K C fI ∧ FnOk P w K mg base (L2.CX P w) 6 fI fd ["self", "places", "signs"] (spLkI K CB C) ∧ Binds K fd ["self", "places", "signs"] []
  mg : mg "Likeness" = some (.ref C)
theorem seqsL {K : PySem.W.Frag} {H : Hp} {p : Addr} {xs : List V} (h : H p = some (.lst xs)) (hz : xs.length < sizeLine) : Seqs K H (.ref p) (some xs) := ⟨.lst h, hz, p, rfl, .inl (.of h)⟩
theorem seqsT {K : PySem.W.Frag} {H : Hp} {p : Addr} {xs : List V} (h : H p = some (.tup xs)) (hz : xs.length < sizeLine) : Seqs K H (.ref p) (some xs) := ⟨.tup h, hz, p, rfl, .inr (.of h)⟩
theorem itemsI {K : PySem.W.Frag} {H : Hp} (ns : List Int) : Items K H (some (ns.map V.int)) := by
  rintro xs e x hx
  cases e
  obtain ⟨n, _, rfl⟩ := List.mem_map.mp hx
  exact ⟨_, .int n⟩
theorem six {n : Nat} (h : n ≤ 6) : n < sizeLine := Nat.lt_of_le_of_lt h (by decide)
/-- a list, or a tuple that is known to have no dict -/
def PlV (K : PySem.W.Frag) (H : Hp) (v : V) (xs : List V) : Prop := xs.length < sizeLine ∧ ∃ p, v = .ref p ∧ (H p = some (.lst xs) ∨ TpF H p xs)
theorem PlV.same {K : PySem.W.Frag} {H H' : Hp} {v : V} {xs : List V} (h : PlV K H v xs) (s : Same H H') : PlV K H' v xs := by
  obtain ⟨hz, p, e, h⟩ := h
  refine ⟨hz, p, e, ?_⟩
  rcases h with h | h
  · exact .inl (s _ _ h)
  · exact .inr (h.same s)
theorem PlV.seqs {K : PySem.W.Frag} {H : Hp} {v : V} {xs : List V} (h : PlV K H v xs) : Seqs K H v (some xs) := by
  obtain ⟨hz, p, rfl, h⟩ := h
  rcases h with h | h
  · exact ⟨.lst h, hz, p, rfl, .inl (.of h)⟩
  · exact ⟨.tupF h, hz, p, rfl, .inr h.sq⟩
theorem PlV.ask {K : PySem.W.Frag} {H : Hp} {v : V} {xs : List V} (h : PlV K H v xs) : ∀ zs, some xs = some zs → ∃ p, v = .ref p ∧ (SqL K H p zs ∨ TpF H p zs) := by
  obtain ⟨hz, p, rfl, h⟩ := h
  intro zs e
  cases e
  refine ⟨p, rfl, ?_⟩
  rcases h with h | h
  · exact .inl (.of h)
  · exact .inr h
theorem lik_good {K : PySem.W.Frag} {CB C : Addr} {H : Hp} {a dx : Addr} {v1 v2 : V} {ps ss : List Int} {Q : VK} {E : XK} (L : Lik ps ss) (ha : H a = some (.ins C dx [])) (hs1 : PlV K H v1 (ps.map V.int)) (hs2 : Seqs K H v2 (some (ss.map V.int)))
    (k : ∀ H', LikAt K H' a C ps ss → (∀ b o, b ≠ a → H b = some o → H' b = some o) → Q .non H') : spLkI K CB C [.ref a, v1, v2] H Q E := by
  refine ⟨a, dx, v1, v2, _, _, rfl, ha, hs1.seqs, itemsI ps, hs1.ask, hs2, itemsI ss, fun e => absurd e (by rw [plB_lik L]; decide), fun xs e _ => ?_⟩
  cases e
  refine ⟨fun e => absurd e (by rw [siB_lik L]; decide), fun ys e _ H' hL sb => ?_⟩
  cases e
  rw [intsOf_map, intsOf_map] at hL
  exact k H' hL sb
theorem lik_way {K : PySem.W.Frag} {CB C : Addr} {H1 : Hp} {v1 v2 : V} {ps ss : List Int} {Q : VK} {E : XK} (L : Lik ps ss) (hs1 : PlV K H1 v1 (ps.map V.int)) (hs2 : Seqs K H1 v2 (some (ss.map V.int)))
    (k : ∀ a H2, H1 a = none → LikAt K H2 a C ps ss → Same H1 H2 → Q (.ref a) H2) :
    ∀ x dx, H1 x = none → H1 dx = none → dx ≠ x → spLkI K CB C (.ref x :: ([v1, v2] ++ [])) (upd (upd H1 dx (.own x)) x (.ins C dx [])) (fun v H2 => v = .non ∧ Q (.ref x) H2) E := by
  intro x dx hx hdx ndx
  have s : Same H1 (upd (upd H1 dx (.own x)) x (.ins C dx [])) := (same_upd hdx).trans (same_upd (by rw [upd_ne (Ne.symm ndx)]; exact hx))
  exact lik_good L upd_same (hs1.same s) (Seqs.same s hs2) fun H' hL sb => ⟨rfl, k x H' hx hL (make_same sb hx hdx)⟩
theorem pe_lik {X : Cx} {C CB : Addr} {p pos : Pos} {e : Expr} {es : List Expr} {t : TA} (D : LikM X.prog X.w X.K X.mg X.base C CB) (hr : Room 7 X.A) (hg : Gl X "Likeness") (ha : PA X (e :: es) t)
    (he : starEach (e :: es) X.env = (false, eval e X.env) :: starEach es X.env := by rfl) (hpl : (backTo pos (starEach es X.env)).any (·.1) = false := by rfl) :
    PE X (.Call (.Name "Likeness" p) (e :: es) [] pos) (tMake C (spLkI X.K CB C) [] E0 t) := by
  obtain ⟨fI, fd, M, F, B⟩ := D.ex
  exact pe_make (p := p) (pos := pos) M F hr hg D.mg B .nil passL ha (by decide) he hpl

/-! ### led -/
def spLed (K : PySem.W.Frag) (CP C : Addr) : Sp := fun vs H Q E => ∃ (a : Addr) (v : V) (ps ss : List Int) (o : Option (List V)), vs = [.ref a, v] ∧ LikAt K H a C ps ss ∧ Seqs K H v o ∧ Items K H o ∧
  ((lenB o (.int ps.length) (.int ps.length) && intsB o) = false → raisesN CP "point" H E) ∧
  (∀ xs, o = some xs → (lenB o (.int ps.length) (.int ps.length) && intsB o) = true → ∀ q H', Same H H' → H q = none → H' q = some (.tup ((ledL ps ss (intsOf xs)).map V.int)) → Q (.ref q) H')
section
variable {P : Program} {w : World} {K : PySem.W.Frag} {mg : Str → Option Value} {base : Heap} {f g g2 C CB CP : Addr} {fd : FuncData}
abbrev N_led : List Str := ["self", "point", "place", "sign"]
theorem sc_led : FnScope N_led ["self", "point"] (defScope sm_led) := ⟨rfl, rfl, rfl, by decide +kernel, rfl, by decide +kernel, by decide +kernel⟩
theorem ok_led (F : Fun K "led" "Likeness.led" sm_led f fd) (T : Nm mg) (U : LikC K C) (D_is_point : Dn P w K mg base 5 "is_point" g ["value", "wide"] (spIsPoint K))
    (R_BadPoint : RaiseC P w K mg base "BadPoint" CP "part") : FnOk P w K mg base (L2.CX P w) 6 f fd ["self", "point"] (spLed K CP C) := by
  refine F.okX sc_led (fun vs H Q E h => ?_) (fun cdv A outer s H vs Q E hr h => ?_)
  · obtain ⟨a, v, _, _, _, rfl, _⟩ := h
    rfl
  · obtain ⟨a, v, ps, ss, o, rfl, hP, hv, hi, k1, k2⟩ := h
    refine ⟨_, (pss_cons (ps_if (pt_not (pt_val (pe_dn D_is_point (hr.mono (by decide)) rfl (pa_cons (pv 1) (pa_cons (pe_fld (pv 0) rfl) pa_nil))))) (pss_one (ps_raise rfl (takes_of rfl rfl rfl rfl) (pmk_c R_BadPoint (hr.mono (by decide)) rfl (pa_cons pe_str pa_nil)))) pss_nil)
    (pss_one (ps_ret (pe_callTy (call_tupK K) (by rfl) T.n_tuple (by decide +kernel) (pa_cons (pe_lc (own := [("place", 2), ("sign", 3)]) (g := gTup K 2 (gCons (gName 2) (gCons (gName 3) gNil))) (tt := tYes) rfl sc_led.nd (pi_zipMK K (by rfl) T.n_zip (pa_cons (pe_fld (pv 0) rfl) (pa_cons (pe_fld (pv 0) rfl) pa_nil))) (blkOk_by (N := N_led) (sc := defScope sm_led) (by decide +kernel)) (fun _ _ _ _ _ => (pg_tup (by rfl) (pgs_cons (pg_name (i := 2) sc_led.nd rfl (Or.inl rfl)) (pgs_cons (pg_name (i := 3) sc_led.nd rfl (Or.inl rfl)) pgs_nil)))) (fun _ _ _ _ _ => pts_nil) (fun _ _ _ _ _ => (pe_op op_mul (pv 3) (pe_ix (ix_K K) (pv 1) (pv 2) (fun _ _ => rfl))))) pa_nil))))), ?_⟩
    obtain ⟨L, dx, p, q, fs, ha, hp, hq, f1, f2, f3, _⟩ := hP
    refine ⟨_, rfl, _, rfl, a, C, dx, fs, _, rfl, ha, U.cl, U.nW, f3, v, _, o, rfl, hv, hi, fun H1 s1 => ⟨_, rfl, ?_⟩⟩
    cases e : (lenB o (.int ps.length) (.int ps.length) && intsB o) with
    | false => exact iteT (fun dd H' h1 h2 s2 => (k1 e).same s1 dd H' h1 h2 s2)
    | true =>
      refine iteF ?_
      cases o with
      | none => cases e
      | some xs =>
        have e' := e
        rw [Bool.and_eq_true] at e'
        obtain ⟨l1, l2⟩ := lenB_of e'.1
        have ex := map_intsOf (xs := xs) e'.2
        have exl : xs.length = (intsOf xs).length := (congrArg List.length ex).trans (List.length_map _)
        obtain ⟨_, hz, pp, rfl, hS⟩ := Seqs.same s1 hv
        obtain ⟨b, hS⟩ := SqB.or hS
        have k3 := k2 xs rfl e
        have n6 := L.n6
        have len := L.len
        refine ⟨_, rfl, a, C, dx, fs, _, rfl, s1 _ _ ha, U.cl, U.nP, f1, _, rfl, a, C, dx, fs, _, rfl, s1 _ _ ha, U.cl, U.nS, f2, true, true, p, q, _, _, rfl, (hp.same s1).sq, same_sqT s1 hq, fun D hD => lc_fun (fun i => V.int (ss.getD i 0 * (intsOf xs).getD (ps.getD i 0).toNat 0)) (walk_zipM rfl) hD ?_ (fun H2 s2 => ⟨(hp.same (s1.trans s2)).sq, same_sqT (s1.trans s2) hq⟩) ?_ ?_⟩
        · rw [List.length_map, List.length_map]
          exact six (by omega)
        · rintro i x H2 H3 hi2 s2 ⟨acc, hacc⟩ ⟨T', x', y', rfl, hT, rfl, e3, e4⟩ Rk kk
          obtain ⟨n1, hn1, rfl⟩ := map_int_get e3
          obtain ⟨n2, hn2, rfl⟩ := map_int_get e4
          obtain ⟨j, rfl, hj⟩ := L.at (List.mem_of_getElem? hn1)
          have sT := same_upd (o := .tup [.int (j : Nat), .int n2]) hT
          have hjx : j < (intsOf xs).length := by omega
          refine ⟨T', _, rfl, .of upd_same, rfl, _, _, rfl, _, _, rfl, rfl, rfl, _, rfl, _, rfl, _, rfl, b, pp, xs, _, .int ((intsOf xs)[j]'hjx), rfl, rfl, hS.same (s2.trans sT), atI_nat ?_, n2, _, rfl, rfl, ?_, ?_⟩
          · have eg : ((intsOf xs).map V.int)[j]? = some (V.int ((intsOf xs)[j]'hjx)) := by
              rw [List.getElem?_map, List.getElem?_eq_getElem hjx]
              rfl
            rw [← ex] at eg
            exact eg
          · rcases L.sg n2 (List.mem_of_getElem? hn2) with rfl | rfl
            · exact .inl ⟨by decide, by decide⟩
            · exact .inl ⟨by decide, by decide⟩
          · have q := kk _ sT
            rw [List.getD_eq_getElem?_getD (l := ss), hn2, List.getD_eq_getElem?_getD (l := ps), hn1] at q
            dsimp only [Option.getD_some] at q
            rw [Int.toNat_natCast, getD_of hjx] at q
            exact q
        · intro H2 hD2 s2
          rw [List.length_map, List.length_map, len, Nat.min_self] at hD2
          have eL : (List.range ps.length).map (fun i => V.int (ss.getD i 0 * (intsOf xs).getD (ps.getD i 0).toNat 0)) = (ledL ps ss (intsOf xs)).map V.int := by
            unfold ledL
            rw [List.map_map]
            rfl
          rw [eL] at hD2
          have s12 := s1.trans s2
          refine ⟨false, D, _, rfl, .of hD2, fun _ l hl => ?_, fun z => by cases z⟩
          exact k3 l _ (s12.trans (same_upd hl)) (s12.free hl) upd_same
end
end K0


set_option Elab.async false
set_option linter.all false
set_option maxRecDepth 100000
set_option maxHeartbeats 4000000
namespace K0
open PySem PySem.Spec PyProof.Rows L2 RZ K0z

/-! ### likenesses by numbers -/
theorem ext_getD {l1 l2 : List Int} (h : l1.length = l2.length) (e : ∀ i, i < l1.length → l1.getD i 0 = l2.getD i 0) : l1 = l2 := by
  refine List.ext_getElem h fun i h1 h2 => ?_
  have := e i h1
  rw [getD_of h1, getD_of h2] at this
  exact this
theorem getD_map {α : Type} {l : List α} {f : α → Int} {i : Nat} (d : α) (h : i < l.length) : (l.map f).getD i 0 = f (l.getD i d) := by
  rw [getD_of (by simpa using h), getD_of h, List.getElem_map]
theorem getD_range {n i : Nat} {f : Nat → Int} (h : i < n) : ((List.range n).map f).getD i 0 = f i := by
  rw [getD_of (by simpa using h), List.getElem_map, List.getElem_range]
theorem led_at {ps ss pt : List Int} {k : Nat} (h : k < ps.length) : (ledL ps ss pt).getD k 0 = ss.getD k 0 * pt.getD (ps.getD k 0).toNat 0 := getD_range h
theorem rng_at {n k : Nat} (h : k < n) : (rng n).getD k 0 = (k : Int) := getD_range (f := fun i => (i : Int)) h
def cnt (n : Nat) : List Int := (List.range n).map fun (i : Nat) => (i : Int) + 1
theorem cnt_at {n k : Nat} (h : k < n) : (cnt n).getD k 0 = (k : Int) + 1 := getD_range (f := fun i => (i : Int) + 1) h
theorem cnt_len (n : Nat) : (cnt n).length = n := by simp [cnt]
section
variable {ps ss ps' ss' pt : List Int}
theorem Lik.get (L : Lik ps ss) {i : Nat} (h : i < ps.length) : ∃ j : Nat, ps.getD i 0 = j ∧ j < ps.length := by
  rw [getD_of h]
  exact L.at (List.getElem_mem h)
theorem Lik.sget (L : Lik ps ss) {i : Nat} (h : i < ps.length) : ss.getD i 0 = 1 ∨ ss.getD i 0 = -1 := by
  have h2 : i < ss.length := by rw [L.len]; exact h
  rw [getD_of h2]
  exact L.sg _ (List.getElem_mem h2)
theorem rng_nodup (n : Nat) : (rng n).Nodup := by
  unfold rng
  refine List.Pairwise.map _ (fun a b (h : a ≠ b) => ?_) (List.nodup_range (n := n))
  intro e
  exact h (Int.ofNat.inj e)
theorem Lik.nodup (L : Lik ps ss) : ps.Nodup := L.perm.nodup_iff.mpr (rng_nodup _)
theorem Lik.mem (L : Lik ps ss) {k : Nat} (h : k < ps.length) : (k : Int) ∈ ps := by
  refine L.perm.mem_iff.mpr ?_
  unfold rng
  exact List.mem_map.mpr ⟨k, List.mem_range.mpr h, rfl⟩
theorem Lik.idx (L : Lik ps ss) {k : Nat} (h : k < ps.length) : ps.idxOf (k : Int) < ps.length ∧ ps.getD (ps.idxOf (k : Int)) 0 = k := by
  have h1 : ps.idxOf (k : Int) < ps.length := List.idxOf_lt_length_of_mem (L.mem h)
  refine ⟨h1, ?_⟩
  rw [getD_of h1]
  exact List.getElem_idxOf h1
theorem Lik.idx' (L : Lik ps ss) {i : Nat} (h : i < ps.length) : ps.idxOf (ps.getD i 0) = i := by
  rw [getD_of h]
  exact L.nodup.idxOf_getElem i h
theorem back_at {k : Nat} (h : k < ps.length) : (backP ps).getD k 0 = (ps.idxOf (k : Int) : Int) := getD_range (f := fun (k : Nat) => (ps.idxOf (k : Int) : Int)) h
theorem backP_len : (backP ps).length = ps.length := by simp [backP]
theorem backS_len : (backS ps ss).length = ps.length := by simp [backS, backP]
theorem backS_at {k : Nat} (h : k < ps.length) : (backS ps ss).getD k 0 = ss.getD (ps.idxOf (k : Int)) 0 := by
  unfold backS
  rw [getD_map 0 (by rw [backP_len]; exact h), back_at h, Int.toNat_natCast]
theorem Lik.back (L : Lik ps ss) : Lik (backP ps) (backS ps ss) := by
  refine ⟨by rw [backP_len]; exact L.n2, by rw [backP_len]; exact L.n6, by rw [backS_len, backP_len], ?_, fun s hs => ?_⟩
  · rw [backP_len]
    have e : ps.map (fun k => (ps.idxOf k : Int)) = rng ps.length := by
      refine ext_getD (by rw [List.length_map, rng_len]) fun i h => ?_
      rw [List.length_map] at h
      rw [getD_map 0 h, rng_at h, L.idx' h]
    have e2 : backP ps = (rng ps.length).map (fun k => (ps.idxOf k : Int)) := by
      unfold backP rng
      rw [List.map_map]
      rfl
    rw [e2]
    refine (L.perm.symm.map _).trans ?_
    rw [e]
  · obtain ⟨i, hi, rfl⟩ := List.mem_iff_getElem.mp hs
    rw [← getD_of hi 0]
    rw [backS_len] at hi
    rw [backS_at hi]
    exact L.sget (L.idx hi).1
theorem Lik.then (L : Lik ps ss) (L' : Lik ps' ss') (hn : ps'.length = ps.length) : Lik (thenP ps ps') (ledL ps' ss' ss) := by
  have l1 : (thenP ps ps').length = ps.length := by simp [thenP, hn]
  refine ⟨by rw [l1]; exact L.n2, by rw [l1]; exact L.n6, by rw [ledL_len, l1, hn], ?_, fun s hs => ?_⟩
  · rw [l1]
    have e : (rng ps.length).map (fun k => ps.getD k.toNat 0) = ps := by
      refine ext_getD (by rw [List.length_map, rng_len]) fun i h => ?_
      rw [List.length_map, rng_len] at h
      rw [getD_map 0 (by rw [rng_len]; exact h), rng_at h, Int.toNat_natCast]
    unfold thenP
    refine ((L'.perm.map _).trans ?_).trans L.perm
    rw [hn, e]
  · obtain ⟨i, hi, rfl⟩ := List.mem_iff_getElem.mp hs
    rw [← getD_of hi 0]
    rw [ledL_len] at hi
    rw [led_at hi]
    obtain ⟨j, hj, hjl⟩ := L'.get hi
    rw [hj, Int.toNat_natCast]
    rcases L'.sget hi with e1 | e1 <;> rcases L.sget (i := j) (by omega) with e2 | e2 <;> rw [e1, e2] <;> decide
theorem Lik.same {n : Nat} (h2 : 2 ≤ n) (h6 : n ≤ 6) : Lik (rng n) (List.replicate n 1) := by
  refine ⟨by rw [rng_len]; exact h2, by rw [rng_len]; exact h6, by rw [List.length_replicate, rng_len], by rw [rng_len], fun s hs => .inl ?_⟩
  exact List.eq_of_mem_replicate hs
theorem led_then (L : Lik ps ss) (L' : Lik ps' ss') (hn : ps'.length = ps.length) : ledL (thenP ps ps') (ledL ps' ss' ss) pt = ledL ps' ss' (ledL ps ss pt) := by
  have l1 : (thenP ps ps').length = ps'.length := by simp [thenP]
  refine ext_getD (by rw [ledL_len, ledL_len, l1]) fun i h => ?_
  rw [ledL_len, l1] at h
  rw [led_at (by rw [l1]; exact h), led_at h, led_at h]
  obtain ⟨j, hj, hjl⟩ := L'.get h
  have e : (thenP ps ps').getD i 0 = ps.getD j 0 := by
    unfold thenP
    rw [getD_map 0 h, hj, Int.toNat_natCast]
  rw [e, hj, Int.toNat_natCast, led_at (by omega), Int.mul_assoc]
theorem led_back (L : Lik ps ss) (hp : pt.length = ps.length) : ledL (backP ps) (backS ps ss) (ledL ps ss pt) = pt := by
  refine ext_getD (by rw [ledL_len, backP_len, hp]) fun i h => ?_
  rw [ledL_len, backP_len] at h
  obtain ⟨h1, h2⟩ := L.idx h
  rw [led_at (by rw [backP_len]; exact h), back_at h, backS_at h, Int.toNat_natCast, led_at h1, h2, Int.toNat_natCast]
  rcases L.sget h1 with e | e <;> rw [e] <;> omega
theorem led_back' (L : Lik ps ss) (hp : pt.length = ps.length) : ledL ps ss (ledL (backP ps) (backS ps ss) pt) = pt := by
  refine ext_getD (by rw [ledL_len, hp]) fun i h => ?_
  rw [ledL_len] at h
  obtain ⟨j, hj, hjl⟩ := L.get h
  rw [led_at h, hj, Int.toNat_natCast, led_at (by rw [backP_len]; exact hjl), back_at hjl, backS_at hjl, ← hj, L.idx' h, Int.toNat_natCast]
  rcases L.sget h with e | e <;> rw [e] <;> omega
/-- what tells a likeness by what 1, 2, .. are led to -/
theorem led_inj (L : Lik ps ss) (L' : Lik ps' ss') (hn : ps'.length = ps.length) (h : ledL ps ss (cnt ps.length) = ledL ps' ss' (cnt ps.length)) : ps = ps' ∧ ss = ss' := by
  have key : ∀ i, i < ps.length → ps.getD i 0 = ps'.getD i 0 ∧ ss.getD i 0 = ss'.getD i 0 := by
    intro i hi
    have e := congrArg (fun l => l.getD i 0) h
    rw [led_at hi, led_at (by omega)] at e
    obtain ⟨j, hj, hjl⟩ := L.get hi
    obtain ⟨j', hj', hjl'⟩ := L'.get (i := i) (by omega)
    rw [hj, hj', Int.toNat_natCast, Int.toNat_natCast, cnt_at hjl, cnt_at (by omega)] at e
    rw [hj, hj']
    rcases L.sget hi with e1 | e1 <;> rcases L'.sget (i := i) (by omega) with e2 | e2 <;> rw [e1, e2] at e ⊢ <;> omega
  refine ⟨ext_getD hn.symm fun i hi => (key i hi).1, ext_getD (by rw [L.len, L'.len, hn]) fun i hi => (key i (by rw [← L.len]; exact hi)).2⟩
theorem led_same {n : Nat} (hp : pt.length = n) : ledL (rng n) (List.replicate n 1) pt = pt := by
  refine ext_getD (by rw [ledL_len, rng_len, hp]) fun i h => ?_
  rw [ledL_len, rng_len] at h
  rw [led_at (by rw [rng_len]; exact h), rng_at h, Int.toNat_natCast, getD_of (by simpa using h), List.getElem_replicate, Int.one_mul]
theorem then_len : (thenP ps ps').length = ps'.length := by simp [thenP]
theorem then_back (L : Lik ps ss) : thenP ps (backP ps) = rng ps.length ∧ ledL (backP ps) (backS ps ss) ss = List.replicate ps.length 1 := by
  have hl := L.then L.back backP_len
  refine led_inj hl (Lik.same L.n2 L.n6) (by rw [rng_len, then_len, backP_len]) ?_
  rw [then_len, backP_len, led_then L L.back backP_len, led_back L (cnt_len _), led_same (cnt_len _)]
theorem back_then (L : Lik ps ss) : thenP (backP ps) ps = rng ps.length ∧ ledL ps ss (backS ps ss) = List.replicate ps.length 1 := by
  have hl := L.back.then L backP_len.symm
  refine led_inj hl (Lik.same L.n2 L.n6) (by rw [rng_len, then_len]) ?_
  rw [then_len, led_then L.back L backP_len.symm, led_back' L (cnt_len _), led_same (cnt_len _)]
theorem same_then (L : Lik ps ss) : thenP (rng ps.length) ps = ps ∧ ledL ps ss (List.replicate ps.length 1) = ss := by
  have hs := Lik.same L.n2 L.n6
  have hl := hs.then L (by rw [rng_len])
  refine led_inj hl L then_len.symm ?_
  rw [then_len, led_then hs L (by rw [rng_len]), led_same (cnt_len _)]
theorem led_left (L : Lik ps ss) {x y : List Int} (hx : x.length = ps.length) (hy : y.length = ps.length) (h : ledL ps ss x = ledL ps ss y) : x = y := by
  rw [← led_back L hx, h, led_back L hy]
theorem back_back (L : Lik ps ss) : backP (backP ps) = ps ∧ backS (backP ps) (backS ps ss) = ss := by
  refine led_inj L.back.back L (by rw [backP_len, backP_len]) ?_
  rw [backP_len, backP_len]
  refine led_left L.back (by rw [ledL_len, backP_len]) (by rw [ledL_len, backP_len]) ?_
  rw [led_back' L.back (by rw [cnt_len, backP_len]), led_back L (cnt_len _)]
theorem back_of_then (L : Lik ps ss) (L' : Lik ps' ss') (hn : ps'.length = ps.length) :
    backP (thenP ps ps') = thenP (backP ps') (backP ps) ∧ backS (thenP ps ps') (ledL ps' ss' ss) = ledL (backP ps) (backS ps ss) (backS ps' ss') := by
  have hl := L.then L' hn
  have hb : (backP ps).length = (backP ps').length := by rw [backP_len, backP_len, hn]
  refine led_inj hl.back (L'.back.then L.back hb) (by rw [then_len, backP_len, backP_len, then_len, hn]) ?_
  have e1 : (backP (thenP ps ps')).length = ps.length := by rw [backP_len, then_len, hn]
  rw [e1]
  refine led_left hl (by rw [ledL_len, backP_len]) (by rw [ledL_len, then_len, backP_len, then_len, hn]) ?_
  rw [led_back' hl (by rw [cnt_len, then_len, hn]), led_then L'.back L.back hb, led_then L L' hn, led_back' L (by rw [ledL_len, backP_len, hn]), led_back' L' (by rw [cnt_len, hn])]
/-- what is due: the places and signs by which 1, 2, .. is led -/
theorem due_of (L : Lik ps ss) : (ledL ps ss (cnt ps.length)).map (fun x => (if x < 0 then -x else x) - 1) = ps ∧ (ledL ps ss (cnt ps.length)).map (fun x => if 0 < x then (1 : Int) else -1) = ss := by
  have key : ∀ i, i < ps.length → ∃ j : Nat, ps.getD i 0 = j ∧ (ledL ps ss (cnt ps.length)).getD i 0 = ss.getD i 0 * ((j : Int) + 1) := fun i hi => by
    obtain ⟨j, hj, hjl⟩ := L.get hi
    refine ⟨j, hj, ?_⟩
    rw [led_at hi, hj, Int.toNat_natCast, cnt_at hjl]
  refine ⟨ext_getD (by rw [List.length_map, ledL_len]) fun i hi => ?_, ext_getD (by rw [List.length_map, ledL_len, L.len]) fun i hi => ?_⟩
  · rw [List.length_map, ledL_len] at hi
    obtain ⟨j, hj, e⟩ := key i hi
    rw [getD_map 0 (by rw [ledL_len]; exact hi), e, hj]
    rcases L.sget hi with e1 | e1 <;> rw [e1] <;> split <;> omega
  · rw [List.length_map, ledL_len] at hi
    obtain ⟨j, hj, e⟩ := key i hi
    rw [getD_map 0 (by rw [ledL_len]; exact hi), e]
    rcases L.sget hi with e1 | e1 <;> rw [e1] <;> split <;> omega
end
end K0


set_option Elab.async false
set_option linter.all false
set_option maxRecDepth 100000
set_option maxHeartbeats 8000000
namespace K0
open PySem PySem.Spec PyProof.Rows L2 RZ K0z

theorem mt_tixK {X : Cx} (K : PySem.W.Frag) (eK : X.K = K := by rfl) : MtR X "tuple.index" (fun x xs H Q => ∃ (a : Addr) (ns : List Int) (k : Int), x = .ref a ∧ xs = [.int k] ∧ SqT K H a (ns.map V.int) ∧ k ∈ ns ∧ Q (.int (ns.idxOf k : Nat)) H) := by
  subst eK; exact mt_tixI
def spThen2 (K : PySem.W.Frag) : Sp := fun vs H Q _ => ∃ (a b p s p' s' : Addr) (ps ss ps' ss' : List Int), vs = [.ref a, .ref b] ∧ Lik ps ss ∧ Lik ps' ss' ∧ ps'.length = ps.length ∧ SqT K H a [.ref p, .ref s] ∧ SqT K H b [.ref p', .ref s'] ∧
  SqT K H p (ps.map V.int) ∧ SqT K H s (ss.map V.int) ∧ SqT K H p' (ps'.map V.int) ∧ SqT K H s' (ss'.map V.int) ∧
  ∀ r q1 q2 H', Same H H' → H' r = some (.tup [.ref q1, .ref q2]) → TpF H' q1 ((thenP ps ps').map V.int) → H' q2 = some (.tup ((ledL ps' ss' ss).map V.int)) → Q (.ref r) H'
section
variable {P : Program} {w : World} {K : PySem.W.Frag} {mg : Str → Option Value} {base : Heap} {f g g2 C CB CP : Addr} {fd : FuncData}
abbrev N_one_then : List Str := ["one", "other", "places", "signs", "place", "sign"]
theorem sc_one_then : FnScope N_one_then ["one", "other"] (defScope st__one_then) := ⟨rfl, rfl, rfl, by decide +kernel, rfl, by decide +kernel, by decide +kernel⟩
theorem ok_one_then (F : Fun K "_one_then" "_one_then" st__one_then f fd) (T : Nm mg) : FnOk P w K mg base CX0 1 f fd ["one", "other"] (spThen2 K) := by
  refine F.ok sc_one_then (fun vs H Q E h => ?_) (fun cdv A outer s H vs Q E hr h => ?_)
  · obtain ⟨a, b, _, _, _, _, _, _, _, _, rfl, _⟩ := h
    rfl
  · obtain ⟨a, b, p, s, p', s', ps, ss, ps', ss', rfl, L, L', hn, ha, hb, hp, hs, hp', hs', k⟩ := h
    refine ⟨_, (pss_cons (ps_asg (pv 0) (pg_tup (by rfl) (pgs_cons (pg_name (i := 2) sc_one_then.nd rfl (Or.inr rfl)) (pgs_cons (pg_name (i := 3) sc_one_then.nd rfl (Or.inr rfl)) pgs_nil))))
    (pss_one (ps_ret (pe_tup (pa_cons (pe_callTy (call_tupF K) (by rfl) T.n_tuple (by decide +kernel) (pa_cons (pe_lc (own := [("place", 4)]) (g := gName 4) (tt := tYes) rfl sc_one_then.nd (pi_seqK K (pe_ix (ix_K K) (pv 1) pe_int (fun _ _ => rfl))) (blkOk_by (N := N_one_then) (sc := defScope st__one_then) (by decide +kernel)) (fun _ _ _ _ _ => (pg_name (i := 4) sc_one_then.nd rfl (Or.inl rfl))) (fun _ _ _ _ _ => pts_nil) (fun _ _ _ _ _ => (pe_ix (ix_K K) (pv 2) (pv 4) (fun _ _ => rfl)))) pa_nil)) (pa_cons (pe_callTy (call_tupK K) (by rfl) T.n_tuple (by decide +kernel) (pa_cons (pe_lc (own := [("place", 4), ("sign", 5)]) (g := gTup K 2 (gCons (gName 4) (gCons (gName 5) gNil))) (tt := tYes) rfl sc_one_then.nd (pi_zipMK K (by rfl) T.n_zip (pa_cons (pe_ix (ix_K K) (pv 1) pe_int (fun _ _ => rfl)) (pa_cons (pe_ix (ix_K K) (pv 1) pe_int (fun _ _ => rfl)) pa_nil))) (blkOk_by (N := N_one_then) (sc := defScope st__one_then) (by decide +kernel)) (fun _ _ _ _ _ => (pg_tup (by rfl) (pgs_cons (pg_name (i := 4) sc_one_then.nd rfl (Or.inl rfl)) (pgs_cons (pg_name (i := 5) sc_one_then.nd rfl (Or.inl rfl)) pgs_nil)))) (fun _ _ _ _ _ => pts_nil) (fun _ _ _ _ _ => (pe_op op_mul (pv 5) (pe_ix (ix_K K) (pv 3) (pv 4) (fun _ _ => rfl))))) pa_nil)) pa_nil)))))), ?_⟩
    have n6 := L.n6
    have len := L.len
    have len' := L'.len
    refine ⟨_, rfl, a, _, rfl, ha, rfl, _, _, rfl, _, _, rfl, rfl, ?_⟩
    refine ⟨_, rfl, true, b, _, 0, _, rfl, rfl, hb, rfl, true, p', rfl, ⟨_, hp'⟩, fun D hD => lc_fun (fun i => V.int (ps.getD (ps'.getD i 0).toNat 0)) (walk_seq (b := true) (xs := ps'.map V.int)) hD (by rw [List.length_map]; exact six (by omega)) (fun H2 s2 => same_sqT s2 hp') ?_ ?_⟩
    · rintro i x H2 H3 hi2 s2 ⟨acc, hacc⟩ ⟨rfl, hx⟩ Rk kk
      obtain ⟨n1, hn1, rfl⟩ := map_int_get hx
      obtain ⟨j, rfl, hj⟩ := L'.at (List.mem_of_getElem? hn1)
      have hjx : j < ps.length := by omega
      refine ⟨rfl, _, rfl, _, rfl, true, p, _, _, .int (ps[j]'hjx), rfl, rfl, same_sqT s2 hp, atI_nat ?_, ?_⟩
      · rw [List.getElem?_map, List.getElem?_eq_getElem hjx]
        rfl
      · have q := kk _ (Same.refl _)
        rw [List.getD_eq_getElem?_getD (l := ps'), hn1] at q
        dsimp only [Option.getD_some] at q
        rw [Int.toNat_natCast, getD_of hjx] at q
        exact q
    intro H2 hD2 s2
    have e1 : (List.range (ps'.map V.int).length).map (fun i => V.int (ps.getD (ps'.getD i 0).toNat 0)) = (thenP ps ps').map V.int := by
      rw [List.length_map, range_map_getD ps' 0 (fun x => V.int (ps.getD x.toNat 0))]
      unfold thenP
      rw [List.map_map]
      rfl
    rw [e1] at hD2
    refine ⟨false, D, _, rfl, .of hD2, fun _ l o hl ho1 ho2 => ?_, fun z => by cases z⟩
    have s3 := same_upd (o := .frz o (.tup ((thenP ps ps').map V.int))) hl
    have z3 : TpF (upd H2 l (.frz o (.tup ((thenP ps ps').map V.int)))) l ((thenP ps ps').map V.int) := ⟨o, upd_same, ho1, ho2⟩
    generalize upd H2 l (.frz o (.tup ((thenP ps ps').map V.int))) = H3 at s3 z3 ⊢
    have s13 := s2.trans s3
    refine ⟨_, rfl, true, b, _, 0, _, rfl, rfl, same_sqT s13 hb, rfl, _, rfl, true, b, _, 1, _, rfl, rfl, same_sqT s13 hb, rfl, true, true, p', s', _, _, rfl, same_sqT s13 hp', same_sqT s13 hs', fun D2 hD2 => lc_fun (fun i => V.int (ss'.getD i 0 * ss.getD (ps'.getD i 0).toNat 0)) (walk_zipM rfl) hD2 ?_ (fun H4 s4 => ⟨same_sqT (s13.trans s4) hp', same_sqT (s13.trans s4) hs'⟩) ?_ ?_⟩
    · rw [List.length_map, List.length_map]
      exact six (by omega)
    · rintro i x H4 H5 hi2 s4 ⟨acc, hacc⟩ ⟨T', x', y', rfl, hT, rfl, e3, e4⟩ Rk kk
      obtain ⟨n1, hn1, rfl⟩ := map_int_get e3
      obtain ⟨n2, hn2, rfl⟩ := map_int_get e4
      obtain ⟨j, rfl, hj⟩ := L'.at (List.mem_of_getElem? hn1)
      have sT := same_upd (o := .tup [.int (j : Nat), .int n2]) hT
      have hjx : j < ss.length := by omega
      refine ⟨T', _, rfl, .of upd_same, rfl, _, _, rfl, _, _, rfl, rfl, rfl, _, rfl, _, rfl, _, rfl, true, s, _, _, .int (ss[j]'hjx), rfl, rfl, same_sqT ((s13.trans s4).trans sT) hs, atI_nat ?_, n2, _, rfl, rfl, ?_, ?_⟩
      · rw [List.getElem?_map, List.getElem?_eq_getElem hjx]
        rfl
      · rcases L'.sg n2 (List.mem_of_getElem? hn2) with rfl | rfl
        · exact .inl ⟨by decide, by decide⟩
        · exact .inl ⟨by decide, by decide⟩
      · have q := kk _ sT
        rw [List.getD_eq_getElem?_getD (l := ss'), hn2, List.getD_eq_getElem?_getD (l := ps'), hn1] at q
        dsimp only [Option.getD_some] at q
        rw [Int.toNat_natCast, getD_of hjx] at q
        exact q
    intro H4 hD4 s4
    rw [List.length_map, List.length_map, len', Nat.min_self] at hD4
    have eL : (List.range ps'.length).map (fun i => V.int (ss'.getD i 0 * ss.getD (ps'.getD i 0).toNat 0)) = (ledL ps' ss' ss).map V.int := by
      unfold ledL
      rw [List.map_map]
      rfl
    rw [eL] at hD4
    refine ⟨false, D2, _, rfl, .of hD4, fun _ l2 hl2 => ⟨(by show 2 ≤ sizeLine; decide), fun r hr0 => ?_⟩, fun z => by cases z⟩
    have s5 := same_upd (o := .tup ((ledL ps' ss' ss).map V.int)) hl2
    have s6 := same_upd (o := .tup [.ref l, .ref l2]) hr0
    exact k r l l2 _ (s13.trans (s4.trans (s5.trans s6))) upd_same (z3.same (s4.trans (s5.trans s6))) (s6 _ _ upd_same)
end

/-! ### then, back, same -/
def spThen (K : PySem.W.Frag) (CB CM C : Addr) : Sp := fun vs H Q E => ∃ (a : Addr) (y : V) (ps ss : List Int), vs = [.ref a, y] ∧ LikAt K H a C ps ss ∧
  ((NoLik K C H y ∧ raisesN CB "other" H E) ∨ ∃ b ps' ss', y = .ref b ∧ LikAt K H b C ps' ss' ∧ (ps'.length ≠ ps.length → raisesN CM "wide" H E) ∧
    (ps'.length = ps.length → ∀ r H', H r = none → LikAt K H' r C (thenP ps ps') (ledL ps' ss' ss) → Same H H' → Q (.ref r) H'))
def spBack (K : PySem.W.Frag) (C : Addr) : Sp := fun vs H Q _ => ∃ (a : Addr) (ps ss : List Int), vs = [.ref a] ∧ LikAt K H a C ps ss ∧ ∀ r H', H r = none → LikAt K H' r C (backP ps) (backS ps ss) → Same H H' → Q (.ref r) H'
def spSame (K : PySem.W.Frag) (CN C : Addr) : Sp := fun vs H Q E => ∃ (v : V) (q : Bool), vs = [v] ∧ Asks K H v q ∧ (within v (.int 2) (.int 6) = false → raisesN CN "wide" H E) ∧
  (∀ n : Nat, v = .int n → 2 ≤ n → n ≤ 6 → ∀ r H', H r = none → LikAt K H' r C (rng n) (List.replicate n 1) → Same H H' → Q (.ref r) H')
end K0


set_option Elab.async false
set_option linter.all false
set_option maxRecDepth 100000
set_option maxHeartbeats 8000000
namespace K0
open PySem PySem.Spec PyProof.Rows L2 RZ K0z

theorem pe_fldK {X : Cx} {e : Expr} {ta : TE} {f : Str} {pos : Pos} (K : PySem.W.Frag) (he : PE X e ta) (hb : attributeBase e f X.env (eval e X.env) = eval e X.env) (eK : X.K = K := by rfl) : PE X (.Attribute e f pos) (tFld K ta f) := by
  subst eK; exact pe_fld he hb
theorem within_two {v : V} (h : within v (.int 2) (.int 6) = true) : ∃ n : Nat, v = .int n ∧ 2 ≤ n ∧ n ≤ 6 := by
  cases v with
  | int n =>
    have h' : (decide ((2 : Int) ≤ n) && decide (n ≤ 6)) = true := h
    rw [Bool.and_eq_true] at h'
    have h1 := of_decide_eq_true h'.1
    have h2 := of_decide_eq_true h'.2
    exact ⟨n.toNat, by congr 1; omega, by omega, by omega⟩
  | _ => cases h
section
variable {P : Program} {w : World} {K : PySem.W.Frag} {mg : Str → Option Value} {base : Heap} {f g g2 C CB CM CN : Addr} {fd : FuncData}
theorem sc_then : FnScope ["self", "other", "places", "signs"] ["self", "other"] (defScope sm_then) := ⟨rfl, rfl, rfl, by decide +kernel, rfl, by decide +kernel, by decide +kernel⟩
theorem ok_then (F : Fun K "then" "Likeness.then" sm_then f fd) (T : Nm mg) (U : LikD K C) (M : LikM P w K mg base C CB) (D__one_then : Dn P w K mg base 1 "_one_then" g ["one", "other"] (spThen2 K))
    (R_BadLikeness : RaiseC P w K mg base "BadLikeness" CB "part") (R_Misfit : RaiseC P w K mg base "Misfit" CM "part") : FnOk P w K mg base (L2.CX P w) 8 f fd ["self", "other"] (spThen K CB CM C) := by
  refine F.okX sc_then (fun vs H Q E h => ?_) (fun cdv A outer s H vs Q E hr h => ?_)
  · obtain ⟨a, y, _, _, rfl, _⟩ := h
    rfl
  · obtain ⟨a, y, ps, ss, rfl, hP, h⟩ := h
    refine ⟨_, (pss_cons (ps_if (pt_not (pt_val (pe_callB (call_isAK K) (by rfl) T.n_isinstance (by decide +kernel) (pa_cons (pv 1) (pa_cons (pe_glob (v := .ref C) (by rfl) M.mg rfl (by decide)) pa_nil))))) (pss_one (ps_raise rfl (takes_of rfl rfl rfl rfl) (pmk_c R_BadLikeness (hr.mono (by decide)) rfl (pa_cons pe_str pa_nil)))) pss_nil)
    (pss_cons (ps_if (pt_cmpR op_ne (pe_fld (pv 1) rfl) (pe_fld (pv 0) rfl) (nomark _)) (pss_one (ps_raise rfl (takes_of rfl rfl rfl rfl) (pmk_c R_Misfit (hr.mono (by decide)) rfl (pa_cons pe_str pa_nil)))) pss_nil)
    (pss_cons (ps_asg (pe_dn D__one_then (hr.mono (by decide)) rfl (pa_cons (pe_tup (pa_cons (pe_fld (pv 0) rfl) (pa_cons (pe_fld (pv 0) rfl) pa_nil))) (pa_cons (pe_tup (pa_cons (pe_fld (pv 1) rfl) (pa_cons (pe_fld (pv 1) rfl) pa_nil))) pa_nil))) (pg_tup (by rfl) (pgs_cons (pg_name (i := 2) sc_then.nd rfl (Or.inl rfl)) (pgs_cons (pg_name (i := 3) sc_then.nd rfl (Or.inl rfl)) pgs_nil))))
    (pss_one (ps_ret (pe_lik M (hr.mono (by decide)) rfl (pa_cons (pv 2) (pa_cons (pv 3) pa_nil)))))))), ?_⟩
    have hP0 := hP
    obtain ⟨L, dx, p, q, fs, ha, hp, hq, f1, f2, f3, _⟩ := hP
    rcases h with ⟨⟨t, ty, e⟩, k⟩ | ⟨b, ps', ss', rfl, hP', k1, k2⟩
    · exact ⟨_, rfl, _, .ref C, _, _, false, rfl, .own _, ty, e, _, rfl, iteT (fun dd H' h1 h2 s2 => k dd H' h1 h2 s2)⟩
    · obtain ⟨L', dy, p', q', gs, hb, hp', hq', g1, g2, g3, _⟩ := hP'
      refine ⟨_, rfl, _, .ref C, _, _, true, rfl, .own _, lik_ty U hb, U.me, _, rfl, iteF ?_⟩
      refine ⟨_, rfl, b, C, dy, gs, _, rfl, hb, U.cl, U.nW, g3, _, rfl, a, C, dx, fs, _, rfl, ha, U.cl, U.nW, f3, rfl, ?_⟩
      rw [dec_int]
      refine ⟨_, rfl, ?_⟩
      by_cases hn : ps'.length = ps.length
      · rw [show (((ps'.length : Nat) : Int) == ((ps.length : Nat) : Int)) = true from by rw [hn]; simp]
        refine iteF ?_
        refine ⟨_, rfl, a, C, dx, fs, _, rfl, ha, U.cl, U.nP, f1, _, rfl, a, C, dx, fs, _, rfl, ha, U.cl, U.nS, f2, (by show 2 ≤ sizeLine; decide), fun t1 ht1 => ?_⟩
        have s1 := same_upd (o := .tup [.ref p, .ref q]) ht1
        have z1 : upd H t1 (.tup [.ref p, .ref q]) t1 = some (.tup [.ref p, .ref q]) := upd_same
        generalize upd H t1 (.tup [.ref p, .ref q]) = H1 at s1 z1 ⊢
        refine ⟨_, rfl, b, C, dy, gs, _, rfl, s1 _ _ hb, U.cl, U.nP, g1, _, rfl, b, C, dy, gs, _, rfl, s1 _ _ hb, U.cl, U.nS, g2, (by show 2 ≤ sizeLine; decide), fun t2 ht2 => ?_⟩
        have s2 := same_upd (o := .tup [.ref p', .ref q']) ht2
        have z2 : upd H1 t2 (.tup [.ref p', .ref q']) t2 = some (.tup [.ref p', .ref q']) := upd_same
        generalize upd H1 t2 (.tup [.ref p', .ref q']) = H2 at s2 z2 ⊢
        have s12 := s1.trans s2
        refine ⟨t1, t2, p, q, p', q', ps, ss, ps', ss', rfl, L, L', hn, .of (s2 _ _ z1), .of z2, (hp.same s12).sq, same_sqT s12 hq, (hp'.same s12).sq, same_sqT s12 hq', fun r q1 q2 H3 s3 hr0 hq1 hq2 => ?_⟩
        refine ⟨r, _, rfl, .of hr0, rfl, _, _, rfl, _, _, rfl, rfl, ?_⟩
        have LL := L.then L' hn
        refine ⟨_, rfl, _, rfl, ?_⟩
        have s13 := s12.trans s3
        have n6 := LL.n6
        exact lik_way LL ⟨by rw [List.length_map]; exact six n6, _, rfl, .inr hq1⟩ (seqsT hq2 (by rw [List.length_map, LL.len]; exact six n6)) fun x H4 hx hL s4 => k2 hn x H4 (s13.free hx) hL (s13.trans s4)
      · rw [show (((ps'.length : Nat) : Int) == ((ps.length : Nat) : Int)) = false from by simp; omega]
        exact iteT (fun dd H' h1 h2 s2 => k1 hn dd H' h1 h2 s2)
abbrev N_back : List Str := ["self", "places", "place"]
theorem sc_back : FnScope N_back ["self"] (defScope sm_back) := ⟨rfl, rfl, rfl, by decide +kernel, rfl, by decide +kernel, by decide +kernel⟩
theorem ok_back (F : Fun K "back" "Likeness.back" sm_back f fd) (T : Nm mg) (U : LikD K C) (M : LikM P w K mg base C CB) : FnOk P w K mg base (L2.CX P w) 8 f fd ["self"] (spBack K C) := by
  refine F.okX sc_back (fun vs H Q E h => ?_) (fun cdv A outer s H vs Q E hr h => ?_)
  · obtain ⟨a, _, _, rfl, _⟩ := h
    rfl
  · obtain ⟨a, ps, ss, rfl, hP, k⟩ := h
    refine ⟨_, (pss_cons (ps_setLc (i := 1) (own := [("place", 2)]) (g := gName 2) (tt := tYes) rfl sc_back.nd rfl rfl (sw_true rfl rfl rfl (by decide +kernel)) (pi_range1 (by rfl) T.n_range (pa_cons (pe_fld (pv 0) rfl) pa_nil)) (blkOk_by (N := N_back) (sc := defScope sm_back) (by decide +kernel)) (fun _ _ _ _ _ => (pg_name (i := 2) sc_back.nd rfl (Or.inl rfl))) (fun _ _ _ _ _ => pts_nil) (fun _ _ _ _ _ => (pe_tm K PySem.F.slot_tuple_index PySem.F.type_tuple_index (mt_tixK K) (pe_fldK K (pv 0) rfl) (pa_cons (pv 2) pa_nil))))
    (pss_one (ps_ret (pe_lik M (hr.mono (by decide)) rfl (pa_cons (pv 1) (pa_cons (pe_lc (own := [("place", 2)]) (g := gName 2) (tt := tYes) rfl sc_back.nd (pi_seqK K (pv 1)) (blkOk_by (N := N_back) (sc := defScope sm_back) (by decide +kernel)) (fun _ _ _ _ _ => (pg_name (i := 2) sc_back.nd rfl (Or.inl rfl))) (fun _ _ _ _ _ => pts_nil) (fun _ _ _ _ _ => (pe_ix (ix_K K) (pe_fldK K (pv 0) rfl) (pv 2) (fun _ _ => rfl)))) pa_nil)))))), ?_⟩
    obtain ⟨L, dx, p, q, fs, ha, hp, hq, f1, f2, f3, _⟩ := hP
    have n6 := L.n6
    refine ⟨_, rfl, a, C, dx, fs, _, rfl, ha, U.cl, U.nW, f3, _, rfl, by omega, by omega, fun D hD => lc_fun (fun (i : Nat) => V.int (ps.idxOf (i : Int) : Nat)) (walk_range (lo := 0) (n := ps.length)) hD (six n6) (fun _ _ => trivial) ?_ ?_⟩
    · rintro i x H2 H3 hi s2 _ ⟨rfl, rfl⟩ Rk kk
      refine ⟨rfl, _, rfl, a, C, dx, fs, _, rfl, s2 _ _ ha, U.cl, U.nP, f1, ⟨_, _, rfl, hp.same s2⟩, _, rfl, p, ps, _, rfl, rfl, (hp.same s2).sq, ?_, ?_⟩
      · rw [Int.zero_add]
        exact L.mem hi
      · have q := kk _ (Same.refl _)
        rw [Int.zero_add]
        exact q
    intro H1 hD1 s1
    have eD : (List.range ps.length).map (fun (i : Nat) => V.int (ps.idxOf (i : Int) : Nat)) = (backP ps).map V.int := by
      unfold backP
      rw [List.map_map]
      rfl
    rw [eD] at hD1
    refine ⟨_, rfl, _, rfl, false, D, rfl, ⟨_, .of hD1⟩, fun D2 hD2 => lc_fun (fun i => V.int (ss.getD ((backP ps).getD i 0).toNat 0)) (walk_seq (b := false) (xs := (backP ps).map V.int)) hD2 (by rw [List.length_map, backP_len]; exact six n6) (fun H2 s2 => .of (s2 _ _ hD1)) ?_ ?_⟩
    · rintro i x H2 H3 hi s2 _ ⟨rfl, hx⟩ Rk kk
      obtain ⟨n1, hn1, rfl⟩ := map_int_get hx
      obtain ⟨j, rfl, hj⟩ := L.back.at (List.mem_of_getElem? hn1)
      rw [backP_len] at hj
      have hjx : j < ss.length := by rw [L.len]; exact hj
      have s12 := s1.trans s2
      refine ⟨rfl, _, rfl, a, C, dx, fs, _, rfl, s12 _ _ ha, U.cl, U.nS, f2, _, rfl, true, q, _, _, .int (ss[j]'hjx), rfl, rfl, same_sqT s12 hq, atI_nat ?_, ?_⟩
      · rw [List.getElem?_map, List.getElem?_eq_getElem hjx]
        rfl
      · have q := kk _ (Same.refl _)
        rw [List.getD_eq_getElem?_getD (l := backP ps), hn1] at q
        dsimp only [Option.getD_some] at q
        rw [Int.toNat_natCast, getD_of hjx] at q
        exact q
    intro H2 hD2' s2
    have eD2 : (List.range ((backP ps).map V.int).length).map (fun i => V.int (ss.getD ((backP ps).getD i 0).toNat 0)) = (backS ps ss).map V.int := by
      rw [List.length_map, range_map_getD (backP ps) 0 (fun x => V.int (ss.getD x.toNat 0))]
      unfold backS
      rw [List.map_map]
      rfl
    rw [eD2] at hD2'
    have s12 := s1.trans s2
    exact lik_way L.back ⟨by rw [List.length_map, backP_len]; exact six n6, _, rfl, .inl (s2 _ _ hD1)⟩ (seqsL hD2' (by rw [List.length_map, backS_len]; exact six n6)) fun x H3 hx hL s3 => k x H3 (s12.free hx) hL (s12.trans s3)
theorem sc_same : FnScope ["wide"] ["wide"] (defScope sm_same) := ⟨rfl, rfl, rfl, by decide +kernel, rfl, by decide +kernel, by decide +kernel⟩
theorem ok_same (F : Fun K "same" "Likeness.same" sm_same f fd) (T : Nm mg) (M : LikM P w K mg base C CB) (D_is_within : Dn P w K mg base 2 "is_within" g ["value", "least", "most"] (spWithin K)) (R_BadNumber : RaiseC P w K mg base "BadNumber" CN "part") :
    FnOk P w K mg base (L2.CX P w) 8 f fd ["wide"] (spSame K CN C) := by
  refine F.okX sc_same (fun vs H Q E h => ?_) (fun cdv A outer s H vs Q E hr h => ?_)
  · obtain ⟨v, _, rfl, _⟩ := h
    rfl
  · obtain ⟨v, q, rfl, hv, k1, k2⟩ := h
    refine ⟨_, (pss_cons (ps_if (pt_not (pt_val (pe_dn D_is_within (hr.mono (by decide)) rfl (pa_cons (pv 0) (pa_cons (pe_cint (by rfl) T.c_LEAST_WIDE) (pa_cons (pe_cint (by rfl) T.c_MOST_WIDE) pa_nil)))))) (pss_one (ps_raise rfl (takes_of rfl rfl rfl rfl) (pmk_c R_BadNumber (hr.mono (by decide)) rfl (pa_cons pe_str pa_nil)))) pss_nil)
    (pss_one (ps_ret (pe_lik M (hr.mono (by decide)) rfl (pa_cons (pe_listRg rfl (by rfl) T.n_list (prg_1 (by rfl) T.n_range (pv 0))) (pa_cons (pe_op op_rep (pe_lst (pa_cons pe_int pa_nil)) (pv 0)) pa_nil)))))), ?_⟩
    refine ⟨_, rfl, v, .int 2, .int 6, q, rfl, hv, .inr ⟨2, rfl⟩, .inr ⟨6, rfl⟩, fun H1 s1 => ⟨_, rfl, ?_⟩⟩
    cases e : within v (.int 2) (.int 6) with
    | false => exact iteT (fun dd H' h1 h2 s2 => (k1 e).same s1 dd H' h1 h2 s2)
    | true =>
      obtain ⟨n, rfl, n2, n6⟩ := within_two e
      have k3 := k2 n rfl n2 n6
      refine iteF ⟨_, rfl, _, rfl, ⟨by decide, by decide, by omega, by omega, ?_⟩, fun p hp => ?_⟩
      · rw [Int.sub_zero, Int.toNat_natCast]
        exact Nat.le_trans n6 (by decide)
      have s2 := same_upd (o := .lst (rgV 0 (n : Nat))) hp
      have z2 : upd H1 p (.lst (rgV 0 (n : Nat))) p = some (.lst ((rng n).map V.int)) := by rw [upd_same, rng_rgV]
      generalize upd H1 p (.lst (rgV 0 (n : Nat))) = H2 at s2 z2 ⊢
      refine ⟨(by show 1 ≤ sizeLine; decide), fun l hl => ⟨_, rfl, l, (n : Nat), _, rfl, rfl, upd_same, by omega, by omega, ?_, fun p2 hp2 => ?_⟩⟩
      · rw [Int.toNat_natCast]
        show 1 * n ≤ sizeLine
        exact Nat.le_trans (by omega : 1 * n ≤ 6) (by decide)
      have s3 := same_upd (o := .lst [.int 1]) hl
      generalize upd H2 l (.lst [.int 1]) = H3 at s3 hp2 ⊢
      rw [Int.toNat_natCast]
      have er : (List.replicate n [V.int 1]).flatten = (List.replicate n (1 : Int)).map V.int := by
        rw [List.map_replicate, List.flatten_replicate_singleton]
      rw [er]
      have s4 := same_upd (o := .lst ((List.replicate n (1 : Int)).map V.int)) hp2
      have s24 := s2.trans (s3.trans s4)
      have s14 := s1.trans s24
      exact lik_way (Lik.same n2 n6) ⟨by rw [List.length_map, rng_len]; exact six n6, _, rfl, .inl ((s3.trans s4) _ _ z2)⟩ (seqsL upd_same (by rw [List.length_map, List.length_replicate]; exact six n6)) fun x H5 hx hL s5 => k3 x H5 (s14.free hx) hL (s14.trans s5)
end
end K0


set_option Elab.async false
set_option linter.all false
set_option maxRecDepth 100000
set_option maxHeartbeats 4000000
namespace K0
open PySem PySem.Spec PyProof.Rows L2 RZ K0z

/-! ### two likenesses that are shown alike are alike -/
def isK (c : Nat) : Bool := c == 45 || (decide (48 ≤ c) && decide (c ≤ 57))
def keep (s : Str) : List Nat := s.cps.toList.filter isK
theorem keep_app (a b : Str) : keep (a ++ b) = keep a ++ keep b := by
  show ((a.cps ++ b.cps).toList).filter isK = _
  rw [Array.toList_append, List.filter_append]
  rfl
theorem keep_join : ∀ ts : List Str, keep (Str.join ", " ts) = (ts.map keep).flatten
  | [] => rfl
  | [x] => by show keep x = _; simp
  | x :: y :: r => by
    have ih := keep_join (y :: r)
    show keep (x ++ (", " : Str) ++ Str.join ", " (y :: r)) = _
    rw [keep_app, keep_app, ih, show keep (", " : Str) = [] from by decide +kernel, List.append_nil]
    simp only [List.map_cons, List.flatten_cons]
theorem keep_tup (ts : List Str) : keep (tupleText ts) = (ts.map keep).flatten := by
  unfold tupleText
  rw [keep_app, keep_app, keep_join, show keep ("(" : Str) = [] from by decide +kernel]
  have : keep ((if ts.length == 1 then ",)" else ")" : String) : Str) = [] := by
    split <;> decide +kernel
  rw [this, List.append_nil, List.nil_append]
def dInt (n : Int) : PyData := .int n
def tupI (ns : List Int) : PyData := .tuple (ns.map dInt)
def likD (ps ss : List Int) (n : Int) : PyData := .tuple [tupI ps, tupI ss, .int n]
theorem shownAll_map (ns : List Int) : PyData.shownAll (ns.map dInt) = ns.map fun n => PyData.shown (.int n) := by
  induction ns with
  | nil => rfl
  | cons n r ih => rw [List.map_cons, List.map_cons, ← ih]; rfl
def code (n : Int) : List Nat := keep (PyData.shown (.int n))
theorem keep_tupI (ns : List Int) : keep (PyData.shown (tupI ns)) = (ns.map code).flatten := by
  show keep (tupleText (PyData.shownAll (ns.map dInt))) = _
  rw [keep_tup, shownAll_map, List.map_map]
  rfl
theorem keep_likD (ps ss : List Int) (n : Int) : keep (PyData.shown (likD ps ss n)) = (ps.map code).flatten ++ ((ss.map code).flatten ++ code n) := by
  show keep (tupleText [PyData.shown (tupI ps), PyData.shown (tupI ss), PyData.shown (.int n)]) = _
  rw [keep_tup]
  simp only [List.map_cons, List.map_nil, List.flatten_cons, List.flatten_nil, List.append_nil]
  rw [keep_tupI, keep_tupI]
  rfl
theorem code_dig : ∀ {j : Nat}, j ≤ 6 → code (j : Int) = [48 + j]
  | 0, _ => by decide +kernel
  | 1, _ => by decide +kernel
  | 2, _ => by decide +kernel
  | 3, _ => by decide +kernel
  | 4, _ => by decide +kernel
  | 5, _ => by decide +kernel
  | 6, _ => by decide +kernel
  | _ + 7, h => by omega
theorem code_neg : code (-1) = [45, 49] := by decide +kernel
theorem code_one : code 1 = [49] := by decide +kernel
theorem digs {ps : List Int} (h : ∀ p ∈ ps, ∃ j : Nat, p = j ∧ j ≤ 6) : (ps.map code).flatten = ps.map fun p => 48 + p.toNat := by
  induction ps with
  | nil => rfl
  | cons p r ih =>
    obtain ⟨j, rfl, hj⟩ := h p List.mem_cons_self
    rw [List.map_cons, List.flatten_cons, ih fun p hp => h p (List.mem_cons_of_mem _ hp), code_dig hj, List.map_cons, Int.toNat_natCast]
    rfl
theorem signs_inj : ∀ {a b : List Int} {t : List Nat}, a.length = b.length → (∀ s ∈ a, s = 1 ∨ s = -1) → (∀ s ∈ b, s = 1 ∨ s = -1) → (a.map code).flatten ++ t = (b.map code).flatten ++ t → a = b
  | [], [], _, _, _, _, _ => rfl
  | [], _ :: _, _, h, _, _, _ => by cases h
  | _ :: _, [], _, h, _, _, _ => by cases h
  | x :: a, y :: b, t, hl, ha, hb, h => by
    rw [List.map_cons, List.flatten_cons, List.map_cons, List.flatten_cons, List.append_assoc, List.append_assoc] at h
    have ih := fun e => signs_inj (a := a) (b := b) (t := t) (by simpa using hl) (fun s hs => ha s (List.mem_cons_of_mem _ hs)) (fun s hs => hb s (List.mem_cons_of_mem _ hs)) e
    rcases ha x List.mem_cons_self with rfl | rfl <;> rcases hb y List.mem_cons_self with rfl | rfl
    · rw [code_one] at h
      rw [ih (List.cons.inj h).2]
    · rw [code_one, code_neg] at h
      exact absurd (List.cons.inj h).1 (by decide)
    · rw [code_one, code_neg] at h
      exact absurd (List.cons.inj h).1 (by decide)
    · rw [code_neg] at h
      rw [ih (List.cons.inj (List.cons.inj h).2).2]
theorem likD_inj {ps ss ps' ss' : List Int} (L : Lik ps ss) (L' : Lik ps' ss') (h : PyData.shown (likD ps ss ps.length) = PyData.shown (likD ps' ss' ps'.length)) : ps = ps' ∧ ss = ss' := by
  have e := congrArg keep h
  rw [keep_likD, keep_likD] at e
  have n6 := L.n6
  have n6' := L'.n6
  have d1 : ∀ p ∈ ps, ∃ j : Nat, p = j ∧ j ≤ 6 := fun p hp => by
    obtain ⟨j, e, hj⟩ := L.at hp
    exact ⟨j, e, by omega⟩
  have d2 : ∀ p ∈ ps', ∃ j : Nat, p = j ∧ j ≤ 6 := fun p hp => by
    obtain ⟨j, e, hj⟩ := L'.at hp
    exact ⟨j, e, by omega⟩
  rw [digs d1, digs d2, code_dig n6, code_dig n6', ← List.append_assoc, ← List.append_assoc] at e
  have e2 := List.append_inj_right' e rfl
  have hn : ps.length = ps'.length := by
    have := (List.cons.inj e2).1
    omega
  rw [hn, List.append_assoc, List.append_assoc] at e
  have e3 := List.append_inj e (by rw [List.length_map, List.length_map, hn])
  refine ⟨?_, signs_inj (by rw [L.len, L'.len, hn]) L.sg L'.sg e3.2⟩
  refine ext_getD hn fun i hi => ?_
  have e4 := congrArg (fun l => l[i]?) e3.1
  simp only [List.getElem?_map] at e4
  rw [List.getElem?_eq_getElem hi, List.getElem?_eq_getElem (by omega)] at e4
  have e5 := Option.some.inj e4
  rw [getD_of hi, getD_of (by omega)]
  obtain ⟨j, hj, _⟩ := d1 _ (List.getElem_mem hi)
  obtain ⟨j', hj', _⟩ := d2 _ (List.getElem_mem (by omega : i < ps'.length))
  have e6 : 48 + (ps[i]).toNat = 48 + (ps'[i]'(by omega)).toNat := e5
  rw [hj, hj', Int.toNat_natCast, Int.toNat_natCast] at e6
  rw [hj, hj']
  omega
end K0


set_option Elab.async false
set_option linter.all false
set_option maxRecDepth 100000
set_option maxHeartbeats 8000000
set_option exponentiation.threshold 100000
namespace K0
open PySem PySem.Spec PyProof.Rows L2 RZ K0z

/-- a comprehension whose items are drawn integers that hold Pr -/
theorem lc_drawP (Pr : Int → Prop) {k : Nat} {te : TE} {vs : List Nat} {σ : L2.St} {H1 : Hp} {D : Addr} {Qd : Hp → Prop} {i0 n : Nat} {lo : Int} {c d : Addr} {ns : List Int} {m : Nat} (hn : n ≤ 1000) (hD : H1 D = none) (hC : Coil H1 c d ns m) (hw : ∀ x, wipe ((wipe σ vs).set i0 (some x)) vs = wipe σ vs)
    (he : ∀ x H m', m' ≤ m + k * n → Coil H c d ns m' → ∀ R : VK, (∀ (r : Int) H', Pr r → Coil H' c d ns (m' + k) → SameBut c H H' → R (.int r) H') → te ((wipe σ vs).set i0 (some x)) H R)
    (hd : ∀ H (xs : List Int), xs.length = n → (∀ b ∈ xs, Pr b) → H D = some (.lst (xs.map V.int)) → Coil H c d ns (m + k * n) → SameBut c H1 H → Qd H) :
    ∃ W : Nat → Nat → Hp → Prop, (∃ m, W 0 m (upd H1 D (.lst []))) ∧ ∀ i m H, W i m H →
      ((Itr lo n).stop i H ∧ Qd H) ∨ ((Itr lo n).go i H ∧ ∃ Nx : Hp → Prop, (∀ H', Nx H' → ∃ m', m' < m ∧ W (i + 1) m' H') ∧ ∀ x H', (Itr lo n).yld i H x H' → gName i0 x (wipe σ vs) H' fun σ2 H2 => wipe σ2 vs = wipe σ vs ∧ tYes σ2 H2 fun b H3 =>
        if b = true then te σ2 H3 fun y H4 => ∃ acc, H4 D = some (.lst acc) ∧ acc.length < sizeLine ∧ Nx (upd H4 D (.lst (acc ++ [y]))) else Nx H3) := by
  obtain ⟨nDc, nDd⟩ := hC.ne hD
  refine lc_it walk_range (fun i H => ∃ xs : List Int, xs.length = i ∧ (∀ b ∈ xs, Pr b) ∧ H D = some (.lst (xs.map V.int)) ∧ Coil H c d ns (m + k * i) ∧ SameBut c H1 H)
    ⟨[], rfl, fun _ h => absurd h List.not_mem_nil, upd_same, hC.upd nDc nDd, new_but hD⟩ (fun _ _ _ _ => trivial) ?_ ?_
  · rintro i x H H' hi ⟨xs, l, hb, hx, hC2, sb⟩ ⟨rfl, rfl⟩
    refine ⟨hw _, ?_⟩
    refine he _ _ _ (by have := Nat.mul_le_mul_left k (Nat.le_of_lt hi); omega) hC2 _ fun r H2 hr hC3 sb2 => ⟨_, sb2 _ _ nDc hx, ?_, xs ++ [r], by rw [List.length_append, l]; rfl, fun b hb' => ?_, ?_, ?_, fun b o n e => ?_⟩
    · rw [List.length_map, l]
      exact Nat.lt_of_lt_of_le hi (Nat.le_trans hn (by decide))
    · rcases List.mem_append.mp hb' with z | z
      · exact hb b z
      · rw [List.mem_singleton.mp z]; exact hr
    · rw [upd_same, List.map_append]
      rfl
    · rw [Nat.mul_succ, ← Nat.add_assoc]
      exact hC3.upd nDc nDd
    · rw [upd_ne (ne_of_none e hD)]
      exact sb2 _ _ n (sb _ _ n e)
  · rintro H ⟨xs, l, hb, hx, hC2, sb⟩
    exact hd H xs l hb hx hC2 sb
theorem perm_ints {ys : List V} {ns : List Int} (h : ys.Perm (ns.map V.int)) : ys = (intsOf ys).map V.int ∧ (intsOf ys).Perm ns := by
  refine ⟨map_intsOf ?_, ?_⟩
  · rw [List.all_eq_true]
    intro x hx
    obtain ⟨n, _, rfl⟩ := List.mem_map.mp (h.mem_iff.mp hx)
    rfl
  · have := h.filterMap toI
    rw [show List.filterMap toI (ns.map V.int) = ns from intsOf_map ns] at this
    exact this
def spDrawn : Sp := fun vs H Q _ => ∃ (c d : Addr) (ns : List Int) (m n : Nat), vs = [.ref c, .int n] ∧ Coil H c d ns m ∧ m ≤ 90000 ∧ 2 ≤ n ∧ n ≤ 6 ∧
  ∀ (t p q : Addr) (ps ss : List Int) (H' : Hp), Lik ps ss → ps.length = n → H t = none → H p = none → H q = none → p ≠ q → H' t = some (.tup [.ref p, .ref q]) → H' p = some (.lst (ps.map V.int)) → H' q = some (.lst (ss.map V.int)) → Coil H' c d ns (m + 2 * n) → SameBut c H H' → Q (.ref t) H'
def spLLed (K : PySem.W.Frag) : Sp := fun vs H Q _ => ∃ (b1 b2 b3 : Bool) (a b p : Addr) (ps ss pt : List Int), vs = [.ref a, .ref b, .ref p] ∧ Lik ps ss ∧ pt.length = ps.length ∧ SqB K b1 H a (ps.map V.int) ∧ SqB K b2 H b (ss.map V.int) ∧ SqB K b3 H p (pt.map V.int) ∧
  ∀ q H', H q = none → Same H H' → H' q = some (.tup ((ledL ps ss pt).map V.int)) → Q (.ref q) H'
def BigP (r : Int) : Prop := r.natAbs ≤ 10 ^ 40
def spPnt : Sp := fun vs H Q _ => ∃ (c d : Addr) (ns : List Int) (m n : Nat), vs = [.ref c, .int n] ∧ Coil H c d ns m ∧ m ≤ 90000 ∧ n ≤ 6 ∧
  ∀ (q : Addr) (pt : List Int) (H' : Hp), pt.length = n → (∀ x ∈ pt, BigP x) → H q = none → H' q = some (.lst (pt.map V.int)) → Coil H' c d ns (m + n + 1) → SameBut c H H' → Q (.ref q) H'
section
variable {P : Program} {w : World} {K : PySem.W.Frag} {mg : Str → Option Value} {base : Heap} {f f1 f2 g g2 : Addr} {fd : FuncData}
abbrev N_drawn : List Str := ["drum", "wide", "place"]
theorem sc_drawn : FnScope N_drawn ["drum", "wide"] (defScope st__law_drawn) := ⟨rfl, rfl, rfl, by decide +kernel, rfl, by decide +kernel, by decide +kernel⟩
theorem ok_drawn (F : Fun K "_law_drawn" "_law_drawn" st__law_drawn f fd) (T : Nm mg) (D__law_stirred : Dn P w K mg base 2 "_law_stirred" f1 ["drum", "some"] (spStir K)) (D__law_choose : Dn P w K mg base 2 "_law_choose" f2 ["drum", "some"] (spOne K)) :
    FnOk P w K mg base CX0 3 f fd ["drum", "wide"] spDrawn := by
  refine F.ok sc_drawn (fun vs H Q E h => ?_) (fun cdv A outer s H vs Q E hr h => ?_)
  · obtain ⟨c, d, _, _, _, rfl, _⟩ := h
    rfl
  · obtain ⟨c, d, ns, m, n, rfl, hC, hm, n2, n6, k⟩ := h
    refine ⟨_, (pss_one (ps_ret (pe_tup (pa_cons (pe_dn D__law_stirred (hr.mono (by decide)) rfl (pa_cons (pv 0) (pa_cons (pe_listRg rfl (by rfl) T.n_list (prg_1 (by rfl) T.n_range (pv 1))) pa_nil))) (pa_cons (pe_lc (own := [("place", 2)]) (g := gName 2) (tt := tYes) rfl sc_drawn.nd (pi_range1 (by rfl) T.n_range (pa_cons (pv 1) pa_nil)) (blkOk_by (N := N_drawn) (sc := defScope st__law_drawn) (by decide +kernel)) (fun _ _ _ _ _ => (pg_name (i := 2) sc_drawn.nd rfl (Or.inl rfl))) (fun _ _ _ _ _ => pts_nil) (fun _ _ _ _ _ => (pe_dn D__law_choose (hr.mono (by decide)) rfl (pa_cons (pv 0) (pa_cons (pe_lst (pa_cons pe_int (pa_cons (pe_un un_neg pe_int) pa_nil))) pa_nil))))) pa_nil))))), ?_⟩
    refine ⟨_, rfl, _, rfl, _, rfl, ⟨by decide, by decide, by omega, by omega, ?_⟩, fun L hL => ?_⟩
    · rw [Int.sub_zero, Int.toNat_natCast]
      exact Nat.le_trans n6 (by decide)
    obtain ⟨nLc, nLd⟩ := hC.ne hL
    have sL := same_upd (o := .lst (rgV 0 (n : Nat))) hL
    have zL : upd H L (.lst (rgV 0 (n : Nat))) L = some (.lst ((rng n).map V.int)) := by rw [upd_same, rng_rgV]
    have hC1 := hC.but sL
    generalize upd H L (.lst (rgV 0 (n : Nat))) = H1 at sL zL hC1 ⊢
    refine ⟨c, d, ns, m, false, L, (rng n).map V.int, rfl, hC1, by omega, .of (by rw [off_ne nLc]; exact zL), by rw [List.length_map, rng_len]; omega, fun p ys H2 hp hpn npc npd hp2 hC2 sb2 => ?_⟩
    obtain ⟨ey, py⟩ := perm_ints hp
    have lps : (intsOf ys).length = n := py.length_eq.trans (rng_len n)
    rw [List.length_map, rng_len] at hC2
    refine ⟨_, rfl, _, rfl, by omega, by omega, fun D hD => lc_drawP (fun s => s = 1 ∨ s = -1) (k := 1) (n := n) (lo := 0) (by omega) hD hC2 (fun _ => rfl) ?_ ?_⟩
    · intro x H3 m' hm' hC3 R hR
      refine ⟨_, rfl, _, rfl, (by show 2 ≤ sizeLine; decide), fun L3 hL3 => ?_⟩
      obtain ⟨n3c, n3d⟩ := hC3.ne hL3
      have s3 := same_upd (o := .lst [.int 1, .int (-1)]) hL3
      refine ⟨c, d, ns, m', false, L3, [.int 1, .int (-1)], rfl, hC3.but s3, by omega, .of (by rw [off_ne n3c]; exact upd_same), by decide, by decide, fun i y H4 hy hC4 sb4 => ?_⟩
      have hh : y = .int 1 ∨ y = .int (-1) := by
        have := List.mem_of_getElem? hy
        simpa using this
      rcases hh with rfl | rfl
      · exact hR _ _ (.inl rfl) hC4 ((SameBut.of s3).trans sb4)
      · exact hR _ _ (.inr rfl) hC4 ((SameBut.of s3).trans sb4)
    · intro H3 xs hxl hxs hD3 hC3 sb3
      refine ⟨(by show 2 ≤ sizeLine; decide), fun t ht => ?_⟩
      obtain ⟨nDc, nDd⟩ := hC2.ne hD
      have st := same_upd (o := .tup [.ref p, .ref D]) ht
      have sbA : SameBut c H H3 := ((SameBut.of sL).trans sb2).trans sb3
      have LL : Lik (intsOf ys) xs := ⟨by omega, by omega, by omega, by rw [lps]; exact py, hxs⟩
      have hpH : H p = none := by
        cases e : H p with
        | none => rfl
        | some o => rw [sL _ _ e] at hpn; cases hpn
      have hDH : H D = none := by
        cases e : H D with
        | none => rfl
        | some o => rw [sb2 _ _ nDc (sL _ _ e)] at hD; cases hD
      have htc : t ≠ c := (hC3.ne ht).1
      have htH : H t = none := by
        cases e : H t with
        | none => rfl
        | some o => rw [sbA _ _ htc e] at ht; cases ht
      have npD : p ≠ D := fun e => by rw [← e, hp2] at hD; cases hD
      refine k t p D (intsOf ys) xs _ LL lps htH hpH hDH npD upd_same ?_ (st _ _ hD3) ?_ (sbA.trans (SameBut.of st))
      · rw [← ey]
        exact st _ _ (sb3 _ _ npc hp2)
      · rw [show m + 2 * n = m + n + 1 * n from by omega]
        exact hC3.but st
abbrev N_lled : List Str := ["places", "signs", "point", "place"]
theorem sc_lled : FnScope N_lled ["places", "signs", "point"] (defScope st__law_led) := ⟨rfl, rfl, rfl, by decide +kernel, rfl, by decide +kernel, by decide +kernel⟩
theorem ok_lled (F : Fun K "_law_led" "_law_led" st__law_led f fd) (T : Nm mg) : FnOk P w K mg base CX0 1 f fd ["places", "signs", "point"] (spLLed K) := by
  refine F.ok sc_lled (fun vs H Q E h => ?_) (fun cdv A outer s H vs Q E hr h => ?_)
  · obtain ⟨b1, b2, b3, a, b, p, _, _, _, rfl, _⟩ := h
    rfl
  · obtain ⟨b1, b2, b3, a, b, p, ps, ss, pt, rfl, L, hl, hp, hs, hpt, k⟩ := h
    have n6 := L.n6
    have len := L.len
    refine ⟨_, (pss_one (ps_ret (pe_callTy (call_tupK K) (by rfl) T.n_tuple (by decide +kernel) (pa_cons (pe_lc (own := [("place", 3)]) (g := gName 3) (tt := tYes) rfl sc_lled.nd (pi_range1 (by rfl) T.n_range (pa_cons (pe_callB (call_lenK K) (by rfl) T.n_len (by decide +kernel) (pa_cons (pv 2) pa_nil)) pa_nil)) (blkOk_by (N := N_lled) (sc := defScope st__law_led) (by decide +kernel)) (fun _ _ _ _ _ => (pg_name (i := 3) sc_lled.nd rfl (Or.inl rfl))) (fun _ _ _ _ _ => pts_nil) (fun _ _ _ _ _ => (pe_op op_mul (pe_ix (ix_K K) (pv 1) (pv 3) (fun _ _ => rfl)) (pe_ix (ix_K K) (pv 2) (pe_ix (ix_K K) (pv 0) (pv 3) (fun _ _ => rfl)) (fun _ _ => rfl))))) pa_nil)))), ?_⟩
    have e1 : (pt.map V.int).length = ps.length := by rw [List.length_map]; exact hl
    refine ⟨_, rfl, b3, p, _, rfl, hpt, ?_⟩
    rw [e1]
    refine ⟨_, rfl, by omega, by omega, fun D hD => lc_fun (fun i => V.int (ss.getD i 0 * pt.getD (ps.getD i 0).toNat 0)) (walk_range (lo := 0) (n := ps.length)) hD (six n6) (fun _ _ => trivial) ?_ ?_⟩
    · rintro i x H2 H3 hi s2 _ ⟨rfl, rfl⟩ Rk kk
      have his : i < ss.length := by omega
      obtain ⟨j, hj, hjl⟩ := L.get hi
      have hjp : j < pt.length := by omega
      have hs2 : ss[i] = ss.getD i 0 := (getD_of his 0).symm
      refine ⟨rfl, _, rfl, _, rfl, b2, b, _, _, .int (ss[i]'his), rfl, rfl, hs.same s2, by rw [Int.zero_add]; exact atI_nat (by rw [List.getElem?_map, List.getElem?_eq_getElem his]; rfl), _, rfl, _, rfl, _, rfl, b1, a, _, _, .int (ps[i]'hi), rfl, rfl, hp.same s2, by rw [Int.zero_add]; exact atI_nat (by rw [List.getElem?_map, List.getElem?_eq_getElem hi]; rfl), b3, p, _, _, .int (pt[j]'hjp), rfl, rfl, hpt.same s2, ?_, _, _, rfl, rfl, ?_, ?_⟩
      · rw [← getD_of hi 0, hj]
        exact atI_nat (by rw [List.getElem?_map, List.getElem?_eq_getElem hjp]; rfl)
      · rw [hs2]
        rcases L.sget hi with e | e <;> rw [e] <;> exact .inl ⟨by decide, by decide⟩
      · have q := kk _ (Same.refl _)
        rw [hj, Int.toNat_natCast, getD_of hjp, getD_of his] at q
        exact q
    · intro H2 hD2 s2
      have eL : (List.range ps.length).map (fun i => V.int (ss.getD i 0 * pt.getD (ps.getD i 0).toNat 0)) = (ledL ps ss pt).map V.int := by
        unfold ledL
        rw [List.map_map]
        rfl
      rw [eL] at hD2
      refine ⟨false, D, _, rfl, .of hD2, fun _ l hl2 => ?_, fun z => by cases z⟩
      exact k l _ (s2.free hl2) (s2.trans (same_upd hl2)) upd_same
end
end K0


set_option Elab.async false
set_option linter.all false
set_option maxRecDepth 100000
set_option maxHeartbeats 8000000
set_option exponentiation.threshold 100000
namespace K0
open PySem PySem.Spec PyProof.Rows L2 RZ K0z

structure ShN (B k : Nat) (d : PyData) : Prop where
  sh : d.showable = true
  dp : d.depth ≤ k
  ln : d.shown.length ≤ B
theorem ShN.short {B k : Nat} {d : PyData} (h : ShN B k d) (hB : B ≤ 1000000) (hk : k ≤ 20) : Short d := ⟨h.sh, Nat.le_trans h.dp hk, Nat.le_trans h.ln hB⟩
theorem ShN.more {B B' k k' : Nat} {d : PyData} (h : ShN B k d) (hB : B ≤ B') (hk : k ≤ k') : ShN B' k' d := ⟨h.sh, Nat.le_trans h.dp hk, Nat.le_trans h.ln hB⟩
theorem shN_none : ShN 100 0 .none := ⟨rfl, by decide, by simp only [PyData.shown]; decide⟩
theorem shN_bool (b : Bool) : ShN 100 0 (.bool b) := ⟨rfl, by simp [PyData.depth], by simp only [PyData.shown]; cases b <;> decide⟩
theorem shN_d0 : ShN 100 1 (.dict []) := ⟨rfl, by decide, by simp only [PyData.shown, PyData.shownKv]; decide⟩
theorem int_shown_len {n : Int} (h : n.natAbs < 10 ^ 60) : (PyData.int n).shown.length ≤ 61 := by
  have e := int_text_length_le10 (k := 60) (by decide) h
  simp only [PyData.shown]
  rw [PySem.ofString_length]
  omega
theorem lt60 {n : Int} (h : n.natAbs < 2 ^ 85) : n.natAbs < 10 ^ 60 := Nat.lt_trans h (by decide)
theorem shN_int {n : Int} (h : n.natAbs < 2 ^ 85) : ShN 100 0 (.int n) := by
  have h2 : n.natAbs.log2 < 1920 := by
    have e := PySem.Flt.log2_lt_of (by decide : 0 < 85) h
    omega
  exact ⟨by simpa [PyData.showable] using h2, by simp [PyData.depth], Nat.le_trans (int_shown_len (lt60 h)) (by decide)⟩
theorem shN_list {ds : List PyData} {B k n : Nat} (hn : ds.length ≤ n) (h : ∀ d ∈ ds, ShN B k d) : ShN (n * (B + 2) + 3) (k + 1) (.list ds) ∧ ShN (n * (B + 2) + 3) (k + 1) (.tuple ds) := by
  have a1 : PyData.showableAll ds = true := by
    clear hn
    induction ds with
    | nil => rfl
    | cons d ds ih =>
      simp only [PyData.showableAll, Bool.and_eq_true]
      exact ⟨(h d List.mem_cons_self).sh, ih fun d hd => h d (List.mem_cons_of_mem _ hd)⟩
  have a2 : PyData.depthAll ds ≤ k := by
    clear hn a1
    induction ds with
    | nil => exact Nat.zero_le _
    | cons d ds ih =>
      simp only [PyData.depthAll]
      exact Nat.max_le.mpr ⟨(h d List.mem_cons_self).dp, ih fun d hd => h d (List.mem_cons_of_mem _ hd)⟩
  have a3 : ((PyData.shownAll ds).map (·.length)).sum + 2 * (PyData.shownAll ds).length ≤ ds.length * (B + 2) := by
    clear hn a1 a2
    induction ds with
    | nil => simp [PyData.shownAll]
    | cons d ds ih =>
      have := ih fun d hd => h d (List.mem_cons_of_mem _ hd)
      have := (h d List.mem_cons_self).ln
      simp only [PyData.shownAll, List.map_cons, List.sum_cons, List.length_cons, Nat.succ_mul]
      omega
  have a4 : ds.length * (B + 2) ≤ n * (B + 2) := Nat.mul_le_mul_right _ hn
  have l1 := listText_len_le (PyData.shownAll ds)
  have l2 := tupleText_len_le (PyData.shownAll ds)
  exact ⟨⟨by simpa only [PyData.showable] using a1, by simp only [PyData.depth]; omega, by simp only [PyData.shown]; omega⟩, ⟨by simpa only [PyData.showable] using a1, by simp only [PyData.depth]; omega, by simp only [PyData.shown]; omega⟩⟩
theorem wide_int {n : Int} (h : n.natAbs < 2 ^ 900) : ShN 300 0 (.int n) := by
  have h2 : n.natAbs.log2 < 1920 := by
    have e := PySem.Flt.log2_lt_of (by decide : 0 < 900) h
    omega
  refine ⟨by simpa [PyData.showable] using h2, by simp [PyData.depth], ?_⟩
  have e := int_text_length_le10 (k := 280) (by decide) (Nat.lt_of_lt_of_le h (by decide) : n.natAbs < 10 ^ 280)
  simp only [PyData.shown]
  rw [PySem.ofString_length]
  omega
theorem toD_ints (ns : List Int) : (ns.map V.int).map toD = ns.map dInt := by rw [List.map_map]; rfl
/-- a tuple of integers, as it is shown -/
theorem tupI_shown {K : PySem.W.Frag} {H : Hp} {p : Addr} {ns : List Int} (hp : SqT K H p (ns.map V.int)) (hl : ns.length ≤ 8) (hb : ∀ n ∈ ns, n.natAbs < 2 ^ 900) : It K H (.ref p) (tupI ns) ∧ Short (tupI ns) := by
  refine ⟨.dp ?_ ?_, ?_⟩
  · unfold tupI
    rw [← toD_ints]
    exact dpT hp (flat_ints ns)
  · unfold tupI
    simp only [PyData.hasDict]
    clear hb hl hp
    induction ns with
    | nil => rfl
    | cons n r ih =>
      rw [List.map_cons]
      simp only [PyData.hasDictAll]
      rw [ih]
      rfl
  · refine (shN_list (n := 8) (B := 300) (k := 0) (ds := ns.map dInt) (by rw [List.length_map]; exact hl) fun x hx => ?_).2.short (by decide) (by decide)
    obtain ⟨n, hn, rfl⟩ := List.mem_map.mp hx
    exact wide_int (hb n hn)
theorem noDict_ints (ns : List Int) : PyData.hasDictAll (ns.map dInt) = false := by
  induction ns with
  | nil => rfl
  | cons n r ih =>
    rw [List.map_cons]
    simp only [PyData.hasDictAll]
    rw [ih]
    rfl
theorem lik_shown {K : PySem.W.Frag} {H : Hp} {z p q : Addr} {ps ss : List Int} (L : Lik ps ss) (hz : SqT K H z [.ref p, .ref q, .int ps.length]) (hp : SqT K H p (ps.map V.int)) (hq : SqT K H q (ss.map V.int)) : It K H (.ref z) (likD ps ss ps.length) ∧ Short (likD ps ss ps.length) := by
  have n6 := L.n6
  have len := L.len
  have b1 : ∀ n ∈ ps, n.natAbs < 2 ^ 85 := fun n hn => by
    obtain ⟨j, rfl, hj⟩ := L.at hn
    exact Nat.lt_of_le_of_lt (by omega : _ ≤ 6) (by decide)
  have b2 : ∀ n ∈ ss, n.natAbs < 2 ^ 85 := fun n hn => by
    rcases L.sg n hn with rfl | rfl <;> decide
  refine ⟨.dp (.tup hz (.cons ?_ (.cons ?_ (.cons (.int _) .nil)))) ?_, ?_⟩
  · unfold tupI
    rw [← toD_ints]
    exact dpT hp (flat_ints ps)
  · unfold tupI
    rw [← toD_ints]
    exact dpT hq (flat_ints ss)
  · show PyData.hasDict (.tuple [.tuple (ps.map dInt), .tuple (ss.map dInt), .int _]) = false
    simp only [PyData.hasDict, PyData.hasDictAll, noDict_ints, Bool.or_false]
  · have h1 : ShN (6 * (100 + 2) + 3) 1 (tupI ps) := (shN_list (n := 6) (B := 100) (k := 0) (ds := ps.map dInt) (by rw [List.length_map]; exact n6) fun x hx => by
      obtain ⟨n, hn, rfl⟩ := List.mem_map.mp hx
      exact shN_int (b1 n hn)).2
    have h2 : ShN (6 * (100 + 2) + 3) 1 (tupI ss) := (shN_list (n := 6) (B := 100) (k := 0) (ds := ss.map dInt) (by rw [List.length_map]; omega) fun x hx => by
      obtain ⟨n, hn, rfl⟩ := List.mem_map.mp hx
      exact shN_int (b2 n hn)).2
    refine (shN_list (n := 3) (B := 6 * (100 + 2) + 3) (k := 1) (ds := [tupI ps, tupI ss, .int ps.length]) (by simp) fun x hx => ?_).2.short (by decide) (by decide)
    simp only [List.mem_cons, List.not_mem_nil, or_false] at hx
    rcases hx with rfl | rfl | rfl
    · exact h1
    · exact h2
    · exact (shN_int (Nat.lt_of_le_of_lt (by omega : _ ≤ 6) (by decide))).more (by decide) (by decide)
end K0


set_option Elab.async false
set_option linter.all false
set_option maxRecDepth 100000
set_option maxHeartbeats 8000000
set_option exponentiation.threshold 100000
namespace K0
open PySem PySem.Spec PyProof.Rows L2 RZ K0z

def spTold (K : PySem.W.Frag) (C : Addr) : Sp := fun vs H Q _ => ∃ (a : Addr) (ps ss : List Int), vs = [.ref a] ∧ LikAt K H a C ps ss ∧ ∀ H', Same H H' → Q (.str (PyData.shown (likD ps ss ps.length))) H'
def spDueL (K : PySem.W.Frag) : Sp := fun vs H Q _ => ∃ (b : Bool) (p : Addr) (ps ss : List Int), vs = [.ref p] ∧ Lik ps ss ∧ SqB K b H p ((ledL ps ss (cnt ps.length)).map V.int) ∧ ∀ H', Same H H' → Q (.str (PyData.shown (likD ps ss ps.length))) H'
section
variable {P : Program} {w : World} {K : PySem.W.Frag} {mg : Str → Option Value} {base : Heap} {f f1 f2 g g2 C : Addr} {fd : FuncData}
abbrev N_point : List Str := ["drum", "wide", "most", "place"]
theorem sc_point : FnScope N_point ["drum", "wide"] (defScope st__law_point) := ⟨rfl, rfl, rfl, by decide +kernel, rfl, by decide +kernel, by decide +kernel⟩
theorem ok_point (F : Fun K "_law_point" "_law_point" st__law_point f fd) (T : Nm mg) (D__law_beat : Dn P w K mg base 1 "_law_beat" f1 ["drum", "many"] spTurn) (D__law_choose : Dn P w K mg base 2 "_law_choose" f2 ["drum", "some"] (spOne K)) :
    FnOk P w K mg base CX0 3 f fd ["drum", "wide"] spPnt := by
  refine F.ok sc_point (fun vs H Q E h => ?_) (fun cdv A outer s H vs Q E hr h => ?_)
  · obtain ⟨c, d, _, _, _, rfl, _⟩ := h
    rfl
  · obtain ⟨c, d, ns, m, n, rfl, hC, hm, n6, k⟩ := h
    refine ⟨_, (pss_cons (ps_set (i := 2) sc_point.nd rfl (Or.inr rfl) (pe_dn D__law_choose (hr.mono (by decide)) rfl (pa_cons (pv 0) (pa_cons (pe_lst (pa_cons pe_int (pa_cons pe_int (pa_cons (pe_op op_pow pe_int pe_int) (pa_cons (pe_op op_pow pe_int pe_int) pa_nil))))) pa_nil))))
    (pss_one (ps_ret (pe_lc (own := [("place", 3)]) (g := gName 3) (tt := tYes) rfl sc_point.nd (pi_range1 (by rfl) T.n_range (pa_cons (pv 1) pa_nil)) (blkOk_by (N := N_point) (sc := defScope st__law_point) (by decide +kernel)) (fun _ _ _ _ _ => (pg_name (i := 3) sc_point.nd rfl (Or.inl rfl))) (fun _ _ _ _ _ => pts_nil) (fun _ _ _ _ _ => (pe_op op_sub (pe_dn D__law_beat (hr.mono (by decide)) rfl (pa_cons (pv 0) (pa_cons (pe_op op_add (pe_op op_mul pe_int (pv 2)) pe_int) pa_nil))) (pv 2))))))), ?_⟩
    refine ⟨_, rfl, 10, 12, rfl, rfl, ⟨by decide, by decide, by decide⟩, 10, 40, rfl, rfl, ⟨by decide, by decide, by decide⟩, (by show 4 ≤ sizeLine; decide), fun L hL => ?_⟩
    obtain ⟨nLc, nLd⟩ := hC.ne hL
    refine ⟨c, d, ns, m, false, L, _, rfl, hC.upd nLc nLd, by omega, .of (by rw [off_ne nLc]; exact upd_same), (by show 0 < 4; decide), (by show 4 ≤ 100000; decide), fun i y H2 hy hC2 sb2 => ?_⟩
    have sb12 := (new_but hL).trans sb2
    obtain ⟨most, rfl, m0, m1⟩ : ∃ most : Int, y = .int most ∧ 0 ≤ most ∧ most ≤ 10 ^ 40 := by
      have := List.mem_of_getElem? hy
      simp only [List.mem_cons, List.not_mem_nil, or_false] at this
      rcases this with rfl | rfl | rfl | rfl
      · exact ⟨3, rfl, by decide, by decide⟩
      · exact ⟨50, rfl, by decide, by decide⟩
      · exact ⟨_, rfl, by decide, by decide⟩
      · exact ⟨_, rfl, by decide, by decide⟩
    refine ⟨_, rfl, _, rfl, by omega, by omega, fun D hD => lc_drawP BigP (k := 1) (n := n) (lo := 0) (by omega) hD hC2 (fun _ => rfl) ?_ ?_⟩
    · intro x H3 m' hm' hC3 R hR
      refine ⟨_, rfl, _, rfl, 2, most, rfl, rfl, .inl ⟨by decide, by decide⟩, _, 1, rfl, rfl, c, d, ns, m', 2 * most + 1, rfl, hC3, by omega, by omega, ?_, fun r H4 r0 r1 hC4 sb4 => ?_⟩
      · refine Nat.lt_of_le_of_lt (by omega : _ ≤ 2 * 10 ^ 40 + 1) ?_
        exact Nat.lt_of_lt_of_le (by decide : 2 * 10 ^ 40 + 1 < 2 ^ 200) (Nat.pow_le_pow_right (by decide) (by decide))
      · refine ⟨_, rfl, r, most, rfl, rfl, hR _ _ ?_ hC4 sb4⟩
        show (r - most).natAbs ≤ 10 ^ 40
        omega
    · intro H3 xs hxl hxs hD3 hC3 sb3
      obtain ⟨nDc, nDd⟩ := hC2.ne hD
      have hDH : H D = none := by
        cases e : H D with
        | none => rfl
        | some o => rw [sb12 _ _ nDc e] at hD; cases hD
      exact k D xs H3 hxl hxs hDH hD3 (hC3.more (by omega)) (sb12.trans sb3)
abbrev N_told : List Str := ["value"]
theorem sc_told : FnScope N_told ["value"] (defScope st__law_told) := ⟨rfl, rfl, rfl, by decide +kernel, rfl, by decide +kernel, by decide +kernel⟩
theorem ok_told (F : Fun K "_law_told" "_law_told" st__law_told f fd) (T : Nm mg) (U : LikC K C) : FnG P w K mg base 1 f fd ["value"] (spTold K C) := by
  refine Fun_okN F sc_told (fun vs H Q E h => ?_) (fun cdv A outer s H vs Q E hG hr h => ?_)
  · obtain ⟨a, _, _, rfl, _⟩ := h
    rfl
  · obtain ⟨a, ps, ss, rfl, hP, k⟩ := h
    refine ⟨_, (pss_one (ps_ret (pe_callB (call_repr hG hr.units) (by rfl) T.n_repr (by decide +kernel) (pa_cons (pe_tup (pa_cons (pe_fld (pv 0) rfl) (pa_cons (pe_fld (pv 0) rfl) (pa_cons (pe_fld (pv 0) rfl) pa_nil)))) pa_nil)))), ?_⟩
    obtain ⟨L, dx, p, q, fs, ha, hp, hq, f1, f2, f3, _⟩ := hP
    refine ⟨_, rfl, a, C, dx, fs, _, rfl, ha, U.cl, U.nP, f1, _, rfl, a, C, dx, fs, _, rfl, ha, U.cl, U.nS, f2, _, rfl, a, C, dx, fs, _, rfl, ha, U.cl, U.nW, f3, (by show 3 ≤ sizeLine; decide), fun z hz => ?_⟩
    have s1 := same_upd (o := .tup [.ref p, .ref q, .int ps.length]) hz
    have sh := lik_shown (K := K) L (.of (upd_same (H := H) (a := z) (o := .tup [.ref p, .ref q, .int ps.length]))) (hp.same s1).sq (same_sqT s1 hq)
    exact ⟨_, _, rfl, sh.1, sh.2, k _ s1⟩
abbrev N_due : List Str := ["led", "number"]
theorem sc_due : FnScope N_due ["led"] (defScope st__law_due) := ⟨rfl, rfl, rfl, by decide +kernel, rfl, by decide +kernel, by decide +kernel⟩
theorem ok_due (F : Fun K "_law_due" "_law_due" st__law_due f fd) (T : Nm mg) : FnG P w K mg base 1 f fd ["led"] (spDueL K) := by
  refine Fun_okN F sc_due (fun vs H Q E h => ?_) (fun cdv A outer s H vs Q E hG hr h => ?_)
  · obtain ⟨b, p, _, _, rfl, _⟩ := h
    rfl
  · obtain ⟨b, p, ps, ss, rfl, L, hp, k⟩ := h
    refine ⟨_, (pss_one (ps_ret (pe_callB (call_repr hG hr.units) (by rfl) T.n_repr (by decide +kernel) (pa_cons (pe_tup (pa_cons (pe_callTy (call_tupK K) (by rfl) T.n_tuple (by decide +kernel) (pa_cons (pe_lc (own := [("number", 1)]) (g := gName 1) (tt := tYes) rfl sc_due.nd (pi_seqK K (pv 0)) (blkOk_by (N := N_due) (sc := defScope st__law_due) (by decide +kernel)) (fun _ _ _ _ _ => (pg_name (i := 1) sc_due.nd rfl (Or.inl rfl))) (fun _ _ _ _ _ => pts_nil) (fun _ _ _ _ _ => (pe_op op_sub (pe_callB call_abs (by rfl) T.n_abs (by decide +kernel) (pa_cons (pv 1) pa_nil)) pe_int))) pa_nil)) (pa_cons (pe_callTy (call_tupK K) (by rfl) T.n_tuple (by decide +kernel) (pa_cons (pe_lc (own := [("number", 1)]) (g := gName 1) (tt := tYes) rfl sc_due.nd (pi_seqK K (pv 0)) (blkOk_by (N := N_due) (sc := defScope st__law_due) (by decide +kernel)) (fun _ _ _ _ _ => (pg_name (i := 1) sc_due.nd rfl (Or.inl rfl))) (fun _ _ _ _ _ => pts_nil) (fun _ _ _ _ _ => (pe_ifExp (pt_cmpR op_gt (pv 1) pe_int (nomark _)) pe_int (pe_un un_neg pe_int)))) pa_nil)) (pa_cons (pe_callB (call_lenK K) (by rfl) T.n_len (by decide +kernel) (pa_cons (pv 0) pa_nil)) pa_nil)))) pa_nil)))), ?_⟩
    obtain ⟨d1, d2⟩ := due_of L
    have n6 := L.n6
    have hz : ((ledL ps ss (cnt ps.length)).map V.int).length = ps.length := by rw [List.length_map, ledL_len]
    obtain ⟨led, hled⟩ : ∃ led, ledL ps ss (cnt ps.length) = led := ⟨_, rfl⟩
    rw [hled] at hp d1 d2 hz
    have hll : led.length = ps.length := by rw [← hz, List.length_map]
    refine ⟨_, rfl, b, p, rfl, ⟨_, hp⟩, fun D hD => lc_fun (fun i => V.int ((if led.getD i 0 < 0 then -(led.getD i 0) else led.getD i 0) - 1)) (walk_seq (b := b) (xs := led.map V.int)) hD (by rw [hz]; exact six n6) (fun H2 s2 => hp.same s2) ?_ ?_⟩
    · rintro i x H2 H3 hi s2 _ ⟨rfl, hx⟩ Rk kk
      obtain ⟨n, hn, rfl⟩ := map_int_get hx
      refine ⟨rfl, _, rfl, n, rfl, _, 1, rfl, rfl, ?_⟩
      have q := kk _ (Same.refl _)
      rw [List.getD_eq_getElem?_getD, hn] at q
      exact q
    intro H1 hD1 s1
    have e1 : (List.range (led.map V.int).length).map (fun i => V.int ((if led.getD i 0 < 0 then -(led.getD i 0) else led.getD i 0) - 1)) = ps.map V.int := by
      rw [List.length_map, range_map_getD led 0 (fun x => V.int ((if x < 0 then -x else x) - 1)), ← d1, List.map_map]
      rfl
    rw [e1] at hD1
    refine ⟨false, D, _, rfl, .of hD1, fun _ l hl => ?_, fun z => by cases z⟩
    have s2 := same_upd (o := .tup (ps.map V.int)) hl
    have z2 : upd H1 l (.tup (ps.map V.int)) l = some (.tup (ps.map V.int)) := upd_same
    generalize upd H1 l (.tup (ps.map V.int)) = H2 at s2 z2 ⊢
    have s12 := s1.trans s2
    have hp2 := hp.same s12
    refine ⟨_, rfl, b, p, rfl, ⟨_, hp2⟩, fun D2 hD2 => lc_fun (fun i => V.int (if 0 < led.getD i 0 then 1 else -1)) (walk_seq (b := b) (xs := led.map V.int)) hD2 (by rw [hz]; exact six n6) (fun H3 s3 => hp2.same s3) ?_ ?_⟩
    · rintro i x H3 H4 hi s3 _ ⟨rfl, hx⟩ Rk kk
      obtain ⟨n, hn, rfl⟩ := map_int_get hx
      have q := kk _ (Same.refl _)
      rw [List.getD_eq_getElem?_getD, hn] at q
      dsimp only [Option.getD_some] at q
      refine ⟨rfl, _, rfl, _, _, rfl, rfl, _, rfl, ?_⟩
      by_cases c1 : 0 < n
      · rw [if_pos c1] at q
        rw [decide_eq_true c1]
        exact iteT q
      · rw [if_neg c1] at q
        rw [decide_eq_false c1]
        exact iteF ⟨_, rfl, q⟩
    intro H3 hD3 s3
    have e3 : (List.range (led.map V.int).length).map (fun i => V.int (if 0 < led.getD i 0 then 1 else -1)) = ss.map V.int := by
      rw [List.length_map, range_map_getD led 0 (fun x => V.int (if 0 < x then 1 else -1)), ← d2, List.map_map]
      rfl
    rw [e3] at hD3
    refine ⟨false, D2, _, rfl, .of hD3, fun _ l2 hl2 => ?_, fun z => by cases z⟩
    have s4 := same_upd (o := .tup (ss.map V.int)) hl2
    have z4 : upd H3 l2 (.tup (ss.map V.int)) l2 = some (.tup (ss.map V.int)) := upd_same
    generalize upd H3 l2 (.tup (ss.map V.int)) = H4 at s4 z4 ⊢
    have s24 := s3.trans s4
    have s14 := s12.trans s24
    refine ⟨_, rfl, b, p, _, rfl, hp.same s14, (by show 3 ≤ sizeLine; decide), fun z hzz => ?_⟩
    rw [hz]
    have s5 := same_upd (o := .tup [.ref l, .ref l2, .int ps.length]) hzz
    have sh := lik_shown (K := K) L (.of (upd_same (H := H4) (a := z) (o := .tup [.ref l, .ref l2, .int ps.length]))) (.of (s5 _ _ (s24 _ _ z2))) (.of (s5 _ _ z4))
    exact ⟨_, _, rfl, sh.1, sh.2, k _ (s14.trans s5)⟩
end
end K0


set_option Elab.async false
set_option linter.all false
set_option maxRecDepth 100000
set_option maxHeartbeats 4000000
namespace K0
open PySem PySem.Spec PyProof.Rows L2 RZ K0z

/-! ### the promises, closed -/
@[irreducible] def jLkI (K : PySem.W.Frag) (CB C : Addr) : Sp := spLkI K CB C
theorem jLkI_eq (K : PySem.W.Frag) (CB C : Addr) : jLkI K CB C = spLkI K CB C := by unfold jLkI; rfl
@[irreducible] def jLed (K : PySem.W.Frag) (CP C : Addr) : Sp := spLed K CP C
theorem jLed_eq (K : PySem.W.Frag) (CP C : Addr) : jLed K CP C = spLed K CP C := by unfold jLed; rfl
@[irreducible] def jThen (K : PySem.W.Frag) (CB CM C : Addr) : Sp := spThen K CB CM C
theorem jThen_eq (K : PySem.W.Frag) (CB CM C : Addr) : jThen K CB CM C = spThen K CB CM C := by unfold jThen; rfl
@[irreducible] def jBack (K : PySem.W.Frag) (C : Addr) : Sp := spBack K C
theorem jBack_eq (K : PySem.W.Frag) (C : Addr) : jBack K C = spBack K C := by unfold jBack; rfl
@[irreducible] def jSame (K : PySem.W.Frag) (CN C : Addr) : Sp := spSame K CN C
theorem jSame_eq (K : PySem.W.Frag) (CN C : Addr) : jSame K CN C = spSame K CN C := by unfold jSame; rfl
@[irreducible] def jTold (K : PySem.W.Frag) (C : Addr) : Sp := spTold K C
theorem jTold_eq (K : PySem.W.Frag) (C : Addr) : jTold K C = spTold K C := by unfold jTold; rfl
@[irreducible] def jDueL (K : PySem.W.Frag) : Sp := spDueL K
theorem jDueL_eq (K : PySem.W.Frag) : jDueL K = spDueL K := by unfold jDueL; rfl
@[irreducible] def jLLed (K : PySem.W.Frag) : Sp := spLLed K
theorem jLLed_eq (K : PySem.W.Frag) : jLLed K = spLLed K := by unfold jLLed; rfl
@[irreducible] def jDrawn  : Sp := spDrawn 
theorem jDrawn_eq  : jDrawn  = spDrawn  := by unfold jDrawn; rfl
@[irreducible] def jPnt  : Sp := spPnt 
theorem jPnt_eq  : jPnt  = spPnt  := by unfold jPnt; rfl
end K0


set_option Elab.async false
set_option linter.all false
set_option maxRecDepth 100000
set_option maxHeartbeats 8000000
namespace K0
open PySem PySem.Spec PyProof.Rows L2 RZ K0z

def kwA : List V → List V → List V := fun us zs => us ++ zs
/-- the class of likenesses stands at C, with all that is asked of it -/
structure LikX (P : Program) (w : World) (K : PySem.W.Frag) (mg : Str → Option Value) (base : Heap) (C CB CP CM CN : Addr) : Prop where
  M : LikM P w K mg base C CB
  U : LikD K C
  E : EqD P w K mg base C
  kw : ∃ fI fd gg, Mk K C fI ∧ FnOk P w K mg base (L2.CX P w) 6 fI fd ["self", "places", "signs"] (spLkI K CB C) ∧ KBn K fd ["self", "places", "signs"] 1 ["places", "signs"] gg kwA
  led : ∃ f fd gg, Meth K C "led" f ∧ FnOk P w K mg base (L2.CX P w) 6 f fd ["self", "point"] (spLed K CP C) ∧ Binds K fd ["self", "point"] [] ∧ KBn K fd ["self", "point"] 1 ["point"] gg kwA
  thn : ∃ f fd gg, Meth K C "then" f ∧ FnOk P w K mg base (L2.CX P w) 8 f fd ["self", "other"] (spThen K CB CM C) ∧ Binds K fd ["self", "other"] [] ∧ KBn K fd ["self", "other"] 1 ["other"] gg kwA
  back : ∃ f fd, Meth K C "back" f ∧ FnOk P w K mg base (L2.CX P w) 8 f fd ["self"] (spBack K C) ∧ Binds K fd ["self"] []
  same : ∃ p g fd mc gg, ClX.CRead K C mc ∧ SMet K C mc "same" p g ∧ FnOk P w K mg base (L2.CX P w) 8 g fd ["wide"] (spSame K CN C) ∧ Binds K fd ["wide"] [] ∧ KBn K fd ["wide"] 0 ["wide"] gg kwA
/-- o.m(e, ..), o a likeness -/
def tLk (K : PySem.W.Frag) (C : Addr) (sp : Sp) (E : XK) (ta : TE) (t : TA) : TE := fun σ H Q => ta σ H fun x H1 => (∃ a ps ss, x = .ref a ∧ LikAt K H1 a C ps ss) ∧ t σ H1 fun vs H2 => sp (x :: vs) H2 Q E
def tLkN (K : PySem.W.Frag) (C : Addr) (sp : Sp) (E : XK) (ta : TE) (tk : TA) (n : Nat) : TE := fun σ H Q => ta σ H fun x H1 => (∃ a ps ss, x = .ref a ∧ LikAt K H1 a C ps ss) ∧ tk σ H1 fun zs H2 => zs.length = n ∧ sp (x :: zs) H2 Q E
section
variable {X : Cx} {CX : CXT} {k : Nat} {f C p g : Addr} {mc : Value} {fd : FuncData} {ps ks : List Str} {sp : Sp} {E : XK} {x m : Str} {pos apos : Pos} {e o : Expr} {es : List Expr} {kws : List Keyword} {ta : TE} {t tk : TA} {pl : Sem Bool} {gg : List Value → List Value → List Value}
theorem likAt_ins {K : PySem.W.Frag} {H : Hp} {a C : Addr} {ps ss : List Int} (h : LikAt K H a C ps ss) (n1 : m ≠ ("places" : Str)) (n2 : m ≠ ("signs" : Str)) (n3 : m ≠ ("wide" : Str)) : ∃ dx fs, H a = some (.ins C dx fs) ∧ fs.lookup m = none := by
  obtain ⟨_, dx, _, _, fs, ha, _, _, _, _, _, h⟩ := h
  exact ⟨dx, fs, ha, h m n1 n2 n3⟩
theorem pe_lkM (he : PE X o ta) (c : Cls X.K C) (hm : Meth X.K C m f) (F : FnOk X.prog X.w X.K X.mg X.base CX k f fd ps sp) (hr : Room k X.A) (hb : Binds X.K fd ps []) (hx : Passes CX X E) (ha : PA X (e :: es) t)
    (n1 : m ≠ ("places" : Str)) (n2 : m ≠ ("signs" : Str)) (n3 : m ≠ ("wide" : Str))
    (hst : starEach (e :: es) X.env = (false, eval e X.env) :: starEach es X.env) (hpl : (backTo pos (starEach es X.env)).any (·.1) = false)
    (ht : eval (.Call (.Attribute o m apos) (e :: es) [] pos) X.env = (do
      let ov ← eval o X.env
      standAt apos.atName
      let (f, first) ← holding [ov] (getMethod ov m pl)
      callWith pos f first (backTo pos (starEach (e :: es) X.env)) (backToKw pos (keywordEach [] X.env)))) :
    PE X (.Call (.Attribute o m apos) (e :: es) [] pos) (tLk X.K C sp E ta t) := by
  refine ⟨fun pins s σ H Q I h => ?_⟩
  refine PySem.W.methodCall_KW (pl := pl) (thn (he.run pins s σ H _ I h) fun u s1 ⟨x, H1, I1, rx, ⟨a, qs, ss, ex, hL⟩, q⟩ => ?_) ht
  subst ex
  obtain rfl : u = Value.ref a := rx
  obtain ⟨dx, fs, ea, l⟩ := likAt_ins hL n1 n2 n3
  refine getmeth_ok I1 ea c hm l ?_
  refine PySem.W.callWith_K (first := [.ref a]) (h₀ := X.base) I.ok.mod.kin hm.kp (thn (ha.run pos pins s1 σ H1 _ I1 q) fun us s2 ⟨vs, H2, I2, r, q2⟩ => ⟨I2.kIn, ?_⟩) hst hpl
  have := run_fn (us := .ref a :: us) (vs := .ref a :: vs) (dvs := []) (ds := []) F hr hb .nil hx I2 (.cons rfl r) (by simpa using q2)
  simpa using this
theorem pe_lkM0 (he : PE X o ta) (c : Cls X.K C) (hm : Meth X.K C m f) (F : FnOk X.prog X.w X.K X.mg X.base CX k f fd ps sp) (hr : Room k X.A) (hb : Binds X.K fd ps []) (hx : Passes CX X E)
    (n1 : m ≠ ("places" : Str)) (n2 : m ≠ ("signs" : Str)) (n3 : m ≠ ("wide" : Str))
    (ht : eval (.Call (.Attribute o m apos) [] [] pos) X.env = (do
      let ov ← eval o X.env
      standAt apos.atName
      let (f, first) ← holding [ov] (getMethod ov m pl)
      callWith pos f first (backTo pos (starEach [] X.env)) (backToKw pos (keywordEach [] X.env)))) :
    PE X (.Call (.Attribute o m apos) [] [] pos) (tLk X.K C sp E ta tNil) := by
  refine ⟨fun pins s σ H Q I h => ?_⟩
  refine PySem.W.methodCall_KW (pl := pl) (thn (he.run pins s σ H _ I h) fun u s1 ⟨x, H1, I1, rx, ⟨a, qs, ss, ex, hL⟩, q⟩ => ?_) ht
  subst ex
  obtain rfl : u = Value.ref a := rx
  obtain ⟨dx, fs, ea, l⟩ := likAt_ins hL n1 n2 n3
  refine getmeth_ok I1 ea c hm l ?_
  have := run_fn (us := [.ref a]) (vs := [.ref a]) (dvs := []) (ds := []) F hr hb .nil hx I1 (.cons rfl .nil) q
  exact PySem.W.callWith_K0 (first := [.ref a]) I1.kIn hm.kp (by simpa using this)
theorem pe_lkMN (he : PE X o ta) (c : Cls X.K C) (hm : Meth X.K C m f) (F : FnOk X.prog X.w X.K X.mg X.base CX k f fd ps sp) (hr : Room k X.A) (hb : KBn X.K fd ps 1 ks gg kwA) (hx : Passes CX X E) (hkw : PK X kws tk)
    (n1 : m ≠ ("places" : Str)) (n2 : m ≠ ("signs" : Str)) (n3 : m ≠ ("wide" : Str))
    (hall : (backToKw pos (keywordEach kws X.env)).all (·.1.isSome) = true) (hks : (backToKw pos (keywordEach kws X.env)).filterMap (·.1) = ks)
    (hpl : ((backTo pos (starEach [] X.env)).any (·.1) || (backToKw pos (keywordEach kws X.env)).any (·.1.isNone)) = false)
    (ht : eval (.Call (.Attribute o m apos) [] kws pos) X.env = (do
      let ov ← eval o X.env
      standAt apos.atName
      let (f, first) ← holding [ov] (getMethod ov m pl)
      callWith pos f first (backTo pos (starEach [] X.env)) (backToKw pos (keywordEach kws X.env)))) :
    PE X (.Call (.Attribute o m apos) [] kws pos) (tLkN X.K C sp E ta tk ks.length) := by
  refine ⟨fun pins s σ H Q I h => ?_⟩
  refine PySem.W.methodCall_KW (pl := pl) (thn (he.run pins s σ H _ I h) fun u s1 ⟨x, H1, I1, rx, ⟨a, qs, ss, ex, hL⟩, q⟩ => ?_) ht
  subst ex
  obtain rfl : u = Value.ref a := rx
  obtain ⟨dx, fs, ea, l⟩ := likAt_ins hL n1 n2 n3
  refine getmeth_ok I1 ea c hm l ?_
  refine PySem.W.callWith_KW0 (first := [.ref a]) (h₀ := X.base) I.ok.mod.kin hm.kp hall (thn (hkw.run pos pins s1 σ H1 _ I1 q) fun ws s2 ⟨zs, H2, I2, rz, l2, q2⟩ => ⟨I2.kIn, ?_⟩) hpl
  rw [hks]
  exact run_fnn (us := [.ref a]) (vs := [.ref a]) F hr hb hx I2 (.cons rfl .nil) rz rfl l2 q2
end
section
variable {X : Cx} {C CB CP CM CN : Addr} {E : XK} {pos apos npos : Pos} {e o : Expr} {es : List Expr} {kws : List Keyword} {ta : TE} {t tk : TA} {pl : Sem Bool}
theorem pe_led (D : LikX X.prog X.w X.K X.mg X.base C CB CP CM CN) (hr : Room 8 X.A) (hx : Passes (L2.CX X.prog X.w) X E) (he : PE X o ta) (ha : PA X (e :: es) t)
    (hst : starEach (e :: es) X.env = (false, eval e X.env) :: starEach es X.env := by rfl) (hpl : (backTo pos (starEach es X.env)).any (·.1) = false := by rfl)
    (ht : eval (.Call (.Attribute o ("led" : Str) apos) (e :: es) [] pos) X.env = (do
      let ov ← eval o X.env
      standAt apos.atName
      let (f, first) ← holding [ov] (getMethod ov ("led" : Str) pl)
      callWith pos f first (backTo pos (starEach (e :: es) X.env)) (backToKw pos (keywordEach [] X.env))) := by rfl) :
    PE X (.Call (.Attribute o "led" apos) (e :: es) [] pos) (tLk X.K C (jLed X.K CP C) E ta t) := by
  rw [jLed_eq]
  obtain ⟨f, fd, gg, m, F, B, _⟩ := D.led
  exact pe_lkM he D.U.cl m F (hr.mono (by decide)) B hx ha (by decide) (by decide) (by decide) hst hpl ht
theorem pe_ledN (D : LikX X.prog X.w X.K X.mg X.base C CB CP CM CN) (hr : Room 8 X.A) (hx : Passes (L2.CX X.prog X.w) X E) (he : PE X o ta) (hkw : PK X kws tk)
    (hall : (backToKw pos (keywordEach kws X.env)).all (·.1.isSome) = true := by rfl) (hks : (backToKw pos (keywordEach kws X.env)).filterMap (·.1) = [("point" : Str)] := by rfl)
    (hpl : ((backTo pos (starEach [] X.env)).any (·.1) || (backToKw pos (keywordEach kws X.env)).any (·.1.isNone)) = false := by rfl)
    (ht : eval (.Call (.Attribute o ("led" : Str) apos) [] kws pos) X.env = (do
      let ov ← eval o X.env
      standAt apos.atName
      let (f, first) ← holding [ov] (getMethod ov ("led" : Str) pl)
      callWith pos f first (backTo pos (starEach [] X.env)) (backToKw pos (keywordEach kws X.env))) := by rfl) :
    PE X (.Call (.Attribute o "led" apos) [] kws pos) (tLkN X.K C (jLed X.K CP C) E ta tk 1) := by
  rw [jLed_eq]
  obtain ⟨f, fd, gg, m, F, _, B⟩ := D.led
  exact pe_lkMN he D.U.cl m F (hr.mono (by decide)) B hx hkw (by decide) (by decide) (by decide) hall hks hpl ht
theorem pe_thn (D : LikX X.prog X.w X.K X.mg X.base C CB CP CM CN) (hr : Room 8 X.A) (hx : Passes (L2.CX X.prog X.w) X E) (he : PE X o ta) (ha : PA X (e :: es) t)
    (hst : starEach (e :: es) X.env = (false, eval e X.env) :: starEach es X.env := by rfl) (hpl : (backTo pos (starEach es X.env)).any (·.1) = false := by rfl)
    (ht : eval (.Call (.Attribute o ("then" : Str) apos) (e :: es) [] pos) X.env = (do
      let ov ← eval o X.env
      standAt apos.atName
      let (f, first) ← holding [ov] (getMethod ov ("then" : Str) pl)
      callWith pos f first (backTo pos (starEach (e :: es) X.env)) (backToKw pos (keywordEach [] X.env))) := by rfl) :
    PE X (.Call (.Attribute o "then" apos) (e :: es) [] pos) (tLk X.K C (jThen X.K CB CM C) E ta t) := by
  rw [jThen_eq]
  obtain ⟨f, fd, gg, m, F, B, _⟩ := D.thn
  exact pe_lkM he D.U.cl m F (hr.mono (by decide)) B hx ha (by decide) (by decide) (by decide) hst hpl ht
theorem pe_thnN (D : LikX X.prog X.w X.K X.mg X.base C CB CP CM CN) (hr : Room 8 X.A) (hx : Passes (L2.CX X.prog X.w) X E) (he : PE X o ta) (hkw : PK X kws tk)
    (hall : (backToKw pos (keywordEach kws X.env)).all (·.1.isSome) = true := by rfl) (hks : (backToKw pos (keywordEach kws X.env)).filterMap (·.1) = [("other" : Str)] := by rfl)
    (hpl : ((backTo pos (starEach [] X.env)).any (·.1) || (backToKw pos (keywordEach kws X.env)).any (·.1.isNone)) = false := by rfl)
    (ht : eval (.Call (.Attribute o ("then" : Str) apos) [] kws pos) X.env = (do
      let ov ← eval o X.env
      standAt apos.atName
      let (f, first) ← holding [ov] (getMethod ov ("then" : Str) pl)
      callWith pos f first (backTo pos (starEach [] X.env)) (backToKw pos (keywordEach kws X.env))) := by rfl) :
    PE X (.Call (.Attribute o "then" apos) [] kws pos) (tLkN X.K C (jThen X.K CB CM C) E ta tk 1) := by
  rw [jThen_eq]
  obtain ⟨f, fd, gg, m, F, _, B⟩ := D.thn
  exact pe_lkMN he D.U.cl m F (hr.mono (by decide)) B hx hkw (by decide) (by decide) (by decide) hall hks hpl ht
theorem pe_back (D : LikX X.prog X.w X.K X.mg X.base C CB CP CM CN) (hr : Room 8 X.A) (hx : Passes (L2.CX X.prog X.w) X E) (he : PE X o ta)
    (ht : eval (.Call (.Attribute o ("back" : Str) apos) [] [] pos) X.env = (do
      let ov ← eval o X.env
      standAt apos.atName
      let (f, first) ← holding [ov] (getMethod ov ("back" : Str) pl)
      callWith pos f first (backTo pos (starEach [] X.env)) (backToKw pos (keywordEach [] X.env))) := by rfl) :
    PE X (.Call (.Attribute o "back" apos) [] [] pos) (tLk X.K C (jBack X.K C) E ta tNil) := by
  rw [jBack_eq]
  obtain ⟨f, fd, m, F, B⟩ := D.back
  exact pe_lkM0 he D.U.cl m F (hr.mono (by decide)) B hx (by decide) (by decide) (by decide) ht
theorem pe_sameL (D : LikX X.prog X.w X.K X.mg X.base C CB CP CM CN) (hr : Room 8 X.A) (hx : Passes (L2.CX X.prog X.w) X E) (hg : Gl X "Likeness") (ha : PA X (e :: es) t)
    (hst : starEach (e :: es) X.env = (false, eval e X.env) :: starEach es X.env := by rfl) (hpl : (backTo pos (starEach es X.env)).any (·.1) = false := by rfl)
    (ht : eval (.Call (.Attribute (.Name ("Likeness" : Str) npos) ("same" : Str) apos) (e :: es) [] pos) X.env = (do
      let ov ← eval (.Name ("Likeness" : Str) npos) X.env
      standAt apos.atName
      let (f, first) ← holding [ov] (getMethod ov ("same" : Str) pl)
      callWith pos f first (backTo pos (starEach (e :: es) X.env)) (backToKw pos (keywordEach [] X.env))) := by rfl) :
    PE X (.Call (.Attribute (.Name "Likeness" npos) "same" apos) (e :: es) [] pos) (fun σ H Q => t σ H fun vs H1 => jSame X.K CN C vs H1 Q E) := by
  rw [jSame_eq]
  obtain ⟨p, g, fd, mc, gg, r, sm, F, B, _⟩ := D.same
  exact pe_static D.M.mg hg r sm F (hr.mono (by decide)) B hx ha (by decide) hst hpl ht
theorem pe_sameN (D : LikX X.prog X.w X.K X.mg X.base C CB CP CM CN) (hr : Room 8 X.A) (hx : Passes (L2.CX X.prog X.w) X E) (hg : Gl X "Likeness") (hkw : PK X kws tk)
    (hall : (backToKw pos (keywordEach kws X.env)).all (·.1.isSome) = true := by rfl) (hks : (backToKw pos (keywordEach kws X.env)).filterMap (·.1) = [("wide" : Str)] := by rfl)
    (hpl : ((backTo pos (starEach [] X.env)).any (·.1) || (backToKw pos (keywordEach kws X.env)).any (·.1.isNone)) = false := by rfl)
    (ht : eval (.Call (.Attribute (.Name ("Likeness" : Str) npos) ("same" : Str) apos) [] kws pos) X.env = (do
      let ov ← eval (.Name ("Likeness" : Str) npos) X.env
      standAt apos.atName
      let (f, first) ← holding [ov] (getMethod ov ("same" : Str) pl)
      callWith pos f first (backTo pos (starEach [] X.env)) (backToKw pos (keywordEach kws X.env))) := by rfl) :
    PE X (.Call (.Attribute (.Name "Likeness" npos) "same" apos) [] kws pos) (fun σ H Q => tk σ H fun zs H1 => zs.length = 1 ∧ jSame X.K CN C zs H1 Q E) := by
  rw [jSame_eq]
  obtain ⟨p, g, fd, mc, gg, r, sm, F, _, B⟩ := D.same
  exact pe_staticN (gV := kwA) D.M.mg hg r sm F (hr.mono (by decide)) B hx hkw (by decide) hall hks hpl ht
theorem pe_likN (D : LikX X.prog X.w X.K X.mg X.base C CB CP CM CN) (hr : Room 8 X.A) (hx : Passes (L2.CX X.prog X.w) X E) (hg : Gl X "Likeness") (hkw : PK X kws tk)
    (hall : (backToKw pos (keywordEach kws X.env)).all (·.1.isSome) = true := by rfl) (hks : (backToKw pos (keywordEach kws X.env)).filterMap (·.1) = [("places" : Str), "signs"] := by rfl)
    (hpl : ((backTo pos (starEach [] X.env)).any (·.1) || (backToKw pos (keywordEach kws X.env)).any (·.1.isNone)) = false := by rfl) :
    PE X (.Call (.Name "Likeness" npos) [] kws pos) (fun σ H Q => tk σ H fun zs H2 => zs.length = 2 ∧
      ∀ x dx, H2 x = none → H2 dx = none → dx ≠ x → jLkI X.K CB C (.ref x :: zs) (upd (upd H2 dx (.own x)) x (.ins C dx [])) (fun v H3 => v = .non ∧ Q (.ref x) H3) E) := by
  rw [jLkI_eq]
  obtain ⟨fI, fd, gg, M, F, B⟩ := D.kw
  exact pe_makeN0 (gV := kwA) M F (hr.mono (by decide)) hg D.M.mg B hx hkw hall hks (by decide) hpl
end
end K0


set_option Elab.async false
set_option linter.all false
set_option maxRecDepth 100000
set_option maxHeartbeats 8000000
set_option exponentiation.threshold 100000
namespace K0
open PySem PySem.Spec PyProof.Rows L2 RZ K0z

theorem pe_likJ {X : Cx} {C CB : Addr} {p pos : Pos} {e : Expr} {es : List Expr} {t : TA} {E : XK} (D : LikM X.prog X.w X.K X.mg X.base C CB) (hr : Room 7 X.A) (hx : Passes (L2.CX X.prog X.w) X E) (hg : Gl X "Likeness") (ha : PA X (e :: es) t)
    (he : starEach (e :: es) X.env = (false, eval e X.env) :: starEach es X.env := by rfl) (hpl : (backTo pos (starEach es X.env)).any (·.1) = false := by rfl) :
    PE X (.Call (.Name "Likeness" p) (e :: es) [] pos) (tMake C (jLkI X.K CB C) [] E t) := by
  rw [jLkI_eq]
  obtain ⟨fI, fd, M, F, B⟩ := D.ex
  exact pe_make (p := p) (pos := pos) M F hr hg D.mg B .nil hx ha (by decide) he hpl
theorem pe_bmK {X : Cx} {o e : Expr} {es : List Expr} {to : TE} {t : TA} {name : Str} {apos cpos : Pos} {T id : String} {r : V → List V → Hp → VK → Prop} (K : PySem.W.Frag) (pa : PlainAttrs T) (slot : Slot T name id) (hty : typeOf (.builtin id) = pure (.type "method_descriptor")) (hm : MtR X id r) (ho : PE X o to) (ha : PA X (e :: es) t)
    (hbase : attributeBase o name X.env (eval o X.env) = eval o X.env := by rfl)
    (hfew : ((backTo cpos (starEach (e :: es) X.env)).all (fun x => !x.1) && (backToKw cpos (keywordEach [] X.env)).all (fun x => x.1.isSome)
      && decide ((e :: es).length + ([] : List Keyword).length + (if ([] : List Keyword).isEmpty then 0 else 1) < 30)) = true := by rfl)
    (hline : (apos.endLine == cpos.line) = true := by rfl) (hs : starEach (e :: es) X.env = (false, eval e X.env) :: starEach es X.env := by rfl) (hplain : (backTo cpos (starEach es X.env)).any (·.1) = false := by rfl)
    (eK : X.K = K := by rfl) : PE X (.Call (.Attribute o name apos) (e :: es) [] cpos) (tBM K T r to t) := by
  subst eK; exact pe_bm pa slot hty hm ho ha hbase hfew hline hs hplain
theorem mt_lixK {X : Cx} (K : PySem.W.Frag) (eK : X.K = K := by rfl) : MtR X "list.index" (fun x xs H Q => ∃ (a : Addr) (ns : List Int) (k : Int), x = .ref a ∧ xs = [.int k] ∧ SqL K H a (ns.map V.int) ∧ ns.length ≤ 1000 ∧ k ∈ ns ∧ Q (.int (ns.idxOf k : Nat)) H) := by
  subst eK; exact mt_lixI
theorem sqT_but {K : PySem.W.Frag} {H H' : Hp} {c p : Addr} {l xs : List V} (h : SqT K H p xs) (hc : H c = some (.lst l)) (sb : SameBut c H H') : SqT K H' p xs := by
  rcases h with (h | ⟨u, h⟩) | h
  · exact .inl (.inl (sb _ _ (fun e => by rw [e, hc] at h; cases h) h))
  · exact .inl (.inr ⟨u, sb _ _ (fun e => by rw [e, hc] at h; cases h) h⟩)
  · exact .inr h
theorem LikAt.but {K : PySem.W.Frag} {H H' : Hp} {c d a C : Addr} {ps ss ns : List Int} {m : Nat} (h : LikAt K H a C ps ss) (hC : Coil H c d ns m) (sb : SameBut c H H') : LikAt K H' a C ps ss := by
  obtain ⟨_, _, _, x, y, hc, _⟩ := hC
  obtain ⟨l, dx, p, q, fs, h1, ⟨o, h2, h3⟩, h4, r⟩ := h
  refine ⟨l, dx, p, q, fs, sb _ _ (fun e => by rw [e, hc] at h1; cases h1) h1, ⟨o, sb _ _ (fun e => by rw [e, hc] at h2; cases h2) h2, h3⟩, sqT_but h4 hc sb, r⟩
theorem rng1_cnt (n : Nat) : rgV 1 ((n : Nat) + 1 : Int) = (cnt n).map V.int := by
  unfold rgV cnt
  rw [List.map_map, show ((n : Int) + 1 - 1).toNat = n by omega]
  refine List.map_congr_left fun i _ => ?_
  show V.int (1 + (i : Int)) = V.int ((i : Int) + 1)
  rw [Int.add_comm]
theorem lik_new {K : PySem.W.Frag} {CB C : Addr} {H1 : Hp} {x dx : Addr} {v1 v2 : V} {ps ss : List Int} {R : Hp → Prop} {E : XK} (L : Lik ps ss) (hx : H1 x = none) (hdx : H1 dx = none) (ndx : dx ≠ x) (hs1 : PlV K H1 v1 (ps.map V.int)) (hs2 : Seqs K H1 v2 (some (ss.map V.int)))
    (k : ∀ H2, LikAt K H2 x C ps ss → Same H1 H2 → R H2) : jLkI K CB C [.ref x, v1, v2] (upd (upd H1 dx (.own x)) x (.ins C dx [])) (fun v H2 => v = .non ∧ R H2) E := by
  rw [jLkI_eq]
  have s : Same H1 (upd (upd H1 dx (.own x)) x (.ins C dx [])) := (same_upd hdx).trans (same_upd (by rw [upd_ne (Ne.symm ndx)]; exact hx))
  exact lik_good L upd_same (hs1.same s) (Seqs.same s hs2) fun H' hL sb => ⟨rfl, k H' hL (make_same sb hx hdx)⟩
section
variable {K : PySem.W.Frag} {C CB CP CM CN : Addr} {H : Hp} {Q : VK} {E : XK} {c d : Addr} {ns : List Int} {m n : Nat} {ps ss ps' ss' pt : List Int} {a b p q : Addr}
theorem drawn_good (hC : Coil H c d ns m) (hm : m ≤ 90000) (n2 : 2 ≤ n) (n6 : n ≤ 6)
    (k : ∀ (t p q : Addr) (ps ss : List Int) (H' : Hp), Lik ps ss → ps.length = n → t ≠ c → p ≠ c → q ≠ c → p ≠ q → H' t = some (.tup [.ref p, .ref q]) → H' p = some (.lst (ps.map V.int)) → H' q = some (.lst (ss.map V.int)) → Coil H' c d ns (m + 2 * n) → SameBut c H H' → Q (.ref t) H') :
    jDrawn [.ref c, .int n] H Q E := by
  rw [jDrawn_eq]
  exact ⟨c, d, ns, m, n, rfl, hC, hm, n2, n6, fun t p q ps ss H' L ln ht hp hq npq h1 h2 h3 hC' sb => k t p q ps ss H' L ln (hC.ne ht).1 (hC.ne hp).1 (hC.ne hq).1 npq h1 h2 h3 hC' sb⟩
theorem point_good (hC : Coil H c d ns m) (hm : m ≤ 90000) (n6 : n ≤ 6)
    (k : ∀ (q : Addr) (pt : List Int) (H' : Hp), pt.length = n → (∀ x ∈ pt, BigP x) → q ≠ c → H q = none → H' q = some (.lst (pt.map V.int)) → Coil H' c d ns (m + n + 1) → SameBut c H H' → Q (.ref q) H') :
    jPnt [.ref c, .int n] H Q E := by
  rw [jPnt_eq]
  exact ⟨c, d, ns, m, n, rfl, hC, hm, n6, fun q pt H' l b hq h1 hC' sb => k q pt H' l b (hC.ne hq).1 hq h1 hC' sb⟩
theorem lled_good {b1 b2 b3 : Bool} (L : Lik ps ss) (lp : pt.length = ps.length) (h1 : SqB K b1 H a (ps.map V.int)) (h2 : SqB K b2 H b (ss.map V.int)) (h3 : SqB K b3 H p (pt.map V.int))
    (k : ∀ q H', Same H H' → H' q = some (.tup ((ledL ps ss pt).map V.int)) → Q (.ref q) H') : jLLed K [.ref a, .ref b, .ref p] H Q E := by
  rw [jLLed_eq]
  exact ⟨b1, b2, b3, a, b, p, ps, ss, pt, rfl, L, lp, h1, h2, h3, fun q H' _ s h => k q H' s h⟩
theorem lenB_self {xs : List V} {n : Nat} (h : xs.length = n) : lenB (some xs) (.int n) (.int n) = true := by
  show (decide ((n : Int) ≤ (xs.length : Int)) && decide ((xs.length : Int) ≤ (n : Int))) = true
  rw [h]
  simp
theorem intsB_map (ns : List Int) : intsB (some (ns.map V.int)) = true := by
  show (ns.map V.int).all isI = true
  simp [List.all_map, isI]
theorem led_good {v : V} (hL : LikAt K H a C ps ss) (hv : Seqs K H v (some (pt.map V.int))) (lp : pt.length = ps.length)
    (k : ∀ q H', Same H H' → H' q = some (.tup ((ledL ps ss pt).map V.int)) → Q (.ref q) H') : jLed K CP C [.ref a, v] H Q E := by
  rw [jLed_eq]
  have e1 : (lenB (some (pt.map V.int)) (.int ps.length) (.int ps.length) && intsB (some (pt.map V.int))) = true := by
    rw [lenB_self (by rw [List.length_map]; exact lp), intsB_map]
    rfl
  refine ⟨a, v, ps, ss, _, rfl, hL, hv, itemsI pt, fun e => absurd e (by rw [e1]; decide), fun xs e _ q H' s _ h => ?_⟩
  cases e
  rw [intsOf_map] at h
  exact k q H' s h
theorem then_good (hA : LikAt K H a C ps ss) (hB : LikAt K H b C ps' ss') (hn : ps'.length = ps.length)
    (k : ∀ r H', LikAt K H' r C (thenP ps ps') (ledL ps' ss' ss) → Same H H' → Q (.ref r) H') : jThen K CB CM C [.ref a, .ref b] H Q E := by
  rw [jThen_eq]
  exact ⟨a, .ref b, ps, ss, rfl, hA, .inr ⟨b, ps', ss', rfl, hB, fun h => absurd hn h, fun _ r H' _ h s => k r H' h s⟩⟩
theorem back_good (hA : LikAt K H a C ps ss) (k : ∀ r H', LikAt K H' r C (backP ps) (backS ps ss) → Same H H' → Q (.ref r) H') : jBack K C [.ref a] H Q E := by
  rw [jBack_eq]
  exact ⟨a, ps, ss, rfl, hA, fun r H' _ h s => k r H' h s⟩
theorem within_n {n : Nat} (h2 : 2 ≤ n) (h6 : n ≤ 6) : within (.int n) (.int 2) (.int 6) = true := by
  show (decide ((2 : Int) ≤ (n : Int)) && decide ((n : Int) ≤ 6)) = true
  simp
  omega
theorem same_good (n2 : 2 ≤ n) (n6 : n ≤ 6) (k : ∀ r H', LikAt K H' r C (rng n) (List.replicate n 1) → Same H H' → Q (.ref r) H') : jSame K CN C [.int n] H Q E := by
  rw [jSame_eq]
  refine ⟨.int n, false, rfl, .int _, fun e => absurd e (by rw [within_n n2 n6]; decide), fun n' e h2 h6 r H' _ h s => ?_⟩
  cases e
  exact k r H' h s
theorem told_good (hA : LikAt K H a C ps ss) (k : ∀ H', Same H H' → Q (.str (PyData.shown (likD ps ss ps.length))) H') : jTold K C [.ref a] H Q E := by
  rw [jTold_eq]
  exact ⟨a, ps, ss, rfl, hA, k⟩
theorem due_good {b1 : Bool} (L : Lik ps ss) (h : SqB K b1 H p ((ledL ps ss (cnt ps.length)).map V.int)) (k : ∀ H', Same H H' → Q (.str (PyData.shown (likD ps ss ps.length))) H') : jDueL K [.ref p] H Q E := by
  rw [jDueL_eq]
  exact ⟨b1, p, ps, ss, rfl, L, h, k⟩
theorem likEq_self : likEq ps ss ps ss = true := by unfold likEq; simp
theorem likEq_of (h1 : ps = ps') (h2 : ss = ss') : likEq ps ss ps' ss' = true := by subst h1; subst h2; exact likEq_self
theorem alike_eq (L : Lik ps ss) (L' : Lik ps' ss') : decide (V.str (PyData.shown (likD ps ss ps.length)) = V.str (PyData.shown (likD ps' ss' ps'.length))) = likEq ps ss ps' ss' := by
  unfold likEq
  rw [← Bool.decide_and]
  refine decide_eq_decide.mpr ⟨fun e => likD_inj L L' (V.str.inj e), fun ⟨e1, e2⟩ => by rw [e1, e2]⟩
end
def spTwo : Sp := fun vs H Q _ => ∃ (c d : Addr) (ns : List Int) (m n : Nat), vs = [.ref c, .int n] ∧ Coil H c d ns m ∧ m ≤ 80000 ∧ 2 ≤ n ∧ n ≤ 6 ∧ ∀ H', Coil H' c d ns (m + 40) → SameBut c H H' → Q (.bl true) H'
theorem led_shown {K : PySem.W.Frag} {H : Hp} {p : Addr} {x : List Int} (h : SqT K H p (x.map V.int)) (hl : x.length ≤ 6) (hb : ∀ y ∈ x, BigP y) : It K H (.ref p) (tupI x) ∧ Short (tupI x) :=
  tupI_shown h (by omega) fun n hn => Nat.lt_of_le_of_lt (hb n hn) (by decide)
theorem led_big {ps ss pt : List Int} (L : Lik ps ss) (h : ∀ x ∈ pt, BigP x) : ∀ x ∈ ledL ps ss pt, BigP x := by
  intro x hx
  obtain ⟨i, hi, rfl⟩ := List.mem_iff_getElem.mp hx
  rw [← getD_of hi 0]
  rw [ledL_len] at hi
  rw [led_at hi]
  have hb : BigP (pt.getD (ps.getD i 0).toNat 0) := by
    by_cases hj : (ps.getD i 0).toNat < pt.length
    · rw [getD_of hj]
      exact h _ (List.getElem_mem hj)
    · rw [List.getD_eq_getElem?_getD, List.getElem?_eq_none (by omega)]
      show (0 : Int).natAbs ≤ 10 ^ 40
      decide
  unfold BigP at hb ⊢
  rcases L.sget hi with e | e <;> rw [e] <;> omega
end K0


set_option Elab.async false
set_option linter.all false
set_option maxRecDepth 100000
set_option maxHeartbeats 8000000
set_option exponentiation.threshold 100000
namespace K0
open PySem PySem.Spec PyProof.Rows L2 RZ K0z


section
variable {P : Program} {w : World} {K : PySem.W.Frag} {mg : Str → Option Value} {base : Heap} {f f1 f2 f3 f4 f5 g C CB CP CM CN : Addr} {fd : FuncData}
abbrev N_two : List Str := ["drum", "wide", "first", "second", "one", "other", "point", "count", "both", "turned", "alike"]
theorem sc_two_right : FnScope N_two ["drum", "wide"] (defScope st__law_two_right) := ⟨rfl, rfl, rfl, by decide +kernel, rfl, by decide +kernel, by decide +kernel⟩
theorem ok_two (F : Fun K "_law_two_right" "_law_two_right" st__law_two_right f fd) (T : Nm mg) (D : LikX P w K mg base C CB CP CM CN) (D__law_drawn : Dn P w K mg base 3 "_law_drawn" f1 ["drum", "wide"] jDrawn) (D__law_point : Dn P w K mg base 3 "_law_point" f2 ["drum", "wide"] jPnt)
    (D__law_led : Dn P w K mg base 1 "_law_led" f3 ["places", "signs", "point"] (jLLed K)) (D__law_told : DnG P w K mg base 1 "_law_told" f4 ["value"] (jTold K C)) (D__law_due : DnG P w K mg base 1 "_law_due" f5 ["led"] (jDueL K)) :
    FnG P w K mg base 9 f fd ["drum", "wide"] spTwo := by
  refine Fun_okN F sc_two_right (fun vs H Q E h => ?_) (fun cdv A outer s H vs Q E hG hr h => ?_)
  · obtain ⟨c, d, _, _, _, rfl, _⟩ := h
    rfl
  · obtain ⟨c, d, ns, m, n, rfl, hC, hm, n2, n6, k⟩ := h
    refine ⟨_, (pss_cons (ps_par (i := 2) (j := 3) (by rfl) sc_two_right.nd rfl rfl (by decide) rfl rfl (pa_cons (pe_dn D__law_drawn (hr.mono (by decide)) rfl (pa_cons (pv 0) (pa_cons (pv 1) pa_nil))) (pa_cons (pe_dn D__law_drawn (hr.mono (by decide)) rfl (pa_cons (pv 0) (pa_cons (pv 1) pa_nil))) pa_nil)) (by rfl))
    (pss_cons (ps_par (i := 4) (j := 5) (by rfl) sc_two_right.nd rfl rfl (by decide) rfl rfl (pa_cons (pe_likJ D.M (hr.mono (by decide)) passL rfl (pa_cons (pe_ix (ix_K K) (pv 2) pe_int (fun _ _ => rfl)) (pa_cons (pe_ix (ix_K K) (pv 2) pe_int (fun _ _ => rfl)) pa_nil))) (pa_cons (pe_likJ D.M (hr.mono (by decide)) passL rfl (pa_cons (pe_ix (ix_K K) (pv 3) pe_int (fun _ _ => rfl)) (pa_cons (pe_ix (ix_K K) (pv 3) pe_int (fun _ _ => rfl)) pa_nil))) pa_nil)) (by rfl))
    (pss_cons (ps_par (i := 6) (j := 7) (by rfl) sc_two_right.nd rfl rfl (by decide) rfl rfl (pa_cons (pe_dn D__law_point (hr.mono (by decide)) rfl (pa_cons (pv 0) (pa_cons (pv 1) pa_nil))) (pa_cons (pe_listRg rfl (by rfl) T.n_list (prg_2 (by rfl) T.n_range pe_int (pe_op op_add (pv 1) pe_int))) pa_nil)) (by rfl))
    (pss_cons (ps_par (i := 8) (j := 9) (by rfl) sc_two_right.nd rfl rfl (by decide) rfl rfl (pa_cons (pe_thnN D (hr.mono (by decide)) passL (pv 4) (pk_cons (pv 5) pk_nil)) (pa_cons (pe_thn D (hr.mono (by decide)) passL (pv 5) (pa_cons (pv 4) pa_nil)) pa_nil)) (by rfl))
    (pss_cons (ps_if (pt_cmpR op_ne (pe_callB (call_repr hG hr.units) (by rfl) T.n_repr (by decide +kernel) (pa_cons (pe_led D (hr.mono (by decide)) passL (pv 8) (pa_cons (pv 6) pa_nil)) pa_nil)) (pe_callB (call_repr hG hr.units) (by rfl) T.n_repr (by decide +kernel) (pa_cons (pe_dn D__law_led (hr.mono (by decide)) rfl (pa_cons (pe_ix (ix_K K) (pv 3) pe_int (fun _ _ => rfl)) (pa_cons (pe_ix (ix_K K) (pv 3) pe_int (fun _ _ => rfl)) (pa_cons (pe_dn D__law_led (hr.mono (by decide)) rfl (pa_cons (pe_ix (ix_K K) (pv 2) pe_int (fun _ _ => rfl)) (pa_cons (pe_ix (ix_K K) (pv 2) pe_int (fun _ _ => rfl)) (pa_cons (pv 6) pa_nil)))) pa_nil)))) pa_nil)) (nomark _)) (pss_one (ps_ret pe_bl)) pss_nil)
    (pss_cons (ps_if (pt_cmpR op_ne (pe_dg D__law_told hG (hr.mono (by decide)) rfl (pa_cons (pv 8) pa_nil)) (pe_dg D__law_due hG (hr.mono (by decide)) rfl (pa_cons (pe_dn D__law_led (hr.mono (by decide)) rfl (pa_cons (pe_ix (ix_K K) (pv 3) pe_int (fun _ _ => rfl)) (pa_cons (pe_ix (ix_K K) (pv 3) pe_int (fun _ _ => rfl)) (pa_cons (pe_dn D__law_led (hr.mono (by decide)) rfl (pa_cons (pe_ix (ix_K K) (pv 2) pe_int (fun _ _ => rfl)) (pa_cons (pe_ix (ix_K K) (pv 2) pe_int (fun _ _ => rfl)) (pa_cons (pv 7) pa_nil)))) pa_nil)))) pa_nil)) (nomark _)) (pss_one (ps_ret pe_bl)) pss_nil)
    (pss_cons (ps_if (pt_cmpR op_ne (pe_dg D__law_told hG (hr.mono (by decide)) rfl (pa_cons (pv 9) pa_nil)) (pe_dg D__law_due hG (hr.mono (by decide)) rfl (pa_cons (pe_dn D__law_led (hr.mono (by decide)) rfl (pa_cons (pe_ix (ix_K K) (pv 2) pe_int (fun _ _ => rfl)) (pa_cons (pe_ix (ix_K K) (pv 2) pe_int (fun _ _ => rfl)) (pa_cons (pe_dn D__law_led (hr.mono (by decide)) rfl (pa_cons (pe_ix (ix_K K) (pv 3) pe_int (fun _ _ => rfl)) (pa_cons (pe_ix (ix_K K) (pv 3) pe_int (fun _ _ => rfl)) (pa_cons (pv 7) pa_nil)))) pa_nil)))) pa_nil)) (nomark _)) (pss_one (ps_ret pe_bl)) pss_nil)
    (pss_cons (ps_set (i := 10) sc_two_right.nd rfl (Or.inl rfl) (pe_cmpR op_eq (pe_dg D__law_told hG (hr.mono (by decide)) rfl (pa_cons (pv 8) pa_nil)) (pe_dg D__law_told hG (hr.mono (by decide)) rfl (pa_cons (pv 9) pa_nil)) (nomark _)))
    (pss_cons (ps_if (PW.pt (pw_or (pt_cmpR op_ne (pe_cmpR (op_eqL D.E D.U (hr.mono (by decide)) K) (pv 8) (pv 9) (nomark _)) (pv 10) (nomark _)) (pw_or1 (pt_cmpR op_ne (pe_cmpR (op_eqL D.E D.U (hr.mono (by decide)) K) (pv 4) (pv 5) (nomark _)) (pe_cmpR op_eq (pe_dg D__law_told hG (hr.mono (by decide)) rfl (pa_cons (pv 4) pa_nil)) (pe_dg D__law_told hG (hr.mono (by decide)) rfl (pa_cons (pv 5) pa_nil)) (nomark _)) (nomark _))))) (pss_one (ps_ret pe_bl)) pss_nil)
    (pss_one (ps_ret (pe_cmpR (op_eqL D.E D.U (hr.mono (by decide)) K) (pe_back D (hr.mono (by decide)) passL (pv 8)) (pe_thn D (hr.mono (by decide)) passL (pe_back D (hr.mono (by decide)) passL (pv 5)) (pa_cons (pe_back D (hr.mono (by decide)) passL (pv 4)) pa_nil)) (nomark _))))))))))))), ?_⟩
    refine ⟨_, rfl, _, rfl, drawn_good hC (by omega) n2 n6 fun t1 p1 q1 ps ss H1 L ln nt1 np1 nq1 _ ht1 hp1 hq1 hC1 sb1 => ?_⟩
    refine ⟨_, rfl, _, rfl, drawn_good hC1 (by omega) n2 n6 fun t2 p2 q2 ps' ss' H2 L' ln' nt2 np2 nq2 _ ht2 hp2 hq2 hC2 sb2 => ⟨_, _, rfl, ?_⟩⟩
    have hn : ps'.length = ps.length := ln'.trans ln.symm
    have hn' := hn.symm
    have ll1 := L.len
    have ll2 := L'.len
    have ht1' := sb2 _ _ nt1 ht1
    have hp1' := sb2 _ _ np1 hp1
    have hq1' := sb2 _ _ nq1 hq1
    have z1 : (ps.map V.int).length < sizeLine := by rw [List.length_map]; exact six (by omega)
    have z2 : (ss.map V.int).length < sizeLine := by rw [List.length_map]; exact six (by omega)
    have z3 : (ps'.map V.int).length < sizeLine := by rw [List.length_map]; exact six (by omega)
    have z4 : (ss'.map V.int).length < sizeLine := by rw [List.length_map]; exact six (by omega)
    -- one, other
    refine ⟨_, rfl, true, t1, _, 0, _, rfl, rfl, .of ht1', rfl, _, rfl, true, t1, _, 1, _, rfl, rfl, .of ht1', rfl, fun a1 dx1 hx1 hd1 nd1 => lik_new L hx1 hd1 nd1 ⟨z1, p1, rfl, .inl hp1'⟩ (seqsL hq1' z2) fun H3 hA1 s3 => ?_⟩
    refine ⟨_, rfl, true, t2, _, 0, _, rfl, rfl, .of (s3 _ _ ht2), rfl, _, rfl, true, t2, _, 1, _, rfl, rfl, .of (s3 _ _ ht2), rfl, fun a2 dx2 hx2 hd2 nd2 => lik_new L' hx2 hd2 nd2 ⟨z3, p2, rfl, .inl (s3 _ _ hp2)⟩ (seqsL (s3 _ _ hq2) z4) fun H4 hA2 s4 => ⟨_, _, rfl, ?_⟩⟩
    have s34 := s3.trans s4
    have hC4 := hC2.but s34
    have hA1' := hA1.same s4
    -- point, count
    refine ⟨_, rfl, _, rfl, point_good hC4 (by omega) n6 fun pp pt H5 lpt hbig nppc _ hpp hC5 sb5 => ?_⟩
    have sb25 : SameBut c H2 H5 := (SameBut.of s34).trans sb5
    have hA1 := hA1'.but hC4 sb5
    have hA2 := hA2.but hC4 sb5
    have ht1 := sb25 _ _ nt1 ht1'
    have hp1 := sb25 _ _ np1 hp1'
    have hq1 := sb25 _ _ nq1 hq1'
    have ht2 := sb25 _ _ nt2 ht2
    have hp2 := sb25 _ _ np2 hp2
    have hq2 := sb25 _ _ nq2 hq2
    have sbA : SameBut c H H5 := (sb1.trans sb2).trans sb25
    clear hA1' hC4 s34 s3 s4 ht1' hp1' hq1' hC1 sb1 hC2 sb2 sb25 sb5
    refine ⟨_, rfl, _, _, rfl, rfl, _, _, rfl, rfl, ⟨by decide, by decide, by omega, by omega, Nat.le_trans (by omega : _ ≤ 10) (by decide)⟩, fun cq hcq => ⟨_, _, rfl, ?_⟩⟩
    have s6 := same_upd (o := .lst (rgV 1 ((n : Nat) + 1 : Int))) hcq
    have hcq6 : upd H5 cq (.lst (rgV 1 ((n : Nat) + 1 : Int))) cq = some (.lst ((cnt n).map V.int)) := by rw [upd_same, rng1_cnt]
    generalize upd H5 cq (.lst (rgV 1 ((n : Nat) + 1 : Int))) = H6 at s6 hcq6 ⊢
    -- both, turned
    refine ⟨_, rfl, ⟨a1, ps, ss, rfl, hA1.same s6⟩, _, rfl, rfl, then_good (hA1.same s6) (hA2.same s6) hn fun b H7 hB s7 => ?_⟩
    have s57 := s6.trans s7
    refine ⟨_, rfl, ⟨a2, ps', ss', rfl, hA2.same s57⟩, _, rfl, then_good (hA2.same s57) (hA1.same s57) hn' fun tb H8 hT s8 => ⟨_, _, rfl, ?_⟩⟩
    have s68 := s7.trans s8
    have s58 := s6.trans s68
    have LB := L.then L' hn
    have LT := L'.then L hn'
    have hB := hB.same s8
    have hcq := s68 _ _ hcq6
    have hA1 := hA1.same s58
    have hA2 := hA2.same s58
    have ht1 := s58 _ _ ht1
    have hp1 := s58 _ _ hp1
    have hq1 := s58 _ _ hq1
    have ht2 := s58 _ _ ht2
    have hp2 := s58 _ _ hp2
    have hq2 := s58 _ _ hq2
    have hpp := s58 _ _ hpp
    have sbA := sbA.trans (SameBut.of s58)
    have hCC := hC5.but s58
    clear s6 s7 s8 s57 s58 s68 hcq6 hC5
    have zpt : (pt.map V.int).length < sizeLine := by rw [List.length_map]; exact six (by omega)
    have lpt1 : pt.length = ps.length := by omega
    have lpt2 : pt.length = (thenP ps ps').length := by rw [then_len]; omega
    have lc1 : (cnt n).length = ps.length := by rw [cnt_len]; omega
    have lc2 : (cnt n).length = ps'.length := by rw [cnt_len]; omega
    -- led
    refine ⟨_, rfl, ⟨b, _, _, rfl, hB⟩, _, rfl, led_good hB (seqsL hpp zpt) lpt2 fun r1 G1 g1 hr1 => ?_⟩
    rw [led_then L L' hn] at hr1
    have big2 := led_big L' (led_big L hbig)
    have lb2 : (ledL ps' ss' (ledL ps ss pt)).length ≤ 6 := by rw [ledL_len]; omega
    have sh1 := led_shown (K := K) (.of hr1) lb2 big2
    refine ⟨_, _, rfl, sh1.1, sh1.2, _, rfl, true, t2, _, 0, _, rfl, rfl, .of (g1 _ _ ht2), rfl, _, rfl, true, t2, _, 1, _, rfl, rfl, .of (g1 _ _ ht2), rfl, _, rfl, true, t1, _, 0, _, rfl, rfl, .of (g1 _ _ ht1), rfl, _, rfl, true, t1, _, 1, _, rfl, rfl, .of (g1 _ _ ht1), rfl, _, rfl, ?_⟩
    refine lled_good (b1 := false) (b2 := false) (b3 := false) L lpt1 (.of (g1 _ _ hp1)) (.of (g1 _ _ hq1)) (.of (g1 _ _ hpp)) fun r2 G2 g2 hr2 => ?_
    have g12 := g1.trans g2
    refine lled_good (b1 := false) (b2 := false) (b3 := true) L' (by rw [ledL_len]; omega) (.of (g12 _ _ hp2)) (.of (g12 _ _ hq2)) (.of hr2) fun r3 G3 g3 hr3 => ?_
    have g13 := g12.trans g3
    have sh3 := led_shown (K := K) (.of hr3) lb2 big2
    refine ⟨_, _, rfl, sh3.1, sh3.2, rfl, ?_⟩
    rw [decide_eq_true rfl]
    refine ⟨_, rfl, iteF ?_⟩
    -- told(both)
    clear sh1 sh3 hr1 hr2 hr3
    have cB : cnt n = cnt (thenP ps ps').length := by rw [then_len, ln']
    have cT : cnt n = cnt (thenP ps' ps).length := by rw [then_len, ln]
    refine ⟨_, rfl, told_good (hB.same g13) fun G4 g4 => ?_⟩
    have g14 := g13.trans g4
    refine ⟨_, rfl, true, t2, _, 0, _, rfl, rfl, .of (g14 _ _ ht2), rfl, _, rfl, true, t2, _, 1, _, rfl, rfl, .of (g14 _ _ ht2), rfl, _, rfl, true, t1, _, 0, _, rfl, rfl, .of (g14 _ _ ht1), rfl, _, rfl, true, t1, _, 1, _, rfl, rfl, .of (g14 _ _ ht1), rfl, _, rfl, ?_⟩
    refine lled_good (b1 := false) (b2 := false) (b3 := false) L lc1 (.of (g14 _ _ hp1)) (.of (g14 _ _ hq1)) (.of (g14 _ _ hcq)) fun r2 G5 g5 hr2 => ?_
    have g15 := g14.trans g5
    refine lled_good (b1 := false) (b2 := false) (b3 := true) L' (by rw [ledL_len]; omega) (.of (g15 _ _ hp2)) (.of (g15 _ _ hq2)) (.of hr2) fun r3 G6 g6 hr3 => ?_
    rw [← led_then L L' hn, cB] at hr3
    refine due_good (b1 := true) LB (.of hr3) fun G7 g7 => ⟨rfl, ?_⟩
    rw [decide_eq_true rfl]
    refine ⟨_, rfl, iteF ?_⟩
    have g17 := g15.trans (g6.trans g7)
    clear hr2 hr3 g1 g2 g3 g4 g5 g6 g7 g12 g13 g14 g15
    -- told(turned)
    refine ⟨_, rfl, told_good (hT.same g17) fun H1' h1 => ?_⟩
    have g14 := g17.trans h1
    refine ⟨_, rfl, true, t1, _, 0, _, rfl, rfl, .of (g14 _ _ ht1), rfl, _, rfl, true, t1, _, 1, _, rfl, rfl, .of (g14 _ _ ht1), rfl, _, rfl, true, t2, _, 0, _, rfl, rfl, .of (g14 _ _ ht2), rfl, _, rfl, true, t2, _, 1, _, rfl, rfl, .of (g14 _ _ ht2), rfl, _, rfl, ?_⟩
    refine lled_good (b1 := false) (b2 := false) (b3 := false) L' lc2 (.of (g14 _ _ hp2)) (.of (g14 _ _ hq2)) (.of (g14 _ _ hcq)) fun r2 G5 g5 hr2 => ?_
    have g15 := g14.trans g5
    refine lled_good (b1 := false) (b2 := false) (b3 := true) L (by rw [ledL_len]; omega) (.of (g15 _ _ hp1)) (.of (g15 _ _ hq1)) (.of hr2) fun r3 G6 g6 hr3 => ?_
    rw [← led_then L' L hn', cT] at hr3
    refine due_good (b1 := true) LT (.of hr3) fun G7 g7 => ⟨rfl, ?_⟩
    rw [decide_eq_true rfl]
    refine ⟨_, rfl, iteF ?_⟩
    have g18 := g15.trans (g6.trans g7)
    have hB := hB.same g18
    have hT := hT.same g18
    have hA1 := hA1.same g18
    have hA2 := hA2.same g18
    have sbA := sbA.trans (SameBut.of g18)
    have hCC := hCC.but g18
    clear hr2 hr3 g5 g6 g7 g14 g15 g17 g18 h1 ht1 ht2 hp1 hp2 hq1 hq2 hcq hpp
    -- alike
    refine ⟨_, rfl, told_good hB fun H2' h2 => ?_⟩
    refine ⟨_, rfl, told_good (hT.same h2) fun H3' h3 => ⟨rfl, ?_⟩⟩
    rw [alike_eq LB LT]
    have h23 := h2.trans h3
    refine ⟨_, rfl, _, rfl, b, _, _, _, rfl, hB.same h23, .lik (hT.same h23), _, rfl, rfl, ?_⟩
    rw [decide_eq_true rfl]
    refine ⟨_, rfl, iteF ?_⟩
    refine ⟨_, rfl, _, rfl, a1, _, _, _, rfl, hA1.same h23, .lik (hA2.same h23), _, rfl, told_good (hA1.same h23) fun H4' h4 => ?_⟩
    have h24 := h23.trans h4
    refine ⟨_, rfl, told_good (hA2.same h24) fun H5' h5 => ⟨rfl, ?_⟩⟩
    have h25 := h24.trans h5
    rw [alike_eq L L']
    refine ⟨rfl, ?_⟩
    rw [decide_eq_true rfl]
    refine ⟨_, rfl, iteF ?_⟩
    -- back
    obtain ⟨e1, e2⟩ := back_of_then L L' hn
    refine ⟨_, rfl, ⟨b, _, _, rfl, hB.same h25⟩, back_good (hB.same h25) fun x1 G1 hx1 g1 => ?_⟩
    have k1 := h25.trans g1
    refine ⟨_, rfl, ⟨a2, _, _, rfl, hA2.same k1⟩, back_good (hA2.same k1) fun x2 G2 hx2 g2 => ⟨⟨x2, _, _, rfl, hx2⟩, ?_⟩⟩
    have k2 := k1.trans g2
    refine ⟨_, rfl, ⟨a1, _, _, rfl, hA1.same k2⟩, back_good (hA1.same k2) fun x3 G3 hx3 g3 => ?_⟩
    refine then_good (hx2.same g3) hx3 (by rw [backP_len, backP_len]; exact hn') fun x4 G4 hx4 g4 => ?_
    have k4 := k2.trans (g3.trans g4)
    refine ⟨x1, _, _, _, rfl, hx1.same (g2.trans (g3.trans g4)), .lik hx4, ?_⟩
    rw [likEq_of e1 e2]
    exact k _ ((hCC.but k4).more (by omega)) (sbA.trans (SameBut.of k4))
end
end K0


set_option Elab.async false
set_option linter.all false
set_option maxRecDepth 100000
set_option maxHeartbeats 8000000
set_option exponentiation.threshold 100000
namespace K0
open PySem PySem.Spec PyProof.Rows L2 RZ K0z

theorem ixN_zero {n : Nat} (h : 0 < n) : ixN n 0 = some 0 := by
  unfold ixN
  rw [if_pos (by decide), if_pos (by omega)]
  rfl
theorem LikAt.butL {K : PySem.W.Frag} {H H' : Hp} {c a C : Addr} {ps ss : List Int} {l : List V} (h : LikAt K H a C ps ss) (hc : H c = some (.lst l)) (sb : SameBut c H H') : LikAt K H' a C ps ss := by
  obtain ⟨l, dx, p, q, fs, h1, ⟨o, h2, h3⟩, h4, r⟩ := h
  refine ⟨l, dx, p, q, fs, sb _ _ (fun e => by rw [e, hc] at h1; cases h1) h1, ⟨o, sb _ _ (fun e => by rw [e, hc] at h2; cases h2) h2, h3⟩, sqT_but h4 hc sb, r⟩
def flipS (ss : List Int) (r : Int) : List Int := (List.range ss.length).map fun (i : Nat) => if (i : Int) = r then -(ss.getD i 0) else ss.getD i 0
theorem flip_len (ss : List Int) (r : Int) : (flipS ss r).length = ss.length := by simp [flipS]
theorem flip_at {ss : List Int} {r : Int} {i : Nat} (h : i < ss.length) : (flipS ss r).getD i 0 = if (i : Int) = r then -(ss.getD i 0) else ss.getD i 0 := getD_range (f := fun (i : Nat) => if (i : Int) = r then -(ss.getD i 0) else ss.getD i 0) h
theorem Lik.flip {ps ss : List Int} (L : Lik ps ss) (r : Int) : Lik ps (flipS ss r) := by
  refine ⟨L.n2, L.n6, by rw [flip_len, L.len], L.perm, fun s hs => ?_⟩
  obtain ⟨i, hi, rfl⟩ := List.mem_iff_getElem.mp hs
  rw [← getD_of hi 0]
  rw [flip_len] at hi
  rw [flip_at hi]
  have := L.len
  rcases L.sget (i := i) (by omega) with e | e <;> rw [e] <;> split <;> decide
theorem flip_ne {ps ss : List Int} (L : Lik ps ss) {r : Int} (r0 : 0 ≤ r) (r1 : r < ss.length) : likEq ps ss ps (flipS ss r) = false := by
  unfold likEq
  rw [decide_eq_false (p := ss = flipS ss r) (fun e => ?_), Bool.and_false]
  obtain ⟨j, rfl⟩ : ∃ j : Nat, r = j := ⟨r.toNat, by omega⟩
  have hj : j < ss.length := by omega
  have e2 := congrArg (fun l => l.getD j 0) e
  rw [flip_at hj, if_pos rfl] at e2
  have := L.len
  rcases L.sget (i := j) (by omega) with e3 | e3 <;> rw [e3] at e2 <;> omega

section
variable {P : Program} {w : World} {K : PySem.W.Frag} {mg : Str → Option Value} {base : Heap} {f f1 f2 f3 f4 f5 f6 g C CB CP CM CN : Addr} {fd : FuncData}
abbrev N_one : List Str := ["drum", "wide", "places", "signs", "mine", "its", "one", "count", "point", "due", "kept", "there", "back", "home", "place", "same", "spot", "other", "at", "sign"]
theorem sc_one_right : FnScope N_one ["drum", "wide"] (defScope st__law_one_right) := ⟨rfl, rfl, rfl, by decide +kernel, rfl, by decide +kernel, by decide +kernel⟩
theorem ok_one (F : Fun K "_law_one_right" "_law_one_right" st__law_one_right f fd) (T : Nm mg) (D : LikX P w K mg base C CB CP CM CN) (D__law_drawn : Dn P w K mg base 3 "_law_drawn" f1 ["drum", "wide"] jDrawn) (D__law_point : Dn P w K mg base 3 "_law_point" f2 ["drum", "wide"] jPnt)
    (D__law_led : Dn P w K mg base 1 "_law_led" f3 ["places", "signs", "point"] (jLLed K)) (D__law_told : DnG P w K mg base 1 "_law_told" f4 ["value"] (jTold K C)) (D__law_due : DnG P w K mg base 1 "_law_due" f5 ["led"] (jDueL K)) (D__law_beat : Dn P w K mg base 1 "_law_beat" f6 ["drum", "many"] spTurn) :
    FnG P w K mg base 9 f fd ["drum", "wide"] spTwo := by
  refine Fun_okN F sc_one_right (fun vs H Q E h => ?_) (fun cdv A outer s H vs Q E hG hr h => ?_)
  · obtain ⟨c, d, _, _, _, rfl, _⟩ := h
    rfl
  · obtain ⟨c, d, ns, m, n, rfl, hC, hm, n2, n6, k⟩ := h
    have k0 := k
    obtain ⟨t3, hC3, restC⟩ : ∃ t3, PSs (cxOf CX0 P w K mg base N_one "_law_one_right" (defScope st__law_one_right) f cdv A outer s H E).nox ((defBody st__law_one_right).drop 13) t3 ∧
        ∀ (p q mi it a1 cq pp kp th bk hm sm : Addr) (du : V) (ps ss : List Int) (H' : Hp), ps.length = n → H' p = some (.lst (ps.map V.int)) → H' q = some (.lst (ss.map V.int)) → LikAt K H' a1 C ps ss → Coil H' c d ns (m + 20) → SameBut c H H' → p ≠ c → q ≠ c →
          t3 { nx := fun _ H' => Q .non H', rt := Q } [some (.ref c), some (.int n), some (.ref p), some (.ref q), some (.ref mi), some (.ref it), some (.ref a1), some (.ref cq), some (.ref pp), some du, some (.ref kp), some (.ref th), some (.ref bk), some (.ref hm), none, some (.ref sm), none, none, none, none] H' := by
      refine ⟨_, (pss_cons (ps_set (i := 16) sc_one_right.nd rfl (Or.inr rfl) (pe_dn D__law_beat (hr.mono (by decide)) rfl (pa_cons (pv 0) (pa_cons (pv 1) pa_nil))))
    (pss_cons (ps_set (i := 17) sc_one_right.nd rfl (Or.inl rfl) (pe_likJ D.M (hr.mono (by decide)) passL rfl (pa_cons (pe_callTy (call_tupF K) (by rfl) T.n_tuple (by decide +kernel) (pa_cons (pv 2) pa_nil)) (pa_cons (pe_lc (own := [("at", 18), ("sign", 19)]) (g := gTup K 2 (gCons (gName 18) (gCons (gName 19) gNil))) (tt := tYes) rfl sc_one_right.nd (pi_enum (by rfl) T.n_enumerate (pa_cons (pv 3) pa_nil)) (blkOk_by (N := N_one) (sc := defScope st__law_one_right) (by decide +kernel)) (fun _ _ _ _ _ => (pg_tup (by rfl) (pgs_cons (pg_name (i := 18) sc_one_right.nd rfl (Or.inl rfl)) (pgs_cons (pg_name (i := 19) sc_one_right.nd rfl (Or.inl rfl)) pgs_nil)))) (fun _ _ _ _ _ => pts_nil) (fun _ _ _ _ _ => (pe_ifExp (pt_cmpR op_eq (pv 18) (pv 16) (nomark _)) (pe_un un_neg (pv 19)) (pv 19)))) pa_nil))))
    (pss_one (ps_ret (pe_and (pe_cmpR (op_eqL D.E D.U (hr.mono (by decide)) K) (pv 6) (pe_likJ D.M (hr.mono (by decide)) passL rfl (pa_cons (pe_callTy (call_tupF K) (by rfl) T.n_tuple (by decide +kernel) (pa_cons (pv 2) pa_nil)) (pa_cons (pv 3) pa_nil))) (nomark _)) (pe_and (pe_not (pe_cmpR (op_eqL D.E D.U (hr.mono (by decide)) K) (pv 6) (pv 17) (nomark _))) (pe_and (pe_cmpR (op_neL D.E D.U (hr.mono (by decide)) K) (pv 6) (pv 17) (nomark _)) (pe_and (pe_not (pe_cmpR (op_eqL D.E D.U (hr.mono (by decide)) K) (pv 6) (pe_tup (pa_cons (pe_fld (pv 6) rfl) (pa_cons (pe_fld (pv 6) rfl) pa_nil))) (nomark _))) (pe_one (pe_cmpR (op_neL D.E D.U (hr.mono (by decide)) K) (pv 6) (pv 2) (nomark _))))))))))), ?_⟩
      clear hC k
      intro p q mi it a1 cq pp kp th bk hm' sm du ps ss H1 ln hp hq hA hC1 sb1 np nq
      have L : Lik ps ss := hA.1
      have ll := L.len
      refine ⟨_, rfl, _, rfl, c, d, ns, _, (n : Nat), rfl, hC1, by omega, by omega, Nat.lt_of_le_of_lt (by omega : _ ≤ 6) (Nat.lt_of_lt_of_le (by decide : 6 < 2 ^ 200) (Nat.pow_le_pow_right (by decide) (by decide))), fun r H2 r0 r1 hC2 sb2 => ?_⟩
      have hp2 := sb2 _ _ np hp
      have hq2 := sb2 _ _ nq hq
      have hA2 := hA.but hC1 sb2
      have sbA := sb1.trans sb2
      have z1 : (ps.map V.int).length < sizeLine := by rw [List.length_map]; exact six (by omega)
      have z2 : (ss.map V.int).length < sizeLine := by rw [List.length_map]; exact six (by omega)
      refine ⟨_, rfl, false, p, _, rfl, .of hp2, fun _ l o hl ho1 ho2 => ?_, fun z => by cases z⟩
      have s3 := same_upd (o := .frz o (.tup (ps.map V.int))) hl
      have zl : TpF (upd H2 l (.frz o (.tup (ps.map V.int)))) l (ps.map V.int) := ⟨o, upd_same, ho1, ho2⟩
      generalize upd H2 l (.frz o (.tup (ps.map V.int))) = H3 at s3 zl ⊢
      refine ⟨_, rfl, q, _, rfl, .of (s3 _ _ hq2), fun DD hDD => lc_fun (fun (i : Nat) => V.int (if (i : Int) = r then -(ss.getD i 0) else ss.getD i 0)) walk_enum hDD z2 (fun H4 s4 => .of (s4 _ _ (s3 _ _ hq2))) ?_ ?_⟩
      · rintro i x H4 H5 hi s4 _ ⟨T', x', y', rfl, hT, rfl, e3, e4⟩ Rk kk
        obtain ⟨n2', hn2, rfl⟩ := map_int_get e4
        cases e3
        have sT := same_upd (o := .tup [.int (i : Nat), .int n2']) hT
        have qq := kk _ sT
        rw [List.getD_eq_getElem?_getD, hn2] at qq
        dsimp only [Option.getD_some] at qq
        refine ⟨T', _, rfl, .of upd_same, rfl, _, _, rfl, _, _, rfl, rfl, rfl, _, rfl, _, rfl, rfl, ?_⟩
        rw [dec_int]
        refine ⟨_, rfl, ?_⟩
        by_cases e : (i : Int) = r
        · rw [if_pos e] at qq
          rw [show ((i : Int) == r) = true from by simpa using e]
          exact iteT ⟨_, rfl, _, rfl, qq⟩
        · rw [if_neg e] at qq
          rw [show ((i : Int) == r) = false from by simpa using e]
          exact iteF ⟨_, rfl, qq⟩
      intro H4 hD4 s4
      have eD : (List.range (ss.map V.int).length).map (fun (i : Nat) => V.int (if (i : Int) = r then -(ss.getD i 0) else ss.getD i 0)) = (flipS ss r).map V.int := by
        rw [List.length_map]
        unfold flipS
        rw [List.map_map]
        rfl
      rw [eD] at hD4
      refine fun a2 dx2 hx2 hd2 nd2 => lik_new (L.flip r) hx2 hd2 nd2 ⟨z1, l, rfl, .inr (zl.same s4)⟩ (seqsL hD4 (by rw [List.length_map, flip_len]; exact six (by omega))) fun H5 hB s5 => ?_
      have s25 := s3.trans (s4.trans s5)
      have fl := flip_ne L r0 (by omega)
      have hA5 := hA2.same s25
      have hp5 := s25 _ _ hp2
      have hq5 := s25 _ _ hq2
      have sb5 := sbA.trans (SameBut.of s25)
      have hC5 := hC2.but s25
      clear hA2 hp2 hq2 sbA hC2 s25 s5 s4 s3 hD4 eD hDD hl zl sb2 hC1 sb1 hp hq hA
      -- one == Likeness(tuple(places), signs)
      refine ⟨_, rfl, _, rfl, false, p, _, rfl, .of hp5, fun _ l2 o2 hl2 ho3 ho4 => ?_, fun z => by cases z⟩
      have s6 := same_upd (o := .frz o2 (.tup (ps.map V.int))) hl2
      have zl2 : TpF (upd H5 l2 (.frz o2 (.tup (ps.map V.int)))) l2 (ps.map V.int) := ⟨o2, upd_same, ho3, ho4⟩
      generalize upd H5 l2 (.frz o2 (.tup (ps.map V.int))) = H6 at s6 zl2 ⊢
      refine ⟨_, rfl, fun a3 dx3 hx3 hd3 nd3 => lik_new L hx3 hd3 nd3 ⟨z1, l2, rfl, .inr zl2⟩ (seqsL (s6 _ _ hq5) z2) fun H7 hN s7 => ?_⟩
      have s67 := s6.trans s7
      have hA7 := hA5.same s67
      refine ⟨a1, _, _, _, rfl, hA7, .lik hN, _, rfl, ?_⟩
      rw [likEq_self]
      refine iteT ?_
      have hB7 := hB.same s67
      obtain ⟨_, dx, pl, sl, fs, ha, hpl, hsl, f1, f2, f3, _⟩ := id hA7
      refine ⟨_, rfl, _, rfl, a1, _, _, _, rfl, hA7, .lik hB7, ?_⟩
      rw [fl]
      refine ⟨_, rfl, _, rfl, iteT ?_⟩
      refine ⟨_, rfl, _, rfl, a1, _, _, _, rfl, hA7, .lik hB7, ?_⟩
      rw [fl]
      refine ⟨_, rfl, iteT ?_⟩
      refine ⟨_, rfl, _, rfl, a1, C, dx, fs, _, rfl, ha, D.U.cl, D.U.nP, f1, _, rfl, a1, C, dx, fs, _, rfl, ha, D.U.cl, D.U.nS, f2, (by show 2 ≤ sizeLine; decide), fun t1 ht1 => ?_⟩
      have s8 := same_upd (o := .tup [.ref pl, .ref sl]) ht1
      have z8 : upd H7 t1 (.tup [.ref pl, .ref sl]) t1 = some (.tup [.ref pl, .ref sl]) := upd_same
      generalize upd H7 t1 (.tup [.ref pl, .ref sl]) = H8 at s8 z8 ⊢
      refine ⟨a1, _, _, _, rfl, hA7.same s8, .tup z8, _, rfl, _, rfl, iteT ?_⟩
      refine ⟨_, rfl, _, rfl, a1, _, _, _, rfl, hA7.same s8, .lst (s8 _ _ (s67 _ _ hp5)), ?_⟩
      have s58 := s67.trans s8
      exact k0 _ ((hC5.but s58).more (by omega)) (sb5.trans (SameBut.of s58))
    obtain ⟨t2, hB, restB⟩ : ∃ t2, PSs (cxOf CX0 P w K mg base N_one "_law_one_right" (defScope st__law_one_right) f cdv A outer s H E).nox ((defBody st__law_one_right).drop 6) t2 ∧
        ∀ (p q mi it a1 cq pp kp th : Addr) (ps ss pt : List Int) (H' : Hp), ps.length = n → pt.length = n → (∀ x ∈ pt, BigP x) → H' p = some (.lst (ps.map V.int)) → H' q = some (.lst (ss.map V.int)) → LikAt K H' a1 C ps ss → H' cq = some (.lst ((cnt n).map V.int)) → H' pp = some (.lst (pt.map V.int)) → H' kp = some (.lst (pt.map V.int)) → H' th = some (.tup ((ledL ps ss pt).map V.int)) →
          Coil H' c d ns (m + 20) → SameBut c H H' → p ≠ c → q ≠ c →
          t2 { nx := fun _ H' => Q .non H', rt := Q } [some (.ref c), some (.int n), some (.ref p), some (.ref q), some (.ref mi), some (.ref it), some (.ref a1), some (.ref cq), some (.ref pp), some (.str (PyData.shown (likD ps ss ps.length))), some (.ref kp), some (.ref th), none, none, none, none, none, none, none, none] H' := by
      refine ⟨_, (pss_cons (ps_if (PW.pt (pw_or (pt_cmpR op_ne (pe_dg D__law_told hG (hr.mono (by decide)) rfl (pa_cons (pv 6) pa_nil)) (pv 9) (nomark _)) (pw_or (pt_cmpR op_ne (pe_callB (call_repr hG hr.units) (by rfl) T.n_repr (by decide +kernel) (pa_cons (pe_ledN D (hr.mono (by decide)) passL (pv 6) (pk_cons (pv 8) pk_nil)) pa_nil)) (pe_callB (call_repr hG hr.units) (by rfl) T.n_repr (by decide +kernel) (pa_cons (pv 11) pa_nil)) (nomark _)) (pw_or (pt_cmpR op_ne (pe_callB (call_repr hG hr.units) (by rfl) T.n_repr (by decide +kernel) (pa_cons (pe_led D (hr.mono (by decide)) passL (pv 6) (pa_cons (pe_callTy (call_tupK K) (by rfl) T.n_tuple (by decide +kernel) (pa_cons (pv 8) pa_nil)) pa_nil)) pa_nil)) (pe_callB (call_repr hG hr.units) (by rfl) T.n_repr (by decide +kernel) (pa_cons (pv 11) pa_nil)) (nomark _)) (pw_or1 (pt_cmpR (op_neD hr.units) (pv 8) (pv 10) (nomark _))))))) (pss_one (ps_ret pe_bl)) pss_nil)
    (pss_cons (ps_set (i := 12) sc_one_right.nd rfl (Or.inl rfl) (pe_back D (hr.mono (by decide)) passL (pv 6)))
    (pss_cons (ps_if (PW.pt (pw_or (pt_cmpR op_ne (pe_callB (call_repr hG hr.units) (by rfl) T.n_repr (by decide +kernel) (pa_cons (pe_led D (hr.mono (by decide)) passL (pv 12) (pa_cons (pv 11) pa_nil)) pa_nil)) (pe_callB (call_repr hG hr.units) (by rfl) T.n_repr (by decide +kernel) (pa_cons (pe_callTy (call_tupK K) (by rfl) T.n_tuple (by decide +kernel) (pa_cons (pv 8) pa_nil)) pa_nil)) (nomark _)) (pw_or (pt_cmpR op_ne (pe_callB (call_repr hG hr.units) (by rfl) T.n_repr (by decide +kernel) (pa_cons (pe_led D (hr.mono (by decide)) passL (pv 6) (pa_cons (pe_led D (hr.mono (by decide)) passL (pv 12) (pa_cons (pv 8) pa_nil)) pa_nil)) pa_nil)) (pe_callB (call_repr hG hr.units) (by rfl) T.n_repr (by decide +kernel) (pa_cons (pe_callTy (call_tupK K) (by rfl) T.n_tuple (by decide +kernel) (pa_cons (pv 8) pa_nil)) pa_nil)) (nomark _)) (pw_or1 (pt_cmpR op_ne (pe_dg D__law_told hG (hr.mono (by decide)) rfl (pa_cons (pv 6) pa_nil)) (pv 9) (nomark _)))))) (pss_one (ps_ret pe_bl)) pss_nil)
    (pss_cons (ps_setLc (i := 13) (own := [("place", 14)]) (g := gName 14) (tt := tYes) rfl sc_one_right.nd rfl rfl (sw_true rfl rfl rfl (by decide +kernel)) (pi_range1 (by rfl) T.n_range (pa_cons (pv 1) pa_nil)) (blkOk_by (N := N_one) (sc := defScope st__law_one_right) (by decide +kernel)) (fun _ _ _ _ _ => (pg_name (i := 14) sc_one_right.nd rfl (Or.inl rfl))) (fun _ _ _ _ _ => pts_nil) (fun _ _ _ _ _ => (pe_bmK K PySem.F.plainAttrs_list PySem.F.slot_list_index PySem.F.type_list_index (mt_lixK K) (pv 2) (pa_cons (pv 14) pa_nil))))
    (pss_cons (ps_if (PW.pt (pw_or (pt_cmpR op_ne (pe_dg D__law_told hG (hr.mono (by decide)) rfl (pa_cons (pv 12) pa_nil)) (pe_callB (call_repr hG hr.units) (by rfl) T.n_repr (by decide +kernel) (pa_cons (pe_tup (pa_cons (pe_callTy (call_tupK K) (by rfl) T.n_tuple (by decide +kernel) (pa_cons (pv 13) pa_nil)) (pa_cons (pe_callTy (call_tupK K) (by rfl) T.n_tuple (by decide +kernel) (pa_cons (pe_lc (own := [("place", 14)]) (g := gName 14) (tt := tYes) rfl sc_one_right.nd (pi_seqK K (pv 13)) (blkOk_by (N := N_one) (sc := defScope st__law_one_right) (by decide +kernel)) (fun _ _ _ _ _ => (pg_name (i := 14) sc_one_right.nd rfl (Or.inl rfl))) (fun _ _ _ _ _ => pts_nil) (fun _ _ _ _ _ => (pe_ix (ix_K K) (pv 3) (pv 14) (fun _ _ => rfl)))) pa_nil)) (pa_cons (pv 1) pa_nil)))) pa_nil)) (nomark _)) (pw_or1 (pt_cmpR (op_neL D.E D.U (hr.mono (by decide)) K) (pe_back D (hr.mono (by decide)) passL (pv 12)) (pv 6) (nomark _))))) (pss_one (ps_ret pe_bl)) pss_nil)
    (pss_cons (ps_set (i := 15) sc_one_right.nd rfl (Or.inl rfl) (pe_sameN D (hr.mono (by decide)) passL rfl (pk_cons (pv 1) pk_nil)))
    (pss_cons (ps_if (PW.pt (pw_or (pt_cmpR op_ne (pe_dg D__law_told hG (hr.mono (by decide)) rfl (pa_cons (pv 15) pa_nil)) (pe_dg D__law_due hG (hr.mono (by decide)) rfl (pa_cons (pv 7) pa_nil)) (nomark _)) (pw_or (pt_cmpR (op_neL D.E D.U (hr.mono (by decide)) K) (pe_thn D (hr.mono (by decide)) passL (pv 6) (pa_cons (pv 12) pa_nil)) (pv 15) (nomark _)) (pw_or (pt_not (pt_cmpR (op_eqL D.E D.U (hr.mono (by decide)) K) (pe_thn D (hr.mono (by decide)) passL (pv 12) (pa_cons (pv 6) pa_nil)) (pv 15) (nomark _))) (pw_or1 (pt_cmpR (op_neL D.E D.U (hr.mono (by decide)) K) (pe_thn D (hr.mono (by decide)) passL (pv 15) (pa_cons (pv 6) pa_nil)) (pv 6) (nomark _))))))) (pss_one (ps_ret pe_bl)) pss_nil)
    hC3))))))), ?_⟩
      clear hC k k0
      intro p q mi it a1 cq pp kp th ps ss pt H1 ln lpt hbig hp hq hA hcq hpp hkp hth hC1 sb1 np nq
      have L : Lik ps ss := hA.1
      have ll := L.len
      have lpt1 : pt.length = ps.length := by omega
      have z3 : (pt.map V.int).length < sizeLine := by rw [List.length_map]; exact six (by omega)
      have bigL := led_big L hbig
      have lenL : (ledL ps ss pt).length ≤ 6 := by rw [ledL_len]; omega
      have lenP : pt.length ≤ 6 := by omega
      -- told(one) != due
      refine ⟨_, rfl, told_good hA fun H2 s2 => ⟨_, rfl, rfl, ?_⟩⟩
      rw [decide_eq_true rfl]
      refine ⟨_, rfl, iteF ?_⟩
      -- led
      refine ⟨_, rfl, ⟨a1, _, _, rfl, hA.same s2⟩, _, rfl, rfl, led_good (hA.same s2) (seqsL (s2 _ _ hpp) z3) lpt1 fun r1 H3 s3 hr1 => ?_⟩
      have s13 := s2.trans s3
      have sh1 := led_shown (K := K) (.of hr1) lenL bigL
      have sh2 := led_shown (K := K) (.of (s13 _ _ hth)) lenL bigL
      refine ⟨_, _, rfl, sh1.1, sh1.2, _, rfl, _, _, rfl, sh2.1, sh2.2, rfl, ?_⟩
      rw [decide_eq_true rfl]
      refine ⟨_, rfl, iteF ?_⟩
      refine ⟨_, rfl, ⟨a1, _, _, rfl, hA.same s13⟩, _, rfl, false, pp, _, rfl, .of (s13 _ _ hpp), fun _ l1 hl1 => ?_, fun z => by cases z⟩
      have g1 := same_upd (o := .tup (pt.map V.int)) hl1
      have y1 : upd H3 l1 (.tup (pt.map V.int)) l1 = some (.tup (pt.map V.int)) := upd_same
      generalize upd H3 l1 (.tup (pt.map V.int)) = G1 at g1 y1 ⊢
      have s14 := s13.trans g1
      refine led_good (hA.same s14) (seqsT y1 z3) lpt1 fun r2 H4 s4 hr2 => ?_
      have s15 := s14.trans s4
      have sh3 := led_shown (K := K) (.of hr2) lenL bigL
      have sh4 := led_shown (K := K) (.of (s15 _ _ hth)) lenL bigL
      refine ⟨_, _, rfl, sh3.1, sh3.2, _, rfl, _, _, rfl, sh4.1, sh4.2, rfl, ?_⟩
      rw [decide_eq_true rfl]
      refine ⟨_, rfl, iteF ?_⟩
      -- point != kept
      refine ⟨_, rfl, _, rfl, _, _, dpL (.of (s15 _ _ hpp)) (flat_ints _), dpL (.of (s15 _ _ hkp)) (flat_ints _), shapedL (flat_ints _), shapedL (flat_ints _), ?_⟩
      rw [eqv_same (flat_ints _)]
      refine ⟨_, rfl, iteF ?_⟩
      have hA := hA.same s15
      have hp := s15 _ _ hp
      have hq := s15 _ _ hq
      have hcq := s15 _ _ hcq
      have hpp := s15 _ _ hpp
      have hth := s15 _ _ hth
      have hC1 := hC1.but s15
      have sb1 := sb1.trans (SameBut.of s15)
      clear s2 s13 s14 s15 s3 s4 g1 sh1 sh2 sh3 sh4 hr1 hr2 y1 hl1 hkp
      -- back
      refine ⟨_, rfl, ⟨a1, _, _, rfl, hA⟩, back_good hA fun bk H5 hB s5 => ?_⟩
      have LB := L.back
      have lB : (backP ps).length = ps.length := backP_len
      refine ⟨_, rfl, ⟨bk, _, _, rfl, hB⟩, _, rfl, led_good hB (seqsT (s5 _ _ hth) (by rw [List.length_map]; exact six lenL)) (by rw [ledL_len, lB]) fun r3 H6 s6 hr3 => ?_⟩
      rw [led_back L lpt1] at hr3
      have s56 := s5.trans s6
      have sh5 := led_shown (K := K) (.of hr3) lenP hbig
      refine ⟨_, _, rfl, sh5.1, sh5.2, _, rfl, false, pp, _, rfl, .of (s56 _ _ hpp), fun _ l2 hl2 => ?_, fun z => by cases z⟩
      have g2 := same_upd (o := .tup (pt.map V.int)) hl2
      have y2 : upd H6 l2 (.tup (pt.map V.int)) l2 = some (.tup (pt.map V.int)) := upd_same
      generalize upd H6 l2 (.tup (pt.map V.int)) = G2 at g2 y2 ⊢
      have sh6 := led_shown (K := K) (.of y2) lenP hbig
      refine ⟨_, _, rfl, sh6.1, sh6.2, rfl, ?_⟩
      rw [decide_eq_true rfl]
      refine ⟨_, rfl, iteF ?_⟩
      have s57 := s56.trans g2
      have hB7 := hB.same (s6.trans g2)
      refine ⟨_, rfl, ⟨a1, _, _, rfl, hA.same s57⟩, _, rfl, ⟨bk, _, _, rfl, hB7⟩, _, rfl, led_good hB7 (seqsL (s57 _ _ hpp) z3) (by omega) fun r4 H8 s8 hr4 => ?_⟩
      have s58 := s57.trans s8
      refine led_good (hA.same s58) (seqsT hr4 (by rw [List.length_map, ledL_len]; exact six (by omega))) (by rw [ledL_len, lB]) fun r5 H9 s9 hr5 => ?_
      rw [led_back' L lpt1] at hr5
      have s59 := s58.trans s9
      have sh7 := led_shown (K := K) (.of hr5) lenP hbig
      refine ⟨_, _, rfl, sh7.1, sh7.2, _, rfl, false, pp, _, rfl, .of (s59 _ _ hpp), fun _ l3 hl3 => ?_, fun z => by cases z⟩
      have g3 := same_upd (o := .tup (pt.map V.int)) hl3
      have y3 : upd H9 l3 (.tup (pt.map V.int)) l3 = some (.tup (pt.map V.int)) := upd_same
      generalize upd H9 l3 (.tup (pt.map V.int)) = G3 at g3 y3 ⊢
      have sh8 := led_shown (K := K) (.of y3) lenP hbig
      refine ⟨_, _, rfl, sh8.1, sh8.2, rfl, ?_⟩
      rw [decide_eq_true rfl]
      refine ⟨_, rfl, iteF ?_⟩
      have s60 := s59.trans g3
      refine ⟨_, rfl, told_good (hA.same s60) fun H10 s10 => ⟨_, rfl, rfl, ?_⟩⟩
      rw [decide_eq_true rfl]
      refine ⟨_, rfl, iteF ?_⟩
      have s61 := s60.trans s10
      have hA := hA.same s61
      have hB := hB.same (s6.trans (g2.trans (s8.trans (s9.trans (g3.trans s10)))))
      have hp := s61 _ _ hp
      have hq := s61 _ _ hq
      have hcq := s61 _ _ hcq
      have hC1 := hC1.but s61
      have sb1 := sb1.trans (SameBut.of s61)
      clear hB7 s5 s6 s56 s57 s58 s59 s60 s61 s8 s9 g2 g3 s10 sh5 sh6 sh7 sh8 hr3 hr4 hr5 y2 y3 hl2 hl3 hpp hth
      -- home
      refine ⟨_, rfl, _, rfl, by omega, by omega, fun hm' hhm => lc_fun (fun (i : Nat) => V.int (ps.idxOf (i : Int) : Nat)) (walk_range (lo := 0) (n := n)) hhm (six n6) (fun _ _ => trivial) ?_ ?_⟩
      · rintro i x H2 H3 hi s2 _ ⟨rfl, rfl⟩ Rk kk
        refine ⟨rfl, _, rfl, .inl ⟨rfl, _, .of (s2 _ _ hp)⟩, _, rfl, p, ps, _, rfl, rfl, .of (s2 _ _ hp), by omega, ?_, ?_⟩
        · rw [Int.zero_add]
          exact L.mem (by omega)
        · have q := kk _ (Same.refl _)
          rw [Int.zero_add]
          exact q
      intro H2 hhm2 s2
      have eD : (List.range n).map (fun (i : Nat) => V.int (ps.idxOf (i : Int) : Nat)) = (backP ps).map V.int := by
        unfold backP
        rw [List.map_map, ln]
        rfl
      rw [eD] at hhm2
      have hB2 := hB.same s2
      refine ⟨_, rfl, told_good hB2 fun H3 s3 => ?_⟩
      have s23 := s2.trans s3
      refine ⟨_, rfl, false, hm', _, rfl, .of (s3 _ _ hhm2), fun _ l1 hl1 => ?_, fun z => by cases z⟩
      have g1 := same_upd (o := .tup ((backP ps).map V.int)) hl1
      have y1 : upd H3 l1 (.tup ((backP ps).map V.int)) l1 = some (.tup ((backP ps).map V.int)) := upd_same
      generalize upd H3 l1 (.tup ((backP ps).map V.int)) = G1 at g1 y1 ⊢
      have s24 := s23.trans g1
      have hhm4 := g1 _ _ (s3 _ _ hhm2)
      refine ⟨_, rfl, false, hm', rfl, ⟨_, .of hhm4⟩, fun D2 hD2 => lc_fun (fun i => V.int (ss.getD ((backP ps).getD i 0).toNat 0)) (walk_seq (b := false) (xs := (backP ps).map V.int)) hD2 (by rw [List.length_map, lB]; exact six (by omega)) (fun H2 s2 => .of (s2 _ _ hhm4)) ?_ ?_⟩
      · rintro i x H4 H5 hi s4 _ ⟨rfl, hx⟩ Rk kk
        obtain ⟨n1, hn1, rfl⟩ := map_int_get hx
        obtain ⟨j, rfl, hj⟩ := LB.at (List.mem_of_getElem? hn1)
        rw [lB] at hj
        have hjx : j < ss.length := by omega
        refine ⟨rfl, _, rfl, _, rfl, false, q, _, _, .int (ss[j]'hjx), rfl, rfl, .of (s4 _ _ (s24 _ _ hq)), atI_nat ?_, ?_⟩
        · rw [List.getElem?_map, List.getElem?_eq_getElem hjx]
          rfl
        · have q := kk _ (Same.refl _)
          rw [List.getD_eq_getElem?_getD (l := backP ps), hn1] at q
          dsimp only [Option.getD_some] at q
          rw [Int.toNat_natCast, getD_of hjx] at q
          exact q
      intro H4 hD4 s4
      have eD2 : (List.range ((backP ps).map V.int).length).map (fun i => V.int (ss.getD ((backP ps).getD i 0).toNat 0)) = (backS ps ss).map V.int := by
        rw [List.length_map, range_map_getD (backP ps) 0 (fun x => V.int (ss.getD x.toNat 0))]
        unfold backS
        rw [List.map_map]
        rfl
      rw [eD2] at hD4
      refine ⟨false, D2, _, rfl, .of hD4, fun _ l2 hl2 => ?_, fun z => by cases z⟩
      have g2 := same_upd (o := .tup ((backS ps ss).map V.int)) hl2
      have y2 : upd H4 l2 (.tup ((backS ps ss).map V.int)) l2 = some (.tup ((backS ps ss).map V.int)) := upd_same
      generalize upd H4 l2 (.tup ((backS ps ss).map V.int)) = G2 at g2 y2 ⊢
      refine ⟨_, rfl, (by show 3 ≤ sizeLine; decide), fun l3 hl3 => ?_⟩
      have g3 := same_upd (o := .tup [.ref l1, .ref l2, .int (n : Nat)]) hl3
      have y3 : upd G2 l3 (.tup [.ref l1, .ref l2, .int (n : Nat)]) l3 = some (.tup [.ref l1, .ref l2, .int (backP ps).length]) := by rw [upd_same, lB, ln]
      generalize upd G2 l3 (.tup [.ref l1, .ref l2, .int (n : Nat)]) = G3 at g3 y3 ⊢
      have shd := lik_shown (K := K) LB (.of y3) (.of (g3 _ _ (g2 _ _ (s4 _ _ y1)))) (.of (g3 _ _ y2))
      refine ⟨_, _, rfl, shd.1, shd.2, rfl, ?_⟩
      rw [decide_eq_true rfl]
      refine ⟨_, rfl, iteF ?_⟩
      have s25 := s24.trans (s4.trans (g2.trans g3))
      -- back.back() != one
      obtain ⟨bb1, bb2⟩ := back_back L
      refine ⟨_, rfl, ⟨bk, _, _, rfl, hB.same s25⟩, back_good (hB.same s25) fun x1 H6 hx1 s6 => ?_⟩
      have s26 := s25.trans s6
      refine ⟨_, rfl, x1, _, _, _, rfl, hx1, .lik (hA.same s26), ?_⟩
      rw [likEq_of bb1 bb2]
      refine ⟨_, rfl, iteF ?_⟩
      have hA := hA.same s26
      have hB := hB.same s26
      have hp := s26 _ _ hp
      have hq := s26 _ _ hq
      have hcq := s26 _ _ hcq
      have hC1 := hC1.but s26
      have sb1 := sb1.trans (SameBut.of s26)
      clear s2 s3 s23 s24 s25 s26 s4 g1 g2 g3 y1 y2 y3 shd hl1 hl2 hl3 hD4 eD2 eD hhm2 hhm4 hB2 hx1 hD2
      -- same
      refine ⟨_, rfl, rfl, same_good n2 n6 fun sm H7 hS s7 => ?_⟩
      have hA := hA.same s7
      have hB := hB.same s7
      have hp := s7 _ _ hp
      have hq := s7 _ _ hq
      have hcq := s7 _ _ hcq
      have hC1 := hC1.but s7
      have sb1 := sb1.trans (SameBut.of s7)
      clear s7
      have LS := Lik.same n2 n6
      have lS : (rng n).length = n := rng_len n
      refine ⟨_, rfl, told_good hS fun H8 s8 => ?_⟩
      have eC : (cnt n) = ledL (rng n) (List.replicate n 1) (cnt (rng n).length) := by rw [lS, led_same (cnt_len n)]
      have hcq8 := s8 _ _ hcq
      rw [eC] at hcq8
      refine ⟨_, rfl, due_good (b1 := false) LS (.of hcq8) fun H9 s9 => ⟨rfl, ?_⟩⟩
      rw [decide_eq_true rfl]
      refine ⟨_, rfl, iteF ?_⟩
      have s89 := s8.trans s9
      obtain ⟨tb1, tb2⟩ := then_back L
      obtain ⟨bt1, bt2⟩ := back_then L
      obtain ⟨st1, st2⟩ := same_then L
      rw [ln] at tb1 tb2 bt1 bt2 st1 st2
      refine ⟨_, rfl, ⟨a1, _, _, rfl, hA.same s89⟩, _, rfl, then_good (hA.same s89) (hB.same s89) lB fun x1 G1 hx1 g1 => ?_⟩
      have k1 := s89.trans g1
      refine ⟨_, rfl, x1, _, _, _, rfl, hx1, .lik (hS.same k1), ?_⟩
      rw [likEq_of tb1 tb2]
      refine ⟨_, rfl, iteF ?_⟩
      refine ⟨_, rfl, ⟨bk, _, _, rfl, hB.same k1⟩, _, rfl, then_good (hB.same k1) (hA.same k1) lB.symm fun x2 G2 hx2 g2 => ?_⟩
      have k2 := k1.trans g2
      refine ⟨_, rfl, x2, _, _, _, rfl, hx2, .lik (hS.same k2), ?_⟩
      rw [likEq_of bt1 bt2]
      refine ⟨_, rfl, iteF ?_⟩
      refine ⟨_, rfl, ⟨sm, _, _, rfl, hS.same k2⟩, _, rfl, then_good (hS.same k2) (hA.same k2) (by rw [lS, ln]) fun x3 G3 hx3 g3 => ?_⟩
      have k3 := k2.trans g3
      refine ⟨_, rfl, x3, _, _, _, rfl, hx3, .lik (hA.same k3), ?_⟩
      rw [likEq_of st1 st2]
      refine ⟨_, rfl, iteF ?_⟩
      exact restC p q mi it a1 cq pp kp th bk hm' sm _ ps ss G3 ln (k3 _ _ hp) (k3 _ _ hq) (hA.same k3) (hC1.but k3) (sb1.trans (SameBut.of k3)) np nq
    refine ⟨_, (pss_cons (ps_asg (pe_dn D__law_drawn (hr.mono (by decide)) rfl (pa_cons (pv 0) (pa_cons (pv 1) pa_nil))) (pg_tup (by rfl) (pgs_cons (pg_name (i := 2) sc_one_right.nd rfl (Or.inr rfl)) (pgs_cons (pg_name (i := 3) sc_one_right.nd rfl (Or.inr rfl)) pgs_nil))))
    (pss_cons (ps_par (i := 4) (j := 5) (by rfl) sc_one_right.nd rfl rfl (by decide) rfl rfl (pa_cons (pe_callTy (call_listK K) (by rfl) T.n_list (by decide +kernel) (pa_cons (pv 2) pa_nil)) (pa_cons (pe_callTy (call_listK K) (by rfl) T.n_list (by decide +kernel) (pa_cons (pv 3) pa_nil)) pa_nil)) (by rfl))
    (pss_cons (ps_par (i := 6) (j := 7) (by rfl) sc_one_right.nd rfl rfl (by decide) rfl rfl (pa_cons (pe_likN D (hr.mono (by decide)) passL rfl (pk_cons (pv 4) (pk_cons (pv 5) pk_nil))) (pa_cons (pe_listRg rfl (by rfl) T.n_list (prg_2 (by rfl) T.n_range pe_int (pe_op op_add (pv 1) pe_int))) pa_nil)) (by rfl))
    (pss_cons (ps_asg (pe_tup (pa_cons pe_int (pa_cons pe_int pa_nil))) (pg_tup (by rfl) (pgs_cons (pg_sub (pv 4) pe_int set_list) (pgs_cons (pg_sub (pv 5) pe_int set_list) pgs_nil))))
    (pss_cons (ps_par (i := 8) (j := 9) (by rfl) sc_one_right.nd rfl rfl (by decide) rfl rfl (pa_cons (pe_dn D__law_point (hr.mono (by decide)) rfl (pa_cons (pv 0) (pa_cons (pv 1) pa_nil))) (pa_cons (pe_callB (call_repr hG hr.units) (by rfl) T.n_repr (by decide +kernel) (pa_cons (pe_tup (pa_cons (pe_callTy (call_tupK K) (by rfl) T.n_tuple (by decide +kernel) (pa_cons (pv 2) pa_nil)) (pa_cons (pe_callTy (call_tupK K) (by rfl) T.n_tuple (by decide +kernel) (pa_cons (pv 3) pa_nil)) (pa_cons (pv 1) pa_nil)))) pa_nil)) pa_nil)) (by rfl))
    (pss_cons (ps_par (i := 10) (j := 11) (by rfl) sc_one_right.nd rfl rfl (by decide) rfl rfl (pa_cons (pe_callTy (call_listK K) (by rfl) T.n_list (by decide +kernel) (pa_cons (pv 8) pa_nil)) (pa_cons (pe_dn D__law_led (hr.mono (by decide)) rfl (pa_cons (pv 2) (pa_cons (pv 3) (pa_cons (pv 8) pa_nil)))) pa_nil)) (by rfl))
    hB)))))), ?_⟩
    refine ⟨_, rfl, _, rfl, drawn_good hC (by omega) n2 n6 fun t p q ps ss H1 L ln nt np nq npq ht hp hq hC1 sb1 => ⟨t, _, rfl, .of ht, rfl, _, _, rfl, _, _, rfl, rfl, ?_⟩⟩
    have ll1 := L.len
    have z1 : (ps.map V.int).length < sizeLine := by rw [List.length_map]; exact six (by omega)
    have z2 : (ss.map V.int).length < sizeLine := by rw [List.length_map]; exact six (by omega)
    -- mine, its
    refine ⟨_, rfl, false, p, _, rfl, .of hp, fun mi hmi => ?_⟩
    have s2 := same_upd (o := .lst (ps.map V.int)) hmi
    have zmi : upd H1 mi (.lst (ps.map V.int)) mi = some (.lst (ps.map V.int)) := upd_same
    have nmi := hC1.ne hmi
    generalize upd H1 mi (.lst (ps.map V.int)) = H2 at s2 zmi ⊢
    refine ⟨_, rfl, false, q, _, rfl, .of (s2 _ _ hq), fun it hit => ⟨_, _, rfl, ?_⟩⟩
    have s3 := same_upd (o := .lst (ss.map V.int)) hit
    have zit : upd H2 it (.lst (ss.map V.int)) it = some (.lst (ss.map V.int)) := upd_same
    have nit := (hC1.but s2).ne hit
    have nmit : mi ≠ it := fun e => by rw [← e, zmi] at hit; cases hit
    have nmp : mi ≠ p := fun e => by rw [e, hp] at hmi; cases hmi
    have nmq : mi ≠ q := fun e => by rw [e, hq] at hmi; cases hmi
    have nip : it ≠ p := fun e => by rw [e, s2 _ _ hp] at hit; cases hit
    have niq : it ≠ q := fun e => by rw [e, s2 _ _ hq] at hit; cases hit
    generalize upd H2 it (.lst (ss.map V.int)) = H3 at s3 zit ⊢
    have hmi3 := s3 _ _ zmi
    have s13 := s2.trans s3
    -- one, count
    refine ⟨_, rfl, _, rfl, rfl, fun a1 dx1 hx1 hd1 nd1 => lik_new L hx1 hd1 nd1 ⟨z1, mi, rfl, .inl hmi3⟩ (seqsL zit z2) fun H4 hA s4 => ?_⟩
    refine ⟨_, rfl, _, _, rfl, rfl, _, _, rfl, rfl, ⟨by decide, by decide, by omega, by omega, Nat.le_trans (by omega : _ ≤ 10) (by decide)⟩, fun cq hcq => ⟨_, _, rfl, ?_⟩⟩
    have s5 := same_upd (o := .lst (rgV 1 ((n : Nat) + 1 : Int))) hcq
    have hcq5 : upd H4 cq (.lst (rgV 1 ((n : Nat) + 1 : Int))) cq = some (.lst ((cnt n).map V.int)) := by rw [upd_same, rng1_cnt]
    have nmc : mi ≠ cq := fun e => by rw [← e, s4 _ _ hmi3] at hcq; cases hcq
    have nic : it ≠ cq := fun e => by rw [← e, s4 _ _ zit] at hcq; cases hcq
    generalize upd H4 cq (.lst (rgV 1 ((n : Nat) + 1 : Int))) = H5 at s5 hcq5 ⊢
    have s45 := s4.trans s5
    -- mine[0], its[0]
    have s15 := s13.trans s45
    have hA5 := hA.same s5
    refine ⟨(by show 2 ≤ sizeLine; decide), fun T hT => ?_⟩
    have s6 := same_upd (o := .tup [.int 77, .int 0]) hT
    have zT : upd H5 T (.tup [.int 77, .int 0]) T = some (.tup [.int 77, .int 0]) := upd_same
    generalize upd H5 T (.tup [.int 77, .int 0]) = H6 at s6 zT ⊢
    have s16 := s15.trans s6
    have hmi6 := (s45.trans s6) _ _ hmi3
    have hit6 := (s45.trans s6) _ _ zit
    refine ⟨T, _, rfl, .of zT, rfl, _, _, rfl, _, rfl, mi, _, 0, 0, rfl, rfl, hmi6, ixN_zero (by rw [List.length_map]; omega), _, _, rfl, _, rfl, it, ss.map V.int, 0, 0, rfl, rfl, ?_, ixN_zero (by rw [List.length_map]; omega), rfl, ?_⟩
    · rw [upd_ne (Ne.symm nmit)]
      exact hit6
    have nmc0 : mi ≠ c := nmi.1
    have nic0 : it ≠ c := nit.1
    have keep : ∀ b o, b ≠ mi → b ≠ it → H6 b = some o → upd (upd H6 mi (.lst ((ps.map V.int).set 0 (.int 77)))) it (.lst ((ss.map V.int).set 0 (.int 0))) b = some o := fun b o n1 n2 e => by rw [upd_ne n2, upd_ne n1]; exact e
    have hA6 := hA5.same s6
    have hA7 : LikAt K (upd (upd H6 mi (.lst ((ps.map V.int).set 0 (.int 77)))) it (.lst ((ss.map V.int).set 0 (.int 0)))) a1 C ps ss := by
      refine (hA6.butL (c := mi) hmi6 (H' := upd H6 mi (.lst ((ps.map V.int).set 0 (.int 77)))) fun b o n e => by rw [upd_ne n]; exact e).butL (c := it) (l := ss.map V.int) (by rw [upd_ne (Ne.symm nmit)]; exact hit6) fun b o n e => by rw [upd_ne n]; exact e
    have hC7 : Coil (upd (upd H6 mi (.lst ((ps.map V.int).set 0 (.int 77)))) it (.lst ((ss.map V.int).set 0 (.int 0)))) c d ns (m + 2 * n) := ((hC1.but s16).upd nmi.1 nmi.2).upd nit.1 nit.2
    have hp7 := keep p _ (Ne.symm nmp) (Ne.symm nip) (s16 _ _ hp)
    have hq7 := keep q _ (Ne.symm nmq) (Ne.symm niq) (s16 _ _ hq)
    have hcq7 := keep cq _ (Ne.symm nmc) (Ne.symm nic) (s6 _ _ hcq5)
    have hmH : H mi = none := by
      cases e : H mi with
      | none => rfl
      | some o => rw [sb1 _ _ nmc0 e] at hmi; cases hmi
    have hiH : H it = none := by
      cases e : H it with
      | none => rfl
      | some o => rw [s2 _ _ (sb1 _ _ nic0 e)] at hit; cases hit
    have sb7 : SameBut c H (upd (upd H6 mi (.lst ((ps.map V.int).set 0 (.int 77)))) it (.lst ((ss.map V.int).set 0 (.int 0)))) := fun b o n e => keep b o (ne_of_none e hmH) (ne_of_none e hiH) (s16 _ _ (sb1 b o n e))
    generalize upd (upd H6 mi (.lst ((ps.map V.int).set 0 (.int 77)))) it (.lst ((ss.map V.int).set 0 (.int 0))) = H7 at hA7 hC7 hp7 hq7 hcq7 sb7 ⊢
    have ncc : cq ≠ c := fun e => by
      obtain ⟨_, _, _, x, y, hc, _⟩ := hC1.but (s13.trans s4)
      rw [e, hc] at hcq
      cases hcq
    clear keep hA6 hA5 hA hmi6 hit6 zT hT s6 s16 s15 s45 s5 s4 s13 s3 s2 hcq5 hcq hmi3 zmi zit hmi hit hp hq ht hC1 sb1
    -- point, due
    refine ⟨_, rfl, _, rfl, point_good hC7 (by omega) n6 fun pp pt H8 lpt hbig nppc _ hpp hC8 sb8 => ?_⟩
    have hp8 := sb8 _ _ np hp7
    have hq8 := sb8 _ _ nq hq7
    have hcq8 := sb8 _ _ ncc hcq7
    have hA8 := hA7.but hC7 sb8
    have sb08 := sb7.trans sb8
    refine ⟨_, rfl, false, p, _, rfl, .of hp8, fun _ l1 hl1 => ?_, fun z => by cases z⟩
    have g1 := same_upd (o := .tup (ps.map V.int)) hl1
    have y1 : upd H8 l1 (.tup (ps.map V.int)) l1 = some (.tup (ps.map V.int)) := upd_same
    generalize upd H8 l1 (.tup (ps.map V.int)) = G1 at g1 y1 ⊢
    refine ⟨_, rfl, false, q, _, rfl, .of (g1 _ _ hq8), fun _ l2 hl2 => ?_, fun z => by cases z⟩
    have g2 := same_upd (o := .tup (ss.map V.int)) hl2
    have y2 : upd G1 l2 (.tup (ss.map V.int)) l2 = some (.tup (ss.map V.int)) := upd_same
    generalize upd G1 l2 (.tup (ss.map V.int)) = G2 at g2 y2 ⊢
    refine ⟨_, rfl, (by show 3 ≤ sizeLine; decide), fun l3 hl3 => ?_⟩
    have g3 := same_upd (o := .tup [.ref l1, .ref l2, .int (n : Nat)]) hl3
    have y3 : upd G2 l3 (.tup [.ref l1, .ref l2, .int (n : Nat)]) l3 = some (.tup [.ref l1, .ref l2, .int ps.length]) := by rw [upd_same, ln]
    generalize upd G2 l3 (.tup [.ref l1, .ref l2, .int (n : Nat)]) = G3 at g3 y3 ⊢
    have shd := lik_shown (K := K) L (.of y3) (.of (g3 _ _ (g2 _ _ y1))) (.of (g3 _ _ y2))
    refine ⟨_, _, rfl, shd.1, shd.2, _, _, rfl, ?_⟩
    have g13 := g1.trans (g2.trans g3)
    -- kept, there
    refine ⟨_, rfl, false, pp, _, rfl, .of (g13 _ _ hpp), fun kp hkp => ?_⟩
    have g4 := same_upd (o := .lst (pt.map V.int)) hkp
    have y4 : upd G3 kp (.lst (pt.map V.int)) kp = some (.lst (pt.map V.int)) := upd_same
    generalize upd G3 kp (.lst (pt.map V.int)) = G4 at g4 y4 ⊢
    have g14 := g13.trans g4
    refine ⟨_, rfl, _, rfl, _, rfl, lled_good (b1 := false) (b2 := false) (b3 := false) L (by omega) (.of (g14 _ _ hp8)) (.of (g14 _ _ hq8)) (.of (g14 _ _ hpp)) fun th G5 g5 hth => ⟨_, _, rfl, ?_⟩⟩
    have g15 := g14.trans g5
    exact restB p q mi it a1 cq pp kp th ps ss pt G5 ln (by omega) hbig (g15 _ _ hp8) (g15 _ _ hq8) (hA8.same g15) (g15 _ _ hcq8) (g15 _ _ hpp) (g5 _ _ y4) hth ((hC8.but g15).more (by omega)) (sb08.trans (SameBut.of g15)) np nq
end
end K0


set_option Elab.async false
set_option linter.all false
set_option maxRecDepth 100000
set_option maxHeartbeats 8000000
set_option exponentiation.threshold 100000
namespace K0
open PySem PySem.Spec PyProof.Rows L2 RZ K0z

def rIsQ (K : PySem.W.Frag) : List V → Hp → VK → Prop := fun xs H Q => ∃ (a C d : Addr) (c : V) (u : Value) (b : Bool) (o : HO),
  xs = [.ref a, c] ∧ ClsV c u ∧ H a = some (exq a C d) ∧ H d = some o ∧ ExcC K C ∧ PySem.W.kitOne K (.ref C) u = some b ∧ Q (.bl b) H
section
variable {X : Cx}
theorem call_isQ : CallR X (.builtin "isinstance") (rIsQ X.K) := by
  intro pins s σ H xs us Q I r h
  obtain ⟨a, C, d, c, u, b, o, rfl, k, ha, hd, T, e, q⟩ := h
  obtain ⟨u1, u2, rfl, r1, r2⟩ := vals2 r
  have e2 := k.eq r2
  subst e2
  cases r1
  obtain ⟨vs, sl, g1⟩ := exq_at I.hok ha
  obtain ⟨od, g4⟩ := obj_there I hd
  refine PySem.W.kia_one (PySem.K0x.kit_exc T.hg T.hk T.hs T.hd T.ha T.hn T.ht T.hm) I.kIn ?_ e (fun z => nomatch z) fun tk => ⟨.bl b, H, I.tok tk, rfl, q⟩
  exact ⟨_, some od, g1, rfl, rfl, g4⟩
/-- e.f, e an exception that was caught once -/
theorem pe_fldQ {te : TE} {f : Str} {pos : Pos} {o : Expr} (he : PE X o te) (hb : attributeBase o f X.env (eval o X.env) = eval o X.env := by rfl) :
    PE X (.Attribute o f pos) (fun σ H Q => te σ H fun y H1 => ∃ (a C d : Addr) (fs : List (Str × V)) (v : V), y = .ref a ∧ H1 a = some (exq a C d) ∧ H1 d = some (.xd fs) ∧
      XfC X.K C ∧ PySem.W.findIn X.K (.ref C) f = some none ∧ fs.lookup f = some v ∧ Q v H1) := by
  refine ⟨fun pins s σ H Q I h => attr_of hb (thn (he.run pins s σ H _ I h) ?_)⟩
  rintro u s1 ⟨y, H1, I1, rx, a, C, d, fs, v, rfl, ea, ed, T, hno, l, q⟩
  obtain rfl : u = Value.ref a := rx
  obtain ⟨vs, sl, g1⟩ := exq_at I1.hok ea
  obtain ⟨mA, hns, hr⟩ := (show ∃ mA, s1.heap.Ns1 d mA ∧ ∀ f, RelO (fs.lookup f) (mA f) from I1.hok d _ ed)
  obtain ⟨od, hod, hl⟩ := lookIn_ns hns
  obtain ⟨u, hu, ru⟩ := RelO.some_of (v := v) (o := mA f) (by rw [← l]; exact hr f)
  have J : PySem.W.InstAt s1.heap a _ C (some od) := ⟨g1, rfl, rfl, hod⟩
  exact HandSPX.exc_get I1.kIn J T.ga T.gg T.exC
    (PySem.W.findObj_own T.hdC hno rfl (by rw [hl, hu])) (handed_of ru) ⟨v, H1, I1.tok _, ru, q⟩
end

/-- which of the four it is, and its word -/
inductive Kd : Bool → Bool → Bool → Bool → Str → Prop where
  | lik : Kd true false false false "likeness"
  | pnt : Kd false true false false "point"
  | num : Kd false false true false "number"
  | mis : Kd false false false true "misfit"
/-- a class of errors that is heard -/
structure HrC (K : PySem.W.Frag) (CS CB CP CN CM R : Addr) (w : Str) : Prop where
  ex : ∃ b1 b2 b3 b4, Kd b1 b2 b3 b4 w ∧ PySem.W.kitOne K (.ref R) (.ref CB) = some b1 ∧ PySem.W.kitOne K (.ref R) (.ref CP) = some b2 ∧ PySem.W.kitOne K (.ref R) (.ref CN) = some b3 ∧ PySem.W.kitOne K (.ref R) (.ref CM) = some b4
  eS : PySem.W.exmOne K (.ref R) (.ref CS) = some true
  ec : ExcC K R
  xf : XfC K R
  no : PySem.W.findIn K (.ref R) "part" = some none
/-- an error of a class R with the word w is heard -/
def THr (K : PySem.W.Frag) (CS CB CP CN CM : Addr) : (XK → Hp → VK → Prop) → Hp → VK → Prop := fun tl H Q => ∀ Qn : VK,
  tl (fun cls d H' => ∃ (R dd : Addr) (v : V) (w : Str), HrC K CS CB CP CN CM R w ∧ cls = .ref R ∧ d = some dd ∧ H' dd = some (.xd (fs1 "part" [v])) ∧ ∀ p H'', Same H' H'' → H'' p = some (.tup [.str w, v]) → Q (.ref p) H'') H Qn
/-- the classes of errors, as they are asked -/
structure Errs (mg : Str → Option Value) (CS CB CP CN CM : Addr) : Prop where
  mS : mg "SolidError" = some (.ref CS)
  mB : mg "BadLikeness" = some (.ref CB)
  mP : mg "BadPoint" = some (.ref CP)
  mN : mg "BadNumber" = some (.ref CN)
  mM : mg "Misfit" = some (.ref CM)
abbrev N_heard : List Str := ["ask", "caught", "error", "kinds", "words", "word", "is_so"]
theorem sc_heard : FnScope N_heard ["ask"] (defScope st__law_heard) := ⟨rfl, rfl, rfl, by decide +kernel, rfl, by decide +kernel, by decide +kernel⟩
def kdc (b1 b2 b3 b4 : Bool) : Nat → Bool
  | 0 => b1
  | 1 => b2
  | 2 => b3
  | 3 => b4
  | _ => false
def kdw : Nat → V
  | 0 => .str "likeness"
  | 1 => .str "point"
  | 2 => .str "number"
  | _ => .str "misfit"
theorem Kd.list {b1 b2 b3 b4 : Bool} {w : Str} (h : Kd b1 b2 b3 b4 w) : ((List.range 4).filter (kdc b1 b2 b3 b4)).map kdw = [.str w] := by
  cases h <;> rfl
theorem heard_gives {X : Cx} {g CS CB CP CN CM : Addr} {cdg : Value} {q x : Str} (R : Errs X.mg CS CB CP CN CM) (T : Nm X.mg) :
    LamX.GivesTo X N_heard x (defScope st__law_heard) g cdg (defBody st__law_heard) "ask" q (THr X.K CS CB CP CN CM) := by
  intro f c' s H Q tl act hc h
  refine ⟨_, pss_cons (X := (cxOf C8.CX0 X.prog X.w X.K X.mg X.base N_heard x (defScope st__law_heard) g cdg X.A X.stack s H C8.E0).nox) (ps_set (i := 1) sc_heard.nd rfl (Or.inl rfl) pe_non)
    (pss_cons (ps_try_keep (i := 2) (j := 1) (c := .ref CS)
      (tb := fun W D σ H => ∃ Ech : XK, (∀ (cls : Value) (d : Option Addr) (σ' : L2.St) (H' : Hp), Ech cls d H' → W cls d σ' H') ∧ σ[0]? = some (some (.ref f)) ∧ H c' = some (LamX.CodeO c' q) ∧ tl Ech H (fun _ H1 => D.nx σ H1))
      rfl rfl sc_heard.nd rfl rfl rfl rfl (by show 2 < 7; decide) ⟨by rfl, by decide, .inl R.mS⟩ rfl (fun W pn xe tk _ => ?_))
    (pss_cons (ps_set (i := 3) sc_heard.nd rfl (Or.inl rfl) (pe_lst (pa_cons (pe_tup (pa_cons pe_str (pa_cons (pe_callB call_isQ (by rfl) T.n_isinstance (by decide +kernel) (pa_cons (pv 1) (pa_cons (pe_glob (v := .ref CB) (by rfl) R.mB rfl (by decide)) pa_nil))) pa_nil))) (pa_cons (pe_tup (pa_cons pe_str (pa_cons (pe_callB call_isQ (by rfl) T.n_isinstance (by decide +kernel) (pa_cons (pv 1) (pa_cons (pe_glob (v := .ref CP) (by rfl) R.mP rfl (by decide)) pa_nil))) pa_nil))) (pa_cons (pe_tup (pa_cons pe_str (pa_cons (pe_callB call_isQ (by rfl) T.n_isinstance (by decide +kernel) (pa_cons (pv 1) (pa_cons (pe_glob (v := .ref CN) (by rfl) R.mN rfl (by decide)) pa_nil))) pa_nil))) (pa_cons (pe_tup (pa_cons pe_str (pa_cons (pe_callB call_isQ (by rfl) T.n_isinstance (by decide +kernel) (pa_cons (pv 1) (pa_cons (pe_glob (v := .ref CM) (by rfl) R.mM rfl (by decide)) pa_nil))) pa_nil))) pa_nil))))))
    (pss_cons (ps_setLc (i := 4) (own := [("word", 5), ("is_so", 6)]) (g := gTup X.K 2 (gCons (gName 5) (gCons (gName 6) gNil))) (tt := tB (tVar 6)) rfl sc_heard.nd rfl rfl (sw_true rfl rfl rfl (by decide +kernel)) (pi_seq (pv 3)) (blkOk_by (N := N_heard) (sc := defScope st__law_heard) (by decide +kernel)) (fun _ _ _ _ _ => (pg_tup (by rfl) (pgs_cons (pg_name (i := 5) sc_heard.nd rfl (Or.inl rfl)) (pgs_cons (pg_name (i := 6) sc_heard.nd rfl (Or.inl rfl)) pgs_nil)))) (fun _ _ _ _ _ => (pts_one (pt_val (pv 6)))) (fun _ _ _ _ _ => (pv 5)))
    (pss_cons (ps_if (pt_cmpR op_eq (pe_callB (call_lenK X.K) (by rfl) T.n_len (by decide +kernel) (pa_cons (pv 4) pa_nil)) pe_int (nomark _)) (pss_one (ps_ret (pe_tup (pa_cons (pe_ix (ix_K X.K) (pv 4) pe_int (fun _ _ => rfl)) (pa_cons (pe_fldQ (pv 1)) pa_nil))))) pss_nil)
    (pss_one (ps_ret (pe_ifExp (pt_cmp (pc_isN (pv 1))) pe_non (pe_tup (pa_cons pe_str (pa_cons pe_non pa_nil)))))))))), ?_⟩
  · refine ⟨fun pins s' σ H' D I h' => ?_⟩
    obtain ⟨Ech, hW, h1, h2, h3⟩ := h'
    exact (pss_one (ps_expr (act W pn xe Ech _ _ tk hW))).run pins s' σ H' D I ⟨h1, h2, h3⟩
  · refine ⟨_, fun cls d σ' H' e => ?_, rfl, hc, h _⟩
    obtain ⟨CR, dd, v, w, hR, rfl, rfl, e6, e8⟩ := e
    obtain ⟨b1, b2, b3, b4, kd, q1, q2, q3, q4⟩ := hR.ex
    refine ⟨CR, dd, rfl, rfl, hR.eS, fun a ha hl => ?_⟩
    have hl3 : σ'.length = 7 := hl
    obtain ⟨x0, x1, x2, x3, x4, x5, x6, rfl⟩ : ∃ x0 x1 x2 x3 x4 x5 x6, σ' = [x0, x1, x2, x3, x4, x5, x6] := by
      match σ', hl3 with
      | [x0, x1, x2, x3, x4, x5, x6], _ => exact ⟨x0, x1, x2, x3, x4, x5, x6, rfl⟩
    have s0 := same_upd (o := exq a CR dd) ha
    have hdd := s0 _ _ e6
    have haa : upd H' a (exq a CR dd) a = some (exq a CR dd) := upd_same
    generalize upd H' a (exq a CR dd) = H1 at s0 hdd haa ⊢
    -- four tuples
    refine ⟨_, rfl, a, CR, dd, .ref CB, .ref CB, b1, _, rfl, .own _, haa, hdd, hR.ec, q1, (by show 2 ≤ sizeLine; decide), fun t1 ht1 => ?_⟩
    have s1 := same_upd (o := .tup [.str "likeness", .bl b1]) ht1
    have z1 : upd H1 t1 (.tup [.str "likeness", .bl b1]) t1 = some (.tup [.str "likeness", .bl b1]) := upd_same
    generalize upd H1 t1 (.tup [.str "likeness", .bl b1]) = H2 at s1 z1 ⊢
    refine ⟨_, rfl, a, CR, dd, .ref CP, .ref CP, b2, _, rfl, .own _, s1 _ _ haa, s1 _ _ hdd, hR.ec, q2, (by show 2 ≤ sizeLine; decide), fun t2 ht2 => ?_⟩
    have s2 := same_upd (o := .tup [.str "point", .bl b2]) ht2
    have z2 : upd H2 t2 (.tup [.str "point", .bl b2]) t2 = some (.tup [.str "point", .bl b2]) := upd_same
    generalize upd H2 t2 (.tup [.str "point", .bl b2]) = H3 at s2 z2 ⊢
    have s12 := s1.trans s2
    refine ⟨_, rfl, a, CR, dd, .ref CN, .ref CN, b3, _, rfl, .own _, s12 _ _ haa, s12 _ _ hdd, hR.ec, q3, (by show 2 ≤ sizeLine; decide), fun t3 ht3 => ?_⟩
    have s3 := same_upd (o := .tup [.str "number", .bl b3]) ht3
    have z3 : upd H3 t3 (.tup [.str "number", .bl b3]) t3 = some (.tup [.str "number", .bl b3]) := upd_same
    generalize upd H3 t3 (.tup [.str "number", .bl b3]) = H4 at s3 z3 ⊢
    have s13 := s12.trans s3
    refine ⟨_, rfl, a, CR, dd, .ref CM, .ref CM, b4, _, rfl, .own _, s13 _ _ haa, s13 _ _ hdd, hR.ec, q4, (by show 2 ≤ sizeLine; decide), fun t4 ht4 => ?_⟩
    have s4 := same_upd (o := .tup [.str "misfit", .bl b4]) ht4
    have z4 : upd H4 t4 (.tup [.str "misfit", .bl b4]) t4 = some (.tup [.str "misfit", .bl b4]) := upd_same
    generalize upd H4 t4 (.tup [.str "misfit", .bl b4]) = H5 at s4 z4 ⊢
    have s14 := s13.trans s4
    refine ⟨(by show 4 ≤ sizeLine; decide), fun L hL => ?_⟩
    have s5 := same_upd (o := .lst [.ref t1, .ref t2, .ref t3, .ref t4]) hL
    have z5 : upd H5 L (.lst [.ref t1, .ref t2, .ref t3, .ref t4]) L = some (.lst [.ref t1, .ref t2, .ref t3, .ref t4]) := upd_same
    generalize upd H5 L (.lst [.ref t1, .ref t2, .ref t3, .ref t4]) = H6 at s5 z5 ⊢
    have s15 := s14.trans s5
    have y1 := (s2.trans (s3.trans (s4.trans s5))) _ _ z1
    have y2 := (s3.trans (s4.trans s5)) _ _ z2
    have y3 := (s4.trans s5) _ _ z3
    have y4 := s5 _ _ z4
    refine ⟨_, rfl, false, L, rfl, ⟨_, .of z5⟩, fun D hD => lc_funF (kdc b1 b2 b3 b4) kdw (walk_seq (b := false) (xs := [.ref t1, .ref t2, .ref t3, .ref t4])) hD (by show 4 < sizeLine; decide) (fun H7 s7 => .of (s7 _ _ z5)) ?_ ?_⟩
    · rintro i x H7 H8 hi s7 _ ⟨rfl, hx⟩ Rt Rk kf kt
      obtain ⟨t, b, ht, ec, ex⟩ : ∃ t b, H8 t = some (.tup [kdw i, .bl b]) ∧ kdc b1 b2 b3 b4 i = b ∧ x = .ref t := by
        have hi' : i < 4 := hi
        match i, hi', hx with
        | 0, _, hx => cases hx; exact ⟨t1, b1, s7 _ _ y1, rfl, rfl⟩
        | 1, _, hx => cases hx; exact ⟨t2, b2, s7 _ _ y2, rfl, rfl⟩
        | 2, _, hx => cases hx; exact ⟨t3, b3, s7 _ _ y3, rfl, rfl⟩
        | 3, _, hx => cases hx; exact ⟨t4, b4, s7 _ _ y4, rfl, rfl⟩
      subst ex
      refine ⟨t, _, rfl, .of ht, rfl, _, _, rfl, _, _, rfl, rfl, rfl, _, rfl, _, rfl, ?_⟩
      rw [ec] at kf kt
      cases b with
      | false => exact iteF (kf rfl _ (Same.refl _))
      | true => exact iteT ⟨_, rfl, kt rfl _ (Same.refl _)⟩
    · intro H7 hD7 s7
      rw [show [V.ref t1, .ref t2, .ref t3, .ref t4].length = 4 from rfl, kd.list] at hD7
      have s17 := s15.trans s7
      refine ⟨_, rfl, false, D, _, rfl, .of hD7, rfl, _, rfl, iteT ?_⟩
      refine ⟨_, rfl, false, D, _, 0, _, rfl, rfl, .of hD7, rfl, _, rfl, a, CR, dd, _, v, rfl, s17 _ _ haa, s17 _ _ hdd, hR.xf, hR.no, rfl, (by show 2 ≤ sizeLine; decide), fun p hp => ?_⟩
      exact e8 p _ (s0.trans (s17.trans (same_upd hp))) upd_same
end K0


set_option Elab.async false
set_option linter.all false
set_option maxRecDepth 100000
set_option maxHeartbeats 8000000
namespace K0
open PySem PySem.Spec PyProof.Rows L2 RZ K0z LamX

/-! ### a lambda with one parameter that has a default -/
section
variable {X : Cx} {pins : List (Addr × Obj)} {σ : L2.St} {H : Hp} {s : Shared}
abbrev lq (X : Cx) : Str := X.env.qual ++ "<lambda>"
abbrev lclo (X : Cx) (scope : Scope) : List (Str × Addr) := cloFrom X.env.cells scope.names []
abbrev dObj (X : Cx) (params : Arguments) (body : Expr) (scope : Scope) (T : Addr) (doc pm : Value) (c' : Addr) (ctv : Value) : Obj :=
  PySem.W.kdv_obj "<lambda>" (lq X) params (.expr body) scope (lclo X scope) (.ref T) doc pm c' ctv
theorem lam_makeD {TT : List (Addr × Str)} {c P : Addr} {params : Arguments} {body e0 : Expr} {d0 : V} {scope : Scope} {pos : Pos} {E Q : Value → Shared → Prop} (I : Inv X pins σ H s) (TB : TabB X.base X.mg c P) (hcode : X.env.code = .ref c)
    (hm : (P, lq X) ∈ TT) (hu : ∀ p ∈ TT, p.1 = P → p.2 = lq X) (hT : Tabs TT H) (hds : params.defaults = [e0]) (hk0 : params.kw_defaults = []) (he0 : PE X e0 (tC d0)) (hfree : ∀ y ∈ scope.names, y.2 = .free → ∃ c, X.env.cells.lookup y.1 = some c)
    (hxe : ∀ e s', X.xe e s' → E e s')
    (h : ∀ (f c' T : Addr) (v0 doc pm ctv : Value) (H1 : Hp) (s' : Shared), Inv X pins σ H1 s' → ExtN H H1 → Tabs TT H1 → RelV d0 v0 → s'.heap.get? T = some (PySem.W.kdv_tup [v0]) → H1 T = none → T ∉ frs X.stack →
      s'.heap.get? f = some (dObj X params body scope T doc pm c' ctv) → H1 f = none → f ∉ frs X.stack → H1 c' = some (CodeO c' (lq X)) → Q (.ref f) s') :
    wpAny (model X.prog X.w) X.A (eval (.Lambda params body scope pos) X.env) Q E s := by
  refine PySem.W.kdv_lam (by rw [hds]; rfl) hk0 ?_
  rw [hds]
  refine PySem.W.kdv_all1 (wpAny_mono (he0.run pins s σ H (fun x H' => x = d0 ∧ H' = H) I ⟨rfl, rfl⟩) (fun v0 s1 hv => ?_) hxe)
  obtain ⟨x, H0, I0, r0, e1, e2⟩ := hv
  rw [e1] at r0
  rw [e2] at I0
  refine PySem.W.kdv_all0 ?_
  rw [makeFunction_eq]
  simp only [List.isEmpty_nil, List.isEmpty_cons, List.zip_nil_right, List.filterMap_nil, Bool.false_eq_true, if_true, if_false, pure_bind]
  refine wpAny_bind (wpAny_newTextTuple ?_)
  obtain ⟨T, hTe⟩ : ∃ T, s1.heap.objs.size = T := ⟨_, rfl⟩
  have hTg : (s1.heap.push (PySem.W.kdv_tup [v0])).get? T = some (PySem.W.kdv_tup [v0]) := by rw [← hTe]; exact Heap.get?_push_size _ rfl
  have hTn : H T = none := I0.hok.fresh (by rw [hTe]; exact Nat.le_refl _)
  have off : ∀ f, s1.heap.objs.size ≤ f → f ∉ frs X.stack := fun f hf z => by
    rcases List.mem_cons.mp (I0.stkSub _ z) with e | e
    · have l1 := I0.lt
      rw [← e] at l1
      exact absurd (Nat.lt_of_lt_of_le l1 hf) (Nat.lt_irrefl _)
    · exact I0.nofs hf e
  have I2 : Inv X pins σ H { s1 with heap := s1.heap.push (PySem.W.kdv_tup [v0]) } := I0.kept (t' := s1.toks) fun b o e => Heap.get?_push_of_some _ e
  have hTf := off T (by rw [hTe]; exact Nat.le_refl _)
  show wpAny _ _ (makeTail "<lambda>" (lq X) params (.expr body) scope X.env (.ref s1.heap.objs.size) .none none pos pos.line) Q E { s1 with heap := s1.heap.push (PySem.W.kdv_tup [v0]) }
  rw [hTe]
  have zle : s1.heap.objs.size ≤ (s1.heap.push (PySem.W.kdv_tup [v0])).objs.size := by rw [Heap.size_push]; omega
  generalize hg2 : s1.heap.push (PySem.W.kdv_tup [v0]) = h2 at I2 hTg zle ⊢
  obtain ⟨ps, hP, ht, ha⟩ := hT _ hm
  have hPg : h2.get? P = some { cls := .none, data := .fields ps } := I2.hok P _ hP
  have bP := TB.bm.keeps I2.bk
  have cP := TB.code.keeps I2.bk
  cases hc : codeAmong pos ps.toList with
  | some cv =>
    obtain ⟨c', e, hco⟩ := ha pos cv hc
    subst e
    refine PySem.W.kdv_makeTailHit (mg := X.mg) (c := c) (P := P) (ps := ps) (closure_ok hfree) I2.ok.glob (I2.mod.glob.keeps I2.bk) hcode cP hPg ht hc bP fun ctv doc h' tk hx hsz => ?_
    have I3 : Inv X pins σ H { s1 with heap := h'.push (dObj X params body scope T doc ((X.mg "__name__").getD .none) c' ctv), toks := tk } := I2.kept fun b o e => Heap.get?_push_of_some _ (hx b o e)
    exact h _ c' T v0 doc _ ctv H _ I3 (ExtN.refl H) hT r0 (Heap.get?_push_of_some _ (hx _ _ hTg)) hTn hTf (Heap.get?_push_size _ rfl) (I2.hok.fresh hsz) (off _ (Nat.le_trans zle hsz)) hco
  | none =>
    refine PySem.W.kdv_makeTail (mg := X.mg) (c := c) (P := P) (ps := ps) (closure_ok hfree) I2.ok.glob (I2.mod.glob.keeps I2.bk) hcode cP hPg ht hc TB.gP bP fun c' ctv doc h' tk hx hge hlt hrec htb => ?_
    obtain ⟨c2, oc, vs, t, e3, hoc, hd, hv⟩ := hrec
    cases e3
    have big : h2.objs.size ≤ h'.objs.size := Nat.le_trans hge (Nat.le_of_lt hlt)
    have nC : H c' = none := I2.hok.fresh hge
    have nTP : T ≠ P := fun e => by rw [e, hP] at hTn; cases hTn
    have I3 := inv_table (q := lq X) (t' := tk) (more := #[rawInt pos.line, rawInt pos.col, .ref c']) (h' := h'.push (dObj X params body scope T doc ((X.mg "__name__").getD .none) c' ctv)) I2 hP (fun b o hb e => Heap.get?_push_of_some _ (hx b o hb e)) (Heap.get?_push_of_some _ htb) hge ⟨oc, vs, t, Heap.get?_push_of_some _ hoc, hd, hv⟩
    obtain ⟨H3, eH3⟩ : ∃ H3, upd (upd H P (.tbl (ps ++ #[rawInt pos.line, rawInt pos.col, .ref c']))) c' (CodeO c' (lq X)) = H3 := ⟨_, rfl⟩
    rw [eH3] at I3
    have hE : ExtN H H3 := fun b o e n => by
      rw [← eH3, upd_ne (ne_of_none e nC), upd_ne (fun z => by rw [z, hP] at e; exact n ps (Option.some.inj e).symm)]
      exact e
    have hc3 : H3 c' = some (CodeO c' (lq X)) := by rw [← eH3, upd_same]
    have off3 : ∀ b, b ≠ P → b ≠ c' → H b = none → H3 b = none := fun b n1 n2 e => by rw [← eH3, upd_ne n2, upd_ne n1]; exact e
    have nTc : T ≠ c' := fun e => by
      have l1 : T < h2.objs.size := Heap.lt_size hTg
      have l2 : h2.objs.size ≤ c' := hge
      rw [e] at l1
      omega
    refine h h'.objs.size c' T v0 doc _ ctv H3 _ I3 hE (fun p hp => ?_) r0 (Heap.get?_push_of_some _ (hx _ _ nTP hTg)) (off3 _ nTP nTc hTn) hTf (Heap.get?_push_size _ rfl) ?_ (off _ (Nat.le_trans zle big)) hc3
    · by_cases hb : p.1 = P
      · refine ⟨ps ++ #[rawInt pos.line, rawInt pos.col, .ref c'], by rw [hb, ← eH3, upd_ne (ne_of_none hP nC), upd_same], by rw [Array.toList_append]; exact PySem.TriplesOk_snoc _ _ _ _ ht, fun p' cv hcv => ?_⟩
        rw [hu p hp hb]
        rw [Array.toList_append] at hcv
        rcases among_app _ ht hcv with z | z
        · obtain ⟨c0, k1, k2⟩ := ha p' cv z
          exact ⟨c0, k1, hE _ _ k2 codeO_ne⟩
        · exact ⟨c', z, hc3⟩
      · obtain ⟨ps', a1, a2, a3⟩ := hT p hp
        refine ⟨ps', by rw [← eH3, upd_ne (ne_of_none a1 nC), upd_ne hb]; exact a1, a2, fun p' cv hcv => ?_⟩
        obtain ⟨c0, k1, k2⟩ := a3 p' cv hcv
        exact ⟨c0, k1, hE _ _ k2 codeO_ne⟩
    · exact off3 _ (Nat.ne_of_gt (Nat.lt_of_lt_of_le (Heap.lt_size hPg) big)) (Nat.ne_of_gt hlt) (I2.hok.fresh big)
end
/-- the lambda's names: one parameter of its own, that is no name of the maker's; captured ones and globals -/
structure LamSD (N : List Str) (sc scope : Scope) (a : Str) : Prop where
  kind : scope.kind = .function
  co : scope.isCoroutine = false
  gen : scope.isGenerator = false
  own : ∀ y ∈ scope.names, y.2 ≠ .cell ∧ (y.2 = .local → y.1 ∉ N)
  loc : scope.names.lookup a = some .local
  free : ∀ y ∈ scope.names, y.2 = .free → sc.names.lookup y.1 = some .cell ∨ sc.names.lookup y.1 = some .free
theorem LamSD.has {X : Cx} {scope : Scope} {a : Str} (L : LamSD X.N X.env.scope scope a) (ok : X.Ok) : ∀ y ∈ scope.names, y.2 = .free → ∃ c, X.env.cells.lookup y.1 = some c :=
  fun y hy e => (L.free y hy e).elim (fun k => ok.has _ (.inl k)) fun k => ok.has _ (.inr k)
section
variable {X : Cx} {pins : List (Addr × Obj)} {σ : L2.St} {H HZ : Hp} {s s1 : Shared}
theorem lam_startD {A : Around} {outer : List Env} {E : XK} {scope : Scope} {f c' : Addr} {h₁ : Heap} {tk : Nat} {a : Str} {v0 : Value} (I : Inv X pins σ H s) (L : LamSD X.N X.env.scope scope a) (e0 : Env0 X.prog X.w X.K X.mg X.base A outer s1 HZ) (hd : A.handled = none)
    (un : Un (frs X.stack) [] H HZ s.heap s1.heap) (hns : h₁.Ns s1.heap.objs.size fun y => [(a, v0)].reverse.lookup y) (kp : ∀ b o, s1.heap.get? b = some o → h₁.get? b = some o) :
    Inv (lamCx X A outer s1 HZ E scope f c') [] σ HZ { s1 with heap := h₁, toks := tk } := by
  have fr := L.has I.ok
  have cm : ∀ {y c}, (lclo X scope).lookup y = some c → X.env.cells.lookup y = some c := fun {y c} e => by
    rcases cloFrom_mem (PySem.mem_of_lookup e) with hm | ⟨h1, h2⟩
    · exact absurd hm List.not_mem_nil
    · obtain ⟨c1, hc⟩ := fr _ h1 rfl
      have hc' : X.env.cells.lookup y = some c1 := hc
      rw [hc', show c = c1 from by rw [h2, hc'] <;> rfl]
  have look : ∀ {y}, scope.names.lookup y = some .free → ∃ c, (lclo X scope).lookup y = some c := fun {y} hl =>
    mem_lookup (cloFrom_has (cells := X.env.cells) (acc := []) (PySem.mem_of_lookup hl))
  have atC : ∀ {c : Addr} {v : Option Value}, H c = none → s.heap.IsCell c v → h₁.IsCell c v := fun {c v} n ⟨o, ho, hd⟩ => by
    obtain ⟨sl, q⟩ := un.any ho n (by simp)
    exact ⟨_, kp _ _ q, hd⟩
  have noX : ∀ b : Addr, b ∉ (lamCx X A outer s1 HZ E scope f c').ex := fun b z => absurd (show b ∈ ([] : List Addr) from z) List.not_mem_nil
  have noC : ∀ y, scope.names.lookup y ≠ some .cell := fun y k => (L.own _ (PySem.mem_of_lookup k)).1 rfl
  refine ⟨⟨e0.mod, L.kind, rfl, rfl, Nat.le_refl _, fun y z c e1 e2 => I.ok.inj y z c (cm e1) (cm e2), fun y hy => ?_, fun y c z _ => ?_, fun _ => hd, Around.frames_deeper e0.frames, .inr ⟨rfl, rfl⟩, fun b z => absurd z (noX b), e0.bs, e0.bsz, fun b _ _ => noX b,
      fun b z => absurd z (noX b), e0.funs, e0.frf⟩,
    rfl, e0.bare, Un.kept kp, ⟨_, hns, fun i y v e1 e2 e3 => ?_⟩, fun y c e => ?_, e0.hok.fresh (Nat.le_refl _), fun y c e => ?_, fun q hq => absurd (show q ∈ ([] : List (Addr × Obj)) ++ [] from hq) (by simp), e0.hok.kept kp, I.len⟩
  · rcases (show scope.names.lookup y = some .cell ∨ scope.names.lookup y = some .free from hy) with hy | hy
    · exact absurd hy (noC y)
    · exact look hy
  · cases (show false = true from z)
  · rcases (show Vis scope y from e3) with k | k | k
    · exact absurd (List.mem_of_getElem? (show X.N[i]? = some y from e1)) ((L.own _ (PySem.mem_of_lookup k)).2 rfl)
    · exact absurd k (noC y)
    · obtain ⟨m, hn, hl⟩ := I.loc
      have vis : Vis X.env.scope y := (L.free _ (PySem.mem_of_lookup k) rfl).elim (fun k => .inr (.inl k)) fun k => .inr (.inr k)
      obtain ⟨w', r, q⟩ := hl i y v e1 e2 vis
      obtain ⟨c2, h2⟩ := look k
      refine ⟨w', r, .inr ⟨.inr k, c2, h2, ?_⟩⟩
      have c1 := cm h2
      rcases q with ⟨k', _⟩ | ⟨_, c3, e', z⟩
      · have k2 : X.env.scope.names.lookup y = some .local := k'
        rcases L.free _ (PySem.mem_of_lookup k) rfl with k3 | k3 <;> rw [show X.env.scope.names.lookup y = _ from k3] at k2 <;> cases k2
      · rw [c1] at e'
        cases e'
        exact atC (I.freeC y _ c1) z
  · obtain ⟨w', z⟩ := I.cell y c (cm e)
    exact ⟨w', atC (I.freeC y c (cm e)) z⟩
  · obtain ⟨v, o, ho, hd⟩ := I.cell y c (cm e)
    exact un.free c o ho (I.freeC y c (cm e)) (by simp)
/-- x(), in the def that got the lambda -/
theorem pe_actD {CXg : CXT} {Eg : XK} {Ng : List Str} {qg : Str} {sg : Scope} {g f c' T : Addr} {cdg doc pm ctv v0 : Value} {params : Arguments} {body : Expr} {scope : Scope} {k i : Nat} {a a1 : Str} {pn : List (Addr × Obj)} {xe : Value → Shared → Prop} {W : WX} {E : XK} {tb : TE} {p1 p2 : Pos}
    (I : Inv X pins σ H s) (L : LamSD X.N X.env.scope scope a1) (hT : s.heap.get? T = some (PySem.W.kdv_tup [v0])) (hTn : H T = none) (hTr : T ∉ frs X.stack) (hf : s.heap.get? f = some (dObj X params body scope T doc pm c' ctv)) (hfn : H f = none) (hfr : f ∉ frs X.stack)
    (hbind : ∃ k, bindArgs (PySem.W.kdv_fn "<lambda>" (lq X) params (.expr body) scope (lclo X scope) (.ref T) doc pm (.ref c') ctv) ⟨[], []⟩ = seqItems? (.ref T) >>= k ∧ k (some #[v0]) = pure [(a1, v0)])
    (tk : Takes ((cxOf CXg X.prog X.w X.K X.mg X.base Ng qg sg g cdg X.A X.stack s H Eg).tr pn xe) W) (hW : ∀ cls d σ' H', E cls d H' → W cls d σ' H') (hr : Room (k + 1) (X.A.deeper (envOfC qg sg s.heap.objs.size g cdg)))
    (hbody : ∀ (A : Around) (outer : List Env) (s : Shared) (H : Hp), Room k (A.deeper (lamEnv X scope s.heap.objs.size f c')) → PE (lamCx X A outer s H E scope f c') body tb)
    (hN : Ng[i]? = some a) (hv : Vis sg a) (hd : (a == ("__debug__" : Str)) = false := by decide) (hcd : (a == ("__classdict__" : Str)) = false := by decide) :
    PE ((cxOf CXg X.prog X.w X.K X.mg X.base Ng qg sg g cdg X.A X.stack s H Eg).tr pn xe) (.Call (.Name a p1) [] [] p2) (fun σZ HZ Q => σZ[i]? = some (some (.ref f)) ∧ HZ c' = some (CodeO c' (lq X)) ∧ tb σ HZ Q) := by
  refine ⟨fun pz sz σz Hz Q Iz h => ?_⟩
  obtain ⟨hs, hc, hb⟩ := h
  refine wpAny_Call_Name_kw (thn ((pe_var (pos := p1) (i := i) hN hv hd hcd).run pz sz σz Hz (fun v H1 => v = .ref f ∧ H1 = Hz) Iz ⟨.ref f, hs, rfl, rfl⟩) fun u s1 hq => ?_)
  obtain ⟨v, H1, I1, r1, ev, eH⟩ := hq
  subst ev
  rw [eH] at I1
  obtain rfl : u = Value.ref f := r1
  have nx : ∀ {b : Addr}, b ∉ (([] : List Addr)) := fun z => nomatch z
  have of1 := I1.base.keep f _ hf hfn hfr (fun z => nomatch (show f ∈ ([] : List Addr) from z))
  have oT1 := I1.base.keep T _ hT hTn hTr (fun z => nomatch (show T ∈ ([] : List Addr) from z))
  refine PySem.W.callWith_F0 ⟨_, _, _, _, of1⟩ ?_
  obtain ⟨⟨oc, vs, t, hoc, hdc, hvc⟩, _, _⟩ := I1.hok c' _ hc
  obtain ⟨kb, k1, k2⟩ := hbind
  have bt : BindsTo s1 (PySem.W.kdv_fn "<lambda>" (lq X) params (.expr body) scope (lclo X scope) (.ref T) doc pm (.ref c') ctv) ⟨[], []⟩ [(a1, v0)] := BindsTo.of_defaults rfl oT1 rfl k1 k2
  have rc : codeAny (model X.prog X.w) (X.A.deeper (envOfC qg sg s.heap.objs.size g cdg)) (.call (.ref f) ⟨[], []⟩) (CR (L2.CX X.prog X.w) (envOfC qg sg s.heap.objs.size g cdg :: X.stack) X.prog X.w Hz s1 Q E) s1 := by
    refine PySem.W.kla_callFunE hr.depth of1 rfl L.co L.gen rfl ⟨c', oc, vs, t, rfl, hoc, hdc, hvc⟩ (bt _ _ _ _ ?_)
    refine wpAny_newFunctionEnv (fun y hy => (L.own y hy).1) (fun y hy => by cases List.mem_singleton.mp hy; exact L.loc) (fun h₁ hns hsb => ⟨I1.nolimit.fresh _ hsb, ?_⟩) L.kind
    show codeAny _ _ (.expr body (lamEnv X scope s1.heap.objs.size f c')) _ _
    have J : Inv (lamCx X (X.A.deeper (envOfC qg sg s.heap.objs.size g cdg)) (envOfC qg sg s.heap.objs.size g cdg :: X.stack) s1 Hz E scope f c') [] σ Hz { s1 with heap := h₁, toks := s1.toks + [(a1, v0)].length } :=
      lam_startD I L I1.env0 hr.hd I1.base hns fun b o e => hsb.extBut b o (Nat.ne_of_lt (Heap.lt_size e)) (Heap.get?_push_of_some _ e)
    refine PySem.W.kla_codeExpr (wpAny_mono ((hbody _ _ s1 Hz (hr.deeper _)).run [] _ _ Hz Q J hb) (fun v s' hq => ?_) fun _ _ z => z)
    obtain ⟨w', H', J', rv, q⟩ := hq
    exact ⟨w', H', J'.os, J'.bare, J'.base, J'.hok, rv, q⟩
  refine wpAny_call (codeAny_mono rc fun r s' hq => ?_)
  cases r with
  | error e => exact passes_call tk hW pz σz Hz s1 e s' I1 hq
  | ok fl =>
    cases fl with
    | ret u => exact I1.after hq
    | next => exact hq.elim
    | brk => exact hq.elim
    | cont => exact hq.elim
/-- x(lambda a1=..: body) -/
theorem pe_lamcallD {TS' : List (Addr × Str)} {TT : (XK → Hp → VK → Prop) → Hp → VK → Prop} {x a a1 : Str} {g c P : Addr} {k : Nat} {pg : Arguments} {bg : List Stmt} {sg : Scope} {dV kV doc pm cdv ct oc : Value} {an od : Option Addr} {osl : Array (Option Value)} {Ng : List Str}
    {params : Arguments} {body e0 : Expr} {d0 : V} {scope : Scope} {t : XK → TE} {p lpos pos : Pos} (hg : Gl X x) (hm : X.mg x = some (.ref g)) (hk : PySem.W.keepIn X.K (.ref g) = true)
    (lk : X.K.lookup g = some ⟨oc, od, .func (PySem.W.fnOf x x pg bg sg dV kV doc pm an cdv ct), osl⟩) (hcg : PySem.W.codeIn X.K cdv x = true) (hb : L2.Binds X.K (PySem.W.fnOf x x pg bg sg dV kV doc pm an cdv ct) [a] []) (Sg : FnScope Ng [a] sg) (hNg : Ng[0]? = some a) (hva : Vis sg a)
    (hG : GivesTo X Ng x sg g cdv bg a (lq X) TT) (TB : TabB X.base X.mg c P) (hcode : X.env.code = .ref c) (hmT : (P, lq X) ∈ TS') (hu : ∀ p ∈ TS', p.1 = P → p.2 = lq X) (hr : Room (k + 2) X.A) (L : LamSD X.N X.env.scope scope a1)
    (hds : params.defaults = [e0]) (hk0 : params.kw_defaults = []) (he0 : PE X e0 (tC d0)) 
    (hbind : ∀ (T : Addr) (q : Str) (cl : List (Str × Addr)) (doc pm cv ctv v0 : Value), ∃ k, bindArgs (PySem.W.kdv_fn "<lambda>" q params (.expr body) scope cl (.ref T) doc pm cv ctv) ⟨[], []⟩ = seqItems? (.ref T) >>= k ∧ k (some #[v0]) = pure [(a1, v0)])
    (hbody : ∀ (A : Around) (outer : List Env) (s : Shared) (H : Hp) (E : XK) (f c' : Addr), Room k (A.deeper (lamEnv X scope s.heap.objs.size f c')) → PE (lamCx X A outer s H E scope f c') body (t E))
    (hdb : (x == ("__debug__" : Str)) = false := by decide) (hd : (a == ("__debug__" : Str)) = false := by decide) (hcd : (a == ("__classdict__" : Str)) = false := by decide) :
    PE X (.Call (.Name x p) [.Lambda params body scope lpos] [] pos) (tLam TS' TT t) := by
  refine ⟨fun pins s σ H Q I h => ?_⟩
  obtain ⟨hT, h⟩ := h
  refine wpAny_Call_Name_kw (ld_glob I hg hm ?_ hdb)
  refine PySem.W.callWith_K (h₀ := X.base) I.ok.mod.kin hk ?_ (by rfl) (by rfl)
  show wpAny _ _ (spliced ((false, eval (.Lambda params body scope lpos) X.env) :: backTo pos (starEach [] X.env))) _ _ s
  refine Calls.spliced_cons (lam_makeD I TB hcode hmT hu hT hds hk0 he0 (L.has I.ok) (fun _ _ z => z) fun f c' T v0 doc' pm' ctv H1 s' I1 eN T1 r0 hTg hTn hTr hf hfn hfr hco => ?_)
  refine Calls.spliced_nil ⟨I1.kIn, ?_⟩
  have rc : codeAny (model X.prog X.w) X.A (.call (.ref g) ⟨[.ref f], []⟩) (CR C8.CX0 X.stack X.prog X.w H1 s' Q C8.E0) s' := by
    refine run_ofS (N := Ng) (ps := [a]) (us := [.ref f]) (vs := [.ref f]) lk hcg Sg hr I1.env0 (hb s' [.ref f] I1.kIn rfl) (.cons rfl .nil) rfl fun hr' => ?_
    obtain ⟨t', ht', hq'⟩ := hG f c' s' H1 Q (fun E H' Q' => t E σ H' Q') (fun W pn xe E p1 p2 tk hW => pe_actD (i := 0) I1 L hTg hTn hTr hf hfn hfr (hbind _ _ _ _ _ _ _ _) tk hW hr' (fun A outer s H hr2 => hbody A outer s H E f c' hr2) hNg hva hd hcd) hco (h H1 eN T1)
    exact ⟨t', ht'.nox, hq'⟩
  refine wpAny_call (codeAny_mono rc fun r s2 hq => ?_)
  cases r with
  | error e => cases (show False from hq)
  | ok fl =>
    cases fl with
    | ret u => exact I1.after hq
    | next => exact hq.elim
    | brk => exact hq.elim
    | cont => exact hq.elim
end
end K0


set_option Elab.async false
set_option linter.all false
set_option maxRecDepth 100000
set_option maxHeartbeats 8000000
set_option exponentiation.threshold 100000
namespace K0
open PySem PySem.Spec PyProof.Rows L2 RZ K0z

def qL : Str := ("_law_refused_right.<locals>.<lambda>" : Str)
def lamSDB (N : List Str) (sc scope : Scope) (a : Str) : Bool :=
  decide (scope.kind = .function) && !scope.isCoroutine && !scope.isGenerator && decide (scope.names.lookup a = some .local) && scope.names.all fun y => !decide (y.2 = .cell) && (!decide (y.2 = .local) || !N.contains y.1) && (!decide (y.2 = .free) || decide (sc.names.lookup y.1 = some .cell) || decide (sc.names.lookup y.1 = some .free))
theorem lamSD_by {N : List Str} {sc scope : Scope} {a : Str} (h : lamSDB N sc scope a = true) : LamSD N sc scope a := by
  unfold lamSDB at h
  simp only [Bool.and_eq_true, Bool.or_eq_true, Bool.not_eq_true', decide_eq_true_eq, decide_eq_false_iff_not, List.all_eq_true] at h
  obtain ⟨⟨⟨⟨h1, h2⟩, h3⟩, h4⟩, h5⟩ := h
  refine ⟨h1, h2, h3, fun y hy => ⟨(h5 y hy).1.1, fun e hm => ?_⟩, h4, fun y hy e => ?_⟩
  · rcases (h5 y hy).1.2 with z | z
    · exact z e
    · rw [List.contains_eq_mem, decide_eq_false_iff_not] at z
      exact z hm
  · rcases (h5 y hy).2 with (z | z) | z
    · exact absurd e z
    · exact .inl z
    · exact .inr z
def spRef (PT : Addr) : Sp := fun vs H Q _ => ∃ (c d : Addr) (ns : List Int) (m : Nat), vs = [.ref c] ∧ Coil H c d ns m ∧ m ≤ 70000 ∧ LamX.Tabs [(PT, qL)] H ∧ ∀ H', Q (.bl true) H'
/-! ### what is kept: all but what draws and tables of code -/
structure Bs (c : Addr) (HX : Hp) : Prop where
  hc : HX c = none
  ht : ∀ b ps, HX b ≠ some (.tbl ps)
def OffT (c : Addr) (H : Hp) : Hp := fun b => if b = c then none else match H b with
  | some (.tbl _) => none
  | o => o
theorem offT_get {c b : Addr} {H : Hp} {o : HO} (h : H b = some o) (n : b ≠ c) (t : ∀ ps, o ≠ .tbl ps) : OffT c H b = some o := by
  unfold OffT
  rw [if_neg n, h]
  cases o <;> first | rfl | exact absurd rfl (t _)
theorem offT_same {c : Addr} {H : Hp} : Same (OffT c H) H := fun b o e => by
  unfold OffT at e
  by_cases n : b = c
  · rw [if_pos n] at e; cases e
  · rw [if_neg n] at e
    cases h : H b with
    | none => rw [h] at e; cases e
    | some u =>
      rw [h] at e
      cases u <;> first | exact e | cases e
theorem bs_off (c : Addr) (H : Hp) : Bs c (OffT c H) := by
  refine ⟨?_, fun b ps e => ?_⟩
  · unfold OffT
    rw [if_pos rfl]
  · unfold OffT at e
    by_cases n : b = c
    · rw [if_pos n] at e; cases e
    · rw [if_neg n] at e
      cases h : H b with
      | none => rw [h] at e; cases e
      | some u =>
        rw [h] at e
        cases u <;> cases e
theorem Bs.off {c : Addr} {HX H : Hp} (B : Bs c HX) (s : Same HX H) : Same HX (OffT c H) := fun b o e =>
  offT_get (s _ _ e) (fun z => by rw [z, B.hc] at e; cases e) fun ps z => B.ht b ps (by rw [← z]; exact e)
theorem Bs.ext {c : Addr} {HX H H' : Hp} (B : Bs c HX) (s : Same HX H) (e : LamX.ExtN H H') : Same HX H' := fun b o h => e b o (s b o h) fun ps z => B.ht b ps (by rw [← z]; exact h)
theorem Bs.but {c : Addr} {HX H H' : Hp} (B : Bs c HX) (s : Same HX H) (sb : SameBut c H H') : Same HX H' := sb.to s B.hc
theorem heard_raise {K : PySem.W.Frag} {CS CB CP CN CM R : Addr} {w nm : Str} {H : Hp} {Rr : Addr → Hp → Prop} (hR : HrC K CS CB CP CN CM R w) (k : ∀ p H'', Same H H'' → H'' p = some (.tup [.str w, .str nm]) → Rr p H'') :
    raisesN R nm H (fun cls d H' => ∃ (R dd : Addr) (v : V) (w : Str), HrC K CS CB CP CN CM R w ∧ cls = .ref R ∧ d = some dd ∧ H' dd = some (.xd (fs1 "part" [v])) ∧ ∀ p H'', Same H' H'' → H'' p = some (.tup [.str w, v]) → Rr p H'') :=
  fun dd H' h1 h2 s => ⟨R, dd, .str nm, w, hR, rfl, rfl, h2, fun p H'' s2 hp => k p H'' (s.trans s2) hp⟩
theorem eqvT_same {xs : List V} (h : xs.all flat = true) : PyData.eqv (.tuple (xs.map toD)) (.tuple (xs.map toD)) = true := by
  have := eqv_same h
  exact this
theorem sqT_off {K : PySem.W.Frag} {H : Hp} {c p : Addr} {l xs : List V} (h : SqT K H p xs) (hc : H c = some (.lst l)) : SqT K (OffT c H) p xs := by
  rcases h with (h | ⟨u, h⟩) | h
  · exact .inl (.inl (offT_get h (fun e => by rw [e, hc] at h; cases h) (fun ps e => by cases e)))
  · exact .inl (.inr ⟨u, offT_get h (fun e => by rw [e, hc] at h; cases h) (fun ps e => by cases e)⟩)
  · exact .inr h
theorem LikAt.off {K : PySem.W.Frag} {H : Hp} {c d a C : Addr} {ps ss ns : List Int} {m : Nat} (h : LikAt K H a C ps ss) (hC : Coil H c d ns m) : LikAt K (OffT c H) a C ps ss := by
  obtain ⟨_, _, _, x, y, hc, _⟩ := hC
  obtain ⟨l, dx, p, q, fs, h1, ⟨o, h2, h3⟩, h4, r⟩ := h
  exact ⟨l, dx, p, q, fs, offT_get h1 (fun e => by rw [e, hc] at h1; cases h1) (fun ps e => by cases e), ⟨o, offT_get h2 (fun e => by rw [e, hc] at h2; cases h2) (fun ps e => by cases e), h3⟩, sqT_off h4 hc, r⟩
section
variable {K : PySem.W.Frag} {C CB CP CM CN : Addr} {H : Hp} {Q : VK} {E : XK} {ps ss ps' ss' : List Int} {a b : Addr}
theorem then_mis (hA : LikAt K H a C ps ss) (hB : LikAt K H b C ps' ss') (hn : ps'.length ≠ ps.length) (k : raisesN CM "wide" H E) : jThen K CB CM C [.ref a, .ref b] H Q E := by
  rw [jThen_eq]
  exact ⟨a, .ref b, ps, ss, rfl, hA, .inr ⟨b, ps', ss', rfl, hB, fun _ => k, fun h => absurd h hn⟩⟩
theorem then_no {y : V} (hA : LikAt K H a C ps ss) (hy : NoLik K C H y) (k : raisesN CB "other" H E) : jThen K CB CM C [.ref a, y] H Q E := by
  rw [jThen_eq]
  exact ⟨a, y, ps, ss, rfl, hA, .inl ⟨hy, k⟩⟩
theorem led_no {v : V} {o : Option (List V)} (hA : LikAt K H a C ps ss) (hv : Seqs K H v o) (hi : Items K H o) (hb : (lenB o (.int ps.length) (.int ps.length) && intsB o) = false) (k : raisesN CP "point" H E) : jLed K CP C [.ref a, v] H Q E := by
  rw [jLed_eq]
  exact ⟨a, v, ps, ss, o, rfl, hA, hv, hi, fun _ => k, fun xs _ e => absurd e (by rw [hb]; decide)⟩
theorem same_no {v : V} {q : Bool} (hv : Asks K H v q) (hb : within v (.int 2) (.int 6) = false) (k : raisesN CN "wide" H E) : jSame K CN C [v] H Q E := by
  rw [jSame_eq]
  exact ⟨v, q, rfl, hv, fun _ => k, fun n e h2 h6 => absurd hb (by rw [e, within_n h2 h6]; decide)⟩
/-- what is no places; what is no n signs -/
structure BadPl (K : PySem.W.Frag) (HX : Hp) (v : V) : Prop where
  ex : ∃ o, Seqs K HX v o ∧ Items K HX o ∧ plB o = false ∧ ∀ xs, o = some xs → ∃ p, v = .ref p ∧ HX p = some (.lst xs)
structure AskV (K : PySem.W.Frag) (HX : Hp) (v : V) (o : Option (List V)) : Prop where
  sq : Seqs K HX v o
  it : Items K HX o
theorem AskV.same {H' : Hp} {v : V} {o : Option (List V)} (h : AskV K H v o) (s : Same H H') : AskV K H' v o := ⟨Seqs.same s h.sq, Items.same s h.it⟩
theorem AskV.no {v : V} (h : Asks K H v false) : AskV K H v none := ⟨h, fun xs e => by cases e⟩
theorem AskV.lst {p : Addr} {xs : List V} (h : H p = some (.lst xs)) (hz : xs.length < sizeLine) (hi : ∀ x ∈ xs, ∃ q, Asks K H x q) : AskV K H (.ref p) (some xs) := ⟨seqsL h hz, fun ys e => by cases e; exact hi⟩
theorem lik_noP {v1 v2 : V} {o1 o2 : Option (List V)} {x dx : Addr} {H1 : Hp} {Q' : Hp → Prop} (hx : H1 x = none) (hdx : H1 dx = none) (ndx : dx ≠ x) (h1 : AskV K H1 v1 o1) (hF : ∀ xs, o1 = some xs → ∃ p, v1 = .ref p ∧ H1 p = some (.lst xs)) (h2 : AskV K H1 v2 o2) (hb : plB o1 = false) (k : raisesN CB "places" H1 E) :
    jLkI K CB C [.ref x, v1, v2] (upd (upd H1 dx (.own x)) x (.ins C dx [])) (fun v H2 => v = .non ∧ Q' H2) E := by
  rw [jLkI_eq]
  have s : Same H1 (upd (upd H1 dx (.own x)) x (.ins C dx [])) := (same_upd hdx).trans (same_upd (by rw [upd_ne (Ne.symm ndx)]; exact hx))
  refine ⟨x, dx, v1, v2, o1, o2, rfl, upd_same, (h1.same s).sq, (h1.same s).it, fun xs e => ?_, (h2.same s).sq, (h2.same s).it, fun _ => k.same s, fun xs _ e => absurd e (by rw [hb]; decide)⟩
  obtain ⟨p, e1, e2⟩ := hF xs e
  exact ⟨p, e1, .inl (.of (s _ _ e2))⟩
theorem lik_noS {v1 v2 : V} {o2 : Option (List V)} {x dx : Addr} {H1 : Hp} {Q' : Hp → Prop} (L : Lik ps ss) (hx : H1 x = none) (hdx : H1 dx = none) (ndx : dx ≠ x) (h1 : PlV K H1 v1 (ps.map V.int)) (h2 : AskV K H1 v2 o2) (hb : siB o2 ps.length = false) (k : raisesN CB "signs" H1 E) :
    jLkI K CB C [.ref x, v1, v2] (upd (upd H1 dx (.own x)) x (.ins C dx [])) (fun v H2 => v = .non ∧ Q' H2) E := by
  rw [jLkI_eq]
  have s : Same H1 (upd (upd H1 dx (.own x)) x (.ins C dx [])) := (same_upd hdx).trans (same_upd (by rw [upd_ne (Ne.symm ndx)]; exact hx))
  refine ⟨x, dx, v1, v2, _, o2, rfl, upd_same, (h1.same s).seqs, itemsI ps, (h1.same s).ask, (h2.same s).sq, (h2.same s).it, fun e => absurd e (by rw [plB_lik L]; decide), fun xs e _ => ?_⟩
  cases e
  rw [List.length_map]
  exact ⟨fun _ => k.same s, fun ys _ e => absurd e (by rw [hb]; decide)⟩
end
theorem cut_last {xs : List V} (h : 1 ≤ xs.length) : cutV xs none (some (-1)) = xs.dropLast := by
  unfold cutV
  have e1 : HT.sIx xs.length 0 none = 0 := rfl
  have e2 : HT.sIx xs.length xs.length (some (-1)) = xs.length - 1 := by
    show (if (-1 : Int) < 0 then ((-1 : Int) + (xs.length : Nat)).toNat else min (-1 : Int).toNat xs.length) = _
    rw [if_pos (by decide)]
    omega
  rw [e1, e2, List.drop_zero, Nat.sub_zero, List.dropLast_eq_take]
theorem cut_drop (xs : List V) : cutV xs (some 1) none = xs.drop 1 := by
  show (xs.drop (HT.sIx xs.length 0 (some ((1 : Nat) : Int)))).take (xs.length - HT.sIx xs.length 0 (some ((1 : Nat) : Int))) = _
  rw [HT.sIx_nat]
  refine List.ext_getElem? fun i => ?_
  rw [List.getElem?_take, List.getElem?_drop, List.getElem?_drop]
  by_cases hl : xs.length = 0
  · have : xs = [] := List.eq_nil_of_length_eq_zero hl
    subst this
    simp
  · rw [Nat.min_eq_left (by omega)]
    by_cases hi : i < xs.length - 1
    · rw [if_pos hi]
    · rw [if_neg hi, List.getElem?_eq_none (by omega)]
theorem lenB_ne {xs : List V} {n : Nat} (h : xs.length ≠ n) : lenB (some xs) (.int n) (.int n) = false := by
  show (decide ((n : Int) ≤ (xs.length : Int)) && decide ((xs.length : Int) ≤ (n : Int))) = false
  rw [Bool.and_eq_false_iff]
  rcases Nat.lt_or_gt_of_ne h with z | z
  · exact .inl (decide_eq_false (by omega))
  · exact .inr (decide_eq_false (by omega))
theorem ask_ints {K : PySem.W.Frag} {H : Hp} (ns : List Int) : ∀ x ∈ ns.map V.int, ∃ q, Asks K H x q := by
  intro x hx
  obtain ⟨n, _, rfl⟩ := List.mem_map.mp hx
  exact ⟨_, .int n⟩
theorem ask_sub {K : PySem.W.Frag} {H : Hp} {xs ys : List V} (h : ∀ x ∈ xs, ∃ q, Asks K H x q) (s : ∀ y ∈ ys, y ∈ xs) : ∀ x ∈ ys, ∃ q, Asks K H x q := fun x hx => h x (s x hx)
theorem ask_cat {K : PySem.W.Frag} {H : Hp} {xs ys : List V} (h1 : ∀ x ∈ xs, ∃ q, Asks K H x q) (h2 : ∀ x ∈ ys, ∃ q, Asks K H x q) : ∀ x ∈ xs ++ ys, ∃ q, Asks K H x q := fun x hx => (List.mem_append.mp hx).elim (h1 x) (h2 x)
theorem ask_one {K : PySem.W.Frag} {H : Hp} {y : V} {q : Bool} (h : Asks K H y q) : ∀ x ∈ [y], ∃ q, Asks K H x q := fun x hx => by rw [List.mem_singleton.mp hx]; exact ⟨_, h⟩

theorem lc_relC {J : L2.It} {n : Nat} {G : Hp → Prop} {Y : Nat → Hp → V → Hp → Prop} {D : Addr} {te : TE} {g : TG} {vs : List Nat} {σ : L2.St} {H1 : Hp} {Qd : Hp → Prop} {c d : Addr} {ns : List Int} {m : Nat} (R : Nat → V → Prop) (k : Nat) (w : Walk J n G Y) (hD : H1 D = none) (hz : n < sizeLine) (hC : Coil H1 c d ns m) (hG : ∀ H, SameBut c H1 H → G H)
    (hs : ∀ i x H H' m', i < n → SameBut c H1 H → Coil H c d ns m' → m' ≤ m + k * n → Y i H x H' → ∀ Rk : VK, (∀ y H4, R i y → Coil H4 c d ns (m' + k) → SameBut c H H4 → Rk y H4) → g x (wipe σ vs) H' fun σ2 H2 => wipe σ2 vs = wipe σ vs ∧ te σ2 H2 Rk)
    (hd : ∀ H acc, acc.length = n → (∀ (i : Nat) (y : V), acc[i]? = some y → R i y) → H D = some (.lst acc) → Coil H c d ns (m + k * n) → SameBut c H1 H → Qd H) :
    ∃ W : Nat → Nat → Hp → Prop, (∃ m, W 0 m (upd H1 D (.lst []))) ∧ ∀ i m H, W i m H →
      (J.stop i H ∧ Qd H) ∨ (J.go i H ∧ ∃ Nx : Hp → Prop, (∀ H', Nx H' → ∃ m', m' < m ∧ W (i + 1) m' H') ∧ ∀ x H', J.yld i H x H' → g x (wipe σ vs) H' fun σ2 H2 => wipe σ2 vs = wipe σ vs ∧ tYes σ2 H2 fun b H3 =>
        if b = true then te σ2 H3 fun y H4 => ∃ acc, H4 D = some (.lst acc) ∧ acc.length < sizeLine ∧ Nx (upd H4 D (.lst (acc ++ [y]))) else Nx H3) := by
  obtain ⟨nDc, nDd⟩ := hC.ne hD
  refine lc_it w (fun i H => ∃ acc : List V, acc.length = i ∧ H D = some (.lst acc) ∧ (∀ (k : Nat) (y : V), acc[k]? = some y → R k y) ∧ Coil H c d ns (m + k * i) ∧ SameBut c H1 H) ⟨[], rfl, upd_same, (fun k y e => by cases e), hC.upd nDc nDd, new_but hD⟩ (fun i H _ p => hG H (by obtain ⟨_, _, _, _, _, s⟩ := p; exact s)) ?_ ?_
  · rintro i x H H' hi ⟨acc, la, hDa, hr, hC2, sb⟩ hy
    refine hs i x H H' (m + k * i) hi sb hC2 (by have := Nat.mul_le_mul_left k (Nat.le_of_lt hi); omega) hy (fun y H4 => ∃ a2, H4 D = some (.lst a2) ∧ a2.length < sizeLine ∧ ∃ acc : List V, acc.length = i + 1 ∧ upd H4 D (.lst (a2 ++ [y])) D = some (.lst acc) ∧ (∀ (k : Nat) (y : V), acc[k]? = some y → R k y) ∧ Coil (upd H4 D (.lst (a2 ++ [y]))) c d ns (m + k * (i + 1)) ∧ SameBut c H1 (upd H4 D (.lst (a2 ++ [y])))) fun y H4 r hC4 sb4 => ?_
    refine ⟨acc, sb4 _ _ nDc hDa, by omega, acc ++ [y], by rw [List.length_append, la]; rfl, upd_same, fun j z hj => ?_, ?_, fun b o nb e => ?_⟩
    · by_cases hlt : j < acc.length
      · rw [List.getElem?_append_left hlt] at hj
        exact hr j z hj
      · rw [List.getElem?_append_right (by omega)] at hj
        have e0 : j - acc.length = 0 := by
          refine Nat.eq_zero_of_not_pos fun q => ?_
          rw [List.getElem?_eq_none (by show 1 ≤ j - acc.length; omega)] at hj
          cases hj
        rw [e0] at hj
        cases hj
        rw [show j = i from by omega]
        exact r
    · rw [Nat.mul_succ, ← Nat.add_assoc]
      exact hC4.upd nDc nDd
    · rw [upd_ne (ne_of_none e hD)]
      exact sb4 _ _ nb (sb _ _ nb e)
  · rintro H ⟨acc, la, hDa, hr, hC2, sb⟩
    exact hd H acc la hr hDa hC2 sb
theorem siB_ne {xs : List V} {n : Nat} (h : xs.length ≠ n) : siB (some xs) n = false := by
  show (lenB (some xs) (.int n) (.int n) && intsB (some xs) && (intsOf xs).all sgB) = false
  rw [lenB_ne h]
  rfl
def oddS : List V := [.int 0, .int 2, .int (-2), .bl true, .non, .str "1"]
def RS (ss : List Int) (r2 : Int) (i : Nat) (y : V) : Prop := if (i : Int) = r2 then y ∈ oddS else y = .int (ss.getD i 0)
theorem siB_odd {acc : List V} {ss : List Int} {r2 : Int} (h : ∀ (i : Nat) (y : V), acc[i]? = some y → RS ss r2 i y) (r0 : 0 ≤ r2) (r1 : r2 < acc.length) (n : Nat) : siB (some acc) n = false := by
  show (lenB (some acc) (.int n) (.int n) && acc.all isI && (intsOf acc).all sgB) = false
  obtain ⟨j, rfl⟩ : ∃ j : Nat, r2 = j := ⟨r2.toNat, by omega⟩
  have hj : j < acc.length := by omega
  have hy := h j _ (List.getElem?_eq_getElem hj)
  unfold RS at hy
  rw [if_pos rfl] at hy
  cases e : acc.all isI with
  | false => rw [Bool.and_false, Bool.false_and]
  | true =>
    have ex := map_intsOf (xs := acc) e
    have hl : acc.length = (intsOf acc).length := (congrArg List.length ex).trans (List.length_map _)
    have hj2 : j < (intsOf acc).length := by omega
    have e1 : acc[j]? = some (V.int ((intsOf acc)[j]'hj2)) := by
      have e2 : ((intsOf acc).map V.int)[j]? = some (V.int ((intsOf acc)[j]'hj2)) := by rw [List.getElem?_map, List.getElem?_eq_getElem hj2]; rfl
      rw [← ex] at e2
      exact e2
    rw [List.getElem?_eq_getElem hj] at e1
    rw [Option.some.inj e1] at hy
    have hb : (intsOf acc).all sgB = false := by
      rw [List.all_eq_false]
      refine ⟨_, List.getElem_mem hj2, ?_⟩
      simp only [oddS, List.mem_cons, List.not_mem_nil, or_false, V.int.injEq, reduceCtorEq] at hy
      rcases hy with z | z | z <;> rw [z] <;> decide
    rw [hb, Bool.and_false]
theorem ask_RS {K : PySem.W.Frag} {H : Hp} {acc : List V} {ss : List Int} {r2 : Int} (h : ∀ (i : Nat) (y : V), acc[i]? = some y → RS ss r2 i y) : ∀ x ∈ acc, ∃ q, Asks K H x q := by
  intro x hx
  obtain ⟨i, hi⟩ := List.mem_iff_getElem?.mp hx
  have := h i x hi
  unfold RS at this
  split at this
  · simp only [oddS, List.mem_cons, List.not_mem_nil, or_false] at this
    rcases this with rfl | rfl | rfl | rfl | rfl | rfl
    · exact ⟨_, .int _⟩
    · exact ⟨_, .int _⟩
    · exact ⟨_, .int _⟩
    · exact ⟨_, .bl _⟩
    · exact ⟨_, .non⟩
    · exact ⟨_, .str _⟩
  · rw [this]
    exact ⟨_, .int _⟩

theorem plB_parts {xs : List V} (h : plB (some xs) = true) : 2 ≤ xs.length ∧ (intsOf xs).Perm (rng (intsOf xs).length) ∧ xs.length = (intsOf xs).length := by
  have h1' : (lenB (some xs) (.int 2) (.int 6) && intsB (some xs) && permB (intsOf xs)) = true := h
  rw [Bool.and_eq_true, Bool.and_eq_true] at h1'
  have := lenB_of h1'.1.1
  have ex := map_intsOf (xs := xs) h1'.1.2
  exact ⟨by omega, of_decide_eq_true h1'.2, (congrArg List.length ex).trans (List.length_map _)⟩
theorem plB_no0 {xs : List V} (h : (0 : Int) ∉ intsOf xs) : plB (some xs) = false := by
  cases e : plB (some xs) with
  | false => rfl
  | true =>
    obtain ⟨h1, h2, h3⟩ := plB_parts e
    exact absurd (h2.mem_iff.mpr (List.mem_map.mpr ⟨0, List.mem_range.mpr (by omega), rfl⟩)) h
theorem plB_dup {xs : List V} (h : ¬ (intsOf xs).Nodup) : plB (some xs) = false := by
  cases e : plB (some xs) with
  | false => rfl
  | true =>
    obtain ⟨h1, h2, h3⟩ := plB_parts e
    exact absurd (h2.nodup_iff.mpr (rng_nodup _)) h
theorem plB_one {xs : List V} (h : xs.length < 2) : plB (some xs) = false := by
  cases e : plB (some xs) with
  | false => rfl
  | true =>
    obtain ⟨h1, _, _⟩ := plB_parts e
    omega
theorem atI_last {xs : List V} (h : 0 < xs.length) : atI xs (-1) = xs[xs.length - 1]? := by
  unfold atI ixN
  rw [if_neg (by decide), if_pos (by omega)]
  show xs[((-1 : Int) + (xs.length : Int)).toNat]? = _
  rw [show ((-1 : Int) + (xs.length : Int)).toNat = xs.length - 1 from by omega]
/-- places with the one at r1 exchanged for the one ahead of it -/
def ahead (ps : List Int) (r1 : Int) : Int := ps.getD (if r1 = 0 then ps.length - 1 else r1.toNat - 1) 0
def dupL (ps : List Int) (r1 : Int) : List Int := (List.range ps.length).map fun (i : Nat) => if (i : Int) = r1 then ahead ps r1 else ps.getD i 0
theorem dup_len (ps : List Int) (r1 : Int) : (dupL ps r1).length = ps.length := by simp [dupL]
theorem dup_at {ps : List Int} {r1 : Int} {i : Nat} (h : i < ps.length) : (dupL ps r1).getD i 0 = if (i : Int) = r1 then ahead ps r1 else ps.getD i 0 := getD_range (f := fun (i : Nat) => if (i : Int) = r1 then ahead ps r1 else ps.getD i 0) h
theorem dup_bad {ps : List Int} {r1 : Int} (h2 : 2 ≤ ps.length) (r0 : 0 ≤ r1) (r1l : r1 < ps.length) : ¬ (dupL ps r1).Nodup := by
  intro nd
  obtain ⟨j, rfl⟩ : ∃ j : Nat, r1 = j := ⟨r1.toNat, by omega⟩
  have hj : j < ps.length := by omega
  obtain ⟨k, hk, hkj, ek⟩ : ∃ k, k < ps.length ∧ k ≠ j ∧ ahead ps j = ps.getD k 0 := by
    unfold ahead
    by_cases e : (j : Int) = 0
    · exact ⟨ps.length - 1, by omega, by omega, by rw [if_pos e]⟩
    · exact ⟨j - 1, by omega, by omega, by rw [if_neg e, Int.toNat_natCast]⟩
  have e1 := dup_at (ps := ps) (r1 := j) hj
  have e2 := dup_at (ps := ps) (r1 := j) hk
  rw [if_pos rfl, ek] at e1
  rw [if_neg (by omega)] at e2
  have hj' : j < (dupL ps j).length := by rw [dup_len]; exact hj
  have hk' : k < (dupL ps j).length := by rw [dup_len]; exact hk
  rw [getD_of hj'] at e1
  rw [getD_of hk'] at e2
  rcases Nat.lt_or_gt_of_ne hkj with z | z
  · exact (List.pairwise_iff_getElem.mp nd) k j hk' hj' z (by rw [e1, e2])
  · exact (List.pairwise_iff_getElem.mp nd) j k hj' hk' z (by rw [e1, e2])
theorem lik_pos {ps ss : List Int} (L : Lik ps ss) : ∀ p ∈ ps, 0 ≤ p := fun p hp => by
  obtain ⟨j, rfl, _⟩ := L.at hp
  omega
section
variable {P : Program} {w : World} {K : PySem.W.Frag} {mg : Str → Option Value} {base : Heap} {f C CB CP CM CN CS : Addr} {fd : FuncData}
abbrev N_ref : List Str := ["drum", "wide", "places", "signs", "one", "spot", "part", "odd", "place", "at", "wrong", "sign", "value", "point", "other", "number"]
theorem sc_ref : FnScope N_ref ["drum"] (defScope st__law_refused_right) := ⟨rfl, rfl, rfl, by decide +kernel, rfl, by decide +kernel, by decide +kernel⟩
theorem ok_ref {cc PT f1 f2 f3 f6 fh : Addr} {fdh : FuncData} (F : FunC K "_law_refused_right" "_law_refused_right" st__law_refused_right f fd cc) (T : Nm mg) (D : LikX P w K mg base C CB CP CM CN)
    (D__law_drawn : Dn P w K mg base 3 "_law_drawn" f1 ["drum", "wide"] jDrawn) (D__law_point : Dn P w K mg base 3 "_law_point" f2 ["drum", "wide"] jPnt) (D__law_choose : Dn P w K mg base 2 "_law_choose" f3 ["drum", "some"] (spOne K)) (D__law_beat : Dn P w K mg base 1 "_law_beat" f6 ["drum", "many"] spTurn)
    (FH : Fun K "_law_heard" "_law_heard" st__law_heard fh fdh) (bh : Binds K fdh ["ask"] []) (mh : mg "_law_heard" = some (.ref fh)) (kh : PySem.W.keepIn K (.ref fh) = true) (TB : LamX.TabB base mg cc PT) (R : Errs mg CS CB CP CN CM)
    (hB : HrC K CS CB CP CN CM CB "likeness") (hP : HrC K CS CB CP CN CM CP "point") (hN : HrC K CS CB CP CN CM CN "number") (hM : HrC K CS CB CP CN CM CM "misfit") :
    FnG P w K mg base 11 f fd ["drum"] (spRef PT) := by
  obtain ⟨och, odh, kVh, doch, pmh, anh, cdvh, cth, oslh, rfl, lkH, hcdH⟩ := FH.ex
  refine Fun_okC F sc_ref (fun vs H Q E h => ?_) (fun A outer s H vs Q E hG hr h => ?_)
  · obtain ⟨c, d, _, _, rfl, _⟩ := h
    rfl
  · obtain ⟨c, d, ns, m, rfl, hC, hm, hT, k⟩ := h
    obtain ⟨t8, h8, r8⟩ : ∃ t, PSs (cxOf CX0 P w K mg base N_ref "_law_refused_right" (defScope st__law_refused_right) f (.ref cc) A outer s H E).nox ((defBody st__law_refused_right).drop 12) t ∧ ∀ (HX : Hp) (p q a1 LO LW pp : Addr) (n m' : Nat) (r1 r2 : Int) (x12 : Option V) (ps ss : List Int) (H' : Hp), Bs c HX → Same HX H' → Coil H' c d ns m' → m' ≤ m + 1000 → LamX.Tabs [(PT, qL)] H' → ps.length = n → LikAt K HX a1 C ps ss → t { nx := fun _ H' => Q .non H', rt := Q } [some (.ref c), some (.int (n : Nat)), some (.ref p), some (.ref q), some (.ref a1), some (.int r1), some (.int r2), some (.ref LO), none, none, some (.ref LW), none, x12, some (.ref pp), none, none] H' := by
      refine ⟨_, (pss_cons (ps_set (i := 14) sc_ref.nd rfl (Or.inr rfl) (pe_sameL D (hr.mono (by decide)) passL rfl (pa_cons (pe_dn D__law_choose (hr.mono (by decide)) rfl (pa_cons (pv 0) (pa_cons (pe_lc (own := [("number", 15)]) (g := gName 15) (tt := tTest (tOp rNe (tVar 15) (tVar 1))) rfl sc_ref.nd (pi_range2 (by rfl) T.n_range (pa_cons pe_int (pa_cons pe_int pa_nil))) (blkOk_by (N := N_ref) (sc := defScope st__law_refused_right) (by decide +kernel)) (fun _ _ _ _ _ => (pg_name (i := 15) sc_ref.nd rfl (Or.inl rfl))) (fun _ _ _ _ _ => (pts_one (pt_cmpR op_ne (pv 15) (pv 1) (nomark _)))) (fun _ _ _ _ _ => (pv 15))) pa_nil))) pa_nil)))
    (pss_one (ps_ret (pe_and (pe_cmpR (op_eqD hr.units) (LamX.pe_lamcall (k := 8) (T := [(PT, qL)]) (TT := THr K CS CB CP CN CM) (t := fun E => tLk K C (jThen K CB CM C) E (tVar 4) (tCons (tVar 14) tNil)) rfl mh kh lkH hcdH bh sc_heard rfl (Or.inl rfl) (heard_gives R T) TB rfl List.mem_cons_self (fun p hp _ => by cases List.mem_singleton.mp hp; rfl) (hr.mono (by decide)) (LamX.lamS_by (sc := defScope st__law_refused_right) (by decide +kernel)) rfl (fun _ _ _ _ _ => rfl) (fun A outer s H E f c' hr2 => pe_thn D (hr2.mono (by decide)) (passes_call (takes_of rfl rfl rfl rfl) (fun _ _ _ _ h => h)) (pv 4) (pa_cons (pv 14) pa_nil))) (pe_tup (pa_cons pe_str (pa_cons pe_str pa_nil))) (nomark _)) (pe_one (pe_cmpR (op_eqD hr.units) (pe_lamcallD (k := 8) (TS' := [(PT, qL)]) (TT := THr K CS CB CP CN CM) (a1 := "a1") (d0 := .int 0) (t := fun E => tLk K C (jThen K CB CM C) E (tVar 14) (tCons (tVar 4) tNil)) rfl mh kh lkH hcdH bh sc_heard rfl (Or.inl rfl) (heard_gives R T) TB rfl List.mem_cons_self (fun p hp _ => by cases List.mem_singleton.mp hp; rfl) (hr.mono (by decide)) (lamSD_by (N := N_ref) (sc := defScope st__law_refused_right) (by decide +kernel)) rfl rfl pe_int (fun _ _ _ _ _ _ _ _ => ⟨_, rfl, rfl⟩) (fun A outer s H E f c' hr2 => pe_thn D (hr2.mono (by decide)) (passes_call (takes_of rfl rfl rfl rfl) (fun _ _ _ _ h => h)) (pv 14) (pa_cons (pv 4) pa_nil))) (pe_tup (pa_cons pe_str (pa_cons pe_str pa_nil))) (nomark _))))))), ?_⟩
      clear hC hT
      intro HX p q a1 LO LW pp n m' r1 r2 x12 ps ss H1 B sX hC hm' hT ln hA
      have L : Lik ps ss := hA.1
      have n2 := L.n2
      have n6 := L.n6
      refine ⟨_, rfl, _, _, rfl, ⟨by decide, by decide, by decide, by decide⟩, fun D0 hD0 => lc_funF (fun i => !(2 + (i : Int) == (n : Int))) (fun i => V.int (2 + (i : Nat))) (walk_range (lo := 2) (n := 5)) hD0 (by show 5 < sizeLine; decide) (fun _ _ => trivial) ?_ ?_⟩
      · rintro i x H2 H3 hi s2 _ ⟨rfl, rfl⟩ Rt Rk kf kt
        refine ⟨rfl, _, rfl, _, rfl, rfl, ?_⟩
        rw [dec_int]
        refine ⟨_, rfl, ?_⟩
        cases e : (2 + (i : Int) == (n : Int)) with
        | true => exact iteF (kf (by rw [e]; rfl) _ (Same.refl _))
        | false => exact iteT ⟨_, rfl, kt (by rw [e]; rfl) _ (Same.refl _)⟩
      intro H2 hD2 s2
      obtain ⟨hl1, hl2, hmem⟩ : 0 < (((List.range 5).filter (fun (i : Nat) => !(2 + (i : Int) == (n : Int)))).map (fun (i : Nat) => V.int (2 + (i : Nat)))).length ∧ (((List.range 5).filter (fun (i : Nat) => !(2 + (i : Int) == (n : Int)))).map (fun (i : Nat) => V.int (2 + (i : Nat)))).length ≤ 100000 ∧
          ∀ y ∈ (((List.range 5).filter (fun (i : Nat) => !(2 + (i : Int) == (n : Int)))).map (fun (i : Nat) => V.int (2 + (i : Nat)))), ∃ k : Nat, y = .int k ∧ 2 ≤ k ∧ k ≤ 6 ∧ k ≠ n := by
        refine ⟨?_, ?_, fun y hy => ?_⟩
        · rw [List.length_map]
          rcases (show n = 2 ∨ n = 3 ∨ n = 4 ∨ n = 5 ∨ n = 6 from by omega) with e | e | e | e | e <;> rw [e] <;> decide
        · rw [List.length_map]
          exact Nat.le_trans (List.length_filter_le ..) (by rw [List.length_range]; decide)
        · obtain ⟨i, hi, rfl⟩ := List.mem_map.mp hy
          have h1 := List.mem_filter.mp hi
          have h2 := List.mem_range.mp h1.1
          have h3 : ¬ (2 + (i : Int) = (n : Int)) := by simpa using h1.2
          exact ⟨2 + i, by congr 1, by omega, by omega, by omega⟩
      have hC2 := hC.but s2
      have nDc := (hC.ne hD0).1
      refine ⟨c, d, ns, _, false, D0, _, rfl, hC2, by omega, .of (by rw [off_ne nDc]; exact hD2), hl1, hl2, fun i y H3 hy hC3 sb3 => ?_⟩
      obtain ⟨kk, rfl, k2, k6, kn⟩ := hmem y (List.mem_of_getElem? hy)
      refine same_good k2 k6 fun a2 H4 hB s4 => ?_
      have hT4 := (tabs_but (hT.ext s2) hC2 sb3).ext s4
      have sX4 := (B.but (sX.trans s2) sb3).trans s4
      have hC4 := hC3.but s4
      clear hD2 hl1 hl2 hmem hy hC2 hC3 sb3 hC sX hT s2 s4
      have lk : (rng kk).length ≠ ps.length := by rw [rng_len]; omega
      have B4 := bs_off c H4
      have hAo := (hA.same sX4).off hC4
      have hBo := hB.off hC4
      refine ⟨hT4, fun H5 eN T5 Qn => ?_⟩
      have sX5 := B4.ext offT_same eN
      refine ⟨_, rfl, ⟨a1, ps, ss, rfl, hAo.same sX5⟩, _, rfl, then_mis (hAo.same sX5) (hBo.same sX5) lk (heard_raise hM fun p1 H6 s6 hp1 => ?_)⟩
      refine ⟨(by show 2 ≤ sizeLine; decide), fun t1 ht1 => ?_⟩
      have s7 := same_upd (o := .tup [.str "misfit", .str "wide"]) ht1
      refine ⟨_, _, dpT (.of (s7 _ _ hp1)) (by decide +kernel), dpT (.of upd_same) (by decide +kernel), shapedT (by decide +kernel), shapedT (by decide +kernel), _, rfl, ?_⟩
      rw [eqvT_same (by decide +kernel)]
      refine iteT ?_
      have s67 := s6.trans s7
      have T7 := T5.ext s67
      have sX7 := sX5.trans s67
      generalize upd H6 t1 (.tup [.str "misfit", .str "wide"]) = H7 at s7 s67 T7 sX7 ⊢
      refine ⟨T7, fun H8 eN2 T8 Qn2 => ?_⟩
      have sX8 := B4.ext sX7 eN2
      refine ⟨_, rfl, ⟨a2, _, _, rfl, hBo.same sX8⟩, _, rfl, then_mis (hBo.same sX8) (hAo.same sX8) (Ne.symm lk) (heard_raise hM fun p2 H9 s9 hp2 => ?_)⟩
      refine ⟨(by show 2 ≤ sizeLine; decide), fun t2 ht2 => ?_⟩
      have s10 := same_upd (o := .tup [.str "misfit", .str "wide"]) ht2
      refine ⟨_, _, dpT (.of (s10 _ _ hp2)) (by decide +kernel), dpT (.of upd_same) (by decide +kernel), shapedT (by decide +kernel), shapedT (by decide +kernel), ?_⟩
      rw [eqvT_same (by decide +kernel)]
      exact k _
    obtain ⟨t7, h7, r7⟩ : ∃ t, PSs (cxOf CX0 P w K mg base N_ref "_law_refused_right" (defScope st__law_refused_right) f (.ref cc) A outer s H E).nox ((defBody st__law_refused_right).drop 11) t ∧ ∀ (HX : Hp) (p q a1 LO LW pp : Addr) (n m' : Nat) (r1 r2 : Int) (x12 : Option V) (ps ss : List Int) (H' : Hp), Bs c HX → Same HX H' → Coil H' c d ns m' → m' ≤ m + 1000 → LamX.Tabs [(PT, qL)] H' → ps.length = n → LikAt K HX a1 C ps ss → t { nx := fun _ H' => Q .non H', rt := Q } [some (.ref c), some (.int (n : Nat)), some (.ref p), some (.ref q), some (.ref a1), some (.int r1), some (.int r2), some (.ref LO), none, none, some (.ref LW), none, x12, some (.ref pp), none, none] H' := by
      refine ⟨_, (pss_cons (ps_for PassesOwn.never rfl (pi_seqK K (pe_lst (pa_cons pe_int (pa_cons pe_int (pa_cons pe_int (pa_cons (pe_un un_neg pe_int) (pa_cons pe_non (pa_cons pe_bl (pa_cons pe_str (pa_cons (pe_lst (pa_cons pe_int pa_nil)) pa_nil)))))))))) (pg_name (i := 12) sc_ref.nd rfl (Or.inr rfl))
      (pss_one (ps_if (pt_cmpR (op_neD hr.units) (LamX.pe_lamcall (k := 8) (T := [(PT, qL)]) (TT := THr K CS CB CP CN CM) (t := fun E => fun σ H Q => tCons (tVar 12) tNil σ H fun vs H1 => jSame K CN C vs H1 Q E) rfl mh kh lkH hcdH bh sc_heard rfl (Or.inl rfl) (heard_gives R T) TB rfl List.mem_cons_self (fun p hp _ => by cases List.mem_singleton.mp hp; rfl) (hr.mono (by decide)) (LamX.lamS_by (sc := defScope st__law_refused_right) (by decide +kernel)) rfl (fun _ _ _ _ _ => rfl) (fun A outer s H E f c' hr2 => pe_sameL D (hr2.mono (by decide)) (passes_call (takes_of rfl rfl rfl rfl) (fun _ _ _ _ h => h)) rfl (pa_cons (pv 12) pa_nil))) (pe_tup (pa_cons pe_str (pa_cons pe_str pa_nil))) (nomark _)) (pss_one (ps_ret pe_bl)) pss_nil)))
    h8), ?_⟩
      clear hC hT
      intro HX p q a1 LO LW pp n m' r1 r2 x12 ps ss H1 B sX hC hm' hT ln hA
      refine ⟨_, rfl, (by show 1 ≤ sizeLine; decide), fun l1 hl1 => ?_⟩
      have g1 := same_upd (o := .lst [.int 2]) hl1
      have y1 : upd H1 l1 (.lst [.int 2]) l1 = some (.lst [.int 2]) := upd_same
      generalize upd H1 l1 (.lst [.int 2]) = G1 at g1 y1 ⊢
      refine ⟨(by show 8 ≤ sizeLine; decide), fun LA hLA => ?_⟩
      have nLc : LA ≠ c := ((hC.but g1).ne hLA).1
      have n1c : l1 ≠ c := (hC.ne hl1).1
      generalize hg2 : upd G1 LA _ = H2
      have g2 : Same G1 H2 := by rw [← hg2]; exact same_upd hLA
      have zL : H2 LA = some (.lst [V.int 1, .int 7, .int 0, .int (-2), .non, .bl true, .str "2", .ref l1]) := by rw [← hg2, upd_same]
      clear hg2
      have y1 := g2 _ _ y1
      have g12 := g1.trans g2
      have hC2 := hC.but g12
      have hT2 := hT.ext g12
      have sX2 := sX.trans g12
      have hA2 := (hA.same sX2).off hC2
      have zLo := offT_get zL nLc (fun ps e => by cases e)
      have y1o := offT_get y1 n1c (fun ps e => by cases e)
      have all : ∀ x ∈ [V.int 1, .int 7, .int 0, .int (-2), .non, .bl true, .str "2", .ref l1], ∃ q, Asks K (OffT c H2) x q ∧ within x (.int 2) (.int 6) = false := by
        intro x hx
        simp only [List.mem_cons, List.not_mem_nil, or_false] at hx
        rcases hx with rfl | rfl | rfl | rfl | rfl | rfl | rfl | rfl
        · exact ⟨_, .int _, by decide⟩
        · exact ⟨_, .int _, by decide⟩
        · exact ⟨_, .int _, by decide⟩
        · exact ⟨_, .int _, by decide⟩
        · exact ⟨_, .non, rfl⟩
        · exact ⟨_, .bl _, rfl⟩
        · exact ⟨_, .str _, rfl⟩
        · exact ⟨_, .lst y1o, rfl⟩
      have B2 := bs_off c H2
      refine ⟨false, LA, rfl, ⟨_, .of zL⟩, for_it (walk_seq (b := false) (xs := [V.int 1, .int 7, .int 0, .int (-2), .non, .bl true, .str "2", .ref l1])) (fun i σ H6 => ∃ (x12 : Option V), σ = [some (.ref c), some (.int (n : Nat)), some (.ref p), some (.ref q), some (.ref a1), some (.int r1), some (.int r2), some (.ref LO), none, none, some (.ref LW), none, x12, some (.ref pp), none, none] ∧ Same (OffT c H2) H6 ∧ Coil H6 c d ns m' ∧ LamX.Tabs [(PT, qL)] H6) ⟨x12, rfl, offT_same, hC2, hT2⟩ (fun i σ H6 _ h => ?_) ?_ ?_⟩
      · obtain ⟨_, _, h, _⟩ := h
        exact .of (h _ _ zLo)
      · rintro i x σ H6 H7 hi ⟨x12, rfl, s6, hC6, hT6⟩ ⟨rfl, hx⟩
        obtain ⟨qq, hq1, hq2⟩ := all x (List.mem_of_getElem? hx)
        refine ⟨hT6, fun H8 eN T8 Qn => ?_⟩
        have s8 := B2.ext s6 eN
        have hC8 := hC6.ext eN
        refine ⟨_, rfl, same_no (hq1.same s8) hq2 (heard_raise hN fun p1 H9 s9 hp9 => ?_)⟩
        refine ⟨(by show 2 ≤ sizeLine; decide), fun t1 ht1 => ?_⟩
        have s10 := same_upd (o := .tup [.str "number", .str "wide"]) ht1
        refine ⟨_, _, dpT (.of (s10 _ _ hp9)) (by decide +kernel), dpT (.of upd_same) (by decide +kernel), shapedT (by decide +kernel), shapedT (by decide +kernel), ?_⟩
        rw [eqvT_same (by decide +kernel)]
        refine ⟨_, rfl, iteF ?_⟩
        have s910 := s9.trans s10
        exact ⟨_, rfl, s8.trans s910, hC8.but s910, T8.ext s910⟩
      · rintro σ H6 ⟨x12, rfl, s6, hC6, hT6⟩
        exact r8 (OffT c H2) p q a1 LO LW pp n m' r1 r2 x12 ps ss H6 B2 s6 hC6 hm' hT6 ln hA2
    obtain ⟨t6, h6, r6⟩ : ∃ t, PSs (cxOf CX0 P w K mg base N_ref "_law_refused_right" (defScope st__law_refused_right) f (.ref cc) A outer s H E).nox ((defBody st__law_refused_right).drop 10) t ∧ ∀ (HX : Hp) (p q a1 LO LW pp : Addr) (n m' : Nat) (r1 r2 : Int) (x12 : Option V) (ps ss : List Int) (H' : Hp), Bs c HX → Same HX H' → Coil H' c d ns m' → m' ≤ m + 1000 → LamX.Tabs [(PT, qL)] H' → ps.length = n → LikAt K HX a1 C ps ss → HX p = some (.lst (ps.map V.int)) → HX q = some (.lst (ss.map V.int)) → t { nx := fun _ H' => Q .non H', rt := Q } [some (.ref c), some (.int (n : Nat)), some (.ref p), some (.ref q), some (.ref a1), some (.int r1), some (.int r2), some (.ref LO), none, none, some (.ref LW), none, x12, some (.ref pp), none, none] H' := by
      refine ⟨_, (pss_cons (ps_for PassesOwn.never rfl (pi_seqK K (pe_lst (pa_cons pe_non (pa_cons pe_int (pa_cons (pv 2) (pa_cons (pe_tup (pa_cons (pe_callTy (call_tupK K) (by rfl) T.n_tuple (by decide +kernel) (pa_cons (pv 2) pa_nil)) (pa_cons (pe_callTy (call_tupK K) (by rfl) T.n_tuple (by decide +kernel) (pa_cons (pv 3) pa_nil)) pa_nil))) (pa_cons (pe_lst (pa_cons (pv 4) pa_nil)) pa_nil))))))) (pg_name (i := 12) sc_ref.nd rfl (Or.inr rfl))
      (pss_one (ps_if (pt_cmpR (op_neD hr.units) (LamX.pe_lamcall (k := 8) (T := [(PT, qL)]) (TT := THr K CS CB CP CN CM) (t := fun E => tLk K C (jThen K CB CM C) E (tVar 4) (tCons (tVar 12) tNil)) rfl mh kh lkH hcdH bh sc_heard rfl (Or.inl rfl) (heard_gives R T) TB rfl List.mem_cons_self (fun p hp _ => by cases List.mem_singleton.mp hp; rfl) (hr.mono (by decide)) (LamX.lamS_by (sc := defScope st__law_refused_right) (by decide +kernel)) rfl (fun _ _ _ _ _ => rfl) (fun A outer s H E f c' hr2 => pe_thn D (hr2.mono (by decide)) (passes_call (takes_of rfl rfl rfl rfl) (fun _ _ _ _ h => h)) (pv 4) (pa_cons (pv 12) pa_nil))) (pe_tup (pa_cons pe_str (pa_cons pe_str pa_nil))) (nomark _)) (pss_one (ps_ret pe_bl)) pss_nil)))
    h7), ?_⟩
      clear hC hT
      intro HX p q a1 LO LW pp n m' r1 r2 x12 ps ss H1 B sX hC hm' hT ln hA hp hq
      refine ⟨_, rfl, _, rfl, false, p, _, rfl, .of (sX _ _ hp), fun _ l1 hl1 => ?_, fun z => by cases z⟩
      have g1 := same_upd (o := .tup (ps.map V.int)) hl1
      generalize upd H1 l1 (.tup (ps.map V.int)) = G1 at g1 ⊢
      refine ⟨_, rfl, false, q, _, rfl, .of (g1 _ _ (sX _ _ hq)), fun _ l2 hl2 => ?_, fun z => by cases z⟩
      have g2 := same_upd (o := .tup (ss.map V.int)) hl2
      generalize upd G1 l2 (.tup (ss.map V.int)) = G2 at g2 ⊢
      refine ⟨(by show 2 ≤ sizeLine; decide), fun l3 hl3 => ?_⟩
      have g3 := same_upd (o := .tup [.ref l1, .ref l2]) hl3
      have y3 : upd G2 l3 (.tup [.ref l1, .ref l2]) l3 = some (.tup [.ref l1, .ref l2]) := upd_same
      generalize upd G2 l3 (.tup [.ref l1, .ref l2]) = G3 at g3 y3 ⊢
      have g13 := g1.trans (g2.trans g3)
      have hC2 := hC.but (g1.trans g2)
      have n3c : l3 ≠ c := (hC2.ne hl3).1
      refine ⟨_, rfl, (by show 1 ≤ sizeLine; decide), fun l4 hl4 => ?_⟩
      have g4 := same_upd (o := .lst [.ref a1]) hl4
      have y4 : upd G3 l4 (.lst [.ref a1]) l4 = some (.lst [.ref a1]) := upd_same
      have hC3 := hC.but g13
      have n4c : l4 ≠ c := (hC3.ne hl4).1
      generalize upd G3 l4 (.lst [.ref a1]) = G4 at g4 y4 ⊢
      have g14 := g13.trans g4
      refine ⟨(by show 5 ≤ sizeLine; decide), fun LA hLA => ?_⟩
      have nLc : LA ≠ c := ((hC.but g14).ne hLA).1
      generalize hg2 : upd G4 LA _ = H2
      have g5 : Same G4 H2 := by rw [← hg2]; exact same_upd hLA
      have zL : H2 LA = some (.lst [V.non, .int 7, .ref p, .ref l3, .ref l4]) := by rw [← hg2, upd_same]
      clear hg2
      have g15 := g14.trans g5
      have hC2 := hC.but g15
      have hT2 := hT.ext g15
      have sX2 := sX.trans g15
      have hA2 := (hA.same sX2).off hC2
      have zLo := offT_get zL nLc (fun ps e => by cases e)
      have y3o := offT_get (g5 _ _ (g4 _ _ y3)) n3c (fun ps e => by cases e)
      have y4o := offT_get (g5 _ _ y4) n4c (fun ps e => by cases e)
      have hpo := B.off sX2 _ _ hp
      have all : ∀ x ∈ [V.non, .int 7, .ref p, .ref l3, .ref l4], NoLik K C (OffT c H2) x := by
        intro x hx
        simp only [List.mem_cons, List.not_mem_nil, or_false] at hx
        rcases hx with rfl | rfl | rfl | rfl | rfl
        · exact .non D.U
        · exact .int D.U _
        · exact .lst D.U hpo
        · exact .tup D.U y3o
        · exact .lst D.U y4o
      have B2 := bs_off c H2
      refine ⟨false, LA, rfl, ⟨_, .of zL⟩, for_it (walk_seq (b := false) (xs := [V.non, .int 7, .ref p, .ref l3, .ref l4])) (fun i σ H6 => ∃ (x12 : Option V), σ = [some (.ref c), some (.int (n : Nat)), some (.ref p), some (.ref q), some (.ref a1), some (.int r1), some (.int r2), some (.ref LO), none, none, some (.ref LW), none, x12, some (.ref pp), none, none] ∧ Same (OffT c H2) H6 ∧ Coil H6 c d ns m' ∧ LamX.Tabs [(PT, qL)] H6) ⟨x12, rfl, offT_same, hC2, hT2⟩ (fun i σ H6 _ h => ?_) ?_ ?_⟩
      · obtain ⟨_, _, h, _⟩ := h
        exact .of (h _ _ zLo)
      · rintro i x σ H6 H7 hi ⟨x12, rfl, s6, hC6, hT6⟩ ⟨rfl, hx⟩
        have hno := all x (List.mem_of_getElem? hx)
        refine ⟨hT6, fun H8 eN T8 Qn => ?_⟩
        have s8 := B2.ext s6 eN
        have hC8 := hC6.ext eN
        refine ⟨_, rfl, ⟨a1, ps, ss, rfl, hA2.same s8⟩, _, rfl, then_no (hA2.same s8) (hno.same s8) (heard_raise hB fun p1 H9 s9 hp9 => ?_)⟩
        refine ⟨(by show 2 ≤ sizeLine; decide), fun t1 ht1 => ?_⟩
        have s10 := same_upd (o := .tup [.str "likeness", .str "other"]) ht1
        refine ⟨_, _, dpT (.of (s10 _ _ hp9)) (by decide +kernel), dpT (.of upd_same) (by decide +kernel), shapedT (by decide +kernel), shapedT (by decide +kernel), ?_⟩
        rw [eqvT_same (by decide +kernel)]
        refine ⟨_, rfl, iteF ?_⟩
        have s910 := s9.trans s10
        exact ⟨_, rfl, s8.trans s910, hC8.but s910, T8.ext s910⟩
      · rintro σ H6 ⟨x12, rfl, s6, hC6, hT6⟩
        exact r7 (OffT c H2) p q a1 LO LW pp n m' r1 r2 x12 ps ss H6 B2 s6 hC6 hm' hT6 ln hA2
    obtain ⟨t5, h5, r5⟩ : ∃ t, PSs (cxOf CX0 P w K mg base N_ref "_law_refused_right" (defScope st__law_refused_right) f (.ref cc) A outer s H E).nox ((defBody st__law_refused_right).drop 8) t ∧ ∀ (HX : Hp) (p q a1 LO LW : Addr) (n m' : Nat) (r1 r2 : Int) (x12 : Option V) (ps ss : List Int) (H' : Hp), Bs c HX → Same HX H' → Coil H' c d ns m' → m' ≤ m + 900 → LamX.Tabs [(PT, qL)] H' → ps.length = n → LikAt K HX a1 C ps ss → HX p = some (.lst (ps.map V.int)) → HX q = some (.lst (ss.map V.int)) → t { nx := fun _ H' => Q .non H', rt := Q } [some (.ref c), some (.int (n : Nat)), some (.ref p), some (.ref q), some (.ref a1), some (.int r1), some (.int r2), some (.ref LO), none, none, some (.ref LW), none, x12, none, none, none] H' := by
      refine ⟨_, (pss_cons (ps_set (i := 13) sc_ref.nd rfl (Or.inl rfl) (pe_dn D__law_point (hr.mono (by decide)) rfl (pa_cons (pv 0) (pa_cons (pv 1) pa_nil))))
    (pss_cons (ps_for PassesOwn.never rfl (pi_seqK K (pe_lst (pa_cons pe_non (pa_cons pe_int (pa_cons (pe_slice sl_list (pv 13) po_none (po_some (pe_un un_neg pe_int))) (pa_cons (pe_op op_cat (pv 13) (pe_lst (pa_cons pe_int pa_nil))) (pa_cons pe_str (pa_cons (pe_op op_cat (pe_lst (pa_cons pe_bl pa_nil)) (pe_slice sl_list (pv 13) (po_some pe_int) po_none)) (pa_cons (pe_op op_cat (pe_lst (pa_cons pe_non pa_nil)) (pe_slice sl_list (pv 13) (po_some pe_int) po_none)) (pa_cons (pv 4) (pa_cons pe_dnewK pa_nil))))))))))) (pg_name (i := 12) sc_ref.nd rfl (Or.inr rfl))
      (pss_one (ps_if (pt_cmpR (op_neD hr.units) (LamX.pe_lamcall (k := 8) (T := [(PT, qL)]) (TT := THr K CS CB CP CN CM) (t := fun E => tLk K C (jLed K CP C) E (tVar 4) (tCons (tVar 12) tNil)) rfl mh kh lkH hcdH bh sc_heard rfl (Or.inl rfl) (heard_gives R T) TB rfl List.mem_cons_self (fun p hp _ => by cases List.mem_singleton.mp hp; rfl) (hr.mono (by decide)) (LamX.lamS_by (sc := defScope st__law_refused_right) (by decide +kernel)) rfl (fun _ _ _ _ _ => rfl) (fun A outer s H E f c' hr2 => pe_led D (hr2.mono (by decide)) (passes_call (takes_of rfl rfl rfl rfl) (fun _ _ _ _ h => h)) (pv 4) (pa_cons (pv 12) pa_nil))) (pe_tup (pa_cons pe_str (pa_cons pe_str pa_nil))) (nomark _)) (pss_one (ps_ret pe_bl)) pss_nil)))
    h6)), ?_⟩
      clear hC hT
      intro HX p q a1 LO LW n m' r1 r2 x12 ps ss H1 B sX hC hm' hT ln hA hp hq
      have L : Lik ps ss := hA.1
      have n2 := L.n2
      have n6 := L.n6
      refine ⟨_, rfl, _, rfl, point_good hC (by omega) (by omega) fun pp pt G0 lpt hbig nppc hppn hpp hC0 sb0 => ?_⟩
      have hT0 := tabs_but hT hC sb0
      have sX0 := B.but sX sb0
      have lpm : (pt.map V.int).length = n := by rw [List.length_map]; exact lpt
      clear hT hC sb0 sX
      -- point[:-1]
      refine ⟨_, rfl, _, rfl, _, rfl, pp, _, rfl, .of hpp, fun l1 hl1 => ?_⟩
      rw [cut_last (by rw [lpm]; omega)]
      have g1 := same_upd (o := .lst (pt.map V.int).dropLast) hl1
      have y1 : upd G0 l1 (.lst (pt.map V.int).dropLast) l1 = some (.lst (pt.map V.int).dropLast) := upd_same
      have n1 : l1 ≠ c := (hC0.ne hl1).1
      generalize upd G0 l1 (.lst (pt.map V.int).dropLast) = G1 at g1 y1 ⊢
      have hC1 := hC0.but g1
      -- point + [1]
      refine ⟨_, rfl, (by show 1 ≤ sizeLine; decide), fun l2 hl2 => ?_⟩
      have g2 := same_upd (o := .lst [.int 1]) hl2
      have y2 : upd G1 l2 (.lst [.int 1]) l2 = some (.lst [.int 1]) := upd_same
      generalize upd G1 l2 (.lst [.int 1]) = G2 at g2 y2 ⊢
      have g02 := g1.trans g2
      refine ⟨pp, l2, _, _, rfl, rfl, g02 _ _ hpp, y2, (by rw [lpm]; exact Nat.le_trans (by show n + 1 ≤ 7; omega) (by decide)), fun l3 hl3 => ?_⟩
      have g3 := same_upd (o := .lst (pt.map V.int ++ [.int 1])) hl3
      have y3 : upd G2 l3 (.lst (pt.map V.int ++ [.int 1])) l3 = some (.lst (pt.map V.int ++ [.int 1])) := upd_same
      have n3 : l3 ≠ c := ((hC0.but g02).ne hl3).1
      generalize upd G2 l3 (.lst (pt.map V.int ++ [.int 1])) = G3 at g3 y3 ⊢
      have g03 := g02.trans g3
      -- [True] + point[1:]
      refine ⟨(by show 1 ≤ sizeLine; decide), fun l4 hl4 => ?_⟩
      have g4 := same_upd (o := .lst [.bl true]) hl4
      have y4 : upd G3 l4 (.lst [.bl true]) l4 = some (.lst [.bl true]) := upd_same
      generalize upd G3 l4 (.lst [.bl true]) = G4 at g4 y4 ⊢
      have g04 := g03.trans g4
      refine ⟨_, rfl, _, rfl, pp, _, rfl, .of (g04 _ _ hpp), fun l5 hl5 => ?_⟩
      rw [cut_drop]
      have g5 := same_upd (o := .lst ((pt.map V.int).drop 1)) hl5
      have y5 : upd G4 l5 (.lst ((pt.map V.int).drop 1)) l5 = some (.lst ((pt.map V.int).drop 1)) := upd_same
      generalize upd G4 l5 (.lst ((pt.map V.int).drop 1)) = G5 at g5 y5 ⊢
      have g05 := g04.trans g5
      refine ⟨l4, l5, _, _, rfl, rfl, g5 _ _ y4, y5, (by rw [List.length_drop, lpm]; exact Nat.le_trans (by show 1 + (n - 1) ≤ 7; omega) (by decide)), fun l6 hl6 => ?_⟩
      have g6 := same_upd (o := .lst ([.bl true] ++ (pt.map V.int).drop 1)) hl6
      have y6 : upd G5 l6 (.lst ([.bl true] ++ (pt.map V.int).drop 1)) l6 = some (.lst ([.bl true] ++ (pt.map V.int).drop 1)) := upd_same
      have n6c : l6 ≠ c := ((hC0.but g05).ne hl6).1
      generalize upd G5 l6 (.lst ([.bl true] ++ (pt.map V.int).drop 1)) = G6 at g6 y6 ⊢
      have g06 := g05.trans g6
      -- [None] + point[1:]
      refine ⟨(by show 1 ≤ sizeLine; decide), fun l7 hl7 => ?_⟩
      have g7 := same_upd (o := .lst [.non]) hl7
      have y7 : upd G6 l7 (.lst [.non]) l7 = some (.lst [.non]) := upd_same
      generalize upd G6 l7 (.lst [.non]) = G7 at g7 y7 ⊢
      have g07 := g06.trans g7
      refine ⟨_, rfl, _, rfl, pp, _, rfl, .of (g07 _ _ hpp), fun l8 hl8 => ?_⟩
      rw [cut_drop]
      have g8 := same_upd (o := .lst ((pt.map V.int).drop 1)) hl8
      have y8 : upd G7 l8 (.lst ((pt.map V.int).drop 1)) l8 = some (.lst ((pt.map V.int).drop 1)) := upd_same
      generalize upd G7 l8 (.lst ((pt.map V.int).drop 1)) = G8 at g8 y8 ⊢
      have g08 := g07.trans g8
      refine ⟨l7, l8, _, _, rfl, rfl, g8 _ _ y7, y8, (by rw [List.length_drop, lpm]; exact Nat.le_trans (by show 1 + (n - 1) ≤ 7; omega) (by decide)), fun l9 hl9 => ?_⟩
      have g9 := same_upd (o := .lst ([.non] ++ (pt.map V.int).drop 1)) hl9
      have y9 : upd G8 l9 (.lst ([.non] ++ (pt.map V.int).drop 1)) l9 = some (.lst ([.non] ++ (pt.map V.int).drop 1)) := upd_same
      have n9c : l9 ≠ c := ((hC0.but g08).ne hl9).1
      generalize upd G8 l9 (.lst ([.non] ++ (pt.map V.int).drop 1)) = G9 at g9 y9 ⊢
      have g09 := g08.trans g9
      refine ⟨_, rfl, fun l10 hl10 => ?_⟩
      have g10 := same_upd (o := .dK []) hl10
      have y10 : upd G9 l10 (.dK []) l10 = some (.dK []) := upd_same
      have n10c : l10 ≠ c := ((hC0.but g09).ne hl10).1
      generalize upd G9 l10 (.dK []) = G10 at g10 y10 ⊢
      have g010 := g09.trans g10
      refine ⟨(by show 9 ≤ sizeLine; decide), fun LA hLA => ?_⟩
      have nLc : LA ≠ c := ((hC0.but g010).ne hLA).1
      generalize hg2 : upd G10 LA _ = H2
      have g11 : Same G10 H2 := by rw [← hg2]; exact same_upd hLA
      have zL : H2 LA = some (.lst [V.non, .int 3, .ref l1, .ref l3, .str "12", .ref l6, .ref l9, .ref a1, .ref l10]) := by rw [← hg2, upd_same]
      clear hg2
      have ga := g010.trans g11
      have hC2 := hC0.but ga
      have hT2 := hT0.ext ga
      have sX2 := sX0.trans ga
      have hA2 := (hA.same sX2).off hC2
      have hp2 := B.off sX2 _ _ hp
      have hq2 := B.off sX2 _ _ hq
      have zLo := offT_get zL nLc (fun ps e => by cases e)
      have w1 := offT_get ((g2.trans (g3.trans (g4.trans (g5.trans (g6.trans (g7.trans (g8.trans (g9.trans (g10.trans g11))))))))) _ _ y1) n1 (fun ps e => by cases e)
      have w3 := offT_get ((g4.trans (g5.trans (g6.trans (g7.trans (g8.trans (g9.trans (g10.trans g11))))))) _ _ y3) n3 (fun ps e => by cases e)
      have w6 := offT_get ((g7.trans (g8.trans (g9.trans (g10.trans g11)))) _ _ y6) n6c (fun ps e => by cases e)
      have w9 := offT_get ((g10.trans g11) _ _ y9) n9c (fun ps e => by cases e)
      have w10 := offT_get (g11 _ _ y10) n10c (fun ps e => by cases e)
      have hAo := hA2
      obtain ⟨_, dx, _, _, fs, hins, _⟩ := hAo
      have aI : ∀ HX, ∀ x ∈ pt.map V.int, ∃ q, Asks K HX x q := fun HX => ask_ints pt
      have aD : ∀ HX, ∀ x ∈ (pt.map V.int).drop 1, ∃ q, Asks K HX x q := fun HX => ask_sub (aI HX) fun y hy => List.mem_of_mem_drop hy
      have all : ∀ x ∈ [V.non, .int 3, .ref l1, .ref l3, .str "12", .ref l6, .ref l9, .ref a1, .ref l10], ∃ o, AskV K (OffT c H2) x o ∧ (lenB o (.int ps.length) (.int ps.length) && intsB o) = false := by
        intro x hx
        simp only [List.mem_cons, List.not_mem_nil, or_false] at hx
        rcases hx with rfl | rfl | rfl | rfl | rfl | rfl | rfl | rfl | rfl
        · exact ⟨_, .no .non, rfl⟩
        · exact ⟨_, .no (.int _), rfl⟩
        · refine ⟨_, .lst w1 (by rw [List.length_dropLast, lpm]; exact six (by omega)) (ask_sub (aI _) fun y hy => List.dropLast_subset _ hy), ?_⟩
          rw [lenB_ne (by rw [List.length_dropLast, lpm]; omega)]
          rfl
        · refine ⟨_, .lst w3 (by rw [List.length_append, lpm]; exact Nat.lt_of_le_of_lt (by show n + 1 ≤ 7; omega) (by decide)) (ask_cat (aI _) (ask_one (.int 1))), ?_⟩
          rw [lenB_ne (by rw [List.length_append, lpm]; show n + 1 ≠ _; omega)]
          rfl
        · exact ⟨_, .no (.str _), rfl⟩
        · exact ⟨_, .lst w6 (by rw [List.length_append, List.length_drop, lpm]; exact Nat.lt_of_le_of_lt (by show 1 + (n - 1) ≤ 7; omega) (by decide)) (ask_cat (ask_one (.bl true)) (aD _)), Bool.and_false _⟩
        · exact ⟨_, .lst w9 (by rw [List.length_append, List.length_drop, lpm]; exact Nat.lt_of_le_of_lt (by show 1 + (n - 1) ≤ 7; omega) (by decide)) (ask_cat (ask_one .non) (aD _)), Bool.and_false _⟩
        · exact ⟨_, .no (.lik D.U hins), rfl⟩
        · exact ⟨_, .no (.dict w10), rfl⟩
      have B2 := bs_off c H2
      refine ⟨false, LA, rfl, ⟨_, .of zL⟩, for_it (walk_seq (b := false) (xs := [V.non, .int 3, .ref l1, .ref l3, .str "12", .ref l6, .ref l9, .ref a1, .ref l10])) (fun i σ H6 => ∃ (x12 : Option V), σ = [some (.ref c), some (.int (n : Nat)), some (.ref p), some (.ref q), some (.ref a1), some (.int r1), some (.int r2), some (.ref LO), none, none, some (.ref LW), none, x12, some (.ref pp), none, none] ∧ Same (OffT c H2) H6 ∧ Coil H6 c d ns (m' + n + 1) ∧ LamX.Tabs [(PT, qL)] H6) ⟨x12, rfl, offT_same, hC2, hT2⟩ (fun i σ H6 _ h => ?_) ?_ ?_⟩
      · obtain ⟨_, _, h, _⟩ := h
        exact .of (h _ _ zLo)
      · rintro i x σ H6 H7 hi ⟨x12, rfl, s6, hC6, hT6⟩ ⟨rfl, hx⟩
        obtain ⟨o, ha1, ha2⟩ := all x (List.mem_of_getElem? hx)
        refine ⟨hT6, fun H8 eN T8 Qn => ?_⟩
        have s8 := B2.ext s6 eN
        have hC8 := hC6.ext eN
        refine ⟨_, rfl, ⟨a1, ps, ss, rfl, hA2.same s8⟩, _, rfl, led_no (hA2.same s8) (ha1.same s8).sq (ha1.same s8).it ha2 (heard_raise hP fun p1 H9 s9 hp9 => ?_)⟩
        refine ⟨(by show 2 ≤ sizeLine; decide), fun t1 ht1 => ?_⟩
        have s10 := same_upd (o := .tup [.str "point", .str "point"]) ht1
        refine ⟨_, _, dpT (.of (s10 _ _ hp9)) (by decide +kernel), dpT (.of upd_same) (by decide +kernel), shapedT (by decide +kernel), shapedT (by decide +kernel), ?_⟩
        rw [eqvT_same (by decide +kernel)]
        refine ⟨_, rfl, iteF ?_⟩
        have s910 := s9.trans s10
        exact ⟨_, rfl, s8.trans s910, hC8.but s910, T8.ext s910⟩
      · rintro σ H6 ⟨x12, rfl, s6, hC6, hT6⟩
        exact r6 (OffT c H2) p q a1 LO LW pp n _ r1 r2 x12 ps ss H6 B2 s6 hC6 (by omega) hT6 ln hA2 hp2 hq2
    obtain ⟨t4, h4, r4⟩ : ∃ t, PSs (cxOf CX0 P w K mg base N_ref "_law_refused_right" (defScope st__law_refused_right) f (.ref cc) A outer s H E).nox ((defBody st__law_refused_right).drop 7) t ∧ ∀ (HX : Hp) (p q a1 LO LW : Addr) (n m' : Nat) (r1 r2 : Int) (x12 : Option V) (ps ss : List Int) (ys : List V) (H' : Hp), Bs c HX → Same HX H' → Coil H' c d ns m' → m' ≤ m + 900 → LamX.Tabs [(PT, qL)] H' → ps.length = n → LikAt K HX a1 C ps ss → HX p = some (.lst (ps.map V.int)) → HX q = some (.lst (ss.map V.int)) → HX LW = some (.lst ys) → (∀ y ∈ ys, ∃ o, AskV K HX y o ∧ siB o ps.length = false) → t { nx := fun _ H' => Q .non H', rt := Q } [some (.ref c), some (.int (n : Nat)), some (.ref p), some (.ref q), some (.ref a1), some (.int r1), some (.int r2), some (.ref LO), none, none, some (.ref LW), none, x12, none, none, none] H' := by
      refine ⟨_, (pss_cons (ps_for PassesOwn.never rfl (pi_seqK K (pv 10)) (pg_name (i := 12) sc_ref.nd rfl (Or.inr rfl))
      (pss_one (ps_if (pt_cmpR (op_neD hr.units) (LamX.pe_lamcall (k := 8) (T := [(PT, qL)]) (TT := THr K CS CB CP CN CM) (t := fun E => tMake C (jLkI K CB C) [] E (tCons (tCB (rTupF K) (tCons (tVar 2) tNil)) (tCons (tVar 12) tNil))) rfl mh kh lkH hcdH bh sc_heard rfl (Or.inl rfl) (heard_gives R T) TB rfl List.mem_cons_self (fun p hp _ => by cases List.mem_singleton.mp hp; rfl) (hr.mono (by decide)) (LamX.lamS_by (sc := defScope st__law_refused_right) (by decide +kernel)) rfl (fun _ _ _ _ _ => rfl) (fun A outer s H E f c' hr2 => pe_likJ D.M (hr2.mono (by decide)) (passes_call (takes_of rfl rfl rfl rfl) (fun _ _ _ _ h => h)) rfl (pa_cons (pe_callTy (call_tupF K) (by rfl) T.n_tuple (by decide +kernel) (pa_cons (pv 2) pa_nil)) (pa_cons (pv 12) pa_nil)))) (pe_tup (pa_cons pe_str (pa_cons pe_str pa_nil))) (nomark _)) (pss_one (ps_ret pe_bl)) pss_nil)))
    h5), ?_⟩
      clear hC hT
      intro HX p q a1 LO LW n m' r1 r2 x12 ps ss ys H1 B sX hC hm' hT ln hA hp hq hW all
      have L : Lik ps ss := hA.1
      have n6 := L.n6
      refine ⟨_, rfl, false, LW, rfl, ⟨_, .of (sX _ _ hW)⟩, for_it (walk_seq (b := false) (xs := ys)) (fun i σ H6 => ∃ (x12 : Option V), σ = [some (.ref c), some (.int (n : Nat)), some (.ref p), some (.ref q), some (.ref a1), some (.int r1), some (.int r2), some (.ref LO), none, none, some (.ref LW), none, x12, none, none, none] ∧ Same HX H6 ∧ Coil H6 c d ns m' ∧ LamX.Tabs [(PT, qL)] H6) ⟨x12, rfl, sX, hC, hT⟩ (fun i σ H6 _ h => ?_) ?_ ?_⟩
      · obtain ⟨_, _, h, _⟩ := h
        exact .of (h _ _ hW)
      · rintro i x σ H6 H7 hi ⟨x12, rfl, s6, hC6, hT6⟩ ⟨rfl, hx⟩
        obtain ⟨o, ha1, ha2⟩ := all x (List.mem_of_getElem? hx)
        refine ⟨hT6, fun H8 eN T8 Qn => ?_⟩
        have s8 := B.ext s6 eN
        have hC8 := hC6.ext eN
        refine ⟨_, rfl, false, p, _, rfl, .of (s8 _ _ hp), fun _ l ob hl ho1 ho2 => ?_, fun z => by cases z⟩
        have g1 := same_upd (o := .frz ob (.tup (ps.map V.int))) hl
        have zl : TpF (upd H8 l (.frz ob (.tup (ps.map V.int)))) l (ps.map V.int) := ⟨ob, upd_same, ho1, ho2⟩
        generalize upd H8 l (.frz ob (.tup (ps.map V.int))) = G1 at g1 zl ⊢
        have T9 := T8.ext g1
        have hC9 := hC8.but g1
        have s9' := s8.trans g1
        refine ⟨_, rfl, fun x1 dx1 hx1 hd1 nd1 => lik_noS L hx1 hd1 nd1 ⟨by rw [List.length_map]; exact six n6, l, rfl, .inr zl⟩ (ha1.same s9') ha2 (heard_raise hB fun p1 H9 s9 hp9 => ?_)⟩
        refine ⟨(by show 2 ≤ sizeLine; decide), fun t1 ht1 => ?_⟩
        have s10 := same_upd (o := .tup [.str "likeness", .str "signs"]) ht1
        refine ⟨_, _, dpT (.of (s10 _ _ hp9)) (by decide +kernel), dpT (.of upd_same) (by decide +kernel), shapedT (by decide +kernel), shapedT (by decide +kernel), ?_⟩
        rw [eqvT_same (by decide +kernel)]
        refine ⟨_, rfl, iteF ?_⟩
        have s910 := s9.trans s10
        exact ⟨_, rfl, s9'.trans s910, hC9.but s910, T9.ext s910⟩
      · rintro σ H6 ⟨x12, rfl, s6, hC6, hT6⟩
        exact r5 HX p q a1 LO LW n _ r1 r2 x12 ps ss H6 B s6 hC6 hm' hT6 ln hA hp hq
    obtain ⟨t3, h3, r3⟩ : ∃ t, PSs (cxOf CX0 P w K mg base N_ref "_law_refused_right" (defScope st__law_refused_right) f (.ref cc) A outer s H E).nox ((defBody st__law_refused_right).drop 6) t ∧ ∀ (HX : Hp) (p q a1 LO LW : Addr) (n m' : Nat) (r1 r2 : Int) (ps ss : List Int) (xs ys : List V) (H' : Hp), Bs c HX → Same HX H' → Coil H' c d ns m' → m' ≤ m + 800 → LamX.Tabs [(PT, qL)] H' → ps.length = n → LikAt K HX a1 C ps ss → HX p = some (.lst (ps.map V.int)) → HX q = some (.lst (ss.map V.int)) → HX LW = some (.lst ys) → (∀ y ∈ ys, ∃ o, AskV K HX y o ∧ siB o ps.length = false) → HX LO = some (.lst xs) → (∀ x ∈ xs, ∃ o, AskV K HX x o ∧ plB o = false ∧ ∀ zs, o = some zs → ∃ p, x = .ref p ∧ HX p = some (.lst zs)) → xs.length ≤ 100 → 0 < ys.length → ys.length ≤ 100 → t { nx := fun _ H' => Q .non H', rt := Q } [some (.ref c), some (.int (n : Nat)), some (.ref p), some (.ref q), some (.ref a1), some (.int r1), some (.int r2), some (.ref LO), none, none, some (.ref LW), none, none, none, none, none] H' := by
      refine ⟨_, (pss_cons (ps_for PassesOwn.never rfl (pi_seqK K (pv 7)) (pg_name (i := 12) sc_ref.nd rfl (Or.inr rfl))
      (pss_one (ps_if (pt_cmpR (op_neD hr.units) (LamX.pe_lamcall (k := 8) (T := [(PT, qL)]) (TT := THr K CS CB CP CN CM) (t := fun E => tMake C (jLkI K CB C) [] E (tCons (tVar 12) (tCons (tDn (spOne K) (tCons (tVar 0) (tCons (tVar 10) tNil))) tNil))) rfl mh kh lkH hcdH bh sc_heard rfl (Or.inl rfl) (heard_gives R T) TB rfl List.mem_cons_self (fun p hp _ => by cases List.mem_singleton.mp hp; rfl) (hr.mono (by decide)) (LamX.lamS_by (sc := defScope st__law_refused_right) (by decide +kernel)) rfl (fun _ _ _ _ _ => rfl) (fun A outer s H E f c' hr2 => pe_likJ D.M (hr2.mono (by decide)) (passes_call (takes_of rfl rfl rfl rfl) (fun _ _ _ _ h => h)) rfl (pa_cons (pv 12) (pa_cons (pe_dn D__law_choose (hr2.mono (by decide)) rfl (pa_cons (pv 0) (pa_cons (pv 10) pa_nil))) pa_nil)))) (pe_tup (pa_cons pe_str (pa_cons pe_str pa_nil))) (nomark _)) (pss_one (ps_ret pe_bl)) pss_nil)))
    h4), ?_⟩
      clear hC hT
      intro HX p q a1 LO LW n m' r1 r2 ps ss xs ys H1 B sX hC hm' hT ln hA hp hq hW all hO allO lxs lys0 lys
      have nWc : LW ≠ c := fun e => by rw [e, B.hc] at hW; cases hW
      refine ⟨_, rfl, false, LO, rfl, ⟨_, .of (sX _ _ hO)⟩, for_it (walk_seq (b := false) (xs := xs)) (fun i σ H6 => ∃ (x12 : Option V) (m6 : Nat), σ = [some (.ref c), some (.int (n : Nat)), some (.ref p), some (.ref q), some (.ref a1), some (.int r1), some (.int r2), some (.ref LO), none, none, some (.ref LW), none, x12, none, none, none] ∧ Same HX H6 ∧ Coil H6 c d ns m6 ∧ m6 ≤ m' + i ∧ LamX.Tabs [(PT, qL)] H6) ⟨none, _, rfl, sX, hC, Nat.le_refl _, hT⟩ (fun i σ H6 _ h => ?_) ?_ ?_⟩
      · obtain ⟨_, _, _, h, _⟩ := h
        exact .of (h _ _ hO)
      · rintro i x σ H6 H7 hi ⟨x12, m6, rfl, s6, hC6, hm6, hT6⟩ ⟨rfl, hx⟩
        obtain ⟨o, ha1, ha2, ha3⟩ := allO x (List.mem_of_getElem? hx)
        refine ⟨hT6, fun H8 eN T8 Qn => ?_⟩
        have s8 := B.ext s6 eN
        have hC8 := hC6.ext eN
        refine ⟨_, rfl, _, rfl, _, rfl, c, d, ns, m6, false, LW, ys, rfl, hC8, by omega, .of (by rw [off_ne nWc]; exact s8 _ _ hW), lys0, by omega, fun i2 y2 G1 hy hC9 sb9 => ?_⟩
        obtain ⟨oy, hb1, _⟩ := all y2 (List.mem_of_getElem? hy)
        have s9' := B.but s8 sb9
        have T9 := tabs_but T8 hC8 sb9
        refine fun x1 dx1 hx1 hd1 nd1 => lik_noP hx1 hd1 nd1 (ha1.same s9') (fun zs e => ?_) (hb1.same s9') ha2 (heard_raise hB fun p1 H9 s9 hp9 => ?_)
        · obtain ⟨pz, e1, e2⟩ := ha3 zs e
          exact ⟨pz, e1, s9' _ _ e2⟩
        refine ⟨(by show 2 ≤ sizeLine; decide), fun t1 ht1 => ?_⟩
        have s10 := same_upd (o := .tup [.str "likeness", .str "places"]) ht1
        refine ⟨_, _, dpT (.of (s10 _ _ hp9)) (by decide +kernel), dpT (.of upd_same) (by decide +kernel), shapedT (by decide +kernel), shapedT (by decide +kernel), ?_⟩
        rw [eqvT_same (by decide +kernel)]
        refine ⟨_, rfl, iteF ?_⟩
        have s910 := s9.trans s10
        exact ⟨_, m6 + 1, rfl, s9'.trans s910, hC9.but s910, by omega, T9.ext s910⟩
      · rintro σ H6 ⟨x12, m6, rfl, s6, hC6, hm6, hT6⟩
        exact r4 HX p q a1 LO LW n m6 r1 r2 x12 ps ss ys H6 B s6 hC6 (by omega) hT6 ln hA hp hq hW all
    obtain ⟨t2, h2, rest2⟩ : ∃ t, PSs (cxOf CX0 P w K mg base N_ref "_law_refused_right" (defScope st__law_refused_right) f (.ref cc) A outer s H E).nox ((defBody st__law_refused_right).drop 5) t ∧ ∀ (HX : Hp) (p q a1 LO : Addr) (n m' : Nat) (r1 r2 : Int) (ps ss : List Int) (xs : List V) (H' : Hp), Bs c HX → Same HX H' → Coil H' c d ns m' → m' ≤ m + 700 → LamX.Tabs [(PT, qL)] H' → ps.length = n → LikAt K HX a1 C ps ss → HX p = some (.lst (ps.map V.int)) → HX q = some (.lst (ss.map V.int)) → 0 ≤ r2 → r2 < n → HX LO = some (.lst xs) → (∀ x ∈ xs, ∃ o, AskV K HX x o ∧ plB o = false ∧ ∀ zs, o = some zs → ∃ p, x = .ref p ∧ HX p = some (.lst zs)) → xs.length ≤ 100 →  t { nx := fun _ H' => Q .non H', rt := Q } [some (.ref c), some (.int (n : Nat)), some (.ref p), some (.ref q), some (.ref a1), some (.int r1), some (.int r2), some (.ref LO), none, none, none, none, none, none, none, none] H' := by
      refine ⟨_, (pss_cons (ps_set (i := 10) sc_ref.nd rfl (Or.inr rfl) (pe_lst (pa_cons pe_non (pa_cons pe_int (pa_cons (pe_lst pa_nil) (pa_cons (pe_slice sl_list (pv 3) po_none (po_some (pe_un un_neg pe_int))) (pa_cons (pe_op op_cat (pv 3) (pe_lst (pa_cons pe_int pa_nil))) (pa_cons pe_str (pa_cons (pe_lc (own := [("at", 9), ("sign", 11)]) (g := gTup K 2 (gCons (gName 9) (gCons (gName 11) gNil))) (tt := tYes) rfl sc_ref.nd (pi_enum (by rfl) T.n_enumerate (pa_cons (pv 3) pa_nil)) (blkOk_by (N := N_ref) (sc := defScope st__law_refused_right) (by decide +kernel)) (fun _ _ _ _ _ => (pg_tup (by rfl) (pgs_cons (pg_name (i := 9) sc_ref.nd rfl (Or.inl rfl)) (pgs_cons (pg_name (i := 11) sc_ref.nd rfl (Or.inl rfl)) pgs_nil)))) (fun _ _ _ _ _ => pts_nil) (fun _ _ _ _ _ => (pe_ifExp (pt_cmpR op_ne (pv 9) (pv 6) (nomark _)) (pv 11) (pe_dn D__law_choose (hr.mono (by decide)) rfl (pa_cons (pv 0) (pa_cons (pe_lst (pa_cons pe_int (pa_cons pe_int (pa_cons (pe_un un_neg pe_int) (pa_cons pe_bl (pa_cons pe_non (pa_cons pe_str pa_nil))))))) pa_nil)))))) (pa_cons (pe_lst (pa_cons (pv 3) pa_nil)) pa_nil))))))))))
    h3), ?_⟩
      clear hC hT
      intro HX p q a1 LO n m' r1 r2 ps ss xs H1 B sX hC hm' hT ln hA hp hq r20 r21 hO allO lxs
      have L : Lik ps ss := hA.1
      have n2 := L.n2
      have n6 := L.n6
      have ll := L.len
      have lss : (ss.map V.int).length = n := by rw [List.length_map]; omega
      have hq1 := sX _ _ hq
      refine ⟨(by show 0 ≤ sizeLine; decide), fun l1 hl1 => ?_⟩
      have g1 := same_upd (o := .lst []) hl1
      have y1 : upd H1 l1 (.lst []) l1 = some (.lst []) := upd_same
      have n1 : l1 ≠ c := (hC.ne hl1).1
      generalize upd H1 l1 (.lst []) = G1 at g1 y1 ⊢
      refine ⟨_, rfl, _, rfl, _, rfl, q, _, rfl, .of (g1 _ _ hq1), fun l2 hl2 => ?_⟩
      rw [cut_last (by rw [lss]; omega)]
      have g2 := same_upd (o := .lst (ss.map V.int).dropLast) hl2
      have y2 : upd G1 l2 (.lst (ss.map V.int).dropLast) l2 = some (.lst (ss.map V.int).dropLast) := upd_same
      have n2c : l2 ≠ c := ((hC.but g1).ne hl2).1
      generalize upd G1 l2 (.lst (ss.map V.int).dropLast) = G2 at g2 y2 ⊢
      have g02 := g1.trans g2
      refine ⟨_, rfl, (by show 1 ≤ sizeLine; decide), fun l3 hl3 => ?_⟩
      have g3 := same_upd (o := .lst [.int 1]) hl3
      have y3 : upd G2 l3 (.lst [.int 1]) l3 = some (.lst [.int 1]) := upd_same
      generalize upd G2 l3 (.lst [.int 1]) = G3 at g3 y3 ⊢
      have g03 := g02.trans g3
      refine ⟨q, l3, _, _, rfl, rfl, g03 _ _ hq1, y3, (by rw [lss]; exact Nat.le_trans (by show n + 1 ≤ 7; omega) (by decide)), fun l4 hl4 => ?_⟩
      have g4 := same_upd (o := .lst (ss.map V.int ++ [.int 1])) hl4
      have y4 : upd G3 l4 (.lst (ss.map V.int ++ [.int 1])) l4 = some (.lst (ss.map V.int ++ [.int 1])) := upd_same
      have n4 : l4 ≠ c := ((hC.but g03).ne hl4).1
      generalize upd G3 l4 (.lst (ss.map V.int ++ [.int 1])) = G4 at g4 y4 ⊢
      have g04 := g03.trans g4
      have hC4 := hC.but g04
      have hq4 := g04 _ _ hq1
      have nqc : q ≠ c := fun e => by rw [e, B.hc] at hq; cases hq
      refine ⟨_, rfl, q, _, rfl, .of hq4, fun D0 hD0 => lc_relC (RS ss r2) 1 walk_enum hD0 (by rw [lss]; exact six (by omega)) hC4 (fun H5 sb => .of (sb _ _ nqc hq4)) ?_ ?_⟩
      · rintro i x H5 H6 m5 hi sb5 hC5 hm5 ⟨T', x', y', rfl, hT', rfl, e3, e4⟩ Rk kk
        obtain ⟨s5, hs5, rfl⟩ := map_int_get e4
        cases e3
        have sT := same_upd (o := .tup [.int (i : Nat), .int s5]) hT'
        refine ⟨T', _, rfl, .of upd_same, rfl, _, _, rfl, _, _, rfl, rfl, rfl, _, rfl, _, rfl, rfl, ?_⟩
        rw [dec_int]
        refine ⟨_, rfl, ?_⟩
        cases e : ((i : Int) == r2) with
        | false =>
          refine iteT ⟨_, rfl, kk _ _ ?_ ((hC5.but sT).more (by omega)) (SameBut.of sT)⟩
          unfold RS
          rw [if_neg (by simpa using e), List.getD_eq_getElem?_getD, hs5]
          rfl
        | true =>
          refine iteF ⟨_, rfl, _, rfl, (by show 6 ≤ sizeLine; decide), fun l hl => ?_⟩
          have gl := same_upd (o := .lst oddS) hl
          have hC6 := (hC5.but sT).but gl
          have nl := ((hC5.but sT).ne hl).1
          refine ⟨c, d, ns, m5, false, l, oddS, rfl, hC6, by omega, .of (by rw [off_ne nl]; exact upd_same), by decide, by decide, fun i2 y2 H7 hy2 hC7 sb7 => ?_⟩
          refine kk _ _ ?_ hC7 ((SameBut.of (sT.trans gl)).trans sb7)
          unfold RS
          rw [if_pos (by simpa using e)]
          exact List.mem_of_getElem? hy2
      intro H5 acc lacc hacc hD5 hC5 sb5
      have nD : D0 ≠ c := (hC4.ne hD0).1
      refine ⟨_, rfl, (by show 1 ≤ sizeLine; decide), fun l6 hl6 => ?_⟩
      have g6 := same_upd (o := .lst [.ref q]) hl6
      have y6 : upd H5 l6 (.lst [.ref q]) l6 = some (.lst [.ref q]) := upd_same
      have n6c : l6 ≠ c := (hC5.ne hl6).1
      generalize upd H5 l6 (.lst [.ref q]) = G6 at g6 y6 ⊢
      refine ⟨(by show 8 ≤ sizeLine; decide), fun LW hLW => ?_⟩
      have nLc : LW ≠ c := ((hC5.but g6).ne hLW).1
      generalize hg2 : upd G6 LW _ = H2
      have g7 : Same G6 H2 := by rw [← hg2]; exact same_upd hLW
      have zL : H2 LW = some (.lst [V.non, .int 1, .ref l1, .ref l2, .ref l4, .str "1", .ref D0, .ref l6]) := by rw [← hg2, upd_same]
      clear hg2
      have g67 := g6.trans g7
      have hC2 := hC5.but g67
      have hT2 := (tabs_but (hT.ext g04) hC4 sb5).ext g67
      have sX4 := sX.trans g04
      have sX2 := (B.but sX4 sb5).trans g67
      have hA2 := (hA.same sX2).off hC2
      have off := B.off sX2
      have sb42 : SameBut c G4 H2 := sb5.trans (SameBut.of g67)
      have zLo := offT_get zL nLc (fun ps e => by cases e)
      have w1 := offT_get (sb42 _ _ n1 ((g2.trans (g3.trans g4)) _ _ y1)) n1 (fun ps e => by cases e)
      have w2 := offT_get (sb42 _ _ n2c ((g3.trans g4) _ _ y2)) n2c (fun ps e => by cases e)
      have w4 := offT_get (sb42 _ _ n4 y4) n4 (fun ps e => by cases e)
      have wD := offT_get (g67 _ _ hD5) nD (fun ps e => by cases e)
      have w6 := offT_get (g7 _ _ y6) n6c (fun ps e => by cases e)
      have lacc' : acc.length = n := lacc.trans lss
      have all : ∀ y ∈ [V.non, .int 1, .ref l1, .ref l2, .ref l4, .str "1", .ref D0, .ref l6], ∃ o, AskV K (OffT c H2) y o ∧ siB o ps.length = false := by
        intro x hx
        simp only [List.mem_cons, List.not_mem_nil, or_false] at hx
        rcases hx with rfl | rfl | rfl | rfl | rfl | rfl | rfl | rfl
        · exact ⟨_, .no .non, rfl⟩
        · exact ⟨_, .no (.int _), rfl⟩
        · exact ⟨_, .lst w1 (by decide) (fun x hx => by cases hx), siB_ne (by show 0 ≠ _; omega)⟩
        · exact ⟨_, .lst w2 (by rw [List.length_dropLast, lss]; exact six (by omega)) (ask_sub (ask_ints ss) fun y hy => List.dropLast_subset _ hy), siB_ne (by rw [List.length_dropLast, lss]; omega)⟩
        · exact ⟨_, .lst w4 (by rw [List.length_append, lss]; exact Nat.lt_of_le_of_lt (by show n + 1 ≤ 7; omega) (by decide)) (ask_cat (ask_ints ss) (ask_one (.int 1))), siB_ne (by rw [List.length_append, lss]; show n + 1 ≠ _; omega)⟩
        · exact ⟨_, .no (.str _), rfl⟩
        · exact ⟨_, .lst wD (by rw [lacc']; exact six (by omega)) (ask_RS hacc), siB_odd hacc r20 (by omega) _⟩
        · exact ⟨_, .lst w6 (by show 1 < sizeLine; decide) (ask_one (.lst (off _ _ hq))), siB_ne (by show 1 ≠ _; omega)⟩
      exact r3 (OffT c H2) p q a1 LO LW n _ r1 r2 ps ss xs [V.non, .int 1, .ref l1, .ref l2, .ref l4, .str "1", .ref D0, .ref l6] H2 (bs_off c H2) offT_same hC2 (by rw [lss]; omega) hT2 ln hA2 (off _ _ hp) (off _ _ hq) zLo all (off _ _ hO) (fun x hx => let ⟨o, h1, h2, h3⟩ := allO x hx; ⟨o, h1.same off, h2, fun zs e => let ⟨pz, e1, e2⟩ := h3 zs e; ⟨pz, e1, off _ _ e2⟩⟩) lxs (by show 0 < 8; decide) (by show 8 ≤ 100; decide)
    obtain ⟨t1, h1, rest1⟩ : ∃ t, PSs (cxOf CX0 P w K mg base N_ref "_law_refused_right" (defScope st__law_refused_right) f (.ref cc) A outer s H E).nox ((defBody st__law_refused_right).drop 3) t ∧ ∀ (HX : Hp) (p q a1 : Addr) (n m' : Nat) (r1 r2 : Int) (ps ss : List Int) (H' : Hp), Bs c HX → Same HX H' → Coil H' c d ns m' → m' ≤ m + 600 → LamX.Tabs [(PT, qL)] H' → ps.length = n → LikAt K HX a1 C ps ss → HX p = some (.lst (ps.map V.int)) → HX q = some (.lst (ss.map V.int)) → 0 ≤ r1 → r1 < n → 0 ≤ r2 → r2 < n → t { nx := fun _ H' => Q .non H', rt := Q } [some (.ref c), some (.int (n : Nat)), some (.ref p), some (.ref q), some (.ref a1), some (.int r1), some (.int r2), none, none, none, none, none, none, none, none, none] H' := by
      refine ⟨_, (pss_cons (ps_set (i := 7) sc_ref.nd rfl (Or.inl rfl) (pe_lst (pa_cons pe_non (pa_cons pe_int (pa_cons (pe_lst pa_nil) (pa_cons (pe_lst (pa_cons pe_int pa_nil)) (pa_cons (pe_listRg rfl (by rfl) T.n_list (prg_1 (by rfl) T.n_range pe_int)) (pa_cons pe_str (pa_cons (pe_disp (pps_cons pe_int pe_int (pps_cons pe_int pe_int pps_nil)) rfl rfl (by decide) (by decide)) (pa_cons (pe_lc (own := [("place", 8)]) (g := gName 8) (tt := tYes) rfl sc_ref.nd (pi_seqK K (pv 2)) (blkOk_by (N := N_ref) (sc := defScope st__law_refused_right) (by decide +kernel)) (fun _ _ _ _ _ => (pg_name (i := 8) sc_ref.nd rfl (Or.inl rfl))) (fun _ _ _ _ _ => pts_nil) (fun _ _ _ _ _ => (pe_op op_add (pv 8) pe_int))) (pa_cons (pe_lc (own := [("place", 8)]) (g := gName 8) (tt := tTest (tOp rNe (tVar 8) (tC (.int 0)))) rfl sc_ref.nd (pi_seqK K (pv 2)) (blkOk_by (N := N_ref) (sc := defScope st__law_refused_right) (by decide +kernel)) (fun _ _ _ _ _ => (pg_name (i := 8) sc_ref.nd rfl (Or.inl rfl))) (fun _ _ _ _ _ => (pts_one (pt_cmpR op_ne (pv 8) pe_int (nomark _)))) (fun _ _ _ _ _ => (pv 8))) (pa_cons (pe_op op_cat (pv 2) (pe_lst (pa_cons pe_int pa_nil))) (pa_cons (pe_lst (pa_cons (pv 2) pa_nil)) pa_nil)))))))))))))
    (pss_cons (ps_set (i := 7) sc_ref.nd rfl (Or.inl rfl) (pe_op op_cat (pv 7) (pe_lst (pa_cons (pe_lc (own := [("at", 9), ("place", 8)]) (g := gTup K 2 (gCons (gName 9) (gCons (gName 8) gNil))) (tt := tYes) rfl sc_ref.nd (pi_enum (by rfl) T.n_enumerate (pa_cons (pv 2) pa_nil)) (blkOk_by (N := N_ref) (sc := defScope st__law_refused_right) (by decide +kernel)) (fun _ _ _ _ _ => (pg_tup (by rfl) (pgs_cons (pg_name (i := 9) sc_ref.nd rfl (Or.inl rfl)) (pgs_cons (pg_name (i := 8) sc_ref.nd rfl (Or.inl rfl)) pgs_nil)))) (fun _ _ _ _ _ => pts_nil) (fun _ _ _ _ _ => (pe_ifExp (pt_cmpR op_ne (pv 9) (pv 5) (nomark _)) (pv 8) (pe_ix (ix_K K) (pv 2) (pe_op op_sub (pv 5) pe_int) (fun _ _ => rfl))))) (pa_cons (pe_lst (pa_cons pe_bl (pa_cons pe_int pa_nil))) (pa_cons (pe_lst (pa_cons pe_bl (pa_cons pe_int pa_nil))) (pa_cons (pe_lst (pa_cons pe_int (pa_cons pe_non pa_nil))) (pa_cons (pe_lst (pa_cons pe_str (pa_cons pe_str pa_nil))) pa_nil))))))))
    h2)), ?_⟩
      clear hC hT
      intro HX p q a1 n m' r1 r2 ps ss H1 B sX hC hm' hT ln hA hp hq r10 r11 r20 r21
      have L : Lik ps ss := hA.1
      have n2 := L.n2
      have n6 := L.n6
      have lps : (ps.map V.int).length = n := by rw [List.length_map]; omega
      have hp1 := sX _ _ hp
      refine ⟨(by show 0 ≤ sizeLine; decide), fun l1 hl1 => ?_⟩
      have g1 := same_upd (o := .lst []) hl1
      have y1 : upd H1 l1 (.lst []) l1 = some (.lst []) := upd_same
      have n1 : l1 ≠ c := (hC.ne hl1).1
      generalize upd H1 l1 (.lst []) = G1 at g1 y1 ⊢
      refine ⟨(by show 1 ≤ sizeLine; decide), fun l2 hl2 => ?_⟩
      have g2 := same_upd (o := .lst [.int 0]) hl2
      have y2 : upd G1 l2 (.lst [.int 0]) l2 = some (.lst [.int 0]) := upd_same
      have n2c : l2 ≠ c := ((hC.but g1).ne hl2).1
      generalize upd G1 l2 (.lst [.int 0]) = G2 at g2 y2 ⊢
      have g02 := g1.trans g2
      refine ⟨_, rfl, ⟨by decide, by decide, by decide, by decide, by decide⟩, fun l3 hl3 => ?_⟩
      have g3 := same_upd (o := .lst (rgV 0 7)) hl3
      have y3 : upd G2 l3 (.lst (rgV 0 7)) l3 = some (.lst (rgV 0 7)) := upd_same
      have n3 : l3 ≠ c := ((hC.but g02).ne hl3).1
      generalize upd G2 l3 (.lst (rgV 0 7)) = G3 at g3 y3 ⊢
      have g03 := g02.trans g3
      -- a dict
      refine fun l4 hl4 => ⟨upd_same, [(Sum.inl 0, .int 1), (Sum.inl 1, .int 0)], rfl, (by show 2 ≤ 15; decide), ?_⟩
      obtain ⟨kvs, ekv⟩ : ∃ kvs, mergeK [] [((Sum.inl 0 : Key), V.int 1), (Sum.inl 1, .int 0)] = kvs := ⟨_, rfl⟩
      rw [ekv]
      have g4 : Same G3 (upd (upd G3 l4 (.dK [])) l4 (.dK kvs)) := same_at (o' := .dK kvs) upd_same (same_upd (o := .dK []) hl4) hl4
      have y4 : upd (upd G3 l4 (.dK [])) l4 (.dK kvs) l4 = some (.dK kvs) := upd_same
      have n4 : l4 ≠ c := ((hC.but g03).ne hl4).1
      generalize upd (upd G3 l4 (.dK [])) l4 (.dK kvs) = G4 at g4 y4 ⊢
      have g04 := g03.trans g4
      have hp4 := g04 _ _ hp1
      -- [place + 1 ..]
      refine ⟨_, rfl, false, p, rfl, ⟨_, .of hp4⟩, fun l5 hl5 => lc_fun (fun i => V.int (ps.getD i 0 + 1)) (walk_seq (b := false) (xs := ps.map V.int)) hl5 (by rw [lps]; exact six (by omega)) (fun H s => .of (s _ _ hp4)) ?_ ?_⟩
      · rintro i x H5 H6 hi s5 _ ⟨rfl, hx⟩ Rk kk
        obtain ⟨v, hv, rfl⟩ := map_int_get hx
        have q := kk _ (Same.refl _)
        rw [List.getD_eq_getElem?_getD, hv] at q
        exact ⟨rfl, _, rfl, v, 1, rfl, rfl, q⟩
      intro G5 y5 g5
      rw [List.length_map, range_map_getD ps 0 (fun x => V.int (x + 1))] at y5
      have n5 : l5 ≠ c := ((hC.but g04).ne hl5).1
      have g05 := g04.trans g5
      have hp5 := g5 _ _ hp4
      -- [place .. if place != 0]
      refine ⟨_, rfl, false, p, rfl, ⟨_, .of hp5⟩, fun l6 hl6 => lc_funF (fun i => !(ps.getD i 0 == 0)) (fun i => V.int (ps.getD i 0)) (walk_seq (b := false) (xs := ps.map V.int)) hl6 (by rw [lps]; exact six (by omega)) (fun H s => .of (s _ _ hp5)) ?_ ?_⟩
      · rintro i x H6 H7 hi s5 _ ⟨rfl, hx⟩ Rt Rk kf kt
        obtain ⟨v, hv, rfl⟩ := map_int_get hx
        rw [List.getD_eq_getElem?_getD, hv] at kf kt
        dsimp only [Option.getD_some] at kf kt
        refine ⟨rfl, _, rfl, rfl, ?_⟩
        rw [dec_int]
        refine ⟨_, rfl, ?_⟩
        cases e : (v == 0) with
        | true => exact iteF (kf (by rw [e]; rfl) _ (Same.refl _))
        | false => exact iteT ⟨_, rfl, kt (by rw [e]; rfl) _ (Same.refl _)⟩
      intro G6 y6 g6
      have n6c : l6 ≠ c := ((hC.but g05).ne hl6).1
      have g06 := g05.trans g6
      have hp6 := g6 _ _ hp5
      -- places + [0], [places]
      refine ⟨_, rfl, (by show 1 ≤ sizeLine; decide), fun l7 hl7 => ?_⟩
      have g7 := same_upd (o := .lst [.int 0]) hl7
      have y7 : upd G6 l7 (.lst [.int 0]) l7 = some (.lst [.int 0]) := upd_same
      generalize upd G6 l7 (.lst [.int 0]) = G7 at g7 y7 ⊢
      have g07 := g06.trans g7
      refine ⟨p, l7, _, _, rfl, rfl, g7 _ _ hp6, y7, (by rw [lps]; exact Nat.le_trans (by show n + 1 ≤ 7; omega) (by decide)), fun l8 hl8 => ?_⟩
      have g8 := same_upd (o := .lst (ps.map V.int ++ [.int 0])) hl8
      have y8 : upd G7 l8 (.lst (ps.map V.int ++ [.int 0])) l8 = some (.lst (ps.map V.int ++ [.int 0])) := upd_same
      have n8 : l8 ≠ c := ((hC.but g07).ne hl8).1
      generalize upd G7 l8 (.lst (ps.map V.int ++ [.int 0])) = G8 at g8 y8 ⊢
      have g08 := g07.trans g8
      refine ⟨_, rfl, (by show 1 ≤ sizeLine; decide), fun l9 hl9 => ?_⟩
      have g9 := same_upd (o := .lst [.ref p]) hl9
      have y9 : upd G8 l9 (.lst [.ref p]) l9 = some (.lst [.ref p]) := upd_same
      have n9 : l9 ≠ c := ((hC.but g08).ne hl9).1
      generalize upd G8 l9 (.lst [.ref p]) = G9 at g9 y9 ⊢
      have g09 := g08.trans g9
      refine ⟨(by show 11 ≤ sizeLine; decide), fun LA hLA => ?_⟩
      generalize hga : upd G9 LA _ = Ga
      have ga : Same G9 Ga := by rw [← hga]; exact same_upd hLA
      have ya : Ga LA = some (.lst [V.non, .int 5, .ref l1, .ref l2, .ref l3, .str "01", .ref l4, .ref l5, .ref l6, .ref l8, .ref l9]) := by rw [← hga, upd_same]
      clear hga
      have g0a := g09.trans ga
      have hpa := g0a _ _ hp1
      -- odd + ..
      refine ⟨_, rfl, _, rfl, p, _, rfl, .of hpa, fun lb hlb => lc_fun (fun i => V.int (if (i : Int) = r1 then ahead ps r1 else ps.getD i 0)) walk_enum hlb (by rw [lps]; exact six (by omega)) (fun H s => .of (s _ _ hpa)) ?_ ?_⟩
      · rintro i x H6 H7 hi s5 _ ⟨T', x', y', rfl, hT', rfl, e3, e4⟩ Rk kk
        obtain ⟨v, hv, rfl⟩ := map_int_get e4
        cases e3
        have sT := same_upd (o := .tup [.int (i : Nat), .int v]) hT'
        have qq := kk _ sT
        rw [List.getD_eq_getElem?_getD, hv] at qq
        dsimp only [Option.getD_some] at qq
        refine ⟨T', _, rfl, .of upd_same, rfl, _, _, rfl, _, _, rfl, rfl, rfl, _, rfl, _, rfl, rfl, ?_⟩
        rw [dec_int]
        refine ⟨_, rfl, ?_⟩
        cases e : ((i : Int) == r1) with
        | false =>
          rw [if_neg (by simpa using e)] at qq
          exact iteT ⟨_, rfl, qq⟩
        | true =>
          rw [if_pos (by simpa using e)] at qq
          refine iteF ⟨_, rfl, _, rfl, r1, 1, rfl, rfl, false, p, _, _, .int (ahead ps r1), rfl, rfl, .of (sT _ _ (s5 _ _ hpa)), ?_, qq⟩
          unfold ahead
          by_cases ez : r1 = 0
          · rw [if_pos ez, ez]
            show atI (ps.map V.int) (-1) = _
            have := atI_last (xs := ps.map V.int) (by rw [lps]; omega)
            rw [this, List.length_map, List.getElem?_map, List.getElem?_eq_getElem (by omega : ps.length - 1 < ps.length), getD_of (by omega : ps.length - 1 < ps.length)]
            rfl
          · rw [if_neg ez, show r1 - 1 = ((r1.toNat - 1 : Nat) : Int) from by omega]
            exact atI_nat (by rw [List.getElem?_map, List.getElem?_eq_getElem (by omega : r1.toNat - 1 < ps.length), getD_of (by omega : r1.toNat - 1 < ps.length)]; rfl)
      intro Gb yb gb
      rw [lps, ← ln] at yb
      have eb : (List.range ps.length).map (fun (i : Nat) => V.int (if (i : Int) = r1 then ahead ps r1 else ps.getD i 0)) = (dupL ps r1).map V.int := by
        unfold dupL
        rw [List.map_map]
        rfl
      rw [eb] at yb
      have nb : lb ≠ c := ((hC.but g0a).ne hlb).1
      have g0b := g0a.trans gb
      refine ⟨(by show 2 ≤ sizeLine; decide), fun l10 hl10 => ?_⟩
      have g10 := same_upd (o := .lst [.bl true, .int 0]) hl10
      have y10 : upd Gb l10 (.lst [.bl true, .int 0]) l10 = some (.lst [.bl true, .int 0]) := upd_same
      have n10 : l10 ≠ c := ((hC.but g0b).ne hl10).1
      generalize upd Gb l10 (.lst [.bl true, .int 0]) = G10 at g10 y10 ⊢
      have g010 := g0b.trans g10
      refine ⟨(by show 2 ≤ sizeLine; decide), fun l11 hl11 => ?_⟩
      have g11 := same_upd (o := .lst [.bl false, .int 1]) hl11
      have y11 : upd G10 l11 (.lst [.bl false, .int 1]) l11 = some (.lst [.bl false, .int 1]) := upd_same
      have n11 : l11 ≠ c := ((hC.but g010).ne hl11).1
      generalize upd G10 l11 (.lst [.bl false, .int 1]) = G11 at g11 y11 ⊢
      have g011 := g010.trans g11
      refine ⟨(by show 2 ≤ sizeLine; decide), fun l12 hl12 => ?_⟩
      have g12 := same_upd (o := .lst [.int 1, .non]) hl12
      have y12 : upd G11 l12 (.lst [.int 1, .non]) l12 = some (.lst [.int 1, .non]) := upd_same
      have n12 : l12 ≠ c := ((hC.but g011).ne hl12).1
      generalize upd G11 l12 (.lst [.int 1, .non]) = G12 at g12 y12 ⊢
      have g012 := g011.trans g12
      refine ⟨(by show 2 ≤ sizeLine; decide), fun l13 hl13 => ?_⟩
      have g13 := same_upd (o := .lst [.str "0", .str "1"]) hl13
      have y13 : upd G12 l13 (.lst [.str "0", .str "1"]) l13 = some (.lst [.str "0", .str "1"]) := upd_same
      have n13 : l13 ≠ c := ((hC.but g012).ne hl13).1
      generalize upd G12 l13 (.lst [.str "0", .str "1"]) = G13 at g13 y13 ⊢
      have g013 := g012.trans g13
      refine ⟨(by show 5 ≤ sizeLine; decide), fun LB hLB => ?_⟩
      generalize hgc : upd G13 LB _ = Gc
      have gc : Same G13 Gc := by rw [← hgc]; exact same_upd hLB
      have yc : Gc LB = some (.lst [V.ref lb, .ref l10, .ref l11, .ref l12, .ref l13]) := by rw [← hgc, upd_same]
      clear hgc
      have gac := (gb.trans (g10.trans (g11.trans (g12.trans (g13.trans gc)))))
      have g0c := g013.trans gc
      refine ⟨LA, LB, _, _, rfl, rfl, gac _ _ ya, yc, (by show 16 ≤ sizeLine; decide), fun LO hLO => ?_⟩
      have nLc : LO ≠ c := ((hC.but g0c).ne hLO).1
      have gd := same_upd (o := .lst ([V.non, .int 5, .ref l1, .ref l2, .ref l3, .str "01", .ref l4, .ref l5, .ref l6, .ref l8, .ref l9] ++ [V.ref lb, .ref l10, .ref l11, .ref l12, .ref l13])) hLO
      have yd : upd Gc LO (.lst ([V.non, .int 5, .ref l1, .ref l2, .ref l3, .str "01", .ref l4, .ref l5, .ref l6, .ref l8, .ref l9] ++ [V.ref lb, .ref l10, .ref l11, .ref l12, .ref l13])) LO = some (.lst ([V.non, .int 5, .ref l1, .ref l2, .ref l3, .str "01", .ref l4, .ref l5, .ref l6, .ref l8, .ref l9] ++ [V.ref lb, .ref l10, .ref l11, .ref l12, .ref l13])) := upd_same
      generalize upd Gc LO (.lst ([V.non, .int 5, .ref l1, .ref l2, .ref l3, .str "01", .ref l4, .ref l5, .ref l6, .ref l8, .ref l9] ++ [V.ref lb, .ref l10, .ref l11, .ref l12, .ref l13])) = H2 at gd yd ⊢
      have g := g0c.trans gd
      have gbd := g10.trans (g11.trans (g12.trans (g13.trans (gc.trans gd))))
      have g9d := ga.trans (gb.trans gbd)
      have sX2 := sX.trans g
      have hC2 := hC.but g
      have off := B.off sX2
      have nt : ∀ xs, ∀ ps : Array Value, HO.lst xs ≠ .tbl ps := fun xs ps e => by cases e
      have w1 := offT_get ((g2.trans (g3.trans (g4.trans (g5.trans (g6.trans (g7.trans (g8.trans (g9.trans g9d)))))))) _ _ y1) n1 (nt _)
      have w2 := offT_get ((g3.trans (g4.trans (g5.trans (g6.trans (g7.trans (g8.trans (g9.trans g9d))))))) _ _ y2) n2c (nt _)
      have w3 := offT_get ((g4.trans (g5.trans (g6.trans (g7.trans (g8.trans (g9.trans g9d)))))) _ _ y3) n3 (nt _)
      have w4 := offT_get ((g5.trans (g6.trans (g7.trans (g8.trans (g9.trans g9d))))) _ _ y4) n4 (fun ps e => by cases e)
      have w5 := offT_get ((g6.trans (g7.trans (g8.trans (g9.trans g9d)))) _ _ y5) n5 (nt _)
      have w6 := offT_get ((g7.trans (g8.trans (g9.trans g9d))) _ _ y6) n6c (nt _)
      have w8 := offT_get ((g9.trans g9d) _ _ y8) n8 (nt _)
      have w9 := offT_get (g9d _ _ y9) n9 (nt _)
      have wb := offT_get (gbd _ _ yb) nb (nt _)
      have w10 := offT_get ((g11.trans (g12.trans (g13.trans (gc.trans gd)))) _ _ y10) n10 (nt _)
      have w11 := offT_get ((g12.trans (g13.trans (gc.trans gd))) _ _ y11) n11 (nt _)
      have w12 := offT_get ((g13.trans (gc.trans gd)) _ _ y12) n12 (nt _)
      have w13 := offT_get ((gc.trans gd) _ _ y13) n13 (nt _)
      have aP : ∀ {xs : List V} {pp : Addr}, OffT c H2 pp = some (.lst xs) → xs.length < sizeLine → (∀ x ∈ xs, ∃ q, Asks K (OffT c H2) x q) → plB (some xs) = false → ∃ o, AskV K (OffT c H2) (.ref pp) o ∧ plB o = false ∧ ∀ zs, o = some zs → ∃ p, V.ref pp = .ref p ∧ OffT c H2 p = some (.lst zs) :=
        fun {xs pp} h hz hi hb => ⟨some xs, .lst h hz hi, hb, fun zs e => by cases e; exact ⟨pp, rfl, h⟩⟩
      have aN : ∀ {v : V}, Asks K (OffT c H2) v false → ∃ o, AskV K (OffT c H2) v o ∧ plB o = false ∧ ∀ zs, o = some zs → ∃ p, v = .ref p ∧ OffT c H2 p = some (.lst zs) := fun h => ⟨none, .no h, rfl, fun zs e => by cases e⟩
      have p0 := lik_pos L
      have all : ∀ x ∈ [V.non, .int 5, .ref l1, .ref l2, .ref l3, .str "01", .ref l4, .ref l5, .ref l6, .ref l8, .ref l9] ++ [V.ref lb, .ref l10, .ref l11, .ref l12, .ref l13], ∃ o, AskV K (OffT c H2) x o ∧ plB o = false ∧ ∀ zs, o = some zs → ∃ p, x = .ref p ∧ OffT c H2 p = some (.lst zs) := by
        intro x hx
        simp only [List.cons_append, List.nil_append, List.mem_cons, List.not_mem_nil, or_false] at hx
        rcases hx with rfl | rfl | rfl | rfl | rfl | rfl | rfl | rfl | rfl | rfl | rfl | rfl | rfl | rfl | rfl | rfl
        · exact aN .non
        · exact aN (.int _)
        · exact aP w1 (by decide) (fun x hx => by cases hx) rfl
        · exact aP w2 (by decide) (ask_ints [0]) (plB_one (by decide))
        · rw [show rgV 0 7 = (rng 7).map V.int from rng_rgV 7] at w3
          exact aP w3 (by decide) (ask_ints _) (by decide)
        · exact aN (.str _)
        · exact aN (.dict w4)
        · rw [show List.map (fun x => V.int (x + 1)) ps = (ps.map (· + 1)).map V.int from by rw [List.map_map]; rfl] at w5
          refine aP w5 (by rw [List.length_map, List.length_map]; exact six (by omega)) (ask_ints _) (plB_no0 ?_)
          rw [intsOf_map]
          intro h0
          obtain ⟨y, hy, e⟩ := List.mem_map.mp h0
          have := p0 y hy
          omega
        · refine aP w6 ?_ ?_ (plB_no0 ?_)
          · rw [List.length_map]
            exact six (Nat.le_trans (List.length_filter_le ..) (by rw [List.length_range, lps]; omega))
          · intro x hx
            obtain ⟨i, _, rfl⟩ := List.mem_map.mp hx
            exact ⟨_, .int _⟩
          · rw [show ∀ l : List Nat, l.map (fun i => V.int (ps.getD i 0)) = (l.map (fun i => ps.getD i 0)).map V.int from fun l => by rw [List.map_map]; rfl, intsOf_map]
            intro h0
            obtain ⟨i, hi, e⟩ := List.mem_map.mp h0
            have := (List.mem_filter.mp hi).2
            rw [e] at this
            cases this
        · rw [show ps.map V.int ++ [V.int 0] = (ps ++ [0]).map V.int from by rw [List.map_append]; rfl] at w8
          refine aP w8 (by rw [List.length_map, List.length_append]; exact Nat.lt_of_le_of_lt (by show ps.length + 1 ≤ 7; omega) (by decide)) (ask_ints _) (plB_dup ?_)
          rw [intsOf_map]
          intro nd
          have h0 : (0 : Int) ∈ ps := L.mem (k := 0) (by omega)
          exact (List.nodup_append.mp nd).2.2 0 h0 0 (List.mem_singleton.mpr rfl) rfl
        · exact aP w9 (by show 1 < sizeLine; decide) (ask_one (.lst (off _ _ hp))) (plB_one (by show 1 < 2; decide))
        · refine aP wb (by rw [List.length_map, dup_len]; exact six (by omega)) (ask_ints _) (plB_dup ?_)
          rw [intsOf_map]
          exact dup_bad n2 r10 (by omega)
        · exact aP w10 (by decide) (ask_cat (xs := [.bl true]) (ask_one (.bl _)) (ask_one (.int _))) rfl
        · exact aP w11 (by decide) (ask_cat (xs := [.bl false]) (ask_one (.bl _)) (ask_one (.int _))) rfl
        · exact aP w12 (by decide) (ask_cat (xs := [.int 1]) (ask_one (.int _)) (ask_one .non)) rfl
        · exact aP w13 (by decide) (ask_cat (xs := [.str "0"]) (ask_one (.str _)) (ask_one (.str _))) rfl
      exact (rest2) (OffT c H2) p q a1 LO n m' r1 r2 ps ss ([V.non, .int 5, .ref l1, .ref l2, .ref l3, .str "01", .ref l4, .ref l5, .ref l6, .ref l8, .ref l9] ++ [V.ref lb, .ref l10, .ref l11, .ref l12, .ref l13]) H2 (bs_off c H2) offT_same hC2 (by omega) (hT.ext g) ln ((hA.same sX2).off hC2) (off _ _ hp) (off _ _ hq) r20 r21 (offT_get yd nLc (nt _)) all (by show 16 ≤ 100; decide)
    refine ⟨_, (pss_cons (ps_set (i := 1) sc_ref.nd rfl (Or.inr rfl) (pe_op op_add pe_int (pe_dn D__law_beat (hr.mono (by decide)) rfl (pa_cons (pv 0) (pa_cons pe_int pa_nil)))))
    (pss_cons (ps_asg (pe_dn D__law_drawn (hr.mono (by decide)) rfl (pa_cons (pv 0) (pa_cons (pv 1) pa_nil))) (pg_tup (by rfl) (pgs_cons (pg_name (i := 2) sc_ref.nd rfl (Or.inr rfl)) (pgs_cons (pg_name (i := 3) sc_ref.nd rfl (Or.inl rfl)) pgs_nil))))
    (pss_cons (ps_asg (pe_tup (pa_cons (pe_likJ D.M (hr.mono (by decide)) passL rfl (pa_cons (pv 2) (pa_cons (pv 3) pa_nil))) (pa_cons (pe_dn D__law_beat (hr.mono (by decide)) rfl (pa_cons (pv 0) (pa_cons (pv 1) pa_nil))) (pa_cons (pe_dn D__law_beat (hr.mono (by decide)) rfl (pa_cons (pv 0) (pa_cons (pv 1) pa_nil))) pa_nil)))) (pg_tup (by rfl) (pgs_cons (pg_name (i := 4) sc_ref.nd rfl (Or.inr rfl)) (pgs_cons (pg_name (i := 5) sc_ref.nd rfl (Or.inr rfl)) (pgs_cons (pg_name (i := 6) sc_ref.nd rfl (Or.inr rfl)) pgs_nil)))))
    h1))), ?_⟩
    have sm : ∀ k : Nat, k ≤ 6 → ((k : Nat) : Int).natAbs < 2 ^ 9000 := fun k h => Nat.lt_of_le_of_lt (by omega : _ ≤ 6) (Nat.lt_of_lt_of_le (by decide : 6 < 2 ^ 200) (Nat.pow_le_pow_right (by decide) (by decide)))
    refine ⟨_, rfl, c, d, ns, m, 5, rfl, hC, by omega, by decide, sm 5 (by decide), fun r H1 a0 b0 hC1 sb1 => ⟨2, r, rfl, rfl, ?_⟩⟩
    dsimp only
    obtain ⟨n, hn⟩ : ∃ n : Nat, 2 + r = (n : Int) := ⟨(2 + r).toNat, by omega⟩
    rw [hn]
    have n2 : 2 ≤ n := by omega
    have n6 : n ≤ 6 := by omega
    have hT1 := tabs_but hT hC sb1
    refine ⟨_, rfl, _, rfl, drawn_good hC1 (by omega) n2 n6 fun t p q ps ss H2 L ln nt np nq npq ht hp hq hC2 sb2 => ⟨t, _, rfl, .of ht, rfl, _, _, rfl, _, _, rfl, rfl, ?_⟩⟩
    have hT2 := tabs_but hT1 hC1 sb2
    have ll := L.len
    have z1 : (ps.map V.int).length < sizeLine := by rw [List.length_map]; exact six (by omega)
    have z2 : (ss.map V.int).length < sizeLine := by rw [List.length_map]; exact six (by omega)
    refine ⟨_, rfl, _, rfl, fun a1 dx1 hx1 hd1 nd1 => lik_new L hx1 hd1 nd1 ⟨z1, p, rfl, .inl hp⟩ (seqsL hq z2) fun H3 hA s3 => ?_⟩
    have hC3 := hC2.but s3
    refine ⟨_, rfl, _, rfl, c, d, ns, _, (n : Nat), rfl, hC3, by omega, by omega, sm n n6, fun q1 H4 a1' b1 hC4 sb4 => ?_⟩
    refine ⟨_, rfl, _, rfl, c, d, ns, _, (n : Nat), rfl, hC4, by omega, by omega, sm n n6, fun q2 H5 a2' b2 hC5 sb5 => ?_⟩
    refine ⟨(by show 3 ≤ sizeLine; decide), fun TT hTT => ⟨TT, _, rfl, .of upd_same, rfl, _, _, rfl, _, _, rfl, _, _, rfl, rfl, ?_⟩⟩
    have s6 := same_upd (o := .tup [.ref a1, .int q1, .int q2]) hTT
    have hC6 := hC5.but s6
    have sb36 := sb4.trans (sb5.trans (SameBut.of s6))
    have hA6 := hA.but hC3 sb36
    have hT6 := (tabs_but (tabs_but (hT2.ext s3) hC3 sb4) hC4 sb5).ext s6
    generalize upd H5 TT (.tup [.ref a1, .int q1, .int q2]) = H6 at s6 hC6 sb36 hA6 hT6 ⊢
    exact rest1 (OffT c H6) p q a1 n _ q1 q2 ps ss H6 (bs_off c H6) offT_same hC6 (by omega) hT6 ln (hA6.off hC6) (offT_get (sb36 _ _ np (s3 _ _ hp)) np (fun ps e => by cases e)) (offT_get (sb36 _ _ nq (s3 _ _ hq)) nq (fun ps e => by cases e)) a1' b1 a2' b2
end
end K0


set_option Elab.async false
set_option linter.all false
set_option maxRecDepth 100000
set_option maxHeartbeats 8000000
set_option exponentiation.threshold 100000
namespace K0
open PySem PySem.Spec PyProof.Rows L2 RZ K0z

def spLaw (K : PySem.W.Frag) (PT : Addr) : Sp := fun vs H Q _ => ∃ (a : Addr) (ns : List Int), vs = [.ref a] ∧ SqL K H a (ns.map V.int) ∧ ns.length ≤ 63 ∧ LamX.Tabs [(PT, qL)] H ∧ ∀ H', Q (.bl true) H'
section
variable {P : Program} {w : World} {K : PySem.W.Frag} {mg : Str → Option Value} {base : Heap} {f f1 f2 f3 f4 f5 : Addr} {fd : FuncData}
abbrev N_law : List Str := ["script", "drum", "turn", "wide"]
theorem sc_law : FnScope N_law ["script"] (defScope st_law) := ⟨rfl, rfl, rfl, by decide +kernel, rfl, by decide +kernel, by decide +kernel⟩
theorem ok_law {PT : Addr} (F : Fun K "law" "law" st_law f fd) (T : Nm mg) (D__law_drum : Dn P w K mg base 1 "_law_drum" f1 ["script"] (spCoil K)) (D__law_beat : Dn P w K mg base 1 "_law_beat" f2 ["drum", "many"] spTurn)
    (D__law_one_right : DnG P w K mg base 9 "_law_one_right" f3 ["drum", "wide"] spTwo) (D__law_two_right : DnG P w K mg base 9 "_law_two_right" f4 ["drum", "wide"] spTwo) (D__law_refused_right : DnG P w K mg base 11 "_law_refused_right" f5 ["drum"] (spRef PT)) :
    FnG P w K mg base 12 f fd ["script"] (spLaw K PT) := by
  refine Fun_okN F sc_law (fun vs H Q E h => ?_) (fun cdv A outer s H vs Q E hG hr h => ?_)
  · obtain ⟨a, ns, rfl, _⟩ := h
    rfl
  · obtain ⟨a, ns, rfl, hS, hl, hT, k⟩ := h
    refine ⟨_, (pss_cons (ps_set (i := 1) sc_law.nd rfl (Or.inl rfl) (pe_dn D__law_drum (hr.mono (by decide)) rfl (pa_cons (pv 0) pa_nil)))
    (pss_cons (ps_for PassesOwn.never rfl (pi_range1 (by rfl) T.n_range (pa_cons pe_int pa_nil)) (pg_name (i := 2) sc_law.nd rfl (Or.inl rfl))
      (pss_cons (ps_set (i := 3) sc_law.nd rfl (Or.inl rfl) (pe_op op_add pe_int (pe_dn D__law_beat (hr.mono (by decide)) rfl (pa_cons (pv 1) (pa_cons pe_int pa_nil)))))
    (pss_one (ps_if (PW.pt (pw_or (pt_not (pt_val (pe_dg D__law_one_right hG (hr.mono (by decide)) rfl (pa_cons (pv 1) (pa_cons (pv 3) pa_nil))))) (pw_or1 (pt_not (pt_val (pe_dg D__law_two_right hG (hr.mono (by decide)) rfl (pa_cons (pv 1) (pa_cons (pv 3) pa_nil)))))))) (pss_one (ps_ret pe_bl)) pss_nil))))
    (pss_one (ps_ret (pe_dg D__law_refused_right hG (hr.mono (by decide)) rfl (pa_cons (pv 1) pa_nil)))))), ?_⟩
    refine ⟨_, rfl, a, ns, rfl, hS, hl, fun c d0 H1 hcn s1 hC => ?_⟩
    have hT1 := hT.ext s1
    refine ⟨_, rfl, by decide, by decide, for_it (walk_range (lo := 0) (n := 4)) (fun i σ H2 => ∃ (x2 x3 : Option V) (m : Nat), σ = [some (.ref a), some (.ref c), x2, x3] ∧ m ≤ 100 * i ∧ Coil H2 c d0 (ns.take 60) m ∧ LamX.Tabs [(PT, qL)] H2) ⟨none, none, 0, rfl, Nat.le_refl _, hC, hT1⟩ (fun _ _ _ _ _ => trivial) ?_ ?_⟩
    · rintro i x σ H2 H3 hi ⟨x2, x3, m, rfl, hm, hC2, hT2⟩ ⟨rfl, rfl⟩
      refine ⟨_, rfl, c, d0, _, m, 5, rfl, hC2, by omega, by decide, Nat.lt_of_lt_of_le (by decide : (5 : Int).natAbs < 2 ^ 200) (Nat.pow_le_pow_right (by decide) (by decide)), fun r H4 a0 b0 hC4 sb4 => ⟨2, r, rfl, rfl, ?_⟩⟩
      dsimp only
      obtain ⟨n, hn⟩ : ∃ n : Nat, 2 + r = (n : Int) := ⟨(2 + r).toNat, by omega⟩
      rw [hn]
      have hT4 := tabs_but hT2 hC2 sb4
      refine ⟨_, rfl, _, rfl, c, d0, _, _, n, rfl, hC4, by omega, by omega, by omega, fun H5 hC5 sb5 => ⟨_, rfl, iteF ?_⟩⟩
      have hT5 := tabs_but hT4 hC4 sb5
      refine ⟨_, rfl, _, rfl, c, d0, _, _, n, rfl, hC5, by omega, by omega, by omega, fun H6 hC6 sb6 => ⟨_, rfl, iteF ?_⟩⟩
      exact ⟨_, _, _, rfl, by omega, hC6, tabs_but hT5 hC5 sb6⟩
    · rintro σ H2 ⟨x2, x3, m, rfl, hm, hC2, hT2⟩
      exact ⟨_, rfl, c, d0, _, m, rfl, hC2, by omega, hT2, k⟩
end
end K0


set_option Elab.async false
set_option linter.all false
set_option maxRecDepth 100000
set_option maxHeartbeats 4000000
/-! the call of the law at the top, where its promise is FnG's, one table of code objects beside the script -/
namespace K0
open PySem PySem.Spec PyProof.Rows L2

/-- what the top tracks: the table at T, and the list at a where t -/
def topH (T a : Addr) (t : Bool) (u : HO) : Hp := fun b => if b = T then some (.tbl #[]) else if b = a then (if t = true then some u else none) else none
section
variable {T a b : Addr} {t : Bool} {u : HO}
theorem topH_T : topH T a t u T = some (.tbl #[]) := if_pos rfl
theorem topH_a (h : a ≠ T) : topH T a t u a = if t = true then some u else none := (if_neg h).trans (if_pos rfl)
theorem topH_o (h1 : b ≠ T) (h2 : b ≠ a) : topH T a t u b = none := (if_neg h1).trans (if_neg h2)
end
section
variable {P : Program} {w : World} {K : PySem.W.Frag} {mg mb : Str → Option Value} {k : Nat} {fa a cc PT : Addr} {fd : FuncData} {x : Str} {sp : Sp} {sT : Shared} {vs : List Value} {ns : List Int}
theorem top_call (KX : K.In sT.heap) (nG : sT.heap.Ns mainGlobals mg) (nB : sT.heap.Ns builtinsNs mb) (bB : ∀ y : Str, y ≠ "__name__" → mb y = bootBuiltins y) (lim : sT.heap.NoLimit) (gens : sT.gens = #[])
    (tab : sT.heap.get? PT = some { cls := .none, data := .fields #[] }) (tabK : K.lookup PT = none) (code : PySem.W.CodeHd sT.heap cc PT)
    (bm : ∃ (m : Addr) (om : Obj), mg "__builtins__" = some (.ref m) ∧ m ≠ builtinsNs ∧ sT.heap.get? m = some om ∧ om.cls = .type "module" ∧ om.dict = some builtinsNs ∧ om.data = .plain)
    (la : sT.heap.get? a = some { cls := .type "list", data := .seq vs.toArray }) (li : IntsAre vs ns) (ll : ns.length ≤ sizeLine) (room : Room k callerA)
    (F : ∀ gr : Heap, K.In gr → gr.Ns mainGlobals mg → LamX.TabB gr mg cc PT → FnG P w K mg gr k fa fd [x] sp)
    (bind : ∀ (s : Shared) (v : Value), BindsTo s fd ⟨[v], []⟩ [(x, v)])
    (ask : ∀ Hx : Hp, Hx PT = some (.tbl #[]) → SqL K Hx a (ns.map V.int) → sp [.ref a] Hx (fun v _ => v = .bl true) fun _ _ _ => False) :
    codeAny (model P w) callerA (.call (.ref fa) ⟨[.ref a], []⟩) (fun r sE => r = .ok (.ret (.bool true)) ∧ OldK sT.heap sE.heap ∧ sE.os = sT.os ∧ AllBare sE.gens) sT := by
  have vn := vals_ints li
  have len := li.length
  have aT : a ≠ PT := fun z => by
    rw [z, tab] at la
    cases la
  obtain ⟨t, ht⟩ : ∃ t, t = (K.lookup a).isNone := ⟨_, rfl⟩
  obtain ⟨u, hu⟩ : ∃ u, u = HO.frz { cls := .type "list", data := .seq vs.toArray } (.lst (ns.map V.int)) := ⟨_, rfl⟩
  obtain ⟨Hx, eH⟩ : ∃ Hx, Hx = topH PT a t u := ⟨_, rfl⟩
  have hT : Hx PT = some (.tbl #[]) := by rw [eH]; exact topH_T
  have hA : Hx a = if t = true then some u else none := by rw [eH]; exact topH_a aT
  have hO : ∀ b, b ≠ PT → b ≠ a → Hx b = none := fun b h1 h2 => by rw [eH]; exact topH_o h1 h2
  -- nothing but a list and a table is tracked
  have free : ∀ {b : Addr} {o : Obj}, sT.heap.get? b = some o → o.data ≠ .fields #[] → (∀ its n, o.data ≠ .seq its n) → Hx b = none := fun {b o} e d1 d2 => by
    refine hO b (fun z => ?_) fun z => ?_
    · rw [z, tab] at e
      cases e
      exact d1 rfl
    · rw [z, la] at e
      cases e
      exact d2 _ _ rfl
  have held : HOk P w Hx sT.heap := fun b o e => by
    by_cases h1 : b = PT
    · rw [h1, hT] at e
      cases e
      rw [h1]
      exact tab
    · by_cases h2 : b = a
      · rw [h2, hA] at e
        cases t with
        | false => exact absurd e (by simp)
        | true =>
          rw [if_pos rfl] at e
          cases e
          rw [h2, hu]
          exact ⟨la, by rw [List.length_map]; exact ll, vs, _, vn, la⟩
      · rw [hO b h1 h2] at e
        cases e
  have seq : SqL K Hx a (ns.map V.int) := by
    cases hk : K.lookup a with
    | none =>
      rw [hk] at ht
      refine .inl (.inr ⟨{ cls := .type "list", data := .seq vs.toArray }, ?_⟩)
      rw [hA, ht, ← hu]
      rfl
    | some o =>
      have e := KX a o hk
      rw [la] at e
      cases e
      exact .inr ⟨_, vs.toArray, _, hk, rfl, rfl, rfl, by rw [List.size_toArray, len]; exact ll, by simpa using vn⟩
  have inGr : K.In (hidT sT.heap Hx) := fun b o e => by
    refine hidT_get (KX b o e) ?_
    by_cases h1 : b = PT
    · rw [h1, tabK] at e
      cases e
    · by_cases h2 : b = a
      · rw [h2] at e
        rw [e] at ht
        rw [h2, hA, ht]
        rfl
      · exact hO b h1 h2
  have ns2 : ∀ {b : Addr} {m : Str → Option Value}, sT.heap.Ns b m → (hidT sT.heap Hx).Ns b m := fun {b m} ⟨o, es, ep, e, d, r⟩ =>
    ⟨o, es, ep, hidT_get e (free e (fun z => by rw [d] at z; cases z) fun its n z => by rw [d] at z; cases z), d, r⟩
  have tb : LamX.TabB (hidT sT.heap Hx) mg cc PT := by
    refine ⟨?_, ?_, fun z => ?_⟩
    · obtain ⟨o, us, file, tf, flags, tg, inF, text, tt, e1, r1, r2, r3, rest⟩ := code
      refine ⟨o, us, file, tf, flags, tg, inF, text, tt, hidT_get e1 (free e1 (fun z => ?_) fun its n z => ?_), r1, r2, r3, rest⟩
      · rw [r2] at z
        cases z
        simp at r3
      · rw [r2] at z
        cases z
    · obtain ⟨m, om, b1, b2, b3, b4, b5, b6⟩ := bm
      refine ⟨m, om, b1, b2, fun z => ?_, fun z => ?_, hidT_get b3 (free b3 (fun z => ?_) fun its n z => ?_), b4, b5, b6⟩
      · obtain ⟨o, es, ep, e, d, _⟩ := nG
        rw [z, e] at b3
        cases b3
        rw [d] at b6
        cases b6
      · rw [z, tab] at b3
        cases b3
        cases b6
      · rw [b6] at z
        cases z
      · rw [b6] at z
        cases z
    · obtain ⟨o, es, ep, e, d, _⟩ := nG
      rw [z, tab] at e
      cases e
      cases d
  have env : Env0 P w K mg (hidT sT.heap Hx) callerA [] sT Hx :=
    { frames := rfl
      mod := ⟨inGr, ns2 nG, ⟨mb, ns2 nB, bB⟩, let ⟨mc, z1, z2⟩ := lim; ⟨mc, ns2 z1, z2⟩⟩
      bs := fun b o e => of_hidT e
      bsz := Nat.le_of_eq (hidT_size _ _)
      funs := trivial
      frf := fun b hb => absurd hb List.not_mem_nil
      hok := held
      bare := .of_eq gens }
  have go := (F _ inGr (ns2 nG) tb).go callerA [] sT Hx ⟨[.ref a], []⟩ [.ref a] [.ref a] _ _ rfl room env (bind sT (.ref a)) (.cons rfl .nil) (ask Hx hT seq)
  refine codeAny_mono go fun r sE h => ?_
  match r, h with
  | .error e, h => exact (show False from h).elim
  | .ok .next, h => exact (show False from h).elim
  | .ok .brk, h => exact (show False from h).elim
  | .ok .cont, h => exact (show False from h).elim
  | .ok (.ret z), h =>
    obtain ⟨v, Hy, os, bare, un, ok2, rv, q⟩ := h
    have q2 : v = .bl true := q
    subst q2
    obtain rfl : z = Value.bool true := rv
    have stay : ∀ b o, b ≠ PT → sT.heap.get? b = some o → sE.heap.get? b = some o := fun b o nb e => by
      by_cases hb : b = a
      · have hAe := hA
        cases t with
        | false => exact un.keep b o e (by rw [hb, hAe]; rfl) List.not_mem_nil List.not_mem_nil
        | true =>
          rw [if_pos rfl] at hAe
          have fz := hAe
          rw [hu] at fz
          have f2 := un.frzs a _ _ fz
          obtain ⟨z1, _⟩ := held a _ fz
          obtain ⟨z2, _⟩ := ok2 a _ f2
          rw [hb, z1] at e
          cases e
          rw [hb]
          exact z2
      · exact un.keep b o e (hO b nb hb) List.not_mem_nil List.not_mem_nil
    obtain ⟨more, hm⟩ := un.tbls PT #[] hT
    have tE : sE.heap.get? PT = some { cls := .none, data := .fields (#[] ++ more) } := ok2 PT _ hm
    refine ⟨rfl, ⟨fun b o e => ?_, fun b o e => ?_⟩, os, bare⟩
    · by_cases hb : b = PT
      · rw [hb] at e ⊢
        rw [tab] at e
        cases e
        exact .inr (.inl ⟨(code.tab tab).isCodeTable, rfl, #[], more, rfl, tE⟩)
      · exact .inl (stay b o hb e)
    · by_cases hb : b = PT
      · rw [hb]
        exact ⟨_, tE⟩
      · exact ⟨o, stay b o hb e⟩
end
end K0


set_option Elab.async false
set_option linter.all false
set_option maxRecDepth 100000
set_option maxHeartbeats 4000000
namespace K0
open PySem PySem.Spec PyProof.Rows L2

section
variable {P : Program} {w : World} {K : PySem.W.Frag} {mg : Str → Option Value} {base : Heap}
theorem nmg {h : Heap} {x : Str} (X : K.In h) (G : h.Ns mainGlobals mg) (e : PySem.W.nsIn K mainGlobals x = some none) : mg x = none := PySem.W.mg_none_of X G e
theorem cls_ok {K : PySem.W.Frag} {D : Addr} (i : PySem.W.isClsIn K D = true) (t : PySem.W.typeIn K (.ref D) = some (.type "type")) : ((PySem.W.clsIn K D).isSome && PySem.W.typeIn K (.ref D) == some (.type "type")) = true := by
  have i2 : (PySem.W.clsIn K D).isSome = true := i
  rw [i2, t]
  rfl
theorem kit_self {K : PySem.W.Frag} {v : Value} : PySem.W.kitOne K v v = some true := if_pos (beq_iff_eq.mpr rfl)
theorem kit_cl {K : PySem.W.Frag} {C D : Addr} {b : Bool} (h : PySem.W.subIn K (.ref C) (.ref D) = some b) (i : PySem.W.isClsIn K D = true) (t : PySem.W.typeIn K (.ref D) = some (.type "type")) : PySem.W.kitCls K (.ref C) (.ref D) = some b := by
  exact Eq.trans (if_pos (cls_ok i t)) h
theorem kit_no {K : PySem.W.Frag} {C D : Addr} (h : PySem.W.subIn K (.ref C) (.ref D) = some false) (s : PySem.W.subIn K (.ref D) (.ref D) = some true) (i : PySem.W.isClsIn K D = true) (t : PySem.W.typeIn K (.ref D) = some (.type "type")) : PySem.W.kitOne K (.ref C) (.ref D) = some false := by
  have ne : ¬ (Value.ref C == Value.ref D) = true := fun e => by
    have e2 := Value.ref.inj (beq_iff_eq.mp e)
    rw [e2, s] at h
    cases h
  unfold PySem.W.kitOne
  rw [if_neg ne]
  exact kit_cl h i t
theorem kit_yes {K : PySem.W.Frag} {C D : Addr} (h : PySem.W.subIn K (.ref C) (.ref D) = some true) (i : PySem.W.isClsIn K D = true) (t : PySem.W.typeIn K (.ref D) = some (.type "type")) : PySem.W.kitOne K (.ref C) (.ref D) = some true := by
  unfold PySem.W.kitOne
  by_cases e : (Value.ref C == Value.ref D) = true
  · rw [if_pos e]
  · rw [if_neg e]
    exact kit_cl h i t
theorem kit_tn {K : PySem.W.Frag} {C : Addr} {T : String} {b : Bool} (h : PySem.W.subIn K (.ref C) (.type T) = some b) (m : PySem.W.kitMeta T = true) : PySem.W.kitOne K (.ref C) (.type T) = some b := by
  unfold PySem.W.kitOne
  rw [if_neg (fun e => by cases beq_iff_eq.mp e)]
  exact Eq.trans (if_pos m) h
theorem any_no {K : PySem.W.Frag} {t c : Value} {cs : List Value} (h : PySem.W.kitOne K t c = some false) (r : PySem.W.kitAny K t cs = some false) : PySem.W.kitAny K t (c :: cs) = some false := kitAny_cons h (fun _ => r) (fun e => by cases e)
theorem exm_yes {K : PySem.W.Frag} {C D : Addr} (b : PySem.W.subIn K (.ref D) (.type "BaseException") = some true) (h : PySem.W.subIn K (.ref C) (.ref D) = some true) (i : PySem.W.isClsIn K D = true) (t : PySem.W.typeIn K (.ref D) = some (.type "type")) : PySem.W.exmOne K (.ref C) (.ref D) = some true := by
  unfold PySem.W.exmOne
  rw [b, if_pos (by rfl)]
  exact kit_cl h i t
theorem dn_of {x : Str} {st : Stmt} {f : Addr} {fd : FuncData} {k : Nat} {ps : List Str} {sp : Sp} (F : Fun K x x st f fd) (O : FnOk P w K mg base CX0 k f fd ps sp) (m : mg x = some (.ref f))
    (b : ∀ (kV doc pm : Value) (an : Option Addr) (cdv ct : Value) (us : List Value), us.length = ps.length → bindArgs (PySem.W.fnOf x x (defArgs st) (defBody st) (defScope st) .none kV doc pm an cdv ct) ⟨us, []⟩ = pure (ps.zip us)) : Dn P w K mg base k x f ps sp := ⟨⟨fd, O, F.binds b⟩, m, F.kp⟩
theorem dg_of {x : Str} {st : Stmt} {f : Addr} {fd : FuncData} {k : Nat} {ps : List Str} {sp : Sp} (B : Binds K fd ps []) (kp : PySem.W.keepIn K (.ref f) = true) (O : FnG P w K mg base k f fd ps sp) (m : mg x = some (.ref f)) : DnG P w K mg base k x f ps sp := ⟨⟨fd, O, B⟩, m, kp⟩
theorem dx_of {x : Str} {st : Stmt} {f : Addr} {fd : FuncData} {k : Nat} {ps : List Str} {sp : Sp} (F : Fun K x x st f fd) (O : FnOk P w K mg base (L2.CX P w) k f fd ps sp) (m : mg x = some (.ref f))
    (b : ∀ (kV doc pm : Value) (an : Option Addr) (cdv ct : Value) (us : List Value), us.length = ps.length → bindArgs (PySem.W.fnOf x x (defArgs st) (defBody st) (defScope st) .none kV doc pm an cdv ct) ⟨us, []⟩ = pure (ps.zip us)) : DnX P w K mg base k x f ps sp := ⟨⟨fd, O, F.binds b⟩, m, F.kp⟩
theorem kit_tc {K : PySem.W.Frag} {D : Addr} {T : String} (h : PySem.W.subIn K (.type T) (.ref D) = some false) (i : PySem.W.isClsIn K D = true) (t : PySem.W.typeIn K (.ref D) = some (.type "type")) : PySem.W.kitOne K (.type T) (.ref D) = some false := by
  unfold PySem.W.kitOne
  rw [if_neg (fun e => by cases beq_iff_eq.mp e)]
  exact Eq.trans (if_pos (cls_ok i t)) h
/-- a method by keywords -/
theorem kb_m {x q : Str} {st : Stmt} {f : Addr} {fd : FuncData} {ps ks : List Str} (F : Fun K x q st f fd)
    (b : ∀ (kV doc pm : Value) (an : Option Addr) (cdv ct : Value) (u : Value) (ws : List Value), ws.length = ks.length → bindArgs (PySem.W.fnOf x q (defArgs st) (defBody st) (defScope st) .none kV doc pm an cdv ct) ⟨[u], ks.zip ws⟩ = pure (ps.zip (u :: ws))) : KBn K fd ps 1 ks (fun us ws => us ++ ws) kwA := by
  obtain ⟨oc, od, kV, doc, pm, an, cdv, ct, osl, rfl, lk, hcd⟩ := F.ex
  refine ⟨fun s us ws _ l1 l2 => ?_, fun r1 r2 => r1.append r2⟩
  match us, l1 with
  | [u], _ => exact .of_eq (b kV doc pm an cdv ct u ws l2)
theorem kb_s {x q : Str} {st : Stmt} {f : Addr} {fd : FuncData} {ps ks : List Str} (F : Fun K x q st f fd)
    (b : ∀ (kV doc pm : Value) (an : Option Addr) (cdv ct : Value) (ws : List Value), ws.length = ks.length → bindArgs (PySem.W.fnOf x q (defArgs st) (defBody st) (defScope st) .none kV doc pm an cdv ct) ⟨[], ks.zip ws⟩ = pure (ps.zip ws)) : KBn K fd ps 0 ks (fun us ws => us ++ ws) kwA := by
  obtain ⟨oc, od, kV, doc, pm, an, cdv, ct, osl, rfl, lk, hcd⟩ := F.ex
  refine ⟨fun s us ws _ l1 l2 => ?_, fun r1 r2 => r1.append r2⟩
  match us, l1 with
  | [], _ => exact .of_eq (b kV doc pm an cdv ct ws l2)
end
theorem all_mk {P : Program} {w : World} {K : PySem.W.Frag} {h : Heap} {mg : Str → Option Value} (X : K.In h) (G : h.Ns mainGlobals mg)
    {C0 I0 C1 I1 C2 I2 C3 I3 ES EL Minit Meq Mled Mthen Mback pS Msame F0 F1 F2 F3 F4 F5 F6 F7 F8 F9 F10 F11 F12 F13 F14 F15 F16 F17 F18 F19 F20 cc PT : Addr} {nm0 cq0 nm1 cq1 nm2 cq2 nm3 cq3 : Str} {N0 N1 N2 N3 : Addr} {bs0 bm0 sub0 bs1 bm1 sub1 bs2 bm2 sub2 bs3 bm3 sub3 srest : List Value} {sn0 sn1 sn2 sn3 : List Str} {ab0 ab1 ab2 ab3 : Bool} {col0 col1 col2 col3 : Option Bool} {dd0 od0 an0 dd1 od1 an1 dd2 od2 an2 dd3 od3 an3 odinit aninit odeq aneq odled anled odthen anthen odback anback odsame ansame dod0 dan0 dod1 dan1 dod2 dan2 dod3 dan3 dod4 dan4 dod5 dan5 dod6 dan6 dod7 dan7 dod8 dan8 dod9 dan9 dod10 dan10 dod11 dan11 dod12 dan12 dod13 dan13 dod14 dan14 dod15 dan15 dod16 dan16 dod17 dan17 dod18 dan18 dod19 dan19 dod20 dan20 : Option Addr}
    {m00 m10 m20 m30 m50 m01 m11 m21 m31 m51 m02 m12 m22 m32 m52 m03 m13 m23 m33 m53 : Option Value} {oc0 kv0 cdc0 pm0 cd0 tt0 oc1 kv1 cdc1 pm1 cd1 tt1 oc2 kv2 cdc2 pm2 cd2 tt2 oc3 kv3 cdc3 pm3 cd3 tt3 ocinit kvinit cdcinit pminit cdinit ttinit oceq kveq cdceq pmeq cdeq tteq ocled kvled cdcled pmled cdled ttled octhen kvthen cdcthen pmthen cdthen ttthen ocback kvback cdcback pmback cdback ttback ocsame kvsame cdcsame pmsame cdsame ttsame doc0 dkv0 ddc0 dpm0 dcd0 dct0 doc1 dkv1 ddc1 dpm1 dcd1 dct1 doc2 dkv2 ddc2 dpm2 dcd2 dct2 doc3 dkv3 ddc3 dpm3 dcd3 dct3 doc4 dkv4 ddc4 dpm4 dcd4 dct4 doc5 dkv5 ddc5 dpm5 dcd5 dct5 doc6 dkv6 ddc6 dpm6 dcd6 dct6 doc7 dkv7 ddc7 dpm7 dcd7 dct7 doc8 dkv8 ddc8 dpm8 dcd8 dct8 doc9 dkv9 ddc9 dpm9 dcd9 dct9 doc10 dkv10 ddc10 dpm10 dcd10 dct10 doc11 dkv11 ddc11 dpm11 dcd11 dct11 doc12 dkv12 ddc12 dpm12 dcd12 dct12 doc13 dkv13 ddc13 dpm13 dcd13 dct13 doc14 dkv14 ddc14 dpm14 dcd14 dct14 doc15 dkv15 ddc15 dpm15 dcd15 dct15 doc16 dkv16 ddc16 dpm16 dcd16 dct16 doc17 dkv17 ddc17 dpm17 dcd17 dct17 doc18 dkv18 ddc18 dpm18 dcd18 dct18 doc19 dkv19 ddc19 dpm19 dcd19 dct19 doc20 dkv20 ddc20 dpm20 dcd20 dct20 : Value} {sl0 sl1 sl2 sl3 slinit sleq slled slthen slback slsame dsl0 dsl1 dsl2 dsl3 dsl4 dsl5 dsl6 dsl7 dsl8 dsl9 dsl10 dsl11 dsl12 dsl13 dsl14 dsl15 dsl16 dsl17 dsl18 dsl19 dsl20 : Array (Option Value)} {tL tM : Tok}
    (ca0 : PySem.W.nsIn K mainGlobals "BadLikeness" = some (some (.ref C0)))
    (cl0 : K.lookup C0 = some (excClassObj nm0 cq0 C0 N0 bs0 bm0 true sn0 sub0 ab0 col0 dd0 m00 m10 m20 m30 m50 "ValueError.__new__"))
    (cv0 : PySem.HandSPX.refsVE bm0 = true)
    (cs0 : PySem.W.findIn K (.ref C0) "__setattr__" = some (some (.builtin "object.__setattr__")))
    (ci0 : PySem.W.findIn K (.ref C0) "__init__" = some (some (.ref I0)))
    (ct0 : PySem.W.typeIn K (.ref I0) = some (.type "function"))
    (cf0 : K.lookup I0 = some ⟨oc0, od0, .func (PySem.W.fnOf "__init__" "BadLikeness.__init__" (defArgs si_BadLikeness) (defBody si_BadLikeness) (defScope si_BadLikeness) .none kv0 cdc0 pm0 an0 cd0 tt0), sl0⟩)
    (cc0 : PySem.W.codeIn K cd0 "BadLikeness.__init__" = true)
    (cj0 : PySem.W.keepIn K (.ref I0) = true)
    (cn0 : PySem.W.findIn K (.ref C0) "part" = some none)
    (cg0 : PySem.W.findIn K (.ref C0) "__getattribute__" = some (some (.builtin "BaseException.__getattribute__")))
    (ch0 : PySem.W.findIn K (.ref C0) "__getattr__" = some none)
    (ce0 : PySem.W.subIn K (.ref C0) (.type "BaseException") = some true)
    (cy0 : PySem.W.typeIn K (.ref C0) = some (.type "type"))
    (ck0 : PySem.W.keepIn K (.ref C0) = true)
    (cd_0 : PySem.W.hasDictIn K C0 = true)
    (co0 : PySem.W.findIn K (.ref C0) "__class__" = some (some (.builtin "object.__class__")))
    (cm0 : PySem.W.mroIn K C0 (.type "object") = some true)
    (iC0 : PySem.W.isClsIn K C0 = true)
    (ca1 : PySem.W.nsIn K mainGlobals "BadPoint" = some (some (.ref C1)))
    (cl1 : K.lookup C1 = some (excClassObj nm1 cq1 C1 N1 bs1 bm1 true sn1 sub1 ab1 col1 dd1 m01 m11 m21 m31 m51 "ValueError.__new__"))
    (cv1 : PySem.HandSPX.refsVE bm1 = true)
    (cs1 : PySem.W.findIn K (.ref C1) "__setattr__" = some (some (.builtin "object.__setattr__")))
    (ci1 : PySem.W.findIn K (.ref C1) "__init__" = some (some (.ref I1)))
    (ct1 : PySem.W.typeIn K (.ref I1) = some (.type "function"))
    (cf1 : K.lookup I1 = some ⟨oc1, od1, .func (PySem.W.fnOf "__init__" "BadPoint.__init__" (defArgs si_BadPoint) (defBody si_BadPoint) (defScope si_BadPoint) .none kv1 cdc1 pm1 an1 cd1 tt1), sl1⟩)
    (cc1 : PySem.W.codeIn K cd1 "BadPoint.__init__" = true)
    (cj1 : PySem.W.keepIn K (.ref I1) = true)
    (cn1 : PySem.W.findIn K (.ref C1) "part" = some none)
    (cg1 : PySem.W.findIn K (.ref C1) "__getattribute__" = some (some (.builtin "BaseException.__getattribute__")))
    (ch1 : PySem.W.findIn K (.ref C1) "__getattr__" = some none)
    (ce1 : PySem.W.subIn K (.ref C1) (.type "BaseException") = some true)
    (cy1 : PySem.W.typeIn K (.ref C1) = some (.type "type"))
    (ck1 : PySem.W.keepIn K (.ref C1) = true)
    (cd_1 : PySem.W.hasDictIn K C1 = true)
    (co1 : PySem.W.findIn K (.ref C1) "__class__" = some (some (.builtin "object.__class__")))
    (cm1 : PySem.W.mroIn K C1 (.type "object") = some true)
    (iC1 : PySem.W.isClsIn K C1 = true)
    (ca2 : PySem.W.nsIn K mainGlobals "BadNumber" = some (some (.ref C2)))
    (cl2 : K.lookup C2 = some (excClassObj nm2 cq2 C2 N2 bs2 bm2 true sn2 sub2 ab2 col2 dd2 m02 m12 m22 m32 m52 "ValueError.__new__"))
    (cv2 : PySem.HandSPX.refsVE bm2 = true)
    (cs2 : PySem.W.findIn K (.ref C2) "__setattr__" = some (some (.builtin "object.__setattr__")))
    (ci2 : PySem.W.findIn K (.ref C2) "__init__" = some (some (.ref I2)))
    (ct2 : PySem.W.typeIn K (.ref I2) = some (.type "function"))
    (cf2 : K.lookup I2 = some ⟨oc2, od2, .func (PySem.W.fnOf "__init__" "BadNumber.__init__" (defArgs si_BadNumber) (defBody si_BadNumber) (defScope si_BadNumber) .none kv2 cdc2 pm2 an2 cd2 tt2), sl2⟩)
    (cc2 : PySem.W.codeIn K cd2 "BadNumber.__init__" = true)
    (cj2 : PySem.W.keepIn K (.ref I2) = true)
    (cn2 : PySem.W.findIn K (.ref C2) "part" = some none)
    (cg2 : PySem.W.findIn K (.ref C2) "__getattribute__" = some (some (.builtin "BaseException.__getattribute__")))
    (ch2 : PySem.W.findIn K (.ref C2) "__getattr__" = some none)
    (ce2 : PySem.W.subIn K (.ref C2) (.type "BaseException") = some true)
    (cy2 : PySem.W.typeIn K (.ref C2) = some (.type "type"))
    (ck2 : PySem.W.keepIn K (.ref C2) = true)
    (cd_2 : PySem.W.hasDictIn K C2 = true)
    (co2 : PySem.W.findIn K (.ref C2) "__class__" = some (some (.builtin "object.__class__")))
    (cm2 : PySem.W.mroIn K C2 (.type "object") = some true)
    (iC2 : PySem.W.isClsIn K C2 = true)
    (ca3 : PySem.W.nsIn K mainGlobals "Misfit" = some (some (.ref C3)))
    (cl3 : K.lookup C3 = some (excClassObj nm3 cq3 C3 N3 bs3 bm3 true sn3 sub3 ab3 col3 dd3 m03 m13 m23 m33 m53 "ValueError.__new__"))
    (cv3 : PySem.HandSPX.refsVE bm3 = true)
    (cs3 : PySem.W.findIn K (.ref C3) "__setattr__" = some (some (.builtin "object.__setattr__")))
    (ci3 : PySem.W.findIn K (.ref C3) "__init__" = some (some (.ref I3)))
    (ct3 : PySem.W.typeIn K (.ref I3) = some (.type "function"))
    (cf3 : K.lookup I3 = some ⟨oc3, od3, .func (PySem.W.fnOf "__init__" "Misfit.__init__" (defArgs si_Misfit) (defBody si_Misfit) (defScope si_Misfit) .none kv3 cdc3 pm3 an3 cd3 tt3), sl3⟩)
    (cc3 : PySem.W.codeIn K cd3 "Misfit.__init__" = true)
    (cj3 : PySem.W.keepIn K (.ref I3) = true)
    (cn3 : PySem.W.findIn K (.ref C3) "part" = some none)
    (cg3 : PySem.W.findIn K (.ref C3) "__getattribute__" = some (some (.builtin "BaseException.__getattribute__")))
    (ch3 : PySem.W.findIn K (.ref C3) "__getattr__" = some none)
    (ce3 : PySem.W.subIn K (.ref C3) (.type "BaseException") = some true)
    (cy3 : PySem.W.typeIn K (.ref C3) = some (.type "type"))
    (ck3 : PySem.W.keepIn K (.ref C3) = true)
    (cd_3 : PySem.W.hasDictIn K C3 = true)
    (co3 : PySem.W.findIn K (.ref C3) "__class__" = some (some (.builtin "object.__class__")))
    (cm3 : PySem.W.mroIn K C3 (.type "object") = some true)
    (iC3 : PySem.W.isClsIn K C3 = true)
    (eaS : PySem.W.nsIn K mainGlobals "SolidError" = some (some (.ref ES)))
    (eeS : PySem.W.subIn K (.ref ES) (.type "BaseException") = some true)
    (eyS : PySem.W.typeIn K (.ref ES) = some (.type "type"))
    (eiS : PySem.W.isClsIn K ES = true)
    (ks0 : PySem.W.subIn K (.ref C0) (.ref ES) = some true)
    (kk0 : PySem.W.subIn K (.ref C0) (.ref C0) = some true)
    (ks1 : PySem.W.subIn K (.ref C1) (.ref ES) = some true)
    (kk1 : PySem.W.subIn K (.ref C1) (.ref C1) = some true)
    (ks2 : PySem.W.subIn K (.ref C2) (.ref ES) = some true)
    (kk2 : PySem.W.subIn K (.ref C2) (.ref C2) = some true)
    (ks3 : PySem.W.subIn K (.ref C3) (.ref ES) = some true)
    (kk3 : PySem.W.subIn K (.ref C3) (.ref C3) = some true)
    (kx01 : PySem.W.subIn K (.ref C0) (.ref C1) = some false)
    (kx02 : PySem.W.subIn K (.ref C0) (.ref C2) = some false)
    (kx03 : PySem.W.subIn K (.ref C0) (.ref C3) = some false)
    (kx10 : PySem.W.subIn K (.ref C1) (.ref C0) = some false)
    (kx12 : PySem.W.subIn K (.ref C1) (.ref C2) = some false)
    (kx13 : PySem.W.subIn K (.ref C1) (.ref C3) = some false)
    (kx20 : PySem.W.subIn K (.ref C2) (.ref C0) = some false)
    (kx21 : PySem.W.subIn K (.ref C2) (.ref C1) = some false)
    (kx23 : PySem.W.subIn K (.ref C2) (.ref C3) = some false)
    (kx30 : PySem.W.subIn K (.ref C3) (.ref C0) = some false)
    (kx31 : PySem.W.subIn K (.ref C3) (.ref C1) = some false)
    (kx32 : PySem.W.subIn K (.ref C3) (.ref C2) = some false)
    (gn : PySem.W.specialIn K (.builtin "object.__class__") "__get__" = some (some (.builtin "getset_descriptor.__get__")))
    (gt : PySem.W.takesIn K (.builtin "object.__class__") = some true)
    (p_a : PySem.W.nsIn K mainGlobals "Likeness" = some (some (.ref EL)))
    (p_pg : PySem.W.plainGet K EL Str.empty = true)
    (p_hd : PySem.W.hasDictIn K EL = true)
    (p_po : PySem.W.plainOver K EL = true)
    (p_sa : PySem.W.findIn K (.ref EL) "__setattr__" = some (some (.builtin "object.__setattr__")))
    (p_nplaces : PySem.W.findIn K (.ref EL) "places" = some none)
    (p_nsigns : PySem.W.findIn K (.ref EL) "signs" = some none)
    (p_nwide : PySem.W.findIn K (.ref EL) "wide" = some none)
    (p_ha : PySem.W.findIn K (.ref EL) "__class__" = some (some (.builtin "object.__class__")))
    (p_hm : PySem.W.mroIn K EL (.type "object") = some true)
    (p_mk : PySem.W.makesIn K EL = true)
    (p_kc : PySem.W.keepIn K (.ref EL) = true)
    (p_ic : PySem.W.isClsIn K EL = true)
    (p_ty : PySem.W.typeIn K (.ref EL) = some (.type "type"))
    (p_ne : PySem.W.findIn K (.ref EL) "__ne__" = some (some (.builtin "object.__ne__")))
    (p_sint : PySem.W.subIn K (.ref EL) (.type "int") = some false)
    (p_sbool : PySem.W.subIn K (.ref EL) (.type "bool") = some false)
    (p_slist : PySem.W.subIn K (.ref EL) (.type "list") = some false)
    (p_stuple : PySem.W.subIn K (.ref EL) (.type "tuple") = some false)
    (p_tNoneType : PySem.W.subIn K (.type "NoneType") (.ref EL) = some false)
    (p_tint : PySem.W.subIn K (.type "int") (.ref EL) = some false)
    (p_tlist : PySem.W.subIn K (.type "list") (.ref EL) = some false)
    (p_ttuple : PySem.W.subIn K (.type "tuple") (.ref EL) = some false)
    (minita : PySem.W.findIn K (.ref EL) "__init__" = some (some (.ref Minit)))
    (minitf : PySem.W.isFn K (.ref Minit) = true)
    (minitl : K.lookup Minit = some ⟨ocinit, odinit, .func (PySem.W.fnOf "__init__" "Likeness.__init__" (defArgs sm_init) (defBody sm_init) (defScope sm_init) .none kvinit cdcinit pminit aninit cdinit ttinit), slinit⟩)
    (minitc : PySem.W.codeIn K cdinit "Likeness.__init__" = true)
    (minitk : PySem.W.keepIn K (.ref Minit) = true)
    (meqa : PySem.W.findIn K (.ref EL) "__eq__" = some (some (.ref Meq)))
    (meqf : PySem.W.isFn K (.ref Meq) = true)
    (meql : K.lookup Meq = some ⟨oceq, odeq, .func (PySem.W.fnOf "__eq__" "Likeness.__eq__" (defArgs sm_eq) (defBody sm_eq) (defScope sm_eq) .none kveq cdceq pmeq aneq cdeq tteq), sleq⟩)
    (meqc : PySem.W.codeIn K cdeq "Likeness.__eq__" = true)
    (meqk : PySem.W.keepIn K (.ref Meq) = true)
    (mleda : PySem.W.findIn K (.ref EL) "led" = some (some (.ref Mled)))
    (mledf : PySem.W.isFn K (.ref Mled) = true)
    (mledl : K.lookup Mled = some ⟨ocled, odled, .func (PySem.W.fnOf "led" "Likeness.led" (defArgs sm_led) (defBody sm_led) (defScope sm_led) .none kvled cdcled pmled anled cdled ttled), slled⟩)
    (mledc : PySem.W.codeIn K cdled "Likeness.led" = true)
    (mledk : PySem.W.keepIn K (.ref Mled) = true)
    (mthena : PySem.W.findIn K (.ref EL) "then" = some (some (.ref Mthen)))
    (mthenf : PySem.W.isFn K (.ref Mthen) = true)
    (mthenl : K.lookup Mthen = some ⟨octhen, odthen, .func (PySem.W.fnOf "then" "Likeness.then" (defArgs sm_then) (defBody sm_then) (defScope sm_then) .none kvthen cdcthen pmthen anthen cdthen ttthen), slthen⟩)
    (mthenc : PySem.W.codeIn K cdthen "Likeness.then" = true)
    (mthenk : PySem.W.keepIn K (.ref Mthen) = true)
    (mbacka : PySem.W.findIn K (.ref EL) "back" = some (some (.ref Mback)))
    (mbackf : PySem.W.isFn K (.ref Mback) = true)
    (mbackl : K.lookup Mback = some ⟨ocback, odback, .func (PySem.W.fnOf "back" "Likeness.back" (defArgs sm_back) (defBody sm_back) (defScope sm_back) .none kvback cdcback pmback anback cdback ttback), slback⟩)
    (mbackc : PySem.W.codeIn K cdback "Likeness.back" = true)
    (mbackk : PySem.W.keepIn K (.ref Mback) = true)
    (p_rd : PySem.W.readsIn K EL (.type "type") = true)
    (p_ga : PySem.W.specialIn K (.ref EL) "__getattribute__" = some (some (.builtin "type.__getattribute__")))
    (msm : PySem.W.findCls K (.ref EL) (.type "type") "same" = some (.get (.builtin "staticmethod.__get__") (.ref pS) .none (.ref EL)))
    (msr : PySem.W.recIn K pS "staticmethod" = some (.ref Msame :: srest))
    (msamel : K.lookup Msame = some ⟨ocsame, odsame, .func (PySem.W.fnOf "same" "Likeness.same" (defArgs sm_same) (defBody sm_same) (defScope sm_same) .none kvsame cdcsame pmsame ansame cdsame ttsame), slsame⟩)
    (msamec : PySem.W.codeIn K cdsame "Likeness.same" = true)
    (msamek : PySem.W.keepIn K (.ref Msame) = true)
    (n_isinstance : PySem.W.nsIn K mainGlobals "isinstance" = some none)
    (n_int : PySem.W.nsIn K mainGlobals "int" = some none)
    (n_bool : PySem.W.nsIn K mainGlobals "bool" = some none)
    (n_list : PySem.W.nsIn K mainGlobals "list" = some none)
    (n_tuple : PySem.W.nsIn K mainGlobals "tuple" = some none)
    (n_len : PySem.W.nsIn K mainGlobals "len" = some none)
    (n_all : PySem.W.nsIn K mainGlobals "all" = some none)
    (n_abs : PySem.W.nsIn K mainGlobals "abs" = some none)
    (n_repr : PySem.W.nsIn K mainGlobals "repr" = some none)
    (n_sorted : PySem.W.nsIn K mainGlobals "sorted" = some none)
    (n_range : PySem.W.nsIn K mainGlobals "range" = some none)
    (n_enumerate : PySem.W.nsIn K mainGlobals "enumerate" = some none)
    (n_zip : PySem.W.nsIn K mainGlobals "zip" = some none)
    (c_L : PySem.W.nsIn K mainGlobals "LEAST_WIDE" = some (some (.int 2 tL)))
    (c_M : PySem.W.nsIn K mainGlobals "MOST_WIDE" = some (some (.int 6 tM)))
    (da0 : PySem.W.nsIn K mainGlobals "is_integer" = some (some (.ref F0)))
    (dl0 : K.lookup F0 = some ⟨doc0, dod0, .func (PySem.W.fnOf "is_integer" "is_integer" (defArgs st_is_integer) (defBody st_is_integer) (defScope st_is_integer) .none dkv0 ddc0 dpm0 dan0 dcd0 dct0), dsl0⟩)
    (dc0 : PySem.W.codeIn K dcd0 "is_integer" = true)
    (dk0 : PySem.W.keepIn K (.ref F0) = true)
    (da1 : PySem.W.nsIn K mainGlobals "is_within" = some (some (.ref F1)))
    (dl1 : K.lookup F1 = some ⟨doc1, dod1, .func (PySem.W.fnOf "is_within" "is_within" (defArgs st_is_within) (defBody st_is_within) (defScope st_is_within) .none dkv1 ddc1 dpm1 dan1 dcd1 dct1), dsl1⟩)
    (dc1 : PySem.W.codeIn K dcd1 "is_within" = true)
    (dk1 : PySem.W.keepIn K (.ref F1) = true)
    (da2 : PySem.W.nsIn K mainGlobals "is_list" = some (some (.ref F2)))
    (dl2 : K.lookup F2 = some ⟨doc2, dod2, .func (PySem.W.fnOf "is_list" "is_list" (defArgs st_is_list) (defBody st_is_list) (defScope st_is_list) .none dkv2 ddc2 dpm2 dan2 dcd2 dct2), dsl2⟩)
    (dc2 : PySem.W.codeIn K dcd2 "is_list" = true)
    (dk2 : PySem.W.keepIn K (.ref F2) = true)
    (da3 : PySem.W.nsIn K mainGlobals "are_integers" = some (some (.ref F3)))
    (dl3 : K.lookup F3 = some ⟨doc3, dod3, .func (PySem.W.fnOf "are_integers" "are_integers" (defArgs st_are_integers) (defBody st_are_integers) (defScope st_are_integers) .none dkv3 ddc3 dpm3 dan3 dcd3 dct3), dsl3⟩)
    (dc3 : PySem.W.codeIn K dcd3 "are_integers" = true)
    (dk3 : PySem.W.keepIn K (.ref F3) = true)
    (da4 : PySem.W.nsIn K mainGlobals "is_point" = some (some (.ref F4)))
    (dl4 : K.lookup F4 = some ⟨doc4, dod4, .func (PySem.W.fnOf "is_point" "is_point" (defArgs st_is_point) (defBody st_is_point) (defScope st_is_point) .none dkv4 ddc4 dpm4 dan4 dcd4 dct4), dsl4⟩)
    (dc4 : PySem.W.codeIn K dcd4 "is_point" = true)
    (dk4 : PySem.W.keepIn K (.ref F4) = true)
    (da5 : PySem.W.nsIn K mainGlobals "_are_places" = some (some (.ref F5)))
    (dl5 : K.lookup F5 = some ⟨doc5, dod5, .func (PySem.W.fnOf "_are_places" "_are_places" (defArgs st__are_places) (defBody st__are_places) (defScope st__are_places) .none dkv5 ddc5 dpm5 dan5 dcd5 dct5), dsl5⟩)
    (dc5 : PySem.W.codeIn K dcd5 "_are_places" = true)
    (dk5 : PySem.W.keepIn K (.ref F5) = true)
    (da6 : PySem.W.nsIn K mainGlobals "_one_then" = some (some (.ref F6)))
    (dl6 : K.lookup F6 = some ⟨doc6, dod6, .func (PySem.W.fnOf "_one_then" "_one_then" (defArgs st__one_then) (defBody st__one_then) (defScope st__one_then) .none dkv6 ddc6 dpm6 dan6 dcd6 dct6), dsl6⟩)
    (dc6 : PySem.W.codeIn K dcd6 "_one_then" = true)
    (dk6 : PySem.W.keepIn K (.ref F6) = true)
    (da7 : PySem.W.nsIn K mainGlobals "_law_drum" = some (some (.ref F7)))
    (dl7 : K.lookup F7 = some ⟨doc7, dod7, .func (PySem.W.fnOf "_law_drum" "_law_drum" (defArgs st__law_drum) (defBody st__law_drum) (defScope st__law_drum) .none dkv7 ddc7 dpm7 dan7 dcd7 dct7), dsl7⟩)
    (dc7 : PySem.W.codeIn K dcd7 "_law_drum" = true)
    (dk7 : PySem.W.keepIn K (.ref F7) = true)
    (da8 : PySem.W.nsIn K mainGlobals "_law_beat" = some (some (.ref F8)))
    (dl8 : K.lookup F8 = some ⟨doc8, dod8, .func (PySem.W.fnOf "_law_beat" "_law_beat" (defArgs st__law_beat) (defBody st__law_beat) (defScope st__law_beat) .none dkv8 ddc8 dpm8 dan8 dcd8 dct8), dsl8⟩)
    (dc8 : PySem.W.codeIn K dcd8 "_law_beat" = true)
    (dk8 : PySem.W.keepIn K (.ref F8) = true)
    (da9 : PySem.W.nsIn K mainGlobals "_law_choose" = some (some (.ref F9)))
    (dl9 : K.lookup F9 = some ⟨doc9, dod9, .func (PySem.W.fnOf "_law_choose" "_law_choose" (defArgs st__law_choose) (defBody st__law_choose) (defScope st__law_choose) .none dkv9 ddc9 dpm9 dan9 dcd9 dct9), dsl9⟩)
    (dc9 : PySem.W.codeIn K dcd9 "_law_choose" = true)
    (dk9 : PySem.W.keepIn K (.ref F9) = true)
    (da10 : PySem.W.nsIn K mainGlobals "_law_stirred" = some (some (.ref F10)))
    (dl10 : K.lookup F10 = some ⟨doc10, dod10, .func (PySem.W.fnOf "_law_stirred" "_law_stirred" (defArgs st__law_stirred) (defBody st__law_stirred) (defScope st__law_stirred) .none dkv10 ddc10 dpm10 dan10 dcd10 dct10), dsl10⟩)
    (dc10 : PySem.W.codeIn K dcd10 "_law_stirred" = true)
    (dk10 : PySem.W.keepIn K (.ref F10) = true)
    (da11 : PySem.W.nsIn K mainGlobals "_law_drawn" = some (some (.ref F11)))
    (dl11 : K.lookup F11 = some ⟨doc11, dod11, .func (PySem.W.fnOf "_law_drawn" "_law_drawn" (defArgs st__law_drawn) (defBody st__law_drawn) (defScope st__law_drawn) .none dkv11 ddc11 dpm11 dan11 dcd11 dct11), dsl11⟩)
    (dc11 : PySem.W.codeIn K dcd11 "_law_drawn" = true)
    (dk11 : PySem.W.keepIn K (.ref F11) = true)
    (da12 : PySem.W.nsIn K mainGlobals "_law_led" = some (some (.ref F12)))
    (dl12 : K.lookup F12 = some ⟨doc12, dod12, .func (PySem.W.fnOf "_law_led" "_law_led" (defArgs st__law_led) (defBody st__law_led) (defScope st__law_led) .none dkv12 ddc12 dpm12 dan12 dcd12 dct12), dsl12⟩)
    (dc12 : PySem.W.codeIn K dcd12 "_law_led" = true)
    (dk12 : PySem.W.keepIn K (.ref F12) = true)
    (da13 : PySem.W.nsIn K mainGlobals "_law_point" = some (some (.ref F13)))
    (dl13 : K.lookup F13 = some ⟨doc13, dod13, .func (PySem.W.fnOf "_law_point" "_law_point" (defArgs st__law_point) (defBody st__law_point) (defScope st__law_point) .none dkv13 ddc13 dpm13 dan13 dcd13 dct13), dsl13⟩)
    (dc13 : PySem.W.codeIn K dcd13 "_law_point" = true)
    (dk13 : PySem.W.keepIn K (.ref F13) = true)
    (da14 : PySem.W.nsIn K mainGlobals "_law_told" = some (some (.ref F14)))
    (dl14 : K.lookup F14 = some ⟨doc14, dod14, .func (PySem.W.fnOf "_law_told" "_law_told" (defArgs st__law_told) (defBody st__law_told) (defScope st__law_told) .none dkv14 ddc14 dpm14 dan14 dcd14 dct14), dsl14⟩)
    (dc14 : PySem.W.codeIn K dcd14 "_law_told" = true)
    (dk14 : PySem.W.keepIn K (.ref F14) = true)
    (da15 : PySem.W.nsIn K mainGlobals "_law_due" = some (some (.ref F15)))
    (dl15 : K.lookup F15 = some ⟨doc15, dod15, .func (PySem.W.fnOf "_law_due" "_law_due" (defArgs st__law_due) (defBody st__law_due) (defScope st__law_due) .none dkv15 ddc15 dpm15 dan15 dcd15 dct15), dsl15⟩)
    (dc15 : PySem.W.codeIn K dcd15 "_law_due" = true)
    (dk15 : PySem.W.keepIn K (.ref F15) = true)
    (da16 : PySem.W.nsIn K mainGlobals "_law_one_right" = some (some (.ref F16)))
    (dl16 : K.lookup F16 = some ⟨doc16, dod16, .func (PySem.W.fnOf "_law_one_right" "_law_one_right" (defArgs st__law_one_right) (defBody st__law_one_right) (defScope st__law_one_right) .none dkv16 ddc16 dpm16 dan16 dcd16 dct16), dsl16⟩)
    (dc16 : PySem.W.codeIn K dcd16 "_law_one_right" = true)
    (dk16 : PySem.W.keepIn K (.ref F16) = true)
    (da17 : PySem.W.nsIn K mainGlobals "_law_two_right" = some (some (.ref F17)))
    (dl17 : K.lookup F17 = some ⟨doc17, dod17, .func (PySem.W.fnOf "_law_two_right" "_law_two_right" (defArgs st__law_two_right) (defBody st__law_two_right) (defScope st__law_two_right) .none dkv17 ddc17 dpm17 dan17 dcd17 dct17), dsl17⟩)
    (dc17 : PySem.W.codeIn K dcd17 "_law_two_right" = true)
    (dk17 : PySem.W.keepIn K (.ref F17) = true)
    (da18 : PySem.W.nsIn K mainGlobals "_law_heard" = some (some (.ref F18)))
    (dl18 : K.lookup F18 = some ⟨doc18, dod18, .func (PySem.W.fnOf "_law_heard" "_law_heard" (defArgs st__law_heard) (defBody st__law_heard) (defScope st__law_heard) .none dkv18 ddc18 dpm18 dan18 dcd18 dct18), dsl18⟩)
    (dc18 : PySem.W.codeIn K dcd18 "_law_heard" = true)
    (dk18 : PySem.W.keepIn K (.ref F18) = true)
    (da19 : PySem.W.nsIn K mainGlobals "_law_refused_right" = some (some (.ref F19)))
    (dl19 : K.lookup F19 = some ⟨doc19, dod19, .func (PySem.W.fnOf "_law_refused_right" "_law_refused_right" (defArgs st__law_refused_right) (defBody st__law_refused_right) (defScope st__law_refused_right) .none dkv19 ddc19 dpm19 dan19 (.ref cc) dct19), dsl19⟩)
    (dc19 : PySem.W.codeIn K (.ref cc) "_law_refused_right" = true)
    (dk19 : PySem.W.keepIn K (.ref F19) = true)
    (da20 : PySem.W.nsIn K mainGlobals "law" = some (some (.ref F20)))
    (dl20 : K.lookup F20 = some ⟨doc20, dod20, .func (PySem.W.fnOf "law" "law" (defArgs st_law) (defBody st_law) (defScope st_law) .none dkv20 ddc20 dpm20 dan20 dcd20 dct20), dsl20⟩)
    (dc20 : PySem.W.codeIn K dcd20 "law" = true)
    (dk20 : PySem.W.keepIn K (.ref F20) = true)
    {fa : Addr} (hmg : mg "law" = some (.ref fa)) (gr : Heap) (tb : LamX.TabB gr mg cc PT) : FnG P w K mg gr 12 fa (PySem.W.fnOf "law" "law" (defArgs st_law) (defBody st_law) (defScope st_law) .none dkv20 ddc20 dpm20 dan20 dcd20 dct20) ["script"] (spLaw K PT) := by
  have ox0 : OexC K C0 := ⟨⟨_, _, _, _, _, _, _, _, _, _, _, _, _, _, _, cl0, cv0⟩, cs0, ce0, cy0, ck0⟩
  have xf0 : XfC K C0 := ⟨cg0, ch0, ce0, cd_0⟩
  have ex0 : ExcC K C0 := ⟨cg0, ch0, ce0, cd_0, co0, gn, gt, cm0⟩
  have fi0 := fun_mk (st := si_BadLikeness) cf0 cc0 cj0
  have R0 : RaiseC P w K mg gr "BadLikeness" C0 "part" := ⟨I0, _, _, ci0, ct0, oki_BadLikeness fi0 ox0 cn0, fi0.binds (ps := ["self", "part"]) (fun _ _ _ _ _ _ us hl => match us, hl with | [_, _], _ => rfl), ox0, PySem.W.mg_of X G ca0⟩
  have ox1 : OexC K C1 := ⟨⟨_, _, _, _, _, _, _, _, _, _, _, _, _, _, _, cl1, cv1⟩, cs1, ce1, cy1, ck1⟩
  have xf1 : XfC K C1 := ⟨cg1, ch1, ce1, cd_1⟩
  have ex1 : ExcC K C1 := ⟨cg1, ch1, ce1, cd_1, co1, gn, gt, cm1⟩
  have fi1 := fun_mk (st := si_BadPoint) cf1 cc1 cj1
  have R1 : RaiseC P w K mg gr "BadPoint" C1 "part" := ⟨I1, _, _, ci1, ct1, oki_BadPoint fi1 ox1 cn1, fi1.binds (ps := ["self", "part"]) (fun _ _ _ _ _ _ us hl => match us, hl with | [_, _], _ => rfl), ox1, PySem.W.mg_of X G ca1⟩
  have ox2 : OexC K C2 := ⟨⟨_, _, _, _, _, _, _, _, _, _, _, _, _, _, _, cl2, cv2⟩, cs2, ce2, cy2, ck2⟩
  have xf2 : XfC K C2 := ⟨cg2, ch2, ce2, cd_2⟩
  have ex2 : ExcC K C2 := ⟨cg2, ch2, ce2, cd_2, co2, gn, gt, cm2⟩
  have fi2 := fun_mk (st := si_BadNumber) cf2 cc2 cj2
  have R2 : RaiseC P w K mg gr "BadNumber" C2 "part" := ⟨I2, _, _, ci2, ct2, oki_BadNumber fi2 ox2 cn2, fi2.binds (ps := ["self", "part"]) (fun _ _ _ _ _ _ us hl => match us, hl with | [_, _], _ => rfl), ox2, PySem.W.mg_of X G ca2⟩
  have ox3 : OexC K C3 := ⟨⟨_, _, _, _, _, _, _, _, _, _, _, _, _, _, _, cl3, cv3⟩, cs3, ce3, cy3, ck3⟩
  have xf3 : XfC K C3 := ⟨cg3, ch3, ce3, cd_3⟩
  have ex3 : ExcC K C3 := ⟨cg3, ch3, ce3, cd_3, co3, gn, gt, cm3⟩
  have fi3 := fun_mk (st := si_Misfit) cf3 cc3 cj3
  have R3 : RaiseC P w K mg gr "Misfit" C3 "part" := ⟨I3, _, _, ci3, ct3, oki_Misfit fi3 ox3 cn3, fi3.binds (ps := ["self", "part"]) (fun _ _ _ _ _ _ us hl => match us, hl with | [_, _], _ => rfl), ox3, PySem.W.mg_of X G ca3⟩
  have T : Nm mg := ⟨nmg X G n_isinstance, nmg X G n_int, nmg X G n_bool, nmg X G n_list, nmg X G n_tuple, nmg X G n_len, nmg X G n_all, nmg X G n_abs, nmg X G n_repr, nmg X G n_sorted, nmg X G n_range, nmg X G n_enumerate, nmg X G n_zip, ⟨_, PySem.W.mg_of X G c_L⟩, ⟨_, PySem.W.mg_of X G c_M⟩⟩
  have f0 := fun_mk (st := st_is_integer) dl0 dc0 dk0
  have a0 := PySem.W.mg_of X G da0
  have f1 := fun_mk (st := st_is_within) dl1 dc1 dk1
  have a1 := PySem.W.mg_of X G da1
  have f2 := fun_mk (st := st_is_list) dl2 dc2 dk2
  have a2 := PySem.W.mg_of X G da2
  have f3 := fun_mk (st := st_are_integers) dl3 dc3 dk3
  have a3 := PySem.W.mg_of X G da3
  have f4 := fun_mk (st := st_is_point) dl4 dc4 dk4
  have a4 := PySem.W.mg_of X G da4
  have f5 := fun_mk (st := st__are_places) dl5 dc5 dk5
  have a5 := PySem.W.mg_of X G da5
  have f6 := fun_mk (st := st__one_then) dl6 dc6 dk6
  have a6 := PySem.W.mg_of X G da6
  have f7 := fun_mk (st := st__law_drum) dl7 dc7 dk7
  have a7 := PySem.W.mg_of X G da7
  have f8 := fun_mk (st := st__law_beat) dl8 dc8 dk8
  have a8 := PySem.W.mg_of X G da8
  have f9 := fun_mk (st := st__law_choose) dl9 dc9 dk9
  have a9 := PySem.W.mg_of X G da9
  have f10 := fun_mk (st := st__law_stirred) dl10 dc10 dk10
  have a10 := PySem.W.mg_of X G da10
  have f11 := fun_mk (st := st__law_drawn) dl11 dc11 dk11
  have a11 := PySem.W.mg_of X G da11
  have f12 := fun_mk (st := st__law_led) dl12 dc12 dk12
  have a12 := PySem.W.mg_of X G da12
  have f13 := fun_mk (st := st__law_point) dl13 dc13 dk13
  have a13 := PySem.W.mg_of X G da13
  have f14 := fun_mk (st := st__law_told) dl14 dc14 dk14
  have a14 := PySem.W.mg_of X G da14
  have f15 := fun_mk (st := st__law_due) dl15 dc15 dk15
  have a15 := PySem.W.mg_of X G da15
  have f16 := fun_mk (st := st__law_one_right) dl16 dc16 dk16
  have a16 := PySem.W.mg_of X G da16
  have f17 := fun_mk (st := st__law_two_right) dl17 dc17 dk17
  have a17 := PySem.W.mg_of X G da17
  have f18 := fun_mk (st := st__law_heard) dl18 dc18 dk18
  have a18 := PySem.W.mg_of X G da18
  have f19 : FunC K "_law_refused_right" "_law_refused_right" st__law_refused_right F19 _ cc := ⟨_, _, _, _, _, _, _, _, rfl, dl19, dc19⟩
  have a19 := PySem.W.mg_of X G da19
  have f20 := fun_mk (st := st_law) dl20 dc20 dk20
  have a20 := PySem.W.mg_of X G da20
  have D_is_integer := dn_of f0 (ok_is_integer (P := P) (w := w) (base := gr) f0 T) a0 (fun _ _ _ _ _ _ us hl => match us, hl with | [_], _ => rfl)
  have D_is_within := dn_of f1 (ok_is_within f1 T D_is_integer) a1 (fun _ _ _ _ _ _ us hl => match us, hl with | [_, _, _], _ => rfl)
  have D_is_list := dn_of f2 (ok_is_list f2 T D_is_within) a2 (fun _ _ _ _ _ _ us hl => match us, hl with | [_, _, _], _ => rfl)
  have D_are_integers := dn_of f3 (ok_are_integers f3 T D_is_integer D_is_list) a3 (fun _ _ _ _ _ _ us hl => match us, hl with | [_], _ => rfl)
  have D_is_point := dn_of f4 (ok_is_point f4 D_are_integers D_is_list) a4 (fun _ _ _ _ _ _ us hl => match us, hl with | [_, _], _ => rfl)
  have D__are_places := dn_of f5 (ok_plc f5 T D_is_list D_are_integers) a5 (fun _ _ _ _ _ _ us hl => match us, hl with | [_], _ => rfl)
  have D__one_then := dn_of f6 (ok_one_then (P := P) (w := w) (base := gr) f6 T) a6 (fun _ _ _ _ _ _ us hl => match us, hl with | [_, _], _ => rfl)
  have einit := fun_mk (x := "__init__") (qual := "Likeness.__init__") (st := sm_init) minitl minitc minitk
  have eeq := fun_mk (x := "__eq__") (qual := "Likeness.__eq__") (st := sm_eq) meql meqc meqk
  have eled := fun_mk (x := "led") (qual := "Likeness.led") (st := sm_led) mledl mledc mledk
  have ethen := fun_mk (x := "then") (qual := "Likeness.then") (st := sm_then) mthenl mthenc mthenk
  have eback := fun_mk (x := "back") (qual := "Likeness.back") (st := sm_back) mbackl mbackc mbackk
  have esame := fun_mk (x := "same") (qual := "Likeness.same") (st := sm_same) msamel msamec msamek
  have LC : LikC K EL := ⟨⟨p_pg, p_hd, p_po, p_sa⟩, p_nplaces, p_nsigns, p_nwide⟩
  have LD : LikD K EL := { toLikC := LC, toKindsC := ⟨kit_tn p_sint rfl, kit_tn p_sbool rfl, kit_tn p_slist rfl, kit_tn p_stuple rfl⟩, ha := p_ha, hn := gn, htk := gt, hm := p_hm, me := kit_self, kN := kit_tc p_tNoneType p_ic p_ty, kI := kit_tc p_tint p_ic p_ty, kL := kit_tc p_tlist p_ic p_ty, kT := kit_tc p_ttuple p_ic p_ty }
  have mL := PySem.W.mg_of X G p_a
  have oi := ok_init einit T LC D_is_point D__are_places R0
  have MK : Mk K EL Minit := ⟨p_mk, minita, minitf, p_kc⟩
  have LM : LikM P w K mg gr EL C0 := ⟨⟨Minit, _, MK, oi, einit.binds (ps := ["self", "places", "signs"]) (fun _ _ _ _ _ _ us hl => match us, hl with | [_, _, _], _ => rfl)⟩, mL⟩
  have DE : EqD P w K mg gr EL := ⟨⟨Meq, _, ok_leq eeq T LD mL, meqa, meqf, eeq.binds (ps := ["self", "other"]) (fun _ _ _ _ _ _ us hl => match us, hl with | [_, _], _ => rfl)⟩, p_ne, p_hm, p_ttuple, p_tlist⟩
  have DL : LikX P w K mg gr EL C0 C1 C3 C2 := ⟨LM, LD, DE,
    ⟨Minit, _, _, MK, oi, kb_m (ps := ["self", "places", "signs"]) (ks := ["places", "signs"]) einit (fun _ _ _ _ _ _ u ws hl => match ws, hl with | [_, _], _ => rfl)⟩,
    ⟨Mled, _, _, ⟨mleda, mledf, mledk⟩, ok_led eled T LC D_is_point R1, eled.binds (ps := ["self", "point"]) (fun _ _ _ _ _ _ us hl => match us, hl with | [_, _], _ => rfl), kb_m (ps := ["self", "point"]) (ks := ["point"]) eled (fun _ _ _ _ _ _ u ws hl => match ws, hl with | [_], _ => rfl)⟩,
    ⟨Mthen, _, _, ⟨mthena, mthenf, mthenk⟩, ok_then ethen T LD LM D__one_then R0 R3, ethen.binds (ps := ["self", "other"]) (fun _ _ _ _ _ _ us hl => match us, hl with | [_, _], _ => rfl), kb_m (ps := ["self", "other"]) (ks := ["other"]) ethen (fun _ _ _ _ _ _ u ws hl => match ws, hl with | [_], _ => rfl)⟩,
    ⟨Mback, _, ⟨mbacka, mbackf, mbackk⟩, ok_back eback T LD LM, eback.binds (ps := ["self"]) (fun _ _ _ _ _ _ us hl => match us, hl with | [_], _ => rfl)⟩,
    ⟨pS, Msame, _, .type "type", _, ⟨p_rd, p_ga⟩, ⟨msm, ⟨_, msr⟩, msamek⟩, ok_same esame T LM D_is_within R2, esame.binds (ps := ["wide"]) (fun _ _ _ _ _ _ us hl => match us, hl with | [_], _ => rfl), kb_s (ps := ["wide"]) (ks := ["wide"]) esame (fun _ _ _ _ _ _ ws hl => match ws, hl with | [_], _ => rfl)⟩⟩
  have D__law_drum := dn_of f7 (ok_coil (P := P) (w := w) (base := gr) f7 T) a7 (fun _ _ _ _ _ _ us hl => match us, hl with | [_], _ => rfl)
  have D__law_beat := dn_of f8 (ok_turn (P := P) (w := w) (base := gr) f8 T) a8 (fun _ _ _ _ _ _ us hl => match us, hl with | [_, _], _ => rfl)
  have D__law_choose := dn_of f9 (ok_one_of f9 T D__law_beat) a9 (fun _ _ _ _ _ _ us hl => match us, hl with | [_, _], _ => rfl)
  have D__law_stirred := dn_of f10 (ok_stirred f10 T D__law_beat) a10 (fun _ _ _ _ _ _ us hl => match us, hl with | [_, _], _ => rfl)
  have D__law_drawn := dn_of f11 (ok_drawn f11 T D__law_stirred D__law_choose) a11 (fun _ _ _ _ _ _ us hl => match us, hl with | [_, _], _ => rfl)
  have D__law_led := dn_of f12 (ok_lled (P := P) (w := w) (base := gr) f12 T) a12 (fun _ _ _ _ _ _ us hl => match us, hl with | [_, _, _], _ => rfl)
  have D__law_point := dn_of f13 (ok_point f13 T D__law_beat D__law_choose) a13 (fun _ _ _ _ _ _ us hl => match us, hl with | [_, _], _ => rfl)
  have J__law_drawn : Dn P w K mg gr 3 "_law_drawn" F11 ["drum", "wide"] jDrawn := by rw [jDrawn_eq]; exact D__law_drawn
  have J__law_led : Dn P w K mg gr 1 "_law_led" F12 ["places", "signs", "point"] (jLLed K) := by rw [jLLed_eq]; exact D__law_led
  have J__law_point : Dn P w K mg gr 3 "_law_point" F13 ["drum", "wide"] jPnt := by rw [jPnt_eq]; exact D__law_point
  have B14 := (fun_mk (st := st__law_told) dl14 dc14 dk14).binds (ps := ["value"]) (fun _ _ _ _ _ _ us hl => match us, hl with | [_], _ => rfl)
  have G__law_told := dg_of (x := "_law_told") (st := st__law_told) B14 dk14 (ok_told (P := P) (w := w) (base := gr) f14 T LC) a14
  have B15 := (fun_mk (st := st__law_due) dl15 dc15 dk15).binds (ps := ["led"]) (fun _ _ _ _ _ _ us hl => match us, hl with | [_], _ => rfl)
  have G__law_due := dg_of (x := "_law_due") (st := st__law_due) B15 dk15 (ok_due (P := P) (w := w) (base := gr) f15 T) a15
  have J__law_told : DnG P w K mg gr 1 "_law_told" F14 ["value"] (jTold K EL) := by rw [jTold_eq]; exact G__law_told
  have J__law_due : DnG P w K mg gr 1 "_law_due" F15 ["led"] (jDueL K) := by rw [jDueL_eq]; exact G__law_due
  have B16 := (fun_mk (st := st__law_one_right) dl16 dc16 dk16).binds (ps := ["drum", "wide"]) (fun _ _ _ _ _ _ us hl => match us, hl with | [_, _], _ => rfl)
  have G__law_one_right := dg_of (x := "_law_one_right") (st := st__law_one_right) B16 dk16 (ok_one f16 T DL J__law_drawn J__law_point J__law_led J__law_told J__law_due D__law_beat) a16
  have B17 := (fun_mk (st := st__law_two_right) dl17 dc17 dk17).binds (ps := ["drum", "wide"]) (fun _ _ _ _ _ _ us hl => match us, hl with | [_, _], _ => rfl)
  have G__law_two_right := dg_of (x := "_law_two_right") (st := st__law_two_right) B17 dk17 (ok_two f17 T DL J__law_drawn J__law_point J__law_led J__law_told J__law_due) a17
  have ER : Errs mg ES C0 C1 C2 C3 := ⟨PySem.W.mg_of X G eaS, PySem.W.mg_of X G ca0, PySem.W.mg_of X G ca1, PySem.W.mg_of X G ca2, PySem.W.mg_of X G ca3⟩
  have hr0 : HrC K ES C0 C1 C2 C3 C0 "likeness" := ⟨⟨_, _, _, _, .lik, kit_self, kit_no kx01 kk1 iC1 cy1, kit_no kx02 kk2 iC2 cy2, kit_no kx03 kk3 iC3 cy3⟩, exm_yes eeS ks0 eiS eyS, ex0, xf0, cn0⟩
  have hr1 : HrC K ES C0 C1 C2 C3 C1 "point" := ⟨⟨_, _, _, _, .pnt, kit_no kx10 kk0 iC0 cy0, kit_self, kit_no kx12 kk2 iC2 cy2, kit_no kx13 kk3 iC3 cy3⟩, exm_yes eeS ks1 eiS eyS, ex1, xf1, cn1⟩
  have hr2 : HrC K ES C0 C1 C2 C3 C2 "number" := ⟨⟨_, _, _, _, .num, kit_no kx20 kk0 iC0 cy0, kit_no kx21 kk1 iC1 cy1, kit_self, kit_no kx23 kk3 iC3 cy3⟩, exm_yes eeS ks2 eiS eyS, ex2, xf2, cn2⟩
  have hr3 : HrC K ES C0 C1 C2 C3 C3 "misfit" := ⟨⟨_, _, _, _, .mis, kit_no kx30 kk0 iC0 cy0, kit_no kx31 kk1 iC1 cy1, kit_no kx32 kk2 iC2 cy2, kit_self⟩, exm_yes eeS ks3 eiS eyS, ex3, xf3, cn3⟩
  have B19 := (fun_mk (st := st__law_refused_right) dl19 dc19 dk19).binds (ps := ["drum"]) (fun _ _ _ _ _ _ us hl => match us, hl with | [_], _ => rfl)
  have G__law_refused_right := dg_of (x := "_law_refused_right") (st := st__law_refused_right) B19 dk19 (ok_ref (PT := PT) f19 T DL J__law_drawn J__law_point D__law_choose D__law_beat f18 (f18.binds (ps := ["ask"]) (fun _ _ _ _ _ _ us hl => match us, hl with | [_], _ => rfl)) a18 dk18 tb ER hr0 hr1 hr2 hr3) a19
  have efa := hmg.symm.trans a20
  cases efa
  exact ok_law f20 T D__law_drum D__law_beat G__law_one_right G__law_two_right G__law_refused_right
end K0


set_option Elab.async false
set_option linter.all false
set_option maxRecDepth 100000
set_option maxHeartbeats 4000000
namespace K0
open PySem PySem.Spec PyProof.Rows L2
theorem walk_G {l : PySem.W.OpenLaw} {n k : Nat} {q : Program} {loose : List Str} {XP : (Str → Option Value) → Heap → Prop} {YP : World → Heap → Prop} {d : DefRec}
    {K : Params → PySem.W.Frag} {x : Str}
    (hn : l.most = some n) (hn2 : n ≤ sizeLine) (hdf : d.params.defaults = []) (room : Room k callerA)
    (kin : ∀ (w : World) (h : Heap), YP w h → (K w.params).In h)
    (F : ∀ (w : World) (mg : Str → Option Value) (fa : Addr) (h : Heap),
      YP w h → (K w.params).In h → h.Ns mainGlobals mg → mg d.name = some (.ref fa) →
      ∃ (fd : FuncData) (cc PT : Addr) (sp : Sp), h.get? PT = some { cls := .none, data := .fields #[] } ∧
        (K w.params).lookup PT = none ∧ PySem.W.CodeHd h cc PT ∧
        (∀ (s : Shared) (v : Value), BindsTo s fd ⟨[v], []⟩ [(x, v)]) ∧
        (∀ (Hx : Hp) (a : Addr) (ns : List Int), ns.length ≤ n → Hx PT = some (.tbl #[]) →
          SqL (K w.params) Hx a (ns.map V.int) → sp [.ref a] Hx (fun v _ => v = .bl true) fun _ _ _ => False) ∧
        ∀ gr : Heap, (K w.params).In gr → gr.Ns mainGlobals mg → LamX.TabB gr mg cc PT →
          FnG l.prog w (K w.params) mg gr k fa fd [x] sp) :
    PySem.W.WalkO q loose XP YP l.row.toRowW d []
      (fun f vs => PySem.call f vs) := by
  refine Att.attach_call hn hdf fun w sB sT mg mb fa o pm cd doc a vs ns Gd Y _ _ _ hmg la li ll gens => ?_
  obtain ⟨fd, cc, PT, sp, tab, tabK, code, bind, ask, Fg⟩ := F w mg fa _ Y (kin w _ Y) Gd.T.g hmg
  exact top_call (kin w _ Y) Gd.T.g Gd.T.b Gd.T.builtins Gd.T.nolimit gens tab tabK code Gd.T.bmain la li
    (Nat.le_trans ll hn2) room Fg bind fun Hx h1 h2 => ask Hx a ns ll h1 h2
/-- what the law asks of the top -/
theorem ask_law {K : PySem.W.Frag} {PT : Addr} (Hx : Hp) (a : Addr) (ns : List Int) (hl : ns.length ≤ 63) (hT : Hx PT = some (.tbl #[])) (hS : SqL K Hx a (ns.map V.int)) :
    spLaw K PT [.ref a] Hx (fun v _ => v = .bl true) fun _ _ _ => False :=
  ⟨a, ns, rfl, hS, hl, fun p hp => by cases List.mem_singleton.mp hp; exact LamX.TabS.nil hT, fun _ => rfl⟩
theorem fin_of {P : Program} {w : World} {K : PySem.W.Frag} {mg : Str → Option Value} {h : Heap} {fa cc PT : Addr} {kv dc pm cd ct : Value} {an : Option Addr} (KX : K.In h)
    (z : ∀ gr : Heap, LamX.TabB gr mg cc PT → FnG P w K mg gr 12 fa (PySem.W.fnOf "law" "law" (defArgs st_law) (defBody st_law) (defScope st_law) .none kv dc pm an cd ct) ["script"] (spLaw K PT))
    (tab : h.get? PT = some { cls := .none, data := .fields #[] }) (tk : K.lookup PT = none) (ch : PySem.W.codeHdIn K cc PT = true) :
    ∃ (fd : FuncData) (cc PT : Addr) (sp : Sp), h.get? PT = some { cls := .none, data := .fields #[] } ∧
        K.lookup PT = none ∧ PySem.W.CodeHd h cc PT ∧
        (∀ (s : Shared) (v : Value), BindsTo s fd ⟨[v], []⟩ [(("script" : Str), v)]) ∧
        (∀ (Hx : Hp) (a : Addr) (ns : List Int), ns.length ≤ 63 → Hx PT = some (.tbl #[]) →
          SqL K Hx a (ns.map V.int) → sp [.ref a] Hx (fun v _ => v = .bl true) fun _ _ _ => False) ∧
        ∀ gr : Heap, K.In gr → gr.Ns mainGlobals mg → LamX.TabB gr mg cc PT → FnG P w K mg gr 12 fa fd ["script"] sp :=
  ⟨_, cc, PT, spLaw K PT, tab, tk, PySem.W.codeHd_of_K KX ch, fun s v => .of_eq rfl, fun Hx a ns h1 h2 h3 => ask_law Hx a ns h1 h2 h3, fun gr _ _ tb => z gr tb⟩
end K0


set_option Elab.async false
open PySem PySem.W PyProof.Rows
set_option maxRecDepth 100000 in
set_option maxHeartbeats 0 in
theorem PySem.Challenge.cw_spindleway_k31_likenesses_lead_and_lead_holds : PySem.Challenge.rw_spindleway_k31_likenesses_lead_and_lead.Holds := by
  w_on; o_law; k_head; (case hw => w_witness2)
  k_fill
  refine K0.walk_G (l := PySem.Challenge.rw_spindleway_k31_likenesses_lead_and_lead) (n := 63) (k := 12) (x := "script") rfl (by decide) rfl ⟨rfl, by decide, by decide⟩ (fun w h Y => PySem.W.km_in_of Y) ?F
  case F =>
    intro w mg fa h Y KX G hmg
    refine' K0.fin_of (PT := 273) KX (K0.all_mk KX G ?ca0 ?cl0 ?cv0 ?cs0 ?ci0 ?ct0 ?cf0 ?cc0 ?cj0 ?cn0 ?cg0 ?ch0 ?ce0 ?cy0 ?ck0 ?cd_0 ?co0 ?cm0 ?iC0 ?ca1 ?cl1 ?cv1 ?cs1 ?ci1 ?ct1 ?cf1 ?cc1 ?cj1 ?cn1 ?cg1 ?ch1 ?ce1 ?cy1 ?ck1 ?cd_1 ?co1 ?cm1 ?iC1 ?ca2 ?cl2 ?cv2 ?cs2 ?ci2 ?ct2 ?cf2 ?cc2 ?cj2 ?cn2 ?cg2 ?ch2 ?ce2 ?cy2 ?ck2 ?cd_2 ?co2 ?cm2 ?iC2 ?ca3 ?cl3 ?cv3 ?cs3 ?ci3 ?ct3 ?cf3 ?cc3 ?cj3 ?cn3 ?cg3 ?ch3 ?ce3 ?cy3 ?ck3 ?cd_3 ?co3 ?cm3 ?iC3 ?eaS ?eeS ?eyS ?eiS ?ks0 ?kk0 ?ks1 ?kk1 ?ks2 ?kk2 ?ks3 ?kk3 ?kx01 ?kx02 ?kx03 ?kx10 ?kx12 ?kx13 ?kx20 ?kx21 ?kx23 ?kx30 ?kx31 ?kx32 ?gn ?gt ?p_a ?p_pg ?p_hd ?p_po ?p_sa ?p_nplaces ?p_nsigns ?p_nwide ?p_ha ?p_hm ?p_mk ?p_kc ?p_ic ?p_ty ?p_ne ?p_sint ?p_sbool ?p_slist ?p_stuple ?p_tNoneType ?p_tint ?p_tlist ?p_ttuple ?minita ?minitf ?minitl ?minitc ?minitk ?meqa ?meqf ?meql ?meqc ?meqk ?mleda ?mledf ?mledl ?mledc ?mledk ?mthena ?mthenf ?mthenl ?mthenc ?mthenk ?mbacka ?mbackf ?mbackl ?mbackc ?mbackk ?p_rd ?p_ga ?msm ?msr ?msamel ?msamec ?msamek ?n_isinstance ?n_int ?n_bool ?n_list ?n_tuple ?n_len ?n_all ?n_abs ?n_repr ?n_sorted ?n_range ?n_enumerate ?n_zip ?c_L ?c_M ?da0 ?dl0 ?dc0 ?dk0 ?da1 ?dl1 ?dc1 ?dk1 ?da2 ?dl2 ?dc2 ?dk2 ?da3 ?dl3 ?dc3 ?dk3 ?da4 ?dl4 ?dc4 ?dk4 ?da5 ?dl5 ?dc5 ?dk5 ?da6 ?dl6 ?dc6 ?dk6 ?da7 ?dl7 ?dc7 ?dk7 ?da8 ?dl8 ?dc8 ?dk8 ?da9 ?dl9 ?dc9 ?dk9 ?da10 ?dl10 ?dc10 ?dk10 ?da11 ?dl11 ?dc11 ?dk11 ?da12 ?dl12 ?dc12 ?dk12 ?da13 ?dl13 ?dc13 ?dk13 ?da14 ?dl14 ?dc14 ?dk14 ?da15 ?dl15 ?dc15 ?dk15 ?da16 ?dl16 ?dc16 ?dk16 ?da17 ?dl17 ?dc17 ?dk17 ?da18 ?dl18 ?dc18 ?dk18 ?da19 ?dl19 ?dc19 ?dk19 ?da20 ?dl20 ?dc20 ?dk20 hmg) ?tab ?tk ?ch
    (case ca0 => k_is)
    (case cl0 => k_is)
    (case cv0 => first | rfl | k_is)
    (case cs0 => k_is)
    (case ci0 => k_is)
    (case ct0 => k_is)
    (case cf0 => k_is)
    (case cc0 => k_is)
    (case cj0 => k_is)
    (case cn0 => k_is)
    (case cg0 => k_is)
    (case ch0 => k_is)
    (case ce0 => k_is)
    (case cy0 => k_is)
    (case ck0 => k_is)
    (case cd_0 => k_is)
    (case co0 => k_is)
    (case cm0 => k_is)
    (case iC0 => k_is)
    (case ca1 => k_is)
    (case cl1 => k_is)
    (case cv1 => first | rfl | k_is)
    (case cs1 => k_is)
    (case ci1 => k_is)
    (case ct1 => k_is)
    (case cf1 => k_is)
    (case cc1 => k_is)
    (case cj1 => k_is)
    (case cn1 => k_is)
    (case cg1 => k_is)
    (case ch1 => k_is)
    (case ce1 => k_is)
    (case cy1 => k_is)
    (case ck1 => k_is)
    (case cd_1 => k_is)
    (case co1 => k_is)
    (case cm1 => k_is)
    (case iC1 => k_is)
    (case ca2 => k_is)
    (case cl2 => k_is)
    (case cv2 => first | rfl | k_is)
    (case cs2 => k_is)
    (case ci2 => k_is)
    (case ct2 => k_is)
    (case cf2 => k_is)
    (case cc2 => k_is)
    (case cj2 => k_is)
    (case cn2 => k_is)
    (case cg2 => k_is)
    (case ch2 => k_is)
    (case ce2 => k_is)
    (case cy2 => k_is)
    (case ck2 => k_is)
    (case cd_2 => k_is)
    (case co2 => k_is)
    (case cm2 => k_is)
    (case iC2 => k_is)
    (case ca3 => k_is)
    (case cl3 => k_is)
    (case cv3 => first | rfl | k_is)
    (case cs3 => k_is)
    (case ci3 => k_is)
    (case ct3 => k_is)
    (case cf3 => k_is)
    (case cc3 => k_is)
    (case cj3 => k_is)
    (case cn3 => k_is)
    (case cg3 => k_is)
    (case ch3 => k_is)
    (case ce3 => k_is)
    (case cy3 => k_is)
    (case ck3 => k_is)
    (case cd_3 => k_is)
    (case co3 => k_is)
    (case cm3 => k_is)
    (case iC3 => k_is)
    (case eaS => k_is)
    (case eeS => k_is)
    (case eyS => k_is)
    (case eiS => k_is)
    (case ks0 => k_is)
    (case kk0 => k_is)
    (case ks1 => k_is)
    (case kk1 => k_is)
    (case ks2 => k_is)
    (case kk2 => k_is)
    (case ks3 => k_is)
    (case kk3 => k_is)
    (case kx01 => k_is)
    (case kx02 => k_is)
    (case kx03 => k_is)
    (case kx10 => k_is)
    (case kx12 => k_is)
    (case kx13 => k_is)
    (case kx20 => k_is)
    (case kx21 => k_is)
    (case kx23 => k_is)
    (case kx30 => k_is)
    (case kx31 => k_is)
    (case kx32 => k_is)
    (case gn => k_is)
    (case gt => k_is)
    (case p_a => k_is)
    (case p_pg => k_is)
    (case p_hd => k_is)
    (case p_po => k_is)
    (case p_sa => k_is)
    (case p_nplaces => k_is)
    (case p_nsigns => k_is)
    (case p_nwide => k_is)
    (case p_ha => k_is)
    (case p_hm => k_is)
    (case p_mk => k_is)
    (case p_kc => k_is)
    (case p_ic => k_is)
    (case p_ty => k_is)
    (case p_ne => k_is)
    (case p_sint => k_is)
    (case p_sbool => k_is)
    (case p_slist => k_is)
    (case p_stuple => k_is)
    (case p_tNoneType => k_is)
    (case p_tint => k_is)
    (case p_tlist => k_is)
    (case p_ttuple => k_is)
    (case minita => k_is)
    (case minitf => k_is)
    (case minitl => k_is)
    (case minitc => k_is)
    (case minitk => k_is)
    (case meqa => k_is)
    (case meqf => k_is)
    (case meql => k_is)
    (case meqc => k_is)
    (case meqk => k_is)
    (case mleda => k_is)
    (case mledf => k_is)
    (case mledl => k_is)
    (case mledc => k_is)
    (case mledk => k_is)
    (case mthena => k_is)
    (case mthenf => k_is)
    (case mthenl => k_is)
    (case mthenc => k_is)
    (case mthenk => k_is)
    (case mbacka => k_is)
    (case mbackf => k_is)
    (case mbackl => k_is)
    (case mbackc => k_is)
    (case mbackk => k_is)
    (case p_rd => k_is)
    (case p_ga => k_is)
    (case msm => k_is)
    (case msr => k_is)
    (case msamel => k_is)
    (case msamec => k_is)
    (case msamek => k_is)
    (case n_isinstance => k_is)
    (case n_int => k_is)
    (case n_bool => k_is)
    (case n_list => k_is)
    (case n_tuple => k_is)
    (case n_len => k_is)
    (case n_all => k_is)
    (case n_abs => k_is)
    (case n_repr => k_is)
    (case n_sorted => k_is)
    (case n_range => k_is)
    (case n_enumerate => k_is)
    (case n_zip => k_is)
    (case c_L => k_is)
    (case c_M => k_is)
    (case da0 => k_is)
    (case dl0 => k_is)
    (case dc0 => k_is)
    (case dk0 => k_is)
    (case da1 => k_is)
    (case dl1 => k_is)
    (case dc1 => k_is)
    (case dk1 => k_is)
    (case da2 => k_is)
    (case dl2 => k_is)
    (case dc2 => k_is)
    (case dk2 => k_is)
    (case da3 => k_is)
    (case dl3 => k_is)
    (case dc3 => k_is)
    (case dk3 => k_is)
    (case da4 => k_is)
    (case dl4 => k_is)
    (case dc4 => k_is)
    (case dk4 => k_is)
    (case da5 => k_is)
    (case dl5 => k_is)
    (case dc5 => k_is)
    (case dk5 => k_is)
    (case da6 => k_is)
    (case dl6 => k_is)
    (case dc6 => k_is)
    (case dk6 => k_is)
    (case da7 => k_is)
    (case dl7 => k_is)
    (case dc7 => k_is)
    (case dk7 => k_is)
    (case da8 => k_is)
    (case dl8 => k_is)
    (case dc8 => k_is)
    (case dk8 => k_is)
    (case da9 => k_is)
    (case dl9 => k_is)
    (case dc9 => k_is)
    (case dk9 => k_is)
    (case da10 => k_is)
    (case dl10 => k_is)
    (case dc10 => k_is)
    (case dk10 => k_is)
    (case da11 => k_is)
    (case dl11 => k_is)
    (case dc11 => k_is)
    (case dk11 => k_is)
    (case da12 => k_is)
    (case dl12 => k_is)
    (case dc12 => k_is)
    (case dk12 => k_is)
    (case da13 => k_is)
    (case dl13 => k_is)
    (case dc13 => k_is)
    (case dk13 => k_is)
    (case da14 => k_is)
    (case dl14 => k_is)
    (case dc14 => k_is)
    (case dk14 => k_is)
    (case da15 => k_is)
    (case dl15 => k_is)
    (case dc15 => k_is)
    (case dk15 => k_is)
    (case da16 => k_is)
    (case dl16 => k_is)
    (case dc16 => k_is)
    (case dk16 => k_is)
    (case da17 => k_is)
    (case dl17 => k_is)
    (case dc17 => k_is)
    (case dk17 => k_is)
    (case da18 => k_is)
    (case dl18 => k_is)
    (case dc18 => k_is)
    (case dk18 => k_is)
    (case da19 => k_is)
    (case dl19 => k_is)
    (case dc19 => k_is)
    (case dk19 => k_is)
    (case da20 => k_is)
    (case dl20 => k_is)
    (case dc20 => k_is)
    (case dk20 => k_is)
    (case tab => exact PySem.W.km_tabs_of Y 273 (by simp))
    (case tk => first | rfl | k_is)
    (case ch => first | rfl | k_is)
    exact Value.none

