import PyProof.Rows.All
import Wide.All
import OpenK.AllK
import Wide.FinOn
import HandS.ForMost
import HandS.Exc
import HandS.ExcOwn
import HandS.TryOnly
import HandS.TryMany
import HandS.ExcCtx
import HandS.HotCalls
import HandS.ExcIs
import HandS.IsInst
import HandS.Wide
import HandS.Evl
import HandS.Zip
import HandS.RevRange
import HandS.Codes
import PyProof.Rows.CountFlat
import KE.KEqDeep
import KE.KIntText
import PyProof.MinMaxWalk
import KE.KMinKey
import HandS.SortKw
import PySem.Challenge.RW_coinjudge_k08_a_judge_through_deeds
set_option Elab.async false
set_option linter.all false
set_option maxRecDepth 100000
set_option maxHeartbeats 4000000
namespace My
open PySem PySem.Spec PyProof.Rows L2

/-! ### bools counted in a list -/
def rCntB (K : PySem.W.Frag) : V → List V → Hp → VK → Prop := fun x xs H Q =>
  ∃ (p : Addr) (bs : List Bool) (k : Bool), x = .ref p ∧ xs = [.bl k] ∧ SqL K H p (bs.map V.bl) ∧
    Q (.int (bs.count k : Nat)) H
theorem bools_read {h : Heap} : ∀ {bs : List Bool} {us : List Value}, Vals (bs.map V.bl) us →
    ReadsAll h us (bs.map PyData.bool) []
  | [], _, r => by cases r; exact .nil
  | b :: bs, _, r => by
    cases r with
    | cons r1 r2 =>
      have e := r1
      cases e
      exact ReadsAll.cons (as := []) (bs := []) (.bool b) (bools_read r2)
theorem bools_has : ∀ bs : List Bool, (bs.map PyData.bool).all PySem.Spec.Shape.bool.has = true
  | [] => rfl
  | b :: bs => by
    rw [List.map_cons, List.all_cons, bools_has bs]; rfl
theorem bools_count (k : Bool) : ∀ bs : List Bool, PySem.Spec.countIn (.bool k) (bs.map PyData.bool) = (bs.count k : Nat)
  | [] => rfl
  | b :: bs => by
    rw [List.map_cons, List.count_cons]
    show (if PySem.Spec.same (.bool b) (.bool k) = true then (1 : Int) else 0) + PySem.Spec.countIn (.bool k) (bs.map PyData.bool) = _
    rw [bools_count k bs]
    have e : PySem.Spec.same (PyData.bool b) (PyData.bool k) = (b == k) := by cases b <;> cases k <;> rfl
    rw [e]
    cases (b == k) <;> simp <;> omega
theorem mt_countB {X : Cx} : MtR X "list.count" (rCntB X.K) := by
  intro pins s σ H x xs v us Q I rx rxs h
  obtain ⟨p, bs, k, rfl, rfl, hs, q⟩ := h
  cases rx
  obtain ⟨u, rfl, ru⟩ := rxs.one
  have eu : u = Value.bool k := ru
  subst eu
  obtain ⟨its, rv, ⟨o, n, ho, hc, hdn, hd⟩, hlen⟩ := I.list hs
  refine count_list_bools (l := p) (vs := its) (k := k) ⟨o, ho, hc, n, by simpa using hd⟩
    (bools_read (h := s.heap) rv) (bools_has bs) ?_
  rw [bools_count k bs]
  exact ⟨.int (bs.count k : Nat), H, I.tok _, ⟨s.toks, rfl⟩, q⟩

/-! ### the handled exception, in the suite and in a def called there -/
theorem call_isP {X : Cx} {a D : Addr} {oe : Obj} (C : ExcC X.K D) (hz : Zc (.ref D) none oe) (hf : ∃ vs, oe.data = .fields vs)
    (hp : (a, oe) ∈ X.pn) : CallR X (.builtin "isinstance") (rIsE X.K D a) := by
  intro pins s σ H xs us Q I rel want
  obtain ⟨c, cv, b, rfl, same, known, out⟩ := want
  obtain ⟨u1, u2, rfl, r1, r2⟩ := vals2 rel
  have e1 : u1 = Value.ref a := r1
  have e2 : u2 = cv := same _ r2
  subst e1 e2
  have there := (I.pin (a, oe) (List.mem_append_left _ hp)).1
  obtain ⟨vs, hv⟩ := hf
  have J : PySem.W.InstAt s.heap a oe D none := by
    obtain ⟨oc, od, da, os⟩ := oe
    obtain ⟨z1, z2⟩ := hz
    dsimp only at z1 z2 hv
    subst z1 z2 hv
    exact ⟨there, rfl, rfl, trivial⟩
  refine PySem.W.kia_one (PySem.W.handS_kitx_exc C.hg C.hk C.hs C.hd C.ha C.hn C.ht C.hm) I.kIn J known
    (fun z => by cases z) fun tk => ?_
  exact ⟨.bl b, H, I.kept (t' := tk) (fun _ _ z => z), rfl, out⟩

/-- what a def gives that is called while the exception p is handled -/
def HotRun (P : Program) (w : World) (K : PySem.W.Frag) (mg : Str → Option Value) (base : Heap) (k : Nat) (f : Addr) (fd : FuncData)
    (ps : List Str) (p : Addr × Obj) (sp : Sp) : Prop :=
  ∀ (A : Around) (outer : List Env) (s : Shared) (H : Hp) (us : List Value) (vs : List V) (Q : VK), L2H.RoomH k A → L2H.Hot1 A p →
    L2H.PinOk outer H s p → Env0 P w K mg base A outer s H → BindsTo s fd ⟨us, []⟩ (ps.zip us) → Vals vs us →
    vs.length = ps.length → sp vs H Q E0 →
    codeAny (model P w) A (.call (.ref f) ⟨us, []⟩) (CR CX0 outer P w H s Q E0) s

theorem hot_of {P : Program} {w : World} {K : PySem.W.Frag} {mg : Str → Option Value} {base : Heap} {k : Nat} {x : Str} {st : Stmt}
    {f : Addr} {fd : FuncData} {N ps : List Str} {sp : Sp} {p : Addr × Obj} (F : Fun K x x st f fd) (S : FnScope N ps (defScope st))
    (body : ∀ (cdv : Value) (A : Around) (outer : List Env) (s : Shared) (H : Hp) (vs : List V) (Q : VK), L2H.Hot1 A p →
      L2H.RoomH k (A.deeper (envOfC x (defScope st) s.heap.objs.size f cdv)) → sp vs H Q E0 →
      ∃ t, PSs (L2H.cxH CX0 P w K mg base N x (defScope st) f cdv A outer s H E0 p) (defBody st) t ∧
        t { nx := fun _ H' => Q .non H', rt := Q } (start N vs) H) :
    HotRun P w K mg base (k + 1) f fd ps p sp := by
  intro A outer s H us vs Q room hot pinned e0 bound rel len want
  obtain ⟨oc, od, kV, doc, pm, an, cdv, ct, osl, rfl, there, code⟩ := F.ex
  have inK := e0.mod.kin.keeps fun b o e => (e0.bs b o e).1
  have noLim := e0.mod.nolimit.keeps fun b o e => (e0.bs b o e).1
  have kinds : ∀ y ∈ ps.zip us, (defScope st).names.lookup y.1 = some .local ∨ ((defScope st).names.lookup y.1 = some .cell ∧
      ((cellsFrom (s.heap.objs.size + 1) (defScope st).names []).lookup y.1).isSome = true) := by
    rintro ⟨n, v⟩ hy
    have := S.par n (List.of_mem_zip hy).1
    rcases this with h | h
    · exact Or.inl h
    · exact Or.inr ⟨h, PySem.W.cellsFrom_some _ _ _ (Or.inl h)⟩
  refine codeAny_call_function room.depth (inK _ _ there) rfl S.co S.gen rfl (PySem.W.codeRec_of inK code) (bound _ _ _ _ ?_)
  refine wpAny_newFunctionEnv_cells S.kind kinds ?_
  intro env he s1 called
  subst he
  refine ⟨noLim.keeps called.toInCall.keep, codeAny_func ?_⟩
  obtain ⟨t, derived, reads⟩ := body cdv A outer s H vs Q hot (room.deeper _) want
  have I0 := L2H.inv_startH (CX := CX0) (E := E0) (base := base) S pinned e0 len rel called
  refine wpAny_mono (derived.run [] s1 _ H _ I0 reads) ?_ (fun _ _ z => z)
  intro fl s' ends
  cases fl with
  | ret u => obtain ⟨v, σ', H', J, rv, q⟩ := ends; exact ⟨v, H', J.os, J.bare, J.base, J.hok, rv, q⟩
  | next => obtain ⟨σ', H', J, q⟩ := ends; exact ⟨V.non, H', J.os, J.bare, J.base, J.hok, rfl, q⟩
  | brk => obtain ⟨_, _, _, no⟩ := ends; exact no.elim
  | cont => obtain ⟨_, _, _, no⟩ := ends; exact no.elim

theorem pe_hot {X : Cx} {k : Nat} {f : Addr} {fd : FuncData} {ps : List Str} {sp : Sp} {p : Addr × Obj} {x : Str} {q pos : Pos} {e : Expr}
    {es : List Expr} {t : TA} (F : HotRun X.prog X.w X.K X.mg X.base k f fd ps p sp) (room : L2H.RoomH k X.A) (hot : L2H.Hot1 X.A p)
    (hp : p ∈ X.pn) (hg : Gl X x) (hm : X.mg x = some (.ref f)) (hk : PySem.W.keepIn X.K (.ref f) = true) (hb : Binds X.K fd ps [])
    (len : ∀ vs H Q, sp vs H Q E0 → vs.length = ps.length)
    (ha : PA X (e :: es) t) (hdb : (x == ("__debug__" : Str)) = false := by decide)
    (he : starEach (e :: es) X.env = (false, eval e X.env) :: starEach es X.env := by rfl)
    (hpl : (backTo pos (starEach es X.env)).any (·.1) = false := by rfl) :
    PE X (.Call (.Name x q) (e :: es) [] pos) (tCall sp [] E0 t) := by
  refine ⟨fun pins s σ H Q I want => ?_⟩
  refine wpAny_Call_Name_kw (ld_glob I hg hm ?_ hdb)
  refine PySem.W.callWith_K (h₀ := X.base) I.ok.mod.kin hk (thn (ha.run pos pins s σ H _ I want) ?_) he hpl
  rintro us s1 ⟨vs, H1, I1, rel, w1⟩
  refine ⟨I1.kIn, ?_⟩
  rw [List.append_nil] at w1
  have lv := len _ _ _ w1
  have lu : us.length = ps.length := by rw [← rel.length]; exact lv
  have bound := hb s1 us I1.kIn (by rw [List.append_nil]; exact lu)
  rw [List.append_nil] at bound
  have P1 := I1.pin p (List.mem_append_left _ hp)
  have notFrame : p.1 ∉ frs X.stack := fun hmem => by
    rcases List.mem_cons.mp (I1.stkSub p.1 hmem) with h | h
    · exact P1.2.2.1 h
    · exact P1.2.2.2.1 h
  refine wpAny_call (codeAny_mono (F X.A X.stack s1 H1 us vs Q room hot ⟨P1.1, P1.2.1, notFrame, P1.2.2.2.2⟩ I1.env0 bound rel lv w1) ?_)
  intro r s' hq
  cases r with
  | error e => exact False.elim hq
  | ok fl =>
    cases fl with
    | ret u => exact I1.after hq
    | next => exact False.elim hq
    | brk => exact False.elim hq
    | cont => exact False.elim hq

end My

namespace My
open PySem PySem.Spec PyProof.Rows L2 Evl

/-! ### defs as they are called -/
theorem passN {X : Cx} : Passes (L2N.CX X.prog X.w) X E0 := fun _ _ _ _ _ _ _ h => by
  obtain ⟨_, _, _, _, _, _, _, _, _, _, _, _, z⟩ := h
  exact z.elim
theorem takes0N {X : Cx} : L2N.Takes X (fun _ _ _ _ => False) := fun _ _ x => by
  obtain ⟨_, _, _, _, _, _, _, _, _, _, _, _, _, _, _, _, z⟩ := x
  exact z.elim
/-- a def that lets nothing out, by its name -/
structure Cl (P : Program) (w : World) (K : PySem.W.Frag) (mg : Str → Option Value) (base : Heap) (k : Nat) (x : Str) (sp : Sp) : Prop where
  ex : ∃ f fd ps, FnOk P w K mg base CX0 k f fd ps sp ∧ mg x = some (.ref f) ∧ PySem.W.keepIn K (.ref f) = true ∧ Binds K fd ps []
/-- a def that may raise -/
structure Cn (P : Program) (w : World) (K : PySem.W.Frag) (mg : Str → Option Value) (base : Heap) (k : Nat) (x : Str) (sp : Sp) : Prop where
  ex : ∃ f fd ps, FnOk P w K mg base (L2N.CX P w) k f fd ps sp ∧ mg x = some (.ref f) ∧ PySem.W.keepIn K (.ref f) = true ∧ Binds K fd ps []
section
variable {X : Cx} {j k : Nat} {x : Str} {sp : Sp} {p pos : Pos} {e : Expr} {es : List Expr} {t : TA}
theorem pe_cl (c : Cl X.prog X.w X.K X.mg X.base k x sp) (hr : Room k X.A) (hg : Gl X x) (ha : PA X (e :: es) t)
    (hdb : (x == ("__debug__" : Str)) = false := by decide) (he : starEach (e :: es) X.env = (false, eval e X.env) :: starEach es X.env := by rfl)
    (hpl : (backTo pos (starEach es X.env)).any (·.1) = false := by rfl) : PE X (.Call (.Name x p) (e :: es) [] pos) (tCall sp [] E0 t) := by
  obtain ⟨f, fd, ps, F, hm, kp, b⟩ := c.ex
  exact pe_call F hr hg hm kp b .nil pass0 ha hdb he hpl
theorem pe_cn (c : Cn X.prog X.w X.K X.mg X.base k x sp) (hr : Room k X.A) (hg : Gl X x) (ha : PA X (e :: es) t)
    (hdb : (x == ("__debug__" : Str)) = false := by decide) (he : starEach (e :: es) X.env = (false, eval e X.env) :: starEach es X.env := by rfl)
    (hpl : (backTo pos (starEach es X.env)).any (·.1) = false := by rfl) : PE X (.Call (.Name x p) (e :: es) [] pos) (tCall sp [] E0 t) := by
  obtain ⟨f, fd, ps, F, hm, kp, b⟩ := c.ex
  exact pe_call F hr hg hm kp b .nil passN ha hdb he hpl
/-- the same within a try: W is wished of what it raises -/
theorem pe_ct {W : WX} (c : Cn X.prog X.w X.K X.mg X.base k x sp) (hr : Room k X.A) (tk : L2N.Takes X W) (hg : Gl X x) (ha : PA X (e :: es) t)
    (hdb : (x == ("__debug__" : Str)) = false := by decide) (he : starEach (e :: es) X.env = (false, eval e X.env) :: starEach es X.env := by rfl)
    (hpl : (backTo pos (starEach es X.env)).any (·.1) = false := by rfl) : PE X (.Call (.Name x p) (e :: es) [] pos) (tCallS sp (WE W) t) := by
  obtain ⟨f, fd, ps, F, hm, kp, b⟩ := c.ex
  exact pe_callS F hr hg hm kp b (fun σ => L2N.passAt tk σ) ha hdb he hpl
end

/-! ### an own error's class, at A -/
structure Er (K : PySem.W.Frag) (mg : Str → Option Value) (x : Str) (A : Addr) : Prop where
  gC : mg x = some (.ref A)
  xC : PySem.W.excIn K A [.type "ValueError", .type "Exception", .type "BaseException", .type "object"] "ValueError.__new__" = true
  kC : PySem.W.keepIn K (.ref A) = true
  bC : PySem.W.subIn K (.ref A) (.type "BaseException") = some true
  tC : PySem.W.typeIn K (.ref A) = some (.type "type")
  hd : PySem.W.hasDictIn K A = true
  ga : PySem.W.findIn K (.ref A) "__getattribute__" = some (some (.builtin "BaseException.__getattribute__"))
  gt : PySem.W.findIn K (.ref A) "__getattr__" = some none
  cl : PySem.W.findIn K (.ref A) "__class__" = some (some (.builtin "object.__class__"))
  mr : PySem.W.mroIn K A (.type "object") = some true
  sp : PySem.W.specialIn K (.builtin "object.__class__") "__get__" = some (some (.builtin "getset_descriptor.__get__"))
  tk : PySem.W.takesIn K (.builtin "object.__class__") = some true
  vE : PySem.W.kitOne K (.ref A) (.type "ValueError") = some true
theorem Er.exc {K : PySem.W.Frag} {mg : Str → Option Value} {x : Str} {A : Addr} (T : Er K mg x A) : ExcC K A :=
  ⟨T.ga, T.gt, T.bC, T.hd, T.cl, T.sp, T.tk, T.mr⟩

/-! ### the cells of the script -/
def spCell (K : PySem.W.Frag) : Sp := fun vs H Q _ => ∃ (l : Addr) (ns : List Int) (j : Nat), vs = [.ref l, .int (j : Int)] ∧
  SqL K H l (ns.map V.int) ∧ RetV (.int (ns.getD j 0)) H Q
theorem spv_cell {K : PySem.W.Frag} {H : Hp} {l : Addr} {ns : List Int} {j : Nat} {k : Int} (h : SqL K H l (ns.map V.int)) (e : k = (j : Int)) :
    SpV (spCell K) ([.ref l, .int k] ++ []) H (.int (ns.getD j 0)) := fun H1 e1 Q q E => ⟨l, ns, j, by rw [e]; rfl, ex_l e1 h, q⟩
theorem spv_cellI {K : PySem.W.Frag} {H : Hp} {l : Addr} {ns : List Int} {k : Int} (h : SqL K H l (ns.map V.int)) (h0 : 0 ≤ k) :
    SpV (spCell K) ([.ref l, .int k] ++ []) H (.int (ns.getD k.toNat 0)) := spv_cell h (by omega)
theorem atI_map {ns : List Int} {j : Nat} (h : j < ns.length) : atI (ns.map V.int) (j : Int) = some (.int (ns.getD j 0)) := by
  refine atI_nat ?_
  rw [List.getElem?_map, List.getElem?_eq_getElem h, List.getD_eq_getElem?_getD, List.getElem?_eq_getElem h]
  rfl
theorem atI_lastmap {ns : List Int} (h : 0 < ns.length) : atI (ns.map V.int) (-1) = some (.int (ns.getD (ns.length - 1) 0)) := by
  obtain ⟨xs, x, rfl⟩ : ∃ xs x, ns = xs ++ [x] := by
    have hne : ns ≠ [] := fun z => by rw [z] at h; exact absurd h (by simp)
    exact ⟨ns.dropLast, ns.getLast hne, (List.dropLast_concat_getLast hne).symm⟩
  rw [List.map_append, List.map_singleton, atI_last]
  simp [List.getD_eq_getElem?_getD]

/-! ### rows as lists -/
structure RowL (cs : List Int) : Prop where
  pos : 0 < cs.length
  len : cs.length ≤ 12
  one : cs.getD 0 0 = 1
  up : ∀ k, k + 1 < cs.length → cs.getD k 0 < cs.getD (k + 1) 0
  most : ∀ k, k < cs.length → cs.getD k 0 ≤ 10 ^ 60
theorem RowL.row1 : RowL [1] := ⟨by decide, by decide, rfl, fun k h => by simp at h, fun k h => by
  have e : k = 0 := by simp at h; omega
  subst e; decide⟩
theorem getD_snoc_lt {cs : List Int} {c : Int} {k : Nat} (h : k < cs.length) : (cs ++ [c]).getD k 0 = cs.getD k 0 := by
  rw [List.getD_eq_getElem?_getD, List.getD_eq_getElem?_getD, List.getElem?_append_left h]
theorem getD_snoc {cs : List Int} {c : Int} : (cs ++ [c]).getD cs.length 0 = c := by
  simp [List.getD_eq_getElem?_getD]
theorem RowL.snoc {cs : List Int} {c : Int} (h : RowL cs) (hl : cs.length < 12) (h1 : cs.getD (cs.length - 1) 0 < c) (h2 : c ≤ 10 ^ 60) : RowL (cs ++ [c]) := by
  have hp := h.pos
  refine ⟨by rw [List.length_append]; omega, by rw [List.length_append]; exact hl, ?_, fun k hk => ?_, fun k hk => ?_⟩
  · rw [getD_snoc_lt hp]; exact h.one
  · rw [List.length_append, List.length_singleton] at hk
    rw [getD_snoc_lt (by omega)]
    by_cases e : k + 1 = cs.length
    · rw [e, getD_snoc, show k = cs.length - 1 by omega]; exact h1
    · rw [getD_snoc_lt (by omega)]; exact h.up k (by omega)
  · rw [List.length_append, List.length_singleton] at hk
    by_cases e : k = cs.length
    · rw [e, getD_snoc]; exact h2
    · rw [getD_snoc_lt (by omega)]; exact h.most k (by omega)
theorem RowL.lt {cs : List Int} (h : RowL cs) {i j : Nat} (hij : i < j) (hj : j < cs.length) : cs.getD i 0 < cs.getD j 0 := by
  induction j with
  | zero => omega
  | succ j ih =>
    have h1 := h.up j hj
    by_cases e : i = j
    · subst e; exact h1
    · have := ih (by omega) (by omega); omega
theorem RowL.ge1 {cs : List Int} (h : RowL cs) {i : Nat} (hi : i < cs.length) : 1 ≤ cs.getD i 0 := by
  by_cases e : i = 0
  · subst e; rw [h.one]; decide
  · have := h.lt (show 0 < i by omega) hi
    rw [h.one] at this; omega

/-! ### sizes of numbers -/
theorem p60 : (10 : Int) ^ 60 < 2 ^ 200 := by decide +kernel
theorem natAbs_lt {x : Int} {b : Nat} (h0 : 0 ≤ x) (h : x < 2 ^ b) : x.natAbs < 2 ^ b := by
  have : (x.natAbs : Int) < ((2 ^ b : Nat) : Int) := by
    rw [Int.natCast_pow]
    have e : (x.natAbs : Int) = x := by omega
    rw [e]; exact h
  omega
theorem mul_ok {x y : Int} (hx : 0 ≤ x) (hx2 : x < 2 ^ 500) (hy : 0 ≤ y) (hy2 : y < 2 ^ 500) : CMulW x y :=
  wide_mul (natAbs_lt hx hx2) (natAbs_lt hy hy2) (by decide) (by decide) (by decide)
theorem p500 {x : Int} (h : x ≤ 10 ^ 60) : x < 2 ^ 500 := Int.lt_of_le_of_lt h (by decide +kernel)
theorem small500 {x : Int} (h : x ≤ 10 ^ 40) : x < 2 ^ 500 := Int.lt_of_le_of_lt h (by decide +kernel)

end My

namespace My
open PySem PySem.Spec PyProof.Rows L2 Evl

section
variable {K : PySem.W.Frag} {σ : L2.St} {H : Hp} {ta tb te tc : TE} {D : Ends} {tu tz : TS}

/-! ### lists put together -/
theorem el_catLL {xs ys : List V} (ha : EvL ta σ H xs) (hb : EvL tb σ H ys) (hz : xs.length + ys.length ≤ 100000) :
    EvL (tOp rCat ta tb) σ H (xs ++ ys) := fun H1 e Q q =>
  ha H1 e _ fun p H2 hp e2 h2 => hb H2 (e.trans e2) _ fun p3 H3 hp3 e3 h3 =>
    ⟨p, p3, xs, ys, rfl, rfl, e3 p _ h2, h3, sz_of hz, fun l hl => q l _ (fresh_back (e2.trans e3) hl) ((e2.trans e3).trans (Ex.new hl)) upd_same⟩
theorem el_catRL {l : Addr} {xs ys : List V} (ha : Ev ta σ H (.ref l)) (hl : H l = some (.lst xs)) (hb : EvL tb σ H ys)
    (hz : xs.length + ys.length ≤ 100000) : EvL (tOp rCat ta tb) σ H (xs ++ ys) := fun H1 e Q q =>
  ha H1 e _ fun H2 e2 => hb H2 (e.trans e2) _ fun p3 H3 hp3 e3 h3 =>
    ⟨l, p3, xs, ys, rfl, rfl, (e2.trans e3) l _ (e l _ hl), h3, sz_of hz, fun n hn => q n _ (fresh_back (e2.trans e3) hn) ((e2.trans e3).trans (Ex.new hn)) upd_same⟩
theorem el_catLR {l : Addr} {xs ys : List V} (ha : EvL ta σ H xs) (hb : Ev tb σ H (.ref l)) (hl : H l = some (.lst ys))
    (hz : xs.length + ys.length ≤ 100000) : EvL (tOp rCat ta tb) σ H (xs ++ ys) := fun H1 e Q q =>
  ha H1 e _ fun p H2 hp e2 h2 => hb H2 (e.trans e2) _ fun H3 e3 =>
    ⟨p, l, xs, ys, rfl, rfl, e3 p _ h2, (e2.trans e3) l _ (e l _ hl), sz_of hz, fun n hn => q n _ (fresh_back (e2.trans e3) hn) ((e2.trans e3).trans (Ex.new hn)) upd_same⟩

/-! ### two lists of ints compared -/
theorem dp_ints {H : Hp} : ∀ ns : List Int, DpAll K H (ns.map V.int) (ns.map PyData.int)
  | [] => .nil
  | n :: ns => .cons (.int n) (dp_ints ns)
theorem rv_eqD {a b : Addr} {xs ys : List Int} (hx : SqL K H a (xs.map V.int)) (hy : SqL K H b (ys.map V.int)) :
    RV (rEqD K) (.ref a) (.ref b) H (.bl (decide (xs = ys))) := fun H1 e Q q =>
  ⟨.list (xs.map .int), .list (ys.map .int), .lst (ex_l e hx) (dp_ints xs), .lst (ex_l e hy) (dp_ints ys), PySem.W.shaped_ints xs, PySem.W.shaped_ints ys, by
    rw [show PyData.eqv (.list (xs.map .int)) (.list (ys.map .int)) = decide (xs = ys) from PySem.W.ked_eqvAll xs ys]
    exact q H1 (Ex.refl H1)⟩
theorem rv_neD {a b : Addr} {xs ys : List Int} (hx : SqL K H a (xs.map V.int)) (hy : SqL K H b (ys.map V.int)) :
    RV (rNeD K) (.ref a) (.ref b) H (.bl (!decide (xs = ys))) := fun H1 e Q q =>
  ⟨.list (xs.map .int), .list (ys.map .int), .lst (ex_l e hx) (dp_ints xs), .lst (ex_l e hy) (dp_ints ys), PySem.W.shaped_ints xs, PySem.W.shaped_ints ys, by
    rw [show PyData.eqv (.list (xs.map .int)) (.list (ys.map .int)) = decide (xs = ys) from PySem.W.ked_eqvAll xs ys]
    exact q H1 (Ex.refl H1)⟩

/-! ### calls of built-ins -/
theorem kit_ii : kitB "int" "int" = some true := by decide +kernel
theorem kit_ib : kitB "int" "bool" = some false := by decide +kernel
theorem kit_ll : kitB "list" "list" = some true := by decide +kernel
theorem kit_tt : kitB "tuple" "tuple" = some true := by decide +kernel
theorem kit_ss : kitB "str" "str" = some true := by decide +kernel
theorem kit_nt : kitB "NoneType" "tuple" = some false := by decide +kernel
theorem ev_isi {x : V} {n T : String} {b : Bool} (h : Ev ta σ H x) (hc : Ev tc σ H (.ty n)) (hT : ∀ H1, Ex H H1 → TyX K H1 x (.type T)) (k : kitB T n = some b) :
    Ev (tCB (rIsi K) (tCons ta (tCons tc tNil))) σ H (.bl b) := fun H1 e Q q =>
  h H1 e _ fun H2 e2 => hc H2 (e.trans e2) _ fun H3 e3 => ⟨x, .ty n, _, _, b, rfl, .ty n, hT H3 ((e.trans e2).trans e3), kit_ty k, q H3 (e2.trans e3)⟩
theorem ev_isi_ii {i : Int} (h : Ev ta σ H (.int i)) (hc : Ev tc σ H (.ty "int")) : Ev (tCB (rIsi K) (tCons ta (tCons tc tNil))) σ H (.bl true) := ev_isi h hc (fun _ _ => .base (.int i)) kit_ii
theorem ev_isi_ib {i : Int} (h : Ev ta σ H (.int i)) (hc : Ev tc σ H (.ty "bool")) : Ev (tCB (rIsi K) (tCons ta (tCons tc tNil))) σ H (.bl false) := ev_isi h hc (fun _ _ => .base (.int i)) kit_ib
theorem ev_isi_ll {a : Addr} {xs : List V} (h : Ev ta σ H (.ref a)) (ha : H a = some (.lst xs)) (hc : Ev tc σ H (.ty "list")) : Ev (tCB (rIsi K) (tCons ta (tCons tc tNil))) σ H (.bl true) :=
  ev_isi h hc (fun _ e => .base (.lst (e _ _ ha))) kit_ll
theorem ev_isi_tt {a : Addr} {xs : List V} (h : Ev ta σ H (.ref a)) (ha : H a = some (.tup xs)) (hc : Ev tc σ H (.ty "tuple")) : Ev (tCB (rIsi K) (tCons ta (tCons tc tNil))) σ H (.bl true) :=
  ev_isi h hc (fun _ e => .base (.tup (e _ _ ha))) kit_tt
theorem ev_sum {a : Addr} {ns : List Int} (h : Ev ta σ H (.ref a)) (hs : SqL K H a (ns.map V.int)) : Ev (tCB (rSum K) (tCons ta tNil)) σ H (.int ns.sum) := fun H1 e Q q =>
  h H1 e _ fun H2 e2 => ⟨a, ns, rfl, ex_l (e.trans e2) hs, q H2 e2⟩
theorem ev_countB {bs : List Bool} {k : Bool} (h : EvL ta σ H (bs.map V.bl)) (hk : Ev tc σ H (.bl k)) :
    Ev (tBM K "list" (rCntB K) ta (tCons tc tNil)) σ H (.int (bs.count k : Nat)) := fun H1 e Q q =>
  h H1 e _ fun p H2 hp e2 h2 => ⟨Or.inl ⟨rfl, _, sq_of h2⟩, hk H2 (e.trans e2) _ fun H3 e3 => ⟨p, bs, k, rfl, rfl, sq_of (e3 p _ h2), q H3 (e2.trans e3)⟩⟩

/-! ### a loop over zip of two lists of one length -/
theorem q_zip {tA : TA} {a b : Addr} {xs ys : List V} {j1 j2 : Nat} (h : EvA tA σ H [.ref a, .ref b]) (hx : SqL K H a xs) (hy : SqL K H b ys)
    (hl : xs.length = ys.length) (Pv : Nat → L2.St → Hp → Prop) (h0 : ∀ H1, Ex H H1 → Pv 0 σ H1) (hk : ∀ i σ' H', Pv i σ' H' → Ex H H')
    (hs : ∀ (i : Nat) x y σ' H' H2, xs[i]? = some x → ys[i]? = some y → Pv i σ' H' → Ex H' H2 →
      tu { D with nx := Pv (i + 1), ct := Pv (i + 1), bk := tz D } ((σ'.set j1 (some x)).set j2 (some y)) H2)
    (hd : ∀ σ' H', Pv xs.length σ' H' → tz D σ' H') :
    tSeq (tFor (iZip K tA) (gTup K 2 (gCons (gName j1) (gCons (gName j2) gNil))) tu) tz D σ H :=
  h H (Ex.refl H) _ fun H1 e1 => ⟨a, b, xs, ys, rfl, ex_l e1 hx, ex_l e1 hy,
    RZ.for_zipL (D := { D with nx := tz D }) hl Pv (h0 H1 e1) (fun i σ' H' p => ⟨ex_l (hk i σ' H' p) hx, ex_l (hk i σ' H' p) hy⟩)
      (fun i x y T σ' H' hxi hyi p hT => ⟨T, [x, y], rfl, Or.inl (Or.inl upd_same), rfl, x, [y], rfl, y, [], rfl, rfl,
        hs i x y σ' H' _ hxi hyi p (Ex.new hT)⟩) hd⟩
end

/-! ### what is known where a reading stands -/
theorem pss_know {X : Cx} {b : List Stmt} {t : TS} {C : Prop} (h : C → PSs X b t) : PSs X b (fun D σ H => C ∧ t D σ H) :=
  ⟨fun pins s σ H D I q => (h q.1).run pins s σ H D I q.2⟩
theorem roomH_mark {k : Nat} {A : Around} {v : Option Value} (r : Room k A) : L2H.RoomH k (A.mark v) := ⟨r.dp, r.un⟩
theorem hot_mark {A : Around} {a : Addr} {oe : Obj} {c : Value} {d : Option Addr} (hz : L2N.Zn c d oe) (hf : ∃ vs, oe.data = .fields vs) :
    L2H.Hot1 (A.mark (some (.ref a))) (a, oe) := by
  obtain ⟨vs, hv⟩ := hf
  exact ⟨rfl, vs, hv, hz.2.2 vs hv⟩
/-- an error of the class at A is what a clause over the own class at B names -/
theorem Er.names {K : PySem.W.Frag} {mg : Str → Option Value} {x : Str} {B : Addr} (T : Er K mg x B) {c : Value} {b : Bool} (h : PySem.W.subIn K c (.ref B) = some b) :
    PySem.W.exmOne K c (.ref B) = some b := PySem.W.exm_ref T.bC T.hd T.tC h

/-! ### the kinds of the handled error -/
def spKinds (a : Addr) : Sp := fun vs H Q _ => vs = [.ref a] ∧ RetV (.int 1) H Q
/-- isinstance of the handled error against an own class -/
theorem ev_isE {K : PySem.W.Frag} {σ : L2.St} {H : Hp} {ta tc : TE} {a A B : Addr} {b : Bool} (h : Ev ta σ H (.ref a)) (hc : Ev tc σ H (.ref B))
    (k : PySem.W.kitOne K (.ref A) (.ref B) = some b) : Ev (tCB (rIsE K A a) (tCons ta (tCons tc tNil))) σ H (.bl b) := fun H1 e Q q =>
  h H1 e _ fun H2 e2 => hc H2 (e.trans e2) _ fun H3 e3 => ⟨.ref B, .ref B, b, rfl, fun u r => r, k, q H3 (e2.trans e3)⟩
theorem ev_isET {K : PySem.W.Frag} {σ : L2.St} {H : Hp} {ta tc : TE} {a A : Addr} {n : String} {b : Bool} (h : Ev ta σ H (.ref a)) (hc : Ev tc σ H (.ty n))
    (k : PySem.W.kitOne K (.ref A) (.type n) = some b) : Ev (tCB (rIsE K A a) (tCons ta (tCons tc tNil))) σ H (.bl b) := fun H1 e Q q =>
  h H1 e _ fun H2 e2 => hc H2 (e.trans e2) _ fun H3 e3 => ⟨.ty n, .type n, b, rfl, fun u r => r, k, q H3 (e2.trans e3)⟩

end My

set_option maxHeartbeats 1000000

namespace Coin

/-! Rows are functions from places to coins, the first n places count; ways likewise. -/

/-- the worth of a way over the first n coins -/
def wsum (c v : Nat → Int) : Nat → Int
  | 0 => 0
  | n + 1 => wsum c v n + c n * v n

/-- how many pieces it has there -/
def psum (v : Nat → Int) : Nat → Int
  | 0 => 0
  | n + 1 => psum v n + v n

/-- greatest first over the first n coins -/
def gr (c : Nat → Int) : Nat → Int → Nat → Int
  | 0, _, _ => 0
  | n + 1, a, k => if k = n then a / c n else gr c n (a % c n) k

/-- a row of n coins -/
structure Row (c : Nat → Int) (n : Nat) : Prop where
  pos : 0 < n
  one : c 0 = 1
  up : ∀ k, k + 1 < n → c k < c (k + 1)

theorem Row.lt {c n} (h : Row c n) : ∀ {i j : Nat}, i < j → j < n → c i < c j := by
  intro i j hij hj
  induction j with
  | zero => omega
  | succ j ih =>
    have h1 := h.up j hj
    by_cases e : i = j
    · subst e; exact h1
    · have := ih (by omega) (by omega); omega

theorem Row.le {c n} (h : Row c n) {i j : Nat} (hij : i ≤ j) (hj : j < n) : c i ≤ c j := by
  by_cases e : i = j
  · subst e; omega
  · have := h.lt (show i < j by omega) hj; omega

theorem Row.ge1 {c n} (h : Row c n) {i : Nat} (hi : i < n) : 1 ≤ c i := by
  have := h.le (Nat.zero_le i) hi
  rw [h.one] at this; exact this

theorem Row.sub {c n} (h : Row c n) {m : Nat} (hm : 0 < m) (hmn : m ≤ n) : Row c m :=
  ⟨hm, h.one, fun k hk => h.up k (by omega)⟩

/-- a way: none below nought -/
def Way (v : Nat → Int) (n : Nat) : Prop := ∀ k, k < n → 0 ≤ v k

theorem wsum_congr {c v u : Nat → Int} : ∀ {n : Nat}, (∀ k, k < n → v k = u k) → wsum c v n = wsum c u n
  | 0, _ => rfl
  | n + 1, h => by
    simp only [wsum]
    rw [wsum_congr (n := n) (fun k hk => h k (by omega)), h n (by omega)]

theorem psum_congr {v u : Nat → Int} : ∀ {n : Nat}, (∀ k, k < n → v k = u k) → psum v n = psum u n
  | 0, _ => rfl
  | n + 1, h => by
    simp only [psum]
    rw [psum_congr (n := n) (fun k hk => h k (by omega)), h n (by omega)]

theorem gr_top {c : Nat → Int} {n : Nat} {a : Int} : gr c (n + 1) a n = a / c n := by simp [gr]

theorem gr_low {c : Nat → Int} {n : Nat} {a : Int} {k : Nat} (h : k < n) : gr c (n + 1) a k = gr c n (a % c n) k := by
  simp only [gr]; rw [if_neg (by omega)]

theorem wsum_gr_succ {c : Nat → Int} {n : Nat} {a : Int} :
    wsum c (gr c (n + 1) a) (n + 1) = wsum c (gr c n (a % c n)) n + c n * (a / c n) := by
  simp only [wsum]
  rw [gr_top, wsum_congr (u := gr c n (a % c n)) (fun k hk => gr_low hk)]

theorem psum_gr_succ {c : Nat → Int} {n : Nat} {a : Int} :
    psum (gr c (n + 1) a) (n + 1) = psum (gr c n (a % c n)) n + a / c n := by
  simp only [psum]
  rw [gr_top, psum_congr (u := gr c n (a % c n)) (fun k hk => gr_low hk)]

/-- greatest first is a way -/
theorem gr_way {c : Nat → Int} : ∀ {n : Nat} {a : Int}, (∀ k, k < n → 1 ≤ c k) → 0 ≤ a → Way (gr c n a) n
  | 0, _, _, _ => fun k hk => by omega
  | n + 1, a, hc, ha => fun k hk => by
    have hcn := hc n (by omega)
    by_cases e : k = n
    · subst e; rw [gr_top]; exact Int.ediv_nonneg ha (by omega)
    · rw [gr_low (by omega)]
      exact gr_way (fun k hk => hc k (by omega)) (Int.emod_nonneg _ (by omega)) k (by omega)

/-- its worth is the amount -/
theorem gr_worth {c : Nat → Int} : ∀ {n : Nat} {a : Int}, Row c n → 0 ≤ a → wsum c (gr c n a) n = a
  | 0, _, h, _ => absurd h.pos (by omega)
  | 1, a, h, ha => by
    rw [wsum_gr_succ]; simp only [wsum]; rw [h.one]; omega
  | n + 2, a, h, ha => by
    rw [wsum_gr_succ, gr_worth (h.sub (by omega) (by omega)) (Int.emod_nonneg _ (by have := h.ge1 (i := n + 1) (by omega); omega))]
    have := Int.emod_add_mul_ediv a (c (n + 1))
    omega

/-- what stands below a place in a way that greatest first makes is worth less than its coin -/
theorem wsum_nonneg {c v : Nat → Int} : ∀ {n : Nat}, (∀ k, k < n → 1 ≤ c k) → Way v n → 0 ≤ wsum c v n
  | 0, _, _ => by simp [wsum]
  | n + 1, hc, hv => by
    simp only [wsum]
    have h1 := wsum_nonneg (n := n) (fun k hk => hc k (by omega)) (fun k hk => hv k (by omega))
    have h2 := Int.mul_nonneg (show 0 ≤ c n from by have := hc n (by omega); omega) (hv n (by omega))
    omega

theorem psum_nonneg {v : Nat → Int} : ∀ {n : Nat}, Way v n → 0 ≤ psum v n
  | 0, _ => by simp [psum]
  | n + 1, hv => by
    simp only [psum]
    have h1 := psum_nonneg (n := n) (fun k hk => hv k (by omega))
    have h2 := hv n (by omega)
    omega

/-- a way is greedy: below each coin what is left is worth less than it -/
def Gd (c v : Nat → Int) (n : Nat) : Prop := ∀ k, k < n → wsum c v k < c k

/-- a greedy way is the one that greatest first makes -/
theorem gr_of_Gd {c v : Nat → Int} : ∀ {n : Nat}, (∀ k, k < n → 1 ≤ c k) → Way v n → Gd c v n →
    ∀ k, k < n → gr c n (wsum c v n) k = v k
  | 0, _, _, _ => fun k hk => by omega
  | n + 1, hc, hv, hg => fun k hk => by
    have hcn := hc n (by omega)
    have hlt := hg n (by omega)
    have h0 := wsum_nonneg (n := n) (fun k hk => hc k (by omega)) (fun k hk => hv k (by omega))
    have e1 : (wsum c v n + c n * v n) / c n = v n := by
      rw [Int.add_mul_ediv_left _ _ (by omega), Int.ediv_eq_zero_of_lt h0 hlt]; omega
    have e2 : (wsum c v n + c n * v n) % c n = wsum c v n := by
      rw [Int.add_mul_emod_self_left, Int.emod_eq_of_lt h0 hlt]
    simp only [wsum]
    by_cases e : k = n
    · subst e; rw [gr_top, e1]
    · rw [gr_low (by omega), e2]
      exact gr_of_Gd (fun k hk => hc k (by omega)) (fun k hk => hv k (by omega)) (fun k hk => hg k (by omega)) k (by omega)

/-- and greatest first makes a greedy way -/
theorem Gd_gr {c : Nat → Int} : ∀ {n : Nat} {a : Int}, Row c n → 0 ≤ a → Gd c (gr c n a) n
  | 0, _, h, _ => absurd h.pos (by omega)
  | 1, a, h, ha => fun k hk => by
    have e : k = 0 := by omega
    subst e; simp only [wsum]; rw [h.one]; omega
  | n + 2, a, h, ha => fun k hk => by
    have hcn := h.ge1 (i := n + 1) (by omega)
    have hr : Row c (n + 1) := h.sub (by omega) (by omega)
    have h0 : 0 ≤ a % c (n + 1) := Int.emod_nonneg _ (by omega)
    have e : ∀ m, m ≤ n + 1 → wsum c (gr c (n + 2) a) m = wsum c (gr c (n + 1) (a % c (n + 1))) m := fun m hm =>
      wsum_congr (fun k hk => gr_low (by omega))
    rw [e k (by omega)]
    by_cases ek : k = n + 1
    · subst ek; rw [gr_worth hr h0]; exact Int.emod_lt_of_pos _ (by omega)
    · exact Gd_gr hr h0 k (by omega)

end Coin


namespace Coin

/-- d pieces more of the coin at i -/
def add (v : Nat → Int) (i : Nat) (d : Int) : Nat → Int := fun k => if k = i then v k + d else v k

theorem wsum_add_out {c v : Nat → Int} {i : Nat} {d : Int} {n : Nat} (h : n ≤ i) : wsum c (add v i d) n = wsum c v n :=
  wsum_congr fun k hk => by simp only [add]; rw [if_neg (by omega)]

theorem psum_add_out {v : Nat → Int} {i : Nat} {d : Int} {n : Nat} (h : n ≤ i) : psum (add v i d) n = psum v n :=
  psum_congr fun k hk => by simp only [add]; rw [if_neg (by omega)]

theorem wsum_add {c v : Nat → Int} {i : Nat} {d : Int} : ∀ {n : Nat}, i < n → wsum c (add v i d) n = wsum c v n + c i * d
  | 0, h => by omega
  | n + 1, h => by
    simp only [wsum]
    by_cases e : i = n
    · subst e
      rw [wsum_add_out (Nat.le_refl _)]
      simp only [add, if_true, Int.mul_add]; omega
    · rw [wsum_add (n := n) (by omega)]
      simp only [add]; rw [if_neg (by omega)]; omega

theorem psum_add {v : Nat → Int} {i : Nat} {d : Int} : ∀ {n : Nat}, i < n → psum (add v i d) n = psum v n + d
  | 0, h => by omega
  | n + 1, h => by
    simp only [psum]
    by_cases e : i = n
    · subst e
      rw [psum_add_out (Nat.le_refl _)]
      simp only [add, if_true]; omega
    · rw [psum_add (n := n) (by omega)]
      simp only [add]; rw [if_neg (by omega)]; omega

theorem add_at {v : Nat → Int} {i : Nat} {d : Int} : add v i d i = v i + d := by simp [add]
theorem add_ne {v : Nat → Int} {i k : Nat} {d : Int} (h : k ≠ i) : add v i d k = v k := by simp only [add]; rw [if_neg h]

/-- a way's one piece is worth no more than the way -/
theorem coin_le {c v : Nat → Int} : ∀ {n : Nat} {k : Nat}, (∀ k, k < n → 1 ≤ c k) → Way v n → k < n → 1 ≤ v k →
    c k ≤ wsum c v n
  | 0, _, _, _, h, _ => by omega
  | n + 1, k, hc, hv, hk, h1 => by
    simp only [wsum]
    have hcn := hc n (by omega)
    by_cases e : k = n
    · subst e
      have h0 := wsum_nonneg (n := k) (fun k hk => hc k (by omega)) (fun k hk => hv k (by omega))
      have : c k * 1 ≤ c k * v k := Int.mul_le_mul_of_nonneg_left h1 (by omega)
      omega
    · have := coin_le (n := n) (k := k) (fun k hk => hc k (by omega)) (fun k hk => hv k (by omega)) (by omega) h1
      have h2 := Int.mul_nonneg (show 0 ≤ c n by omega) (hv n (by omega))
      omega

/-- a way of some worth has a piece -/
theorem has_piece {c v : Nat → Int} : ∀ {n : Nat}, Way v n → 0 < wsum c v n → ∃ k, k < n ∧ 1 ≤ v k
  | 0, _, h => by simp [wsum] at h
  | n + 1, hv, h => by
    by_cases e : 1 ≤ v n
    · exact ⟨n, by omega, e⟩
    · have h0 := hv n (by omega)
      have e0 : v n = 0 := by omega
      simp only [wsum, e0, Int.mul_zero, Int.add_zero] at h
      obtain ⟨k, hk, hk1⟩ := has_piece (n := n) (fun k hk => hv k (by omega)) h
      exact ⟨k, by omega, hk1⟩

theorem wsum_zero_above {c v : Nat → Int} {m : Nat} : ∀ {n : Nat}, m ≤ n → (∀ k, m ≤ k → k < n → v k = 0) →
    wsum c v n = wsum c v m
  | 0, h, _ => by rw [show m = 0 by omega]
  | n + 1, h, hz => by
    by_cases e : m = n + 1
    · rw [e]
    · simp only [wsum]
      rw [hz n (by omega) (by omega), wsum_zero_above (n := n) (by omega) (fun k h1 h2 => hz k h1 (by omega))]
      simp

theorem psum_zero {v : Nat → Int} : ∀ {n : Nat}, (∀ k, k < n → v k = 0) → psum v n = 0
  | 0, _ => rfl
  | n + 1, h => by
    simp only [psum]; rw [h n (by omega), psum_zero (n := n) (fun k hk => h k (by omega))]; rfl

theorem gr_zero {c : Nat → Int} : ∀ {n : Nat} {k : Nat}, gr c n 0 k = 0
  | 0, _ => rfl
  | n + 1, k => by
    simp only [gr]
    rw [Int.zero_ediv, Int.zero_emod, gr_zero]; simp

/-- an amount is wrong: some way of it has fewer pieces than greatest first makes -/
def Wrong (c : Nat → Int) (n : Nat) (a : Int) : Prop :=
  0 ≤ a ∧ ∃ v, Way v n ∧ wsum c v n = a ∧ psum v n < psum (gr c n a) n

/-- the trial of two places -/
def tri (c : Nat → Int) (n high low : Nat) : Nat → Int := fun k =>
  if k < low then 0 else if k = low then gr c n (c high - 1) k + 1 else gr c n (c high - 1) k

/-- of the places that serve, one with the least number, and the last such -/
theorem last_least (P : Nat → Prop) (f : Nat → Int) : ∀ (m : Nat), (∃ k, k < m ∧ P k) →
    ∃ i, i < m ∧ P i ∧ (∀ k, k < m → P k → f i ≤ f k) ∧ ∀ k, i < k → k < m → P k → f i < f k
  | 0, ⟨_, h, _⟩ => by omega
  | m + 1, ⟨k0, hk0, hp0⟩ => by
    by_cases hm : P m
    · by_cases hex : ∃ k, k < m ∧ P k
      · obtain ⟨i, hi, hpi, h1, h2⟩ := last_least P f m hex
        by_cases hlt : f i < f m
        · refine ⟨i, by omega, hpi, fun k hk hp => ?_, fun k hik hk hp => ?_⟩
          · by_cases e : k = m
            · subst e; omega
            · exact h1 k (by omega) hp
          · by_cases e : k = m
            · subst e; omega
            · exact h2 k hik (by omega) hp
        · refine ⟨m, by omega, hm, fun k hk hp => ?_, fun k hik hk hp => by omega⟩
          by_cases e : k = m
          · subst e; omega
          · have := h1 k (by omega) hp; omega
      · refine ⟨m, by omega, hm, fun k hk hp => ?_, fun k hik hk hp => by omega⟩
        by_cases e : k = m
        · subst e; omega
        · exact absurd ⟨k, by omega, hp⟩ hex
    · have hex : ∃ k, k < m ∧ P k := ⟨k0, by
        by_cases e : k0 = m
        · subst e; exact absurd hp0 hm
        · omega, hp0⟩
      obtain ⟨i, hi, hpi, h1, h2⟩ := last_least P f m hex
      refine ⟨i, by omega, hpi, fun k hk hp => ?_, fun k hik hk hp => ?_⟩
      · by_cases e : k = m
        · subst e; exact absurd hp hm
        · exact h1 k (by omega) hp
      · by_cases e : k = m
        · subst e; exact absurd hp hm
        · exact h2 k hik (by omega) hp

/-- the least place with a piece -/
theorem first_piece (P : Nat → Prop) : ∀ (m : Nat), P m → ∃ j, j ≤ m ∧ P j ∧ ∀ k, k < j → ¬ P k
  | m, hm => by
    induction m using Nat.strongRecOn with
    | ind m ih =>
      by_cases h : ∃ k, k < m ∧ P k
      · obtain ⟨k, hk, hp⟩ := h
        obtain ⟨j, hj, hpj, hn⟩ := ih k hk hp
        exact ⟨j, by omega, hpj, hn⟩
      · exact ⟨m, Nat.le_refl _, hm, fun k hk hp => h ⟨k, hk, hp⟩⟩

/-- The least wrong amount is the worth of a trial with as few pieces as any way of it. -/
theorem pearson {c : Nat → Int} {n : Nat} {w : Int} (hr : Row c n) (hw : Wrong c n w)
    (hl : ∀ a, a < w → ¬ Wrong c n a) :
    ∃ high low, low < high ∧ high < n ∧ wsum c (tri c n high low) n = w ∧ Way (tri c n high low) n ∧
      ∀ v, Way v n → wsum c v n = w → psum (tri c n high low) n ≤ psum v n := by
  have hc : ∀ k, k < n → 1 ≤ c k := fun k hk => hr.ge1 hk
  obtain ⟨hw0, v0, hv0, hs0, hp0⟩ := hw
  have hopt : ∀ a, a < w → ∀ v, Way v n → wsum c v n = a → psum (gr c n a) n ≤ psum v n := by
    intro a ha v hv hs
    have h0 : 0 ≤ a := by rw [← hs]; exact wsum_nonneg hc hv
    by_cases h : psum v n < psum (gr c n a) n
    · exact absurd ⟨h0, v, hv, hs, h⟩ (hl a ha)
    · omega
  have hwpos : 0 < w := by
    by_cases e : w = 0
    · subst e
      rw [psum_zero (fun k _ => gr_zero)] at hp0
      have := psum_nonneg hv0; omega
    · omega
  let f : Nat → Int := fun k => 1 + psum (gr c n (w - c k)) n
  -- a way with a piece of the coin at k
  have hA : ∀ v, Way v n → wsum c v n = w → ∀ k, k < n → 1 ≤ v k → c k ≤ w ∧ f k ≤ psum v n := by
    intro v hv hs k hk h1
    have hle := coin_le hc hv hk h1
    have hway : Way (add v k (-1)) n := fun m hm => by
      by_cases e : m = k
      · subst e; rw [add_at]; omega
      · rw [add_ne e]; exact hv m hm
    have hsum : wsum c (add v k (-1)) n = w - c k := by rw [wsum_add hk, hs, Int.mul_neg, Int.mul_one]; omega
    have hck := hc k hk
    have := hopt (w - c k) (by omega) _ hway hsum
    rw [psum_add hk] at this
    exact ⟨by omega, by show 1 + psum (gr c n (w - c k)) n ≤ _; omega⟩
  obtain ⟨k0, hk0, hk1⟩ := has_piece hv0 (by omega : 0 < wsum c v0 n)
  obtain ⟨i, hi, hci, hmin, hlast⟩ := last_least (fun k => c k ≤ w) f n ⟨k0, hk0, (hA v0 hv0 hs0 k0 hk0 hk1).1⟩
  let G := gr c n (w - c i)
  let M := add G i 1
  have hG : Way G n := gr_way hc (by omega)
  have hGs : wsum c G n = w - c i := gr_worth hr (by omega)
  have hM : Way M n := fun m hm => by
    by_cases e : m = i
    · rw [e]; show 0 ≤ add G i 1 i; rw [add_at]; have := hG i hi; omega
    · show 0 ≤ add G i 1 m; rw [add_ne e]; exact hG m hm
  have hMs : wsum c M n = w := by show wsum c (add G i 1) n = w; rw [wsum_add hi, hGs]; omega
  have hMp : psum M n = f i := by show psum (add G i 1) n = 1 + psum G n; rw [psum_add hi]; omega
  have hMin : ∀ v, Way v n → wsum c v n = w → psum M n ≤ psum v n := by
    intro v hv hs
    obtain ⟨k, hk, h1⟩ := has_piece hv (by omega : 0 < wsum c v n)
    have h2 := hA v hv hs k hk h1
    have h3 := hmin k hk h2.1
    omega
  have hMtop : ∀ k, i < k → k < n → M k = 0 := by
    intro k hik hk
    by_cases h1 : 1 ≤ M k
    · have h2 := hA M hM hMs k hk h1
      have h3 := hlast k hik hk h2.1
      omega
    · have := hM k hk; omega
  have hMi : 1 ≤ M i := by show 1 ≤ add G i 1 i; rw [add_at]; have := hG i hi; omega
  have hMG : ∀ k, k ≤ i → wsum c M k = wsum c G k := fun k hk => wsum_add_out hk
  have hGd : Gd c G n := Gd_gr hr (by omega)
  have hMabove : ∀ k, i < k → k ≤ n → wsum c M k = w := by
    intro k hik hk
    have := wsum_zero_above (c := c) (v := M) (m := k) (n := n) hk (fun m h1 h2 => hMtop m (by omega) h2)
    omega
  -- the coin ahead
  have hB : i + 1 < n ∧ c (i + 1) ≤ w := by
    by_cases hlt : i + 1 < n ∧ c (i + 1) ≤ w
    · exact hlt
    · exfalso
      have hgd : Gd c M n := by
        intro k hk
        by_cases hki : k ≤ i
        · rw [hMG k hki]; exact hGd k hk
        · rw [hMabove k (by omega) (by omega)]
          have := hr.le (show i + 1 ≤ k by omega) hk
          have : ¬ c (i + 1) ≤ w := fun h => hlt ⟨by omega, h⟩
          omega
      have e := gr_of_Gd hc hM hgd
      rw [hMs] at e
      rw [psum_congr e, hMp] at hp0
      have := hMin v0 hv0 hs0
      omega
  obtain ⟨hin, hcw⟩ := hB
  obtain ⟨j, hji, hMj, hMlow⟩ := first_piece (fun k => 1 ≤ M k) i hMi
  have hjn : j < n := by omega
  have hMz : ∀ k, k < j → M k = 0 := fun k hk => by
    have := hMlow k hk; have := hM k (by omega); omega
  have hcj := hc j hjn
  have hAj := hA M hM hMs j hjn hMj
  -- less one piece of the last coin it is below the coin ahead
  have hB' : w - c j < c (i + 1) := by
    by_cases hlt : w - c j < c (i + 1)
    · exact hlt
    · exfalso
      let T := gr c n (w - c j)
      have hT : Way T n := gr_way hc (by omega)
      have hTs : wsum c T n = w - c j := gr_worth hr (by omega)
      have hTd : Gd c T n := Gd_gr hr (by omega)
      have hex : ∃ k, i < k ∧ k < n ∧ 1 ≤ T k := by
        by_cases hz : ∃ k, i < k ∧ k < n ∧ 1 ≤ T k
        · exact hz
        · exfalso
          have := wsum_zero_above (c := c) (v := T) (m := i + 1) (n := n) (by omega) (fun m h1 h2 => by
            have h3 := hT m h2
            by_cases h4 : 1 ≤ T m
            · exact absurd ⟨m, by omega, h2, h4⟩ hz
            · omega)
          have := hTd (i + 1) hin
          omega
      obtain ⟨k, hik, hk, h1⟩ := hex
      have hU : Way (add T j 1) n := fun m hm => by
        have := hT m hm
        by_cases e : m = j
        · subst e; rw [add_at]; omega
        · rw [add_ne e]; exact this
      have hUs : wsum c (add T j 1) n = w := by rw [wsum_add hjn, hTs]; omega
      have hUp : psum (add T j 1) n = f j := by rw [psum_add hjn]; show psum T n + 1 = 1 + psum T n; omega
      have h2 := hA _ hU hUs k hk (by rw [add_ne (by omega)]; exact h1)
      have h3 := hlast k hik hk h2.1
      omega
  -- what greatest first makes of one less than the coin ahead
  let x := c (i + 1) - 1
  let r := x - (w - c j)
  have hr0 : 0 ≤ r := by show 0 ≤ c (i + 1) - 1 - (w - c j); omega
  have hrj : r < c j := by show c (i + 1) - 1 - (w - c j) < c j; omega
  let L := gr c j r
  let U : Nat → Int := fun k => if k < j then L k else if k = j then M j - 1 else M k
  have hLs : wsum c L j = r ∧ Gd c L j := by
    by_cases e : j = 0
    · have h1 : c j = 1 := by rw [e]; exact hr.one
      have : r = 0 := by omega
      rw [this]
      refine ⟨?_, fun k hk => by omega⟩
      rw [e]; rfl
    · have hrow : Row c j := hr.sub (by omega) (by omega)
      exact ⟨gr_worth hrow hr0, Gd_gr hrow hr0⟩
  have hLw : Way L j := gr_way (fun k hk => hc k (by omega)) hr0
  have hUlow : ∀ k, k ≤ j → wsum c U k = wsum c L k := fun k hk => wsum_congr fun m hm => by
    show (if m < j then L m else _) = L m
    rw [if_pos (by omega)]
  have hMlow0 : ∀ k, k ≤ j → wsum c M k = 0 := fun k hk => by
    rw [wsum_zero_above (m := 0) (by omega) (fun m _ h => hMz m (by omega))]; rfl
  have hUhigh : ∀ k, j < k → wsum c U k = r + wsum c M k - c j := by
    intro k
    induction k with
    | zero => intro h; omega
    | succ k ih =>
      intro h
      simp only [wsum]
      by_cases e : k = j
      · rw [e, hUlow j (by omega), hLs.1, hMlow0 j (by omega)]
        have : U j = M j - 1 := by
          show (if j < j then L j else if j = j then M j - 1 else M j) = _
          rw [if_neg (by omega), if_pos rfl]
        rw [this, Int.mul_sub, Int.mul_one]; omega
      · rw [ih (by omega)]
        have : U k = M k := by
          show (if k < j then L k else if k = j then M j - 1 else M k) = _
          rw [if_neg (by omega), if_neg e]
        rw [this]; omega
  have hUw : Way U n := fun k hk => by
    show 0 ≤ (if k < j then L k else if k = j then M j - 1 else M k)
    by_cases h1 : k < j
    · rw [if_pos h1]; exact hLw k h1
    · rw [if_neg h1]
      by_cases h2 : k = j
      · rw [if_pos h2]; omega
      · rw [if_neg h2]; exact hM k hk
  have hUs : wsum c U n = x := by
    rw [hUhigh n hjn, hMs]; show c (i + 1) - 1 - (w - c j) + w - c j = c (i + 1) - 1; omega
  have hUd : Gd c U n := by
    intro k hk
    by_cases h1 : k < j
    · rw [hUlow k (by omega)]; exact hLs.2 k h1
    · by_cases h2 : k = j
      · rw [h2, hUlow j (by omega), hLs.1]; exact hrj
      · rw [hUhigh k (by omega)]
        by_cases h3 : k ≤ i
        · rw [hMG k h3]; have := hGd k hk; omega
        · rw [hMabove k (by omega) (by omega)]
          have := hr.le (show i + 1 ≤ k by omega) hk
          show c (i + 1) - 1 - (w - c j) + w - c j < c k
          omega
  have hgr : ∀ k, k < n → gr c n x k = U k := by
    have := gr_of_Gd hc hUw hUd
    rw [hUs] at this; exact this
  have htri : ∀ k, k < n → tri c n (i + 1) j k = M k := by
    intro k hk
    show (if k < j then 0 else if k = j then gr c n x k + 1 else gr c n x k) = M k
    rw [hgr k hk]
    show (if k < j then 0 else if k = j then (if k < j then L k else if k = j then M j - 1 else M k) + 1
      else (if k < j then L k else if k = j then M j - 1 else M k)) = M k
    by_cases h1 : k < j
    · rw [if_pos h1, hMz k h1]
    · by_cases h2 : k = j
      · simp only [h2, Nat.lt_irrefl, if_true, if_false]; omega
      · simp only [h1, h2, if_false]
  refine ⟨i + 1, j, by omega, hin, ?_, ?_, ?_⟩
  · rw [wsum_congr htri, hMs]
  · intro k hk; rw [htri k hk]; exact hM k hk
  · intro v hv hs; rw [psum_congr htri]; exact hMin v hv hs

end Coin


namespace Coin

def nil : Nat → Int := fun _ => 0

theorem wsum_nil {c : Nat → Int} : ∀ {n : Nat}, wsum c nil n = 0
  | 0 => rfl
  | n + 1 => by simp only [wsum, nil, Int.mul_zero, Int.add_zero]; exact wsum_nil

theorem psum_nil : ∀ {n : Nat}, psum nil n = 0
  | 0 => rfl
  | n + 1 => by simp only [psum, nil, Int.add_zero]; exact psum_nil

theorem way_nil {n : Nat} : Way nil n := fun _ _ => Int.le_refl 0

theorem way_add {v : Nat → Int} {n i : Nat} (h : Way v n) : Way (add v i 1) n := fun m hm => by
  have := h m hm
  by_cases e : m = i
  · subst e; rw [add_at]; omega
  · rw [add_ne e]; exact this

theorem zero_of_psum {v : Nat → Int} : ∀ {n : Nat}, Way v n → psum v n = 0 → ∀ k, k < n → v k = 0
  | 0, _, _ => fun k hk => by omega
  | n + 1, hv, hp => fun k hk => by
    simp only [psum] at hp
    have h1 := psum_nonneg (v := v) (n := n) (fun k hk => hv k (by omega))
    have h2 := hv n (by omega)
    by_cases e : k = n
    · subst e; omega
    · exact zero_of_psum (n := n) (fun k hk => hv k (by omega)) (by omega) k (by omega)

theorem wsum_all_zero {c v : Nat → Int} {n : Nat} (h : ∀ k, k < n → v k = 0) : wsum c v n = 0 := by
  rw [wsum_congr (u := nil) h, wsum_nil]

/-- a way of one piece is worth a coin -/
theorem one_piece {c v : Nat → Int} {n : Nat} (hv : Way v n) (hp : psum v n = 1) : ∃ k, k < n ∧ wsum c v n = c k := by
  have hex : ∃ k, k < n ∧ 1 ≤ v k := by
    by_cases h : ∃ k, k < n ∧ 1 ≤ v k
    · exact h
    · exfalso
      have := psum_zero (v := v) (n := n) (fun k hk => by
        have := hv k hk
        by_cases h1 : 1 ≤ v k
        · exact absurd ⟨k, hk, h1⟩ h
        · omega)
      omega
  obtain ⟨k, hk, h1⟩ := hex
  have hway : Way (add v k (-1)) n := fun m hm => by
    by_cases e : m = k
    · subst e; rw [add_at]; omega
    · rw [add_ne e]; exact hv m hm
  have h2 : psum (add v k (-1)) n = 0 := by rw [psum_add hk]; omega
  have h3 : wsum c (add v k (-1)) n = 0 := wsum_all_zero (zero_of_psum hway h2)
  rw [wsum_add hk, Int.mul_neg, Int.mul_one] at h3
  exact ⟨k, hk, by omega⟩

/-- a way that greedy agrees with has as many pieces -/
theorem psum_gr {c v : Nat → Int} {n : Nat} {a : Int} (hc : ∀ k, k < n → 1 ≤ c k) (hv : Way v n) (hg : Gd c v n)
    (hs : wsum c v n = a) : psum (gr c n a) n = psum v n := by
  subst hs; exact psum_congr (gr_of_Gd hc hv hg)

/-- no amount below the third coin and 2 is wrong -/
theorem wrong_low {c : Nat → Int} {n : Nat} {w : Int} (hr : Row c n) (hw : Wrong c n w) : 2 < n ∧ c 2 + 1 < w := by
  have hc : ∀ k, k < n → 1 ≤ c k := fun k hk => hr.ge1 hk
  obtain ⟨hw0, v, hv, hs, hp⟩ := hw
  by_cases h1 : n = 1
  · exfalso
    subst h1
    simp only [psum, wsum, hr.one] at hs hp
    rw [gr_top, hr.one] at hp
    omega
  have hn1 : 1 < n := by have := hr.pos; omega
  have hc1 : 1 < c 1 := by have := hr.up 0 (by omega); rw [hr.one] at this; exact this
  have hwpos : 0 < w := by
    by_cases e : w = 0
    · subst e
      rw [psum_zero (fun k _ => gr_zero)] at hp
      have := psum_nonneg hv; omega
    · omega
  have hpv : 1 ≤ psum v n := by
    have h0 := psum_nonneg hv
    by_cases e : psum v n = 0
    · have := wsum_all_zero (c := c) (zero_of_psum hv e); omega
    · omega
  by_cases hlow : ∀ k, 2 ≤ k → k < n → w < c k
  · -- two coins alone
    exfalso
    let u : Nat → Int := fun k => if k = 0 then w % c 1 else if k = 1 then w / c 1 else 0
    have hm0 := Int.emod_nonneg w (show c 1 ≠ 0 by omega)
    have hm1 := Int.emod_lt_of_pos w (show 0 < c 1 by omega)
    have hd0 := Int.ediv_nonneg hw0 (show 0 ≤ c 1 by omega)
    have hdm := Int.emod_add_mul_ediv w (c 1)
    have hu : Way u n := fun k hk => by
      show 0 ≤ (if k = 0 then w % c 1 else if k = 1 then w / c 1 else 0)
      by_cases e0 : k = 0
      · rw [if_pos e0]; exact hm0
      · rw [if_neg e0]
        by_cases e1 : k = 1
        · rw [if_pos e1]; exact hd0
        · rw [if_neg e1]; omega
    have hu2 : wsum c u 2 = w := by
      show 0 + c 0 * (w % c 1) + c 1 * (w / c 1) = w
      rw [hr.one]; omega
    have hua : ∀ k, 2 ≤ k → k ≤ n → wsum c u k = w := fun k h2 hk => by
      rw [wsum_zero_above (m := 2) h2 (fun m h1 _ => by
        show (if m = 0 then w % c 1 else if m = 1 then w / c 1 else 0) = 0
        rw [if_neg (by omega), if_neg (by omega)]), hu2]
    have hug : Gd c u n := fun k hk => by
      by_cases e0 : k = 0
      · subst e0; simp only [wsum]; rw [hr.one]; omega
      · by_cases e1 : k = 1
        · subst e1
          show 0 + c 0 * (w % c 1) < c 1
          rw [hr.one]; omega
        · rw [hua k (by omega) (by omega)]; exact hlow k (by omega) hk
    have hup : psum u n = w % c 1 + w / c 1 := by
      have e : ∀ k, 2 ≤ k → psum u k = w % c 1 + w / c 1 := by
        intro k
        induction k with
        | zero => intro h; omega
        | succ k ih =>
          intro h
          by_cases e : k = 1
          · subst e
            show 0 + w % c 1 + w / c 1 = w % c 1 + w / c 1
            omega
          · simp only [psum]; rw [ih (by omega)]
            show w % c 1 + w / c 1 + (if k = 0 then w % c 1 else if k = 1 then w / c 1 else 0) = _
            rw [if_neg (by omega), if_neg e]; omega
      exact e n (by omega)
    rw [psum_gr hc hu hug (hua n (by omega) (Nat.le_refl _)), hup] at hp
    have hvz : ∀ k, 2 ≤ k → k < n → v k = 0 := fun k h2 hk => by
      have := hv k hk
      by_cases h3 : 1 ≤ v k
      · have := coin_le hc hv hk h3; have := hlow k h2 hk; omega
      · omega
    have hvs : wsum c v 2 = w := by rw [← wsum_zero_above (n := n) (by omega) hvz]; exact hs
    have hvp : psum v n = v 0 + v 1 := by
      have e : ∀ k, 2 ≤ k → k ≤ n → psum v k = v 0 + v 1 := by
        intro k
        induction k with
        | zero => intro h; omega
        | succ k ih =>
          intro h hk
          by_cases e : k = 1
          · subst e
            show 0 + v 0 + v 1 = v 0 + v 1
            omega
          · simp only [psum]; rw [ih (by omega) (by omega), hvz k (by omega) (by omega)]; omega
      exact e n (by omega) (Nat.le_refl _)
    have hvs' : v 0 + c 1 * v 1 = w := by
      have : 0 + c 0 * v 0 + c 1 * v 1 = w := hvs
      rw [hr.one] at this; omega
    rw [hvp] at hp
    have h0 := hv 0 (by omega)
    have hge : v 1 ≤ w / c 1 := by
      rw [Int.le_ediv_iff_mul_le (by omega), Int.mul_comm]; omega
    have hmul := Int.mul_nonneg (show 0 ≤ c 1 - 1 by omega) (show 0 ≤ w / c 1 - v 1 by omega)
    rw [Int.sub_mul, Int.mul_sub, Int.one_mul] at hmul
    omega
  · have hn2 : 2 < n := by
      by_cases e : 2 < n
      · exact e
      · exact absurd (fun k h2 hk => by omega) hlow
    refine ⟨hn2, ?_⟩
    have h12 := hr.lt (show 1 < 2 by omega) hn2
    have hw2 : c 2 ≤ w := by
      by_cases e : c 2 ≤ w
      · exact e
      · exact absurd (fun k h2 hk => by have := hr.le h2 hk; omega) hlow
    by_cases e2 : w = c 2
    · exfalso
      have hgd : Gd c (add nil 2 1) n := fun k hk => by
        by_cases hk2 : k ≤ 2
        · rw [wsum_add_out hk2, wsum_nil]; have := hc k hk; omega
        · rw [wsum_add (by omega), wsum_nil]; have := hr.lt (show 2 < k by omega) hk; omega
      have := psum_gr hc (way_add way_nil) hgd (a := w) (by rw [wsum_add hn2, wsum_nil]; omega)
      rw [this, psum_add hn2, psum_nil] at hp
      omega
    · by_cases e3 : w = c 2 + 1
      · exfalso
        by_cases h3 : 3 < n ∧ c 3 = c 2 + 1
        · obtain ⟨hn3, h3⟩ := h3
          have hgd : Gd c (add nil 3 1) n := fun k hk => by
            by_cases hk2 : k ≤ 3
            · rw [wsum_add_out hk2, wsum_nil]; have := hc k hk; omega
            · rw [wsum_add (by omega), wsum_nil]; have := hr.lt (show 3 < k by omega) hk; omega
          have := psum_gr hc (way_add way_nil) hgd (a := w) (by rw [wsum_add hn3, wsum_nil]; omega)
          rw [this, psum_add hn3, psum_nil] at hp
          omega
        · have hbig : ∀ k, 3 ≤ k → k < n → c 2 + 1 < c k := fun k h hk => by
            have h4 := hr.lt (show 2 < 3 by omega) (by omega : 3 < n)
            have h5 := hr.le h hk
            have : c 3 ≠ c 2 + 1 := fun e => h3 ⟨by omega, e⟩
            omega
          have hgd : Gd c (add (add nil 2 1) 0 1) n := fun k hk => by
            by_cases e0 : k = 0
            · subst e0; rw [wsum_add_out (Nat.le_refl _), wsum_add_out (by omega), wsum_nil]; have := hc 0 hk; omega
            · rw [wsum_add (by omega), hr.one]
              by_cases hk2 : k ≤ 2
              · rw [wsum_add_out hk2, wsum_nil]
                have := hr.le (show 1 ≤ k by omega) hk; omega
              · rw [wsum_add (by omega), wsum_nil]; have := hbig k (by omega) hk; omega
          have := psum_gr hc (way_add (way_add way_nil)) hgd (a := w) (by
            rw [wsum_add (by omega), wsum_add hn2, wsum_nil, hr.one]; omega)
          rw [this, psum_add (by omega), psum_add hn2, psum_nil] at hp
          have hv1 : psum v n = 1 := by omega
          obtain ⟨k, hk, he⟩ := one_piece (c := c) hv hv1
          rw [hs] at he
          by_cases hk3 : 3 ≤ k
          · have := hbig k hk3 hk; omega
          · have := hr.le (show k ≤ 2 by omega) hn2; omega
      · omega

theorem tri_worth_from {c : Nat → Int} {n high low : Nat} : ∀ {m : Nat}, low < m →
    wsum c (tri c n high low) m = wsum c (gr c n (c high - 1)) m - wsum c (gr c n (c high - 1)) low + c low
  | 0, h => by omega
  | m + 1, h => by
    simp only [wsum]
    by_cases e : low = m
    · subst e
      have h0 : wsum c (tri c n high low) low = 0 := wsum_all_zero fun k hk => by
        simp only [tri]; rw [if_pos hk]
      have h1 : tri c n high low low = gr c n (c high - 1) low + 1 := by
        simp only [tri, Nat.lt_irrefl, if_true, if_false]
      rw [h0, h1, Int.mul_add, Int.mul_one]; omega
    · rw [tri_worth_from (m := m) (by omega)]
      have h1 : tri c n high low m = gr c n (c high - 1) m := by
        simp only [tri]; rw [if_neg (by omega), if_neg (by omega)]
      rw [h1]; omega

/-- a trial's worth is below its two coins -/
theorem tri_high {c : Nat → Int} {n high low : Nat} (hr : Row c n) (hlh : low < high) (hh : high < n) :
    wsum c (tri c n high low) n < c high + c low := by
  have hx : 0 ≤ c high - 1 := by have := hr.ge1 hh; omega
  rw [tri_worth_from (by omega), gr_worth hr hx]
  have := wsum_nonneg (c := c) (v := gr c n (c high - 1)) (n := low) (fun k hk => hr.ge1 (by omega))
    (fun k hk => gr_way (fun k hk => hr.ge1 hk) hx k (by omega))
  omega

theorem tri_high' {c : Nat → Int} {n high low : Nat} (hr : Row c n) (hlh : low < high) (hh : high < n) :
    wsum c (tri c n high low) n < c (n - 1) + c (n - 2) := by
  have h1 := tri_high hr hlh hh
  have h2 := hr.le (show high ≤ n - 1 by omega) (by omega)
  have h3 := hr.le (show low ≤ n - 2 by omega) (by omega)
  omega

theorem tri_way {c : Nat → Int} {n high low : Nat} (hr : Row c n) (hh : high < n) : Way (tri c n high low) n := by
  have hx : 0 ≤ c high - 1 := by have := hr.ge1 hh; omega
  intro k hk
  have : 0 ≤ gr c n (c high - 1) k := gr_way (c := c) (fun k hk => hr.ge1 hk) hx k hk
  simp only [tri]
  by_cases h1 : k < low
  · rw [if_pos h1]; omega
  · rw [if_neg h1]
    by_cases h2 : k = low
    · rw [if_pos h2]; omega
    · rw [if_neg h2]; exact this

/-- a least wrong amount, if there is any -/
theorem least_wrong {c : Nat → Int} {n : Nat} {a : Int} (h : Wrong c n a) :
    ∃ w, w ≤ a ∧ Wrong c n w ∧ ∀ b, b < w → ¬ Wrong c n b := by
  obtain ⟨k, e⟩ : ∃ k : Nat, a = k := ⟨a.toNat, by have := h.1; omega⟩
  subst e
  obtain ⟨j, hj, hp, hn⟩ := first_piece (fun k => Wrong c n (k : Int)) k h
  refine ⟨j, by omega, hp, fun b hb hw => ?_⟩
  have h0 := hw.1
  exact hn b.toNat (by omega) (by rw [show ((b.toNat : Nat) : Int) = b by omega]; exact hw)

end Coin

namespace My
open PySem PySem.Spec PyProof.Rows L2 Evl

/-- as Fun.ok, for a def that may raise where nothing is handled -/
theorem okN {P : Program} {w : World} {K : PySem.W.Frag} {mg : Str → Option Value} {base : Heap} {x qual : Str} {st : Stmt} {f : Addr} {fd : FuncData} {N ps : List Str} {k : Nat} {sp : Sp}
    (F : Fun K x qual st f fd) (S : FnScope N ps (defScope st)) (len : ∀ vs H Q E, sp vs H Q E → vs.length = ps.length)
    (body : ∀ (cdv : Value) (A : Around) (outer : List Env) (s : Shared) (H : Hp) (vs : List V) (Q : VK) (E : XK),
      Room k (A.deeper (envOfC qual (defScope st) s.heap.objs.size f cdv)) → sp vs H Q E →
      ∃ t, PSs (cxOf (L2N.CX P w) P w K mg base N qual (defScope st) f cdv A outer s H E) (defBody st) t ∧
        t { nx := fun _ H' => Q .non H', rt := Q } (start N vs) H) : FnOk P w K mg base (L2N.CX P w) (k + 1) f fd ps sp := by
  obtain ⟨oc, od, kV, doc, pm, an, cdv, ct, osl, rfl, there, code⟩ := F.ex
  refine fn_of there code S len ?_
  intro A outer s H vs Q E room want
  exact body cdv A outer s H vs Q E room want

/-! ### lists as functions of their places -/
def gd (xs : List Int) : Nat → Int := fun k => xs.getD k 0
theorem int_at {xs : List Int} {i : Nat} {x : V} (h : (xs.map V.int)[i]? = some x) : ∃ (_ : i < xs.length), x = V.int (gd xs i) := by
  rw [List.getElem?_map] at h
  cases e : xs[i]? with
  | none => rw [e] at h; cases h
  | some z =>
    rw [e] at h
    obtain ⟨hi, ez⟩ := List.getElem?_eq_some_iff.mp e
    refine ⟨hi, ?_⟩
    have : V.int z = x := Option.some.inj h
    rw [← this]
    show V.int z = V.int (xs.getD i 0)
    rw [List.getD_eq_getElem?_getD, e]
    rfl
theorem gd_get {xs : List Int} {i : Nat} (h : i < xs.length) : xs[i]? = some (gd xs i) := by
  show xs[i]? = some (xs.getD i 0)
  rw [List.getD_eq_getElem?_getD, List.getElem?_eq_getElem h]
  rfl
theorem gd_mem {xs : List Int} {i : Nat} (h : i < xs.length) : gd xs i ∈ xs := List.mem_of_getElem? (gd_get h)
theorem mem_gd {xs : List Int} {x : Int} (h : x ∈ xs) : ∃ k, k < xs.length ∧ x = gd xs k := by
  obtain ⟨k, hk, e⟩ := List.mem_iff_getElem.mp h
  refine ⟨k, hk, ?_⟩
  have := gd_get hk
  rw [List.getElem?_eq_getElem hk] at this
  rw [← e]
  exact Option.some.inj this
theorem gd_at {xs : List Int} {j : Nat} (h : j < xs.length) : atI (xs.map V.int) (j : Int) = some (.int (gd xs j)) := atI_map h
theorem psum_cons {x : Int} {xs : List Int} : ∀ n, Coin.psum (gd (x :: xs)) (n + 1) = x + Coin.psum (gd xs) n
  | 0 => by show 0 + x = x + 0; omega
  | n + 1 => by
    have h := psum_cons (x := x) (xs := xs) n
    show Coin.psum (gd (x :: xs)) (n + 1) + gd xs n = x + (Coin.psum (gd xs) n + gd xs n)
    rw [h]; omega
theorem sum_gd : ∀ xs : List Int, xs.sum = Coin.psum (gd xs) xs.length
  | [] => rfl
  | x :: xs => by rw [List.sum_cons, sum_gd xs, List.length_cons, psum_cons]

/-! ### worth and pieces -/
def GoodWay (cs ws : List Int) : Prop := ws.length = cs.length ∧ ∀ x ∈ ws, 0 ≤ x
def spWorth (K : PySem.W.Frag) (A : Addr) : Sp := fun vs H Q E => ∃ (a b : Addr) (cs ws : List Int), vs = [.ref a, .ref b] ∧
  SqL K H a (cs.map V.int) ∧ SqL K H b (ws.map V.int) ∧ (∀ c ∈ cs, 0 ≤ c ∧ c ≤ 10 ^ 60) ∧ (∀ x ∈ ws, x ≤ 10 ^ 40) ∧
  (GoodWay cs ws → RetV (.int (Coin.wsum (gd cs) (gd ws) cs.length)) H Q) ∧ (¬ GoodWay cs ws → ∀ H', Ex H H' → E (.ref A) none H')
def spPieces (K : PySem.W.Frag) : Sp := fun vs H Q _ => ∃ (a : Addr) (ws : List Int), vs = [.ref a] ∧ SqL K H a (ws.map V.int) ∧
  RetV (.int (Coin.psum (gd ws) ws.length)) H Q
def spWhole : Sp := fun vs H Q _ => ∃ i : Int, vs = [.int i] ∧ RetV (.bl true) H Q

/-! ### the law's rows -/
def spRow (K : PySem.W.Frag) : Sp := fun vs H Q _ => ∃ (l : Addr) (ns : List Int), vs = [.ref l] ∧ SqL K H l (ns.map V.int) ∧
  ∀ cs, RowL cs → RetL (cs.map V.int) H Q

/-! ### slices of lists of ints -/
theorem cut_to {ws : List Int} {k : Nat} : cutV (ws.map V.int) none (some (k : Int)) = (ws.take k).map V.int := by
  unfold cutV
  rw [HT.sIx_none, HT.sIx_nat, List.length_map, List.drop_zero, Nat.sub_zero, ← List.map_take]
  congr 1
  by_cases h : k ≤ ws.length
  · rw [Nat.min_eq_left h]
  · rw [Nat.min_eq_right (by omega), List.take_of_length_le (show ws.length ≤ ws.length from Nat.le_refl _), List.take_of_length_le (show ws.length ≤ k by omega)]
theorem cut_from {ws : List Int} {k : Nat} : cutV (ws.map V.int) (some (k : Int)) none = (ws.drop k).map V.int := by
  unfold cutV
  rw [HT.sIx_none, HT.sIx_nat, List.length_map, ← List.map_drop, ← List.map_take]
  congr 1
  by_cases h : k ≤ ws.length
  · rw [Nat.min_eq_left h, List.take_of_length_le (by rw [List.length_drop]; omega)]
  · rw [Nat.min_eq_right (by omega), List.drop_of_length_le (Nat.le_refl _), List.drop_of_length_le (by omega)]
    simp
theorem cut_but1 {ws : List Int} : cutV (ws.map V.int) none (some (-1)) = ws.dropLast.map V.int := by
  unfold cutV
  rw [HT.sIx_none, List.length_map, List.drop_zero, Nat.sub_zero]
  have e : HT.sIx ws.length ws.length (some (-1)) = ws.length - 1 := by
    show (if (-1 : Int) < 0 then ((-1 : Int) + (ws.length : Int)).toNat else min (-1 : Int).toNat ws.length) = _
    rw [if_pos (by decide)]; omega
  rw [e, List.dropLast_eq_take, List.map_take]
theorem el_is {te : TE} {σ : L2.St} {H : Hp} {xs ys : List V} (h : EvL te σ H xs) (e : xs = ys) : EvL te σ H ys := e ▸ h
theorem et_yes {σ : L2.St} {H : Hp} : EvT tYes σ H true := fun H1 _ _ q => q H1 (Ex.refl H1)
theorem zc_know {cls : Value} {d : Option Addr} {A : Addr} {oe : Obj} (hz : L2N.Zn cls d oe) (hC : cls = .ref A ∧ d = none) : Zc (.ref A) none oe := by
  obtain ⟨rfl, rfl⟩ := hC
  exact hz.zc
/-- a def as the top's end shows it -/
structure Df (K : PySem.W.Frag) (mg : Str → Option Value) (x : Str) (st : Stmt) (f : Addr) (fd : FuncData) (ps : List Str) : Prop where
  F : Fun K x x st f fd
  g : mg x = some (.ref f)
  b : Binds K fd ps []
theorem Df.cl {P : Program} {w : World} {K : PySem.W.Frag} {mg : Str → Option Value} {base : Heap} {k : Nat} {x : Str} {st : Stmt} {f : Addr} {fd : FuncData} {ps : List Str} {sp : Sp}
    (D : Df K mg x st f fd ps) (G : FnOk P w K mg base CX0 k f fd ps sp) : Cl P w K mg base k x sp := ⟨f, fd, ps, G, D.g, D.F.kp, D.b⟩
theorem Df.cn {P : Program} {w : World} {K : PySem.W.Frag} {mg : Str → Option Value} {base : Heap} {k : Nat} {x : Str} {st : Stmt} {f : Addr} {fd : FuncData} {ps : List Str} {sp : Sp}
    (D : Df K mg x st f fd ps) (G : FnOk P w K mg base (L2N.CX P w) k f fd ps sp) : Cn P w K mg base k x sp := ⟨f, fd, ps, G, D.g, D.F.kp, D.b⟩

/-! ### ways, and lists that are none -/
def spWay (K : PySem.W.Frag) : Sp := fun vs H Q _ => ∃ (l : Addr) (ns : List Int) (n : Nat), vs = [.ref l, .int (n : Int)] ∧ SqL K H l (ns.map V.int) ∧ n ≤ 100 ∧
  ∀ ws : List Int, ws.length = n → (∀ x ∈ ws, 0 ≤ x ∧ x < 10 ^ 40) → RetL (ws.map V.int) H Q
def spNoWay : Sp := fun vs H Q _ => ∃ (a : Addr) (ws : List Int) (c : Int), vs = [.ref a, .int c] ∧ H a = some (.lst (ws.map V.int)) ∧ 0 < ws.length ∧ ws.length ≤ 100 ∧
  (∀ x ∈ ws, x ≤ 10 ^ 40) ∧
  ∀ us : List Int, us.length ≤ 101 → (us.length ≠ ws.length ∨ ∃ x ∈ us, x < 0) → (∀ x ∈ us, x ≤ 10 ^ 40) → RetL (us.map V.int) H Q

theorem call_isK {X : Cx} {K : PySem.W.Frag} {a D : Addr} {oe : Obj} (hK : X.K = K) (C : ExcC K D) (hz : Zc (.ref D) none oe) (hf : ∃ vs, oe.data = .fields vs)
    (hp : (a, oe) ∈ X.pn) : CallR X (.builtin "isinstance") (rIsE K D a) := by
  subst hK
  exact call_isP C hz hf hp
/-- try: f(..) except ..: Wf D is what is wished of what f raises -/
theorem q_try {sp : Sp} {ta : TA} {vs : List V} {σ : L2.St} {H : Hp} {D : Ends} {tz : TS} {Wf : Ends → WX} (h : EvA ta σ H vs)
    (k : ∀ H1, Ex H H1 → sp vs H1 (fun _ H2 => tz D σ H2) fun cls d H2 => Wf { D with nx := tz D } cls d σ H2) :
    tSeq (fun D σ H => tDrop (tCallS sp (WE (Wf D)) ta) D σ H) tz D σ H := h H (Ex.refl H) _ fun H1 e1 => k H1 e1
theorem spv_kinds {H : Hp} {a : Addr} : SpV (spKinds a) ([.ref a] ++ []) H (.int 1) := fun H1 _ Q q E => ⟨rfl, q⟩
/-- what is no way, with its row -/
def spRefused (K : PySem.W.Frag) : Sp := fun vs H Q _ => ∃ (a b : Addr) (cs ws : List Int), vs = [.ref a, .ref b] ∧ SqL K H a (cs.map V.int) ∧ SqL K H b (ws.map V.int) ∧
  (∀ c ∈ cs, 0 ≤ c ∧ c ≤ 10 ^ 60) ∧ (∀ x ∈ ws, x ≤ 10 ^ 40) ∧ ¬ GoodWay cs ws ∧ RetV (.bl true) H Q
theorem spv_refused {K : PySem.W.Frag} {H : Hp} {a b : Addr} {cs ws : List Int} (ha : SqL K H a (cs.map V.int)) (hb : SqL K H b (ws.map V.int)) (hc : ∀ c ∈ cs, 0 ≤ c ∧ c ≤ 10 ^ 60) (hw : ∀ x ∈ ws, x ≤ 10 ^ 40)
    (bad : ¬ GoodWay cs ws) : SpV (spRefused K) ([.ref a, .ref b] ++ []) H (.bl true) := fun H1 e Q q E => ⟨a, b, cs, ws, rfl, ex_l e ha, ex_l e hb, hc, hw, bad, q⟩
theorem spv_whole {H : Hp} {i : Int} : SpV spWhole ([.int i] ++ []) H (.bl true) := fun H1 e Q q E => ⟨i, rfl, q⟩
theorem el_listI {K : PySem.W.Frag} {σ : L2.St} {H : Hp} {ta : TE} {p : Addr} {xs : List V} (ha : Ev ta σ H (.ref p)) (h : SqL K H p xs) :
    EvL (tCB (rListS K) (tCons ta tNil)) σ H xs := el_list ha h

/-- x = f(..), f by its promise -/
theorem q_asgC {sp : Sp} {ta : TA} {vs : List V} {σ : L2.St} {H : Hp} {D : Ends} {tz : TS} {i : Nat} (h : EvA ta σ H vs)
    (k : ∀ H1, Ex H H1 → sp (vs ++ []) H1 (fun v H2 => tz D (σ.set i (some v)) H2) E0) :
    tSeq (tAsg (tCall sp [] E0 ta) (gName i)) tz D σ H := h H (Ex.refl H) _ fun H1 e1 => k H1 e1
theorem s_asgC {sp : Sp} {ta : TA} {vs : List V} {σ : L2.St} {H : Hp} {D : Ends} {i : Nat} (h : EvA ta σ H vs)
    (k : ∀ H1, Ex H H1 → sp (vs ++ []) H1 (fun v H2 => D.nx (σ.set i (some v)) H2) E0) :
    tAsg (tCall sp [] E0 ta) (gName i) D σ H := h H (Ex.refl H) _ fun H1 e1 => k H1 e1
/-- the law's promise -/
def spLaw (K : PySem.W.Frag) : Sp := fun vs H Q _ => ∃ (a : Addr) (ns : List Int), vs = [.ref a] ∧ SqL K H a (ns.map V.int) ∧ ns.length ≤ 63 ∧ ∀ H', Q (.bl true) H'
theorem RowL.bound {cs : List Int} (R : RowL cs) : ∀ c ∈ cs, 0 ≤ c ∧ c ≤ 10 ^ 60 := fun c hc => by
  obtain ⟨k, hk, rfl⟩ := mem_gd hc
  exact ⟨Int.le_trans (by decide) (R.ge1 hk), R.most k hk⟩
theorem spv_worth {K : PySem.W.Frag} {H : Hp} {A a b : Addr} {cs ws : List Int} (ha : SqL K H a (cs.map V.int)) (hb : SqL K H b (ws.map V.int)) (hc : ∀ c ∈ cs, 0 ≤ c ∧ c ≤ 10 ^ 60) (hw : ∀ x ∈ ws, x ≤ 10 ^ 40)
    (good : GoodWay cs ws) : SpV (spWorth K A) ([.ref a, .ref b] ++ []) H (.int (Coin.wsum (gd cs) (gd ws) cs.length)) := fun H1 e Q q E =>
  ⟨a, b, cs, ws, rfl, ex_l e ha, ex_l e hb, hc, hw, fun _ => q, fun n => absurd good n⟩
theorem spv_pieces {K : PySem.W.Frag} {H : Hp} {b : Addr} {ws : List Int} (hb : SqL K H b (ws.map V.int)) :
    SpV (spPieces K) ([.ref b] ++ []) H (.int (Coin.psum (gd ws) ws.length)) := fun H1 e Q q E => ⟨b, ws, rfl, ex_l e hb, q⟩
theorem ev_eqLists {K : PySem.W.Frag} {σ : L2.St} {H : Hp} {ta tb : TE} {a b : Addr} {xs : List Int} (h1 : Ev ta σ H (.ref a)) (h2 : Ev tb σ H (.ref b)) (ha : SqL K H a (xs.map V.int)) (hb : SqL K H b (xs.map V.int)) :
    Ev (tOp (rEqD K) ta tb) σ H (.bl true) := ev_is (ev_op h1 h2 (rv_eqD ha hb)) (by rw [decide_eq_true rfl])

end My

namespace Coin
/-- what is left of an amount behind the i greatest coins -/
def rest (c : Nat → Int) (n : Nat) (a : Int) : Nat → Int
  | 0 => a
  | i + 1 => rest c n a i % c (n - 1 - i)
theorem gr_rest {c : Nat → Int} {n : Nat} {a : Int} : ∀ {i k : Nat}, i ≤ n → k < n - i → gr c n a k = gr c (n - i) (rest c n a i) k
  | 0, _, _, _ => rfl
  | i + 1, k, hi, hk => by
    rw [gr_rest (i := i) (by omega) (by omega), show n - i = (n - (i + 1)) + 1 by omega, gr_low hk]
    show _ = gr c (n - (i + 1)) (rest c n a i % c (n - 1 - i)) k
    rw [show n - 1 - i = n - (i + 1) by omega]
theorem gr_at {c : Nat → Int} {n : Nat} {a : Int} {i : Nat} (hi : i < n) : gr c n a (n - 1 - i) = rest c n a i / c (n - 1 - i) := by
  rw [gr_rest (i := i) (by omega) (by omega), show n - i = (n - 1 - i) + 1 by omega, gr_top]
theorem rest_nonneg {c : Nat → Int} {n : Nat} {a : Int} (hc : ∀ k, k < n → 1 ≤ c k) (ha : 0 ≤ a) : ∀ {i : Nat}, i ≤ n → 0 ≤ rest c n a i
  | 0, _ => ha
  | i + 1, hi => Int.emod_nonneg _ (by have := hc (n - 1 - i) (by omega); omega)
theorem rest_le {c : Nat → Int} {n : Nat} {a : Int} (hc : ∀ k, k < n → 1 ≤ c k) (ha : 0 ≤ a) : ∀ {i : Nat}, i ≤ n → rest c n a i ≤ a
  | 0, _ => Int.le_refl a
  | i + 1, hi => by
    have h1 := rest_le hc ha (i := i) (by omega)
    have h2 := rest_nonneg hc ha (i := i) (by omega)
    have h3 := hc (n - 1 - i) (by omega)
    have h4 := Int.emod_add_mul_ediv (rest c n a i) (c (n - 1 - i))
    have h5 := Int.mul_nonneg (show 0 ≤ c (n - 1 - i) by omega) (Int.ediv_nonneg h2 (show 0 ≤ c (n - 1 - i) by omega))
    show rest c n a i % c (n - 1 - i) ≤ a
    omega
theorem gr_le {c : Nat → Int} {n : Nat} {a : Int} (hc : ∀ k, k < n → 1 ≤ c k) (ha : 0 ≤ a) {k : Nat} (hk : k < n) : gr c n a k ≤ a := by
  obtain ⟨i, rfl, hi⟩ : ∃ i, k = n - 1 - i ∧ i < n := ⟨n - 1 - k, by omega, by omega⟩
  rw [gr_at hi]
  have h1 := rest_nonneg hc ha (i := i) (by omega)
  have h2 := rest_le hc ha (i := i) (by omega)
  have h3 := hc (n - 1 - i) (by omega)
  have := Int.ediv_le_self (c (n - 1 - i)) h1
  omega
end Coin

namespace My
open PySem PySem.Spec PyProof.Rows L2 Evl

theorem RowL.row {cs : List Int} (R : RowL cs) : Coin.Row (gd cs) cs.length := ⟨R.pos, R.one, R.up⟩
/-- a function's first n values -/
def tab (n : Nat) (f : Nat → Int) : List Int := (List.range n).map f
theorem tab_len {n : Nat} {f : Nat → Int} : (tab n f).length = n := by unfold tab; rw [List.length_map, List.length_range]
theorem gd_tab {n : Nat} {f : Nat → Int} {k : Nat} (h : k < n) : gd (tab n f) k = f k := by
  show (tab n f).getD k 0 = f k
  unfold tab
  rw [List.getD_eq_getElem?_getD, List.getElem?_map, List.getElem?_range h]
  rfl
theorem mem_tab {n : Nat} {f : Nat → Int} {x : Int} (h : x ∈ tab n f) : ∃ k, k < n ∧ x = f k := by
  obtain ⟨k, hk, e⟩ := mem_gd h
  rw [tab_len] at hk
  exact ⟨k, hk, by rw [e, gd_tab hk]⟩
theorem tab_ext {n : Nat} {f g : Nat → Int} (h : ∀ k, k < n → f k = g k) : tab n f = tab n g :=
  List.map_congr_left fun k hk => h k (List.mem_range.mp hk)
theorem eq_tab {xs : List Int} : xs = tab xs.length (gd xs) := by
  refine List.ext_getElem? fun i => ?_
  unfold tab
  rw [List.getElem?_map]
  by_cases h : i < xs.length
  · rw [gd_get h, List.getElem?_range h]; rfl
  · rw [List.getElem?_eq_none (by omega), List.getElem?_eq_none (by rw [List.length_range]; omega)]; rfl
theorem tab_set {n : Nat} {f : Nat → Int} {j : Nat} {v : Int} : (tab n f).set j v = tab n (fun k => if k = j then v else f k) := by
  refine List.ext_getElem? fun i => ?_
  rw [List.getElem?_set]
  unfold tab
  rw [List.getElem?_map, List.getElem?_map, List.length_map, List.length_range]
  by_cases h : i < n
  · rw [List.getElem?_range h]
    by_cases e : j = i
    · subst e; rw [if_pos rfl, if_pos h]; simp
    · rw [if_neg e]; show some (f i) = some (if i = j then v else f i); rw [if_neg (fun z => e z.symm)]
  · rw [List.getElem?_eq_none (by rw [List.length_range]; omega)]
    by_cases e : j = i
    · subst e; rw [if_pos rfl, if_neg h]; rfl
    · rw [if_neg e]; rfl
theorem map_set {xs : List Int} {j : Nat} {v : Int} : (xs.map V.int).set j (.int v) = (xs.set j v).map V.int := (List.map_set ..).symm

theorem flat_rep {α : Type} {x : α} : ∀ {n : Nat}, (List.replicate n [x]).flatten = List.replicate n x
  | 0 => rfl
  | n + 1 => by rw [List.replicate_succ, List.flatten_cons, flat_rep, List.replicate_succ]; rfl
section
variable {K : PySem.W.Frag} {σ : L2.St} {H : Hp} {ta tb te : TE} {D : Ends} {tu tz : TS}
/-- [x] * n -/
theorem el_rep {x : V} {n : Nat} (ha : EvL ta σ H [x]) (hb : Ev tb σ H (.int (n : Int))) (hn : n ≤ 100000) :
    EvL (tOp rRep ta tb) σ H (List.replicate n x) := fun H1 e Q q =>
  ha H1 e _ fun p H2 hp e2 h2 => hb H2 (e.trans e2) _ fun H3 e3 =>
    ⟨p, (n : Int), [x], rfl, rfl, e3 p _ h2, by omega, by omega, by rw [Int.toNat_natCast]; exact sz_of (by simp; omega), fun l hl =>
      q l _ (fresh_back (e2.trans e3) hl) ((e2.trans e3).trans (Ex.new hl)) (by
        rw [upd_same, Int.toNat_natCast]
        congr 1
        rw [flat_rep])⟩
/-- for k in range(n - 1, -1, -1) -/
theorem q_forDown {tA : TA} {j : Nat} {n : Nat} (h : EvA tA σ H [.int ((n : Int) - 1), .int (-1), .int (-1)]) (hn : n ≤ 100000) (Pv : Nat → L2.St → Hp → Prop) (h0 : ∀ H1, Ex H H1 → Pv 0 σ H1)
    (hs : ∀ (i : Nat) σ' H', i < n → Pv i σ' H' → tu { D with nx := Pv (i + 1), ct := Pv (i + 1), bk := tz D } (σ'.set j (some (.int ((n - 1 - i : Nat) : Int)))) H')
    (hd : ∀ σ' H', Pv n σ' H' → tz D σ' H') : tSeq (tFor (iRng3 tA) (gName j) tu) tz D σ H :=
  h H (Ex.refl H) _ fun H1 e => ⟨(n : Int) - 1, -1, -1, n, rfl, by
      have r := RgC.neg (i := (n : Int) - 1) (j := -1) (by omega) (by omega) (by decide) (by decide)
      have e : ((n : Int) - 1 - -1).toNat = n := by omega
      rw [e] at r; exact r,
    for_rangeC (D := { D with nx := tz D }) Pv (h0 H1 e) (fun i σ' H' hi p => by
      have e0 : (n : Int) - 1 + (i : Int) * -1 = ((n - 1 - i : Nat) : Int) := by omega
      show tu { D with nx := Pv (i + 1), ct := Pv (i + 1), bk := tz D } (σ'.set j (some (.int ((n : Int) - 1 + (i : Int) * -1)))) H'
      rw [e0]
      exact hs i σ' H' hi p) hd⟩
end

/-! ### the first way -/
theorem p80 : (10 : Int) ^ 80 < 2 ^ 500 := by decide +kernel
/-- what greatest first makes, as a list -/
def grL (cs : List Int) (a : Int) : List Int := tab cs.length (Coin.gr (gd cs) cs.length a)
def spFirst (K : PySem.W.Frag) (A : Addr) : Sp := fun vs H Q E => ∃ (a : Addr) (cs : List Int) (x : Int), vs = [.ref a, .int x] ∧ SqL K H a (cs.map V.int) ∧ RowL cs ∧
  (0 ≤ x ∧ x ≤ 10 ^ 80 → RetL ((grL cs x).map V.int) H Q) ∧ (¬ (0 ≤ x ∧ x ≤ 10 ^ 80) → ∀ H', Ex H H' → E (.ref A) none H')
def spAmount (K : PySem.W.Frag) : Sp := fun vs H Q _ => ∃ (a : Addr) (cs : List Int) (w c : Int), vs = [.ref a, .int w, .int c] ∧ SqL K H a (cs.map V.int) ∧ RowL cs ∧
  ∀ x, 0 ≤ x → x ≤ 10 ^ 80 → RetV (.int x) H Q
def spNoAmount : Sp := fun vs H Q _ => ∃ (c : Int), vs = [.int c] ∧ ∀ x, ¬ (0 ≤ x ∧ x ≤ 10 ^ 80) → RetV (.int x) H Q
def spRefusedA (K : PySem.W.Frag) : Sp := fun vs H Q _ => ∃ (a : Addr) (cs : List Int) (x : Int), vs = [.ref a, .int x] ∧ SqL K H a (cs.map V.int) ∧ RowL cs ∧ ¬ (0 ≤ x ∧ x ≤ 10 ^ 80) ∧ RetV (.bl true) H Q
theorem spv_refusedA {K : PySem.W.Frag} {H : Hp} {a : Addr} {cs : List Int} {x : Int} (ha : SqL K H a (cs.map V.int)) (R : RowL cs) (bad : ¬ (0 ≤ x ∧ x ≤ 10 ^ 80)) :
    SpV (spRefusedA K) ([.ref a, .int x] ++ []) H (.bl true) := fun H1 e Q q E => ⟨a, cs, x, rfl, ex_l e ha, R, bad, q⟩
/-- what the law asks of a first way -/
def spFirstOk (K : PySem.W.Frag) : Sp := fun vs H Q _ => ∃ (a b : Addr) (cs : List Int) (x : Int), vs = [.ref a, .ref b, .int x] ∧ SqL K H a (cs.map V.int) ∧ H b = some (.lst ((grL cs x).map V.int)) ∧ RowL cs ∧ 0 ≤ x ∧ x ≤ 10 ^ 80 ∧
  RetV (.bl true) H Q
theorem ev_call3 {σ : L2.St} {H : Hp} {ta tb tc : TE} {sp : Sp} {x z v : V} {xs : List V} (h1 : Ev ta σ H x) (h2 : EvL tb σ H xs) (h3 : Ev tc σ H z)
    (hs : ∀ p H1, H1 p = some (.lst xs) → Ex H H1 → SpV sp ([x, .ref p, z] ++ []) H1 v) : Ev (tCall sp [] E0 (tCons ta (tCons tb (tCons tc tNil)))) σ H v := fun H1 e Q q =>
  h1 H1 e _ fun H2 e2 => h2 H2 (e.trans e2) _ fun p H3 hp e3 hh => h3 H3 ((e.trans e2).trans e3) _ fun H4 e4 =>
    hs p H4 (e4 _ _ hh) (((e.trans e2).trans e3).trans e4) H4 (Ex.refl H4) Q (fun H5 e5 => q H5 (((e2.trans e3).trans e4).trans e5)) E0
theorem spl_first {K : PySem.W.Frag} {H : Hp} {A a : Addr} {cs : List Int} {x : Int} (ha : SqL K H a (cs.map V.int)) (R : RowL cs) (h0 : 0 ≤ x) (h1 : x ≤ 10 ^ 80) :
    SpL (spFirst K A) ([.ref a, .int x] ++ []) H ((grL cs x).map V.int) := fun H1 e Q q E => ⟨a, cs, x, rfl, ex_l e ha, R, fun _ => q, fun n => absurd ⟨h0, h1⟩ n⟩
theorem div_ok {x y : Int} (h : 0 < y) (h2 : y < 2 ^ 500) : CDivW x y := wide_div h (natAbs_lt (by omega) h2) (by decide) (by decide)

end My

namespace My
open PySem PySem.Spec PyProof.Rows L2 Evl

/-! ### lists that are rows, or none -/
def RowP (L : List Int) : Prop := 1 ≤ L.length ∧ L.length ≤ 12 ∧ gd L 0 = 1 ∧ gd L (L.length - 1) ≤ 10 ^ 60 ∧ ∀ k, k + 1 < L.length → gd L k < gd L (k + 1)
theorem RowL.p {L : List Int} (R : RowL L) : RowP L := ⟨R.pos, R.len, R.one, R.most _ (by have := R.pos; omega), R.up⟩
theorem RowP.row {L : List Int} (h : RowP L) : RowL L := by
  obtain ⟨h1, h2, h3, h4, h5⟩ := h
  refine ⟨h1, h2, h3, h5, fun k hk => ?_⟩
  have up : ∀ m, k + m < L.length → L.getD k 0 ≤ L.getD (k + m) 0 := by
    intro m
    induction m with
    | zero => intro _; exact Int.le_refl _
    | succ m ih =>
      intro hm
      have a := ih (by omega)
      have b : L.getD (k + m) 0 < L.getD (k + m + 1) 0 := h5 (k + m) (by omega)
      show L.getD k 0 ≤ L.getD (k + m + 1) 0
      omega
  have a := up (L.length - 1 - k) (by omega)
  rw [show k + (L.length - 1 - k) = L.length - 1 by omega] at a
  have b : L.getD (L.length - 1) 0 ≤ 10 ^ 60 := h4
  omega
def spGoodRow (K : PySem.W.Frag) (A : Addr) : Sp := fun vs H Q E => ∃ (a : Addr) (L : List Int), vs = [.ref a] ∧ SqL K H a (L.map V.int) ∧ L.length ≤ 1000 ∧
  (RowP L → RetL (L.map V.int) H Q) ∧ (¬ RowP L → ∀ H', Ex H H' → E (.ref A) none H')
def spGood (K : PySem.W.Frag) : Sp := fun vs H Q _ => ∃ (a : Addr) (L : List Int), vs = [.ref a] ∧ SqL K H a (L.map V.int) ∧ L.length ≤ 1000 ∧
  (RowP L → RetV (.bl true) H Q) ∧ (¬ RowP L → RetV (.bl false) H Q)
/-- a list, refused or not: k what comes where it is a row -/
def spRefusedR (K : PySem.W.Frag) : Sp := fun vs H Q _ => ∃ (a : Addr) (L : List Int), vs = [.ref a] ∧ SqL K H a (L.map V.int) ∧ L.length ≤ 1000 ∧
  (RowP L → RetV (.bl false) H Q) ∧ (¬ RowP L → RetV (.bl true) H Q)
def spOther (K : PySem.W.Frag) : Sp := fun vs H Q _ => ∃ (a : Addr) (cs : List Int) (w c : Int), vs = [.ref a, .int w, .int c] ∧ H a = some (.lst (cs.map V.int)) ∧ RowL cs ∧
  ∀ (us : List Int) (p : Addr) (H2 : Hp), us.length ≤ 100 → Ex H H2 → H2 p = some (.lst (us.map V.int)) → Q (.ref p) H2
def spLonger (K : PySem.W.Frag) : Sp := fun vs H Q _ => ∃ (a : Addr) (cs : List Int) (n : Nat), vs = [.ref a, .int (n : Int)] ∧ SqL K H a (cs.map V.int) ∧ RowL cs ∧ n ≤ 50 ∧
  ∀ (us : List Int) (p : Addr) (H2 : Hp), us.length ≤ 100 → H p = none → Ex H H2 → H2 p = some (.lst (us.map V.int)) → Q (.ref p) H2
/-- return f(..), f by its promise -/
theorem s_retC {sp : Sp} {ta : TA} {vs : List V} {σ : L2.St} {H : Hp} {D : Ends} (h : EvA ta σ H vs)
    (k : ∀ H1, Ex H H1 → sp (vs ++ []) H1 (fun v H2 => D.rt v H2) E0) : tRet (tCall sp [] E0 ta) D σ H := h H (Ex.refl H) _ fun H1 e1 => k H1 e1
theorem spv_good {K : PySem.W.Frag} {H : Hp} {a : Addr} {L : List Int} {b : Bool} (ha : SqL K H a (L.map V.int)) (hl : L.length ≤ 1000) (yes : RowP L → b = true) (no : ¬ RowP L → b = false) :
    SpV (spGood K) ([.ref a] ++ []) H (.bl b) := fun H1 e Q q E => ⟨a, L, rfl, ex_l e ha, hl, fun g => by rw [← yes g]; exact q, fun n => by rw [← no n]; exact q⟩
theorem spv_refusedR {K : PySem.W.Frag} {H : Hp} {a : Addr} {L : List Int} {b : Bool} (ha : SqL K H a (L.map V.int)) (hl : L.length ≤ 1000) (yes : RowP L → b = false) (no : ¬ RowP L → b = true) :
    SpV (spRefusedR K) ([.ref a] ++ []) H (.bl b) := fun H1 e Q q E => ⟨a, L, rfl, ex_l e ha, hl, fun g => by rw [← yes g]; exact q, fun n => by rw [← no n]; exact q⟩
theorem spl_goodrow {K : PySem.W.Frag} {H : Hp} {A a : Addr} {L : List Int} (ha : SqL K H a (L.map V.int)) (hl : L.length ≤ 1000) (g : RowP L) :
    SpL (spGoodRow K A) ([.ref a] ++ []) H (L.map V.int) := fun H1 e Q q E => ⟨a, L, rfl, ex_l e ha, hl, fun _ => q, fun n => absurd g n⟩
end My

namespace My
open PySem L2

/-! ### trials as lists -/
def triL (cs : List Int) (high low : Nat) : List Int := tab cs.length (Coin.tri (gd cs) cs.length high low)
def wor (cs ws : List Int) : Int := Coin.wsum (gd cs) (gd ws) cs.length
/-- a trial with its worth -/
def trial1 (cs : List Int) (high low : Nat) : Int × List Int := (wor cs (triL cs high low), triL cs high low)
def trialsUp (cs : List Int) : Nat → List (Int × List Int)
  | 0 => []
  | h + 1 => trialsUp cs h ++ (List.range h).map (trial1 cs h)
def trialsL (cs : List Int) : List (Int × List Int) := trialsUp cs cs.length

theorem triL_len {cs : List Int} {h l : Nat} : (triL cs h l).length = cs.length := tab_len
theorem gd_triL {cs : List Int} {h l k : Nat} (hk : k < cs.length) : gd (triL cs h l) k = Coin.tri (gd cs) cs.length h l k := gd_tab hk
theorem wor_triL {cs : List Int} {h l : Nat} : wor cs (triL cs h l) = Coin.wsum (gd cs) (Coin.tri (gd cs) cs.length h l) cs.length :=
  Coin.wsum_congr fun k hk => gd_triL hk
theorem sum_tab {n : Nat} {f : Nat → Int} : (tab n f).sum = Coin.psum f n := by
  rw [sum_gd, tab_len]
  exact Coin.psum_congr fun k hk => gd_tab hk
theorem mem_trialsUp {cs : List Int} {t : Int × List Int} : ∀ {m : Nat}, t ∈ trialsUp cs m ↔ ∃ h l, h < m ∧ l < h ∧ t = trial1 cs h l
  | 0 => ⟨fun h => (by cases h), fun ⟨h, l, hh, _⟩ => absurd hh (Nat.not_lt_zero _)⟩
  | m + 1 => by
    show t ∈ trialsUp cs m ++ (List.range m).map (trial1 cs m) ↔ _
    rw [List.mem_append, mem_trialsUp (m := m), List.mem_map]
    constructor
    · rintro (⟨h, l, h1, h2, e⟩ | ⟨l, hl, e⟩)
      · exact ⟨h, l, by omega, h2, e⟩
      · exact ⟨m, l, by omega, List.mem_range.mp hl, e.symm⟩
    · rintro ⟨h, l, h1, h2, e⟩
      by_cases c : h = m
      · subst c; exact Or.inr ⟨l, List.mem_range.mpr h2, e.symm⟩
      · exact Or.inl ⟨h, l, by omega, h2, e⟩
theorem mem_trialsL {cs : List Int} {t : Int × List Int} : t ∈ trialsL cs ↔ ∃ h l, h < cs.length ∧ l < h ∧ t = trial1 cs h l := mem_trialsUp

/-! ### the verdict -/
def cand (cs : List Int) (t : Int × List Int) : Bool := decide (t.2.sum < (grL cs t.1).sum)
def less2 (a b : Int × Int) : Bool := decide (a.1 < b.1) || (decide (a.1 = b.1) && decide (a.2 < b.2))
def mark (t : Int × List Int) : Int × Int := (t.1, t.2.sum)
def better (b : Option (Int × List Int)) (t : Int × List Int) : Bool := match b with
  | none => true
  | some b => less2 (mark t) (mark b)
def stepJ (cs : List Int) (b : Option (Int × List Int)) (t : Int × List Int) : Option (Int × List Int) := if (cand cs t && better b t) = true then some t else b
def judgedL (cs : List Int) : Option (Int × List Int) := (trialsL cs).foldl (stepJ cs) none

theorem less2_irrefl (a : Int × Int) : less2 a a = false := by
  unfold less2; simp
theorem less2_iff {a b : Int × Int} : less2 a b = true ↔ a.1 < b.1 ∨ (a.1 = b.1 ∧ a.2 < b.2) := by
  unfold less2; rw [Bool.or_eq_true, Bool.and_eq_true, decide_eq_true_iff, decide_eq_true_iff, decide_eq_true_iff]
/-- what the fold gives: none if there is no candidate, else one that none is less than -/
def Found (cs : List Int) (ts : List (Int × List Int)) : Option (Int × List Int) → Prop
  | none => ∀ t ∈ ts, cand cs t = false
  | some b => b ∈ ts ∧ cand cs b = true ∧ ∀ t ∈ ts, cand cs t = true → less2 (mark t) (mark b) = false
theorem found_step {cs : List Int} {ts : List (Int × List Int)} {r : Option (Int × List Int)} {t : Int × List Int} (h : Found cs ts r) : Found cs (ts ++ [t]) (stepJ cs r t) := by
  unfold stepJ
  by_cases c : cand cs t = true
  · by_cases b : better r t = true
    · rw [if_pos (by rw [c, b]; rfl)]
      refine ⟨List.mem_append_right _ (List.mem_singleton.mpr rfl), c, fun u hu cu => ?_⟩
      rcases List.mem_append.mp hu with hu | hu
      · cases r with
        | none => have := h u hu; rw [cu] at this; cases this
        | some x =>
          have h3 := h.2.2 u hu cu
          have hb : less2 (mark t) (mark x) = true := b
          refine Bool.eq_false_iff.mpr fun z => ?_
          rw [less2_iff] at z hb
          have : less2 (mark u) (mark x) = true := less2_iff.mpr (by omega)
          rw [h3] at this; cases this
      · rw [List.mem_singleton.mp hu]; exact less2_irrefl _
    · have b' : better r t = false := Bool.eq_false_iff.mpr b
      rw [if_neg (by rw [c, b']; decide)]
      cases r with
      | none => exact absurd rfl b
      | some x =>
        refine ⟨List.mem_append_left _ h.1, h.2.1, fun u hu cu => ?_⟩
        rcases List.mem_append.mp hu with hu | hu
        · exact h.2.2 u hu cu
        · rw [List.mem_singleton.mp hu]; exact b'
  · have c' : cand cs t = false := Bool.eq_false_iff.mpr c
    rw [if_neg (by rw [c']; exact Bool.false_ne_true)]
    cases r with
    | none =>
      intro u hu
      rcases List.mem_append.mp hu with hu | hu
      · exact h u hu
      · rw [List.mem_singleton.mp hu]; exact c'
    | some x =>
      refine ⟨List.mem_append_left _ h.1, h.2.1, fun u hu cu => ?_⟩
      rcases List.mem_append.mp hu with hu | hu
      · exact h.2.2 u hu cu
      · rw [List.mem_singleton.mp hu, c'] at cu; cases cu
theorem found_fold {cs : List Int} : ∀ (ts us : List (Int × List Int)) (r : Option (Int × List Int)), Found cs us r → Found cs (us ++ ts) (ts.foldl (stepJ cs) r)
  | [], us, r, h => by rw [List.append_nil]; exact h
  | t :: ts, us, r, h => by
    have := found_fold ts (us ++ [t]) (stepJ cs r t) (found_step h)
    rw [List.append_assoc, List.singleton_append] at this
    exact this
theorem judged_found {cs : List Int} : Found cs (trialsL cs) (judgedL cs) := found_fold (trialsL cs) [] none (fun t h => (by cases h))

/-! ### and what it means -/
theorem grL_sum {cs : List Int} {a : Int} : (grL cs a).sum = Coin.psum (Coin.gr (gd cs) cs.length a) cs.length := sum_tab
/-- a trial with fewer pieces shows its worth to be wrong -/
theorem wrong_of_cand {cs : List Int} (R : RowL cs) {h l : Nat} (hh : h < cs.length) (hl : l < h) (c : cand cs (trial1 cs h l) = true) : Coin.Wrong (gd cs) cs.length (trial1 cs h l).1 := by
  have hw := Coin.tri_way (low := l) R.row hh
  have hc : ∀ k, k < cs.length → 1 ≤ gd cs k := fun k hk => R.ge1 hk
  have e : (trial1 cs h l).1 = Coin.wsum (gd cs) (Coin.tri (gd cs) cs.length h l) cs.length := wor_triL
  have c' := of_decide_eq_true c
  refine ⟨by rw [e]; exact Coin.wsum_nonneg hc hw, _, hw, e.symm, ?_⟩
  rw [grL_sum] at c'
  have e2 : (trial1 cs h l).2.sum = Coin.psum (Coin.tri (gd cs) cs.length h l) cs.length := sum_tab
  rw [e2] at c'
  exact c'
theorem judged_none {cs : List Int} (R : RowL cs) (h : judgedL cs = none) (a : Int) : ¬ Coin.Wrong (gd cs) cs.length a := by
  intro hw
  obtain ⟨w, _, hw2, hl⟩ := Coin.least_wrong hw
  obtain ⟨hi, lo, h1, h2, h3, h4, h5⟩ := Coin.pearson R.row hw2 hl
  have f : Found cs (trialsL cs) none := by rw [← h]; exact judged_found
  have no := f (trial1 cs hi lo) (mem_trialsL.mpr ⟨hi, lo, h2, h1, rfl⟩)
  obtain ⟨_, v, hv, hs, hp⟩ := hw2
  have := h5 v hv hs
  have yes : cand cs (trial1 cs hi lo) = true := by
    refine decide_eq_true ?_
    have e1 : (trial1 cs hi lo).1 = w := wor_triL.trans h3
    have e2 : (trial1 cs hi lo).2.sum = Coin.psum (Coin.tri (gd cs) cs.length hi lo) cs.length := sum_tab
    rw [e1, e2, grL_sum]; omega
  rw [no] at yes; cases yes
/-- the verdict's amount is the least wrong one, its way has as few pieces as any -/
structure Verd (cs : List Int) (w : Int) (ws : List Int) : Prop where
  wrong : Coin.Wrong (gd cs) cs.length w
  least : ∀ a, a < w → ¬ Coin.Wrong (gd cs) cs.length a
  place : ∃ h l, h < cs.length ∧ l < h ∧ ws = triL cs h l
  worth : wor cs ws = w
  few : ∀ v, Coin.Way v cs.length → Coin.wsum (gd cs) v cs.length = w → ws.sum ≤ Coin.psum v cs.length
  fewer : ws.sum < (grL cs w).sum
theorem judged_some {cs : List Int} (R : RowL cs) {w : Int} {ws : List Int} (h : judgedL cs = some (w, ws)) : Verd cs w ws := by
  have f : Found cs (trialsL cs) (some (w, ws)) := by rw [← h]; exact judged_found
  obtain ⟨hm, hc, hmin⟩ := f
  obtain ⟨hi, lo, h1, h2, e⟩ := mem_trialsL.mp hm
  have ew : w = (trial1 cs hi lo).1 := congrArg Prod.fst e
  have es : ws = triL cs hi lo := congrArg Prod.snd e
  have hw : Coin.Wrong (gd cs) cs.length w := by rw [ew]; exact wrong_of_cand R h1 h2 (by rw [← e]; exact hc)
  obtain ⟨w0, hle, hw0, hl0⟩ := Coin.least_wrong hw
  obtain ⟨hi0, lo0, p1, p2, p3, p4, p5⟩ := Coin.pearson R.row hw0 hl0
  have e1 : (trial1 cs hi0 lo0).1 = w0 := wor_triL.trans p3
  have e2 : (trial1 cs hi0 lo0).2.sum = Coin.psum (Coin.tri (gd cs) cs.length hi0 lo0) cs.length := sum_tab
  have c0 : cand cs (trial1 cs hi0 lo0) = true := by
    obtain ⟨_, v, hv, hs, hp⟩ := hw0
    have := p5 v hv hs
    refine decide_eq_true ?_
    rw [e1, e2, grL_sum]; omega
  have m0 := hmin _ (mem_trialsL.mpr ⟨hi0, lo0, p2, p1, rfl⟩) c0
  have nl : ¬ (w0 < w ∨ (w0 = w ∧ Coin.psum (Coin.tri (gd cs) cs.length hi0 lo0) cs.length < ws.sum)) := fun z => by
    have : less2 (mark (trial1 cs hi0 lo0)) (mark (w, ws)) = true := less2_iff.mpr (by
      show (trial1 cs hi0 lo0).1 < w ∨ ((trial1 cs hi0 lo0).1 = w ∧ (trial1 cs hi0 lo0).2.sum < ws.sum)
      rw [e1, e2]; exact z)
    rw [m0] at this; cases this
  have ew0 : w0 = w := by omega
  subst ew0
  refine ⟨hw, hl0, ⟨hi, lo, h1, h2, es⟩, by rw [es]; exact ew.symm, fun v hv hs => ?_, of_decide_eq_true hc⟩
  have := p5 v hv hs
  omega
theorem Verd.low {cs : List Int} (R : RowL cs) {w : Int} {ws : List Int} (V : Verd cs w ws) : 2 < cs.length ∧ gd cs 2 + 1 < w := Coin.wrong_low R.row V.wrong
theorem Verd.high {cs : List Int} (R : RowL cs) {w : Int} {ws : List Int} (V : Verd cs w ws) : w < gd cs (cs.length - 1) + gd cs (cs.length - 2) := by
  obtain ⟨h, l, hh, hl, e⟩ := V.place
  have := Coin.tri_high' R.row hl hh
  rw [← wor_triL, ← e, V.worth] at this
  exact this
theorem Verd.len {cs : List Int} {w : Int} {ws : List Int} (V : Verd cs w ws) : ws.length = cs.length := by
  obtain ⟨h, l, hh, hl, e⟩ := V.place
  rw [e]; exact triL_len
theorem Verd.way {cs : List Int} (R : RowL cs) {w : Int} {ws : List Int} (V : Verd cs w ws) : ∀ k, k < cs.length → 0 ≤ gd ws k := by
  obtain ⟨h, l, hh, hl, e⟩ := V.place
  intro k hk
  rw [e, gd_triL hk]
  exact Coin.tri_way R.row hh k hk
/-- greatest first is as good as any way of an amount that is not wrong -/
theorem opt_of {cs : List Int} (R : RowL cs) {a : Int} (h : ¬ Coin.Wrong (gd cs) cs.length a) {v : Nat → Int} (hv : Coin.Way v cs.length) (hs : Coin.wsum (gd cs) v cs.length = a) :
    (grL cs a).sum ≤ Coin.psum v cs.length := by
  rw [grL_sum]
  by_cases c : Coin.psum v cs.length < Coin.psum (Coin.gr (gd cs) cs.length a) cs.length
  · refine absurd ⟨?_, v, hv, hs, c⟩ h
    rw [← hs]
    exact Coin.wsum_nonneg (fun k hk => R.ge1 hk) hv
  · omega

end My

namespace My
open PySem PySem.Spec PyProof.Rows L2 Evl

/-! ### words for the law's own reckoning -/
abbrev rRevL := rReverse
theorem q_rev {K : PySem.W.Frag} {σ : L2.St} {H : Hp} {ta : TE} {D : Ends} {tz : TS} {l : Addr} {xs : List V} (hl : H l = some (.lst xs)) (ha : Ev ta σ H (.ref l)) (k : ∀ H1, Ex H H1 → tz D σ (upd H1 l (.lst xs.reverse))) :
    tSeq (tDrop (tBM0 K "list" rRevL ta)) tz D σ H := ha H (Ex.refl H) _ fun H1 e1 => ⟨Or.inl ⟨rfl, xs, sq_of (e1 l _ hl)⟩, l, xs, rfl, rfl, e1 l _ hl, k H1 e1⟩
theorem tab_rev {n : Nat} {f : Nat → Int} : ((List.range n).map fun j => f (n - 1 - j)).reverse = tab n f := by
  refine List.ext_getElem? fun i => ?_
  by_cases h : i < n
  · rw [List.getElem?_reverse (by rw [List.length_map, List.length_range]; exact h), List.length_map, List.length_range, List.getElem?_map, List.getElem?_range (by omega)]
    unfold tab
    rw [List.getElem?_map, List.getElem?_range h]
    show some (f (n - 1 - (n - 1 - i))) = some (f i)
    rw [show n - 1 - (n - 1 - i) = i by omega]
  · rw [List.getElem?_eq_none (by rw [List.length_reverse, List.length_map, List.length_range]; omega), List.getElem?_eq_none (by rw [tab_len]; omega)]
def spGF (K : PySem.W.Frag) : Sp := fun vs H Q _ => ∃ (a : Addr) (cs : List Int) (x : Int), vs = [.ref a, .int x] ∧ SqL K H a (cs.map V.int) ∧ RowL cs ∧ 0 ≤ x ∧ RetL ((grL cs x).map V.int) H Q
theorem spl_gf {K : PySem.W.Frag} {H : Hp} {a : Addr} {cs : List Int} {x : Int} (ha : SqL K H a (cs.map V.int)) (R : RowL cs) (h0 : 0 ≤ x) :
    SpL (spGF K) ([.ref a, .int x] ++ []) H ((grL cs x).map V.int) := fun H1 e Q q E => ⟨a, cs, x, rfl, ex_l e ha, R, h0, q⟩
def spGFn (K : PySem.W.Frag) : Sp := fun vs H Q _ => ∃ (a : Addr) (cs : List Int) (x : Int), vs = [.ref a, .int x] ∧ SqL K H a (cs.map V.int) ∧ RowL cs ∧ 0 ≤ x ∧ RetV (.int (grL cs x).sum) H Q
theorem spv_gfn {K : PySem.W.Frag} {H : Hp} {a : Addr} {cs : List Int} {x : Int} (ha : SqL K H a (cs.map V.int)) (R : RowL cs) (h0 : 0 ≤ x) :
    SpV (spGFn K) ([.ref a, .int x] ++ []) H (.int (grL cs x).sum) := fun H1 e Q q E => ⟨a, cs, x, rfl, ex_l e ha, R, h0, q⟩
/-- the law's own worth -/
def spLW (K : PySem.W.Frag) : Sp := fun vs H Q _ => ∃ (a b : Addr) (cs ws : List Int), vs = [.ref a, .ref b] ∧ SqL K H a (cs.map V.int) ∧ SqL K H b (ws.map V.int) ∧ RowL cs ∧ ws.length = cs.length ∧
  (∀ x ∈ ws, 0 ≤ x ∧ x < 2 ^ 500) ∧ RetV (.int (wor cs ws)) H Q
theorem spv_lw {K : PySem.W.Frag} {H : Hp} {a b : Addr} {cs ws : List Int} (ha : SqL K H a (cs.map V.int)) (hb : SqL K H b (ws.map V.int)) (R : RowL cs) (hl : ws.length = cs.length) (hw : ∀ x ∈ ws, 0 ≤ x ∧ x < 2 ^ 500) :
    SpV (spLW K) ([.ref a, .ref b] ++ []) H (.int (wor cs ws)) := fun H1 e Q q E => ⟨a, b, cs, ws, rfl, ex_l e ha, ex_l e hb, R, hl, hw, q⟩
/-- the pieces of the i greatest coins -/
def topsum (c : Nat → Int) (n : Nat) (x : Int) : Nat → Int
  | 0 => 0
  | i + 1 => topsum c n x i + Coin.gr c n x (n - 1 - i)
theorem topsum_eq {c : Nat → Int} {n : Nat} {x : Int} : ∀ {i : Nat}, i ≤ n → topsum c n x i + Coin.psum (Coin.gr c n x) (n - i) = Coin.psum (Coin.gr c n x) n
  | 0, _ => by show 0 + Coin.psum (Coin.gr c n x) n = _; omega
  | i + 1, h => by
    have ih := topsum_eq (c := c) (n := n) (x := x) (i := i) (by omega)
    rw [show n - i = (n - (i + 1)) + 1 by omega] at ih
    show topsum c n x i + Coin.gr c n x (n - 1 - i) + Coin.psum (Coin.gr c n x) (n - (i + 1)) = _
    have e : Coin.psum (Coin.gr c n x) (n - (i + 1) + 1) = Coin.psum (Coin.gr c n x) (n - (i + 1)) + Coin.gr c n x (n - (i + 1)) := rfl
    rw [e] at ih
    rw [show n - 1 - i = n - (i + 1) by omega]
    omega
theorem topsum_all {c : Nat → Int} {n : Nat} {x : Int} : topsum c n x n = Coin.psum (Coin.gr c n x) n := by
  have := topsum_eq (c := c) (n := n) (x := x) (i := n) (Nat.le_refl n)
  rw [Nat.sub_self] at this
  have e : Coin.psum (Coin.gr c n x) 0 = 0 := rfl
  omega

end My

namespace My
open PySem PySem.Spec PyProof.Rows L2 Evl

section
variable {K : PySem.W.Frag} {σ : L2.St} {H : Hp} {ta tb tc : TE} {D : Ends} {tz : TS}
theorem rv_isN {x : V} : RV (fun x y H Q => y = .non ∧ Q (.bl (decide (x = .non))) H) x .non H (.bl (decide (x = .non))) := fun H1 _ _ q => ⟨rfl, q H1 (Ex.refl H1)⟩
theorem rv_notN {x : V} : RV (fun x y H Q => y = .non ∧ Q (.bl (!decide (x = .non))) H) x .non H (.bl (!decide (x = .non))) := fun H1 _ _ q => ⟨rfl, q H1 (Ex.refl H1)⟩
theorem rv_ltT {a b : Addr} {ns ms : List Int} (ha : SqT K H a (ns.map V.int)) (hb : SqT K H b (ms.map V.int)) : RV (rLtT K) (.ref a) (.ref b) H (.bl (HT.lexLt ns ms)) :=
  fun H1 e Q q => ⟨a, b, ns, ms, rfl, rfl, ex_t e ha, ex_t e hb, q H1 (Ex.refl H1)⟩
theorem ev_sumL {ns : List Int} (h : EvL ta σ H (ns.map V.int)) : Ev (tCB (rSum K) (tCons ta tNil)) σ H (.int ns.sum) := fun H1 e Q q =>
  h H1 e _ fun p H2 hp e2 h2 => ⟨p, ns, rfl, sq_of h2, q H2 e2⟩
theorem ev_lenT {p : Addr} {xs : List V} (ha : Ev ta σ H (.ref p)) (h : SqT K H p xs) : Ev (tCB (rLenS K) (tCons ta tNil)) σ H (.int (xs.length : Int)) := fun H1 e Q q =>
  ha H1 e _ fun H2 e2 => ⟨p, xs, rfl, Or.inr (ex_t (e.trans e2) h), q H2 e2⟩
theorem ev_isi_nt (h : Ev ta σ H .non) (hc : Ev tc σ H (.ty "tuple")) : Ev (tCB (rIsi K) (tCons ta (tCons tc tNil))) σ H (.bl false) := ev_isi h hc (fun _ _ => .base .non) kit_nt
/-- x = (a, b), the first a new tuple -/
theorem lex2 (a b c d : Int) : HT.lexLt [a, b] [c, d] = less2 (a, b) (c, d) := by
  unfold HT.lexLt less2
  by_cases h : a = c
  · rw [if_pos h]
    show HT.lexLt [b] [d] = (decide (a < c) || (decide (a = c) && decide (b < d)))
    rw [h, decide_eq_true rfl, decide_eq_false (Int.lt_irrefl c), Bool.false_or, Bool.true_and]
    show (if b = d then HT.lexLt [] [] else decide (b < d)) = decide (b < d)
    by_cases h2 : b = d
    · rw [if_pos h2, h2, decide_eq_false (Int.lt_irrefl d)]; rfl
    · rw [if_neg h2]
  · rw [if_neg h]
    show decide (a < c) = (decide (a < c) || (decide (a = c) && decide (b < d)))
    rw [decide_eq_false h, Bool.false_and, Bool.or_false]
end

theorem atI_last2 {ns : List Int} (h : 1 < ns.length) : atI (ns.map V.int) (-2) = some (.int (gd ns (ns.length - 2))) := by
  have e : ixN (ns.map V.int).length (-2) = some (ns.length - 2) := by
    unfold ixN
    rw [List.length_map]
    rw [if_neg (by omega), if_pos (by omega)]
    congr 1; omega
  unfold atI
  rw [e]
  show (ns.map V.int)[ns.length - 2]? = _
  rw [List.getElem?_map, gd_get (by omega)]; rfl

/-! ### trials as the law lays them -/
theorem tri_cat {n low : Nat} {f : Nat → Int} (h : low < n) : List.replicate low (0 : Int) ++ [f low + 1] ++ (tab n f).drop (low + 1) = tab n (fun k => if k < low then 0 else if k = low then f k + 1 else f k) := by
  refine List.ext_getElem? fun i => ?_
  unfold tab
  rw [← List.map_drop]
  by_cases h1 : i < low
  · rw [List.getElem?_append_left (by simp; omega), List.getElem?_append_left (by simp; exact h1), List.getElem?_replicate, if_pos h1, List.getElem?_map, List.getElem?_range (by omega)]
    show some 0 = some (if i < low then (0 : Int) else _)
    rw [if_pos h1]
  · by_cases h2 : i = low
    · subst h2
      rw [List.getElem?_append_left (by simp), List.getElem?_append_right (by simp), List.length_replicate, Nat.sub_self, List.getElem?_map, List.getElem?_range h]
      show some (f i + 1) = some (if i < i then (0 : Int) else if i = i then f i + 1 else f i)
      rw [if_neg (Nat.lt_irrefl i), if_pos rfl]
    · rw [List.getElem?_append_right (by simp; omega), List.getElem?_map, List.getElem?_map, List.getElem?_drop]
      have e : low + 1 + (i - (List.replicate low (0 : Int) ++ [f low + 1]).length) = i := by simp; omega
      rw [e]
      by_cases h3 : i < n
      · rw [List.getElem?_range h3]
        show some (f i) = some (if i < low then (0 : Int) else if i = low then f i + 1 else f i)
        rw [if_neg h1, if_neg h2]
      · rw [List.getElem?_eq_none (by rw [List.length_range]; omega)]; rfl
theorem triL_cat {cs : List Int} {h l : Nat} (hl : l < cs.length) : List.replicate l (0 : Int) ++ [gd (grL cs (gd cs h - 1)) l + 1] ++ (grL cs (gd cs h - 1)).drop (l + 1) = triL cs h l := by
  rw [show gd (grL cs (gd cs h - 1)) l = Coin.gr (gd cs) cs.length (gd cs h - 1) l from gd_tab hl]
  exact tri_cat hl
theorem tri_bound {cs : List Int} (R : RowL cs) {h l : Nat} (hh : h < cs.length) : ∀ x ∈ triL cs h l, 0 ≤ x ∧ x ≤ 10 ^ 60 := by
  intro x hx
  obtain ⟨k, hk, rfl⟩ := mem_tab hx
  have hc : ∀ k, k < cs.length → 1 ≤ gd cs k := fun k hk => R.ge1 hk
  have c1 := hc h hh
  have c2 : gd cs h ≤ 10 ^ 60 := R.most h hh
  have w := Coin.tri_way (low := l) R.row hh k hk
  have g := Coin.gr_le (n := cs.length) hc (show 0 ≤ gd cs h - 1 by omega) hk
  refine ⟨w, ?_⟩
  simp only [Coin.tri]
  by_cases h1 : k < l
  · rw [if_pos h1]; decide
  · rw [if_neg h1]
    by_cases h2 : k = l
    · rw [if_pos h2]; omega
    · rw [if_neg h2]; omega
theorem wor_nonneg {cs ws : List Int} (R : RowL cs) (h : ∀ x ∈ ws, 0 ≤ x) (hl : ws.length = cs.length) : 0 ≤ wor cs ws :=
  Coin.wsum_nonneg (fun k hk => R.ge1 hk) fun k hk => h _ (gd_mem (by omega))

/-! ### the verdict in the heap -/
/-- (worth, way) -/
def JAt (H0 H : Hp) (v : V) : Option (Int × List Int) → Prop
  | none => v = .non
  | some (w, ws) => ∃ p l, v = .ref p ∧ H0 p = none ∧ H0 l = none ∧ H p = some (.tup [.int w, .ref l]) ∧ H l = some (.lst (ws.map V.int))
def spJudged (K : PySem.W.Frag) : Sp := fun vs H Q _ => ∃ (a : Addr) (cs : List Int), vs = [.ref a] ∧ SqL K H a (cs.map V.int) ∧ RowL cs ∧ ∀ v H2, Ex H H2 → JAt H H2 v (judgedL cs) → Q v H2
/-- ((worth, pieces), way) -/
def BAt (H : Hp) (v : V) : Option (Int × List Int) → Prop
  | none => v = .non
  | some (w, ws) => ∃ p m l, v = .ref p ∧ H p = some (.tup [.ref m, .ref l]) ∧ H m = some (.tup [.int w, .int ws.sum]) ∧ H l = some (.lst (ws.map V.int))
theorem BAt.ex {H H' : Hp} {v : V} {r : Option (Int × List Int)} (e : Ex H H') (h : BAt H v r) : BAt H' v r := by
  cases r with
  | none => exact h
  | some r =>
    obtain ⟨w, ws⟩ := r
    obtain ⟨p, m, l, h0, h1, h2, h3⟩ := h
    exact ⟨p, m, l, h0, e _ _ h1, e _ _ h2, e _ _ h3⟩
def spBest (K : PySem.W.Frag) : Sp := fun vs H Q _ => ∃ (a : Addr) (cs : List Int), vs = [.ref a] ∧ SqL K H a (cs.map V.int) ∧ RowL cs ∧ ∀ v H2, Ex H H2 → BAt H2 v (judgedL cs) → Q v H2
theorem fold_row {cs : List Int} {h l : Nat} : ((List.range (l + 1)).map (trial1 cs h)).foldl (stepJ cs) r = stepJ cs (((List.range l).map (trial1 cs h)).foldl (stepJ cs) r) (trial1 cs h l) := by
  rw [List.range_succ, List.map_append, List.foldl_append]; rfl
theorem fold_up {cs : List Int} {h : Nat} : (trialsUp cs (h + 1)).foldl (stepJ cs) none = ((List.range h).map (trial1 cs h)).foldl (stepJ cs) ((trialsUp cs h).foldl (stepJ cs) none) := by
  show (trialsUp cs h ++ (List.range h).map (trial1 cs h)).foldl (stepJ cs) none = _
  rw [List.foldl_append]

end My

namespace My
open PySem PySem.Spec PyProof.Rows L2 Evl

theorem way_gd {ws : List Int} {n : Nat} (hl : ws.length = n) (h : ∀ x ∈ ws, 0 ≤ x) : Coin.Way (gd ws) n := fun k hk => h _ (gd_mem (by omega))
/-- a way with one piece less of the least coin that it has, as a promise: some way under it -/
def spLess (K : PySem.W.Frag) : Sp := fun vs H Q _ => ∃ (b : Addr) (ws : List Int), vs = [.ref b] ∧ SqL K H b (ws.map V.int) ∧ ws.length ≤ 100 ∧ (∀ x ∈ ws, 0 ≤ x ∧ x < 10 ^ 40) ∧
  ∀ us : List Int, us.length = ws.length → (∀ x ∈ us, 0 ≤ x ∧ x < 10 ^ 40) → RetL (us.map V.int) H Q
/-- None or an amount -/
def optV : Option Int → V
  | none => .non
  | some w => .int w
def Fits (cs : List Int) (lim : Option Int) (x m : Int) : Prop := (∃ w, lim = some w ∧ w ≤ x) ∨ (grL cs x).sum ≤ m
def spFits (K : PySem.W.Frag) : Sp := fun vs H Q _ => ∃ (a : Addr) (cs : List Int) (lim : Option Int) (x m : Int), vs = [.ref a, optV lim, .int x, .int m] ∧ SqL K H a (cs.map V.int) ∧ RowL cs ∧ 0 ≤ x ∧ Fits cs lim x m ∧ RetV (.bl true) H Q
theorem spv_fits {K : PySem.W.Frag} {H : Hp} {a : Addr} {cs : List Int} {lim : Option Int} {x m : Int} (ha : SqL K H a (cs.map V.int)) (R : RowL cs) (h0 : 0 ≤ x) (hf : Fits cs lim x m) :
    SpV (spFits K) ([.ref a, optV lim, .int x, .int m] ++ []) H (.bl true) := fun H1 e Q q E => ⟨a, cs, lim, x, m, rfl, ex_l e ha, R, h0, hf, q⟩
/-- the verdict's limit -/
def limOf (r : Option (Int × List Int)) : Option Int := r.map Prod.fst
theorem fits_way {cs : List Int} (R : RowL cs) {v : Nat → Int} (hv : Coin.Way v cs.length) {x m : Int} (hx : Coin.wsum (gd cs) v cs.length = x) (hm : Coin.psum v cs.length ≤ m) : Fits cs (limOf (judgedL cs)) x m := by
  cases hj : judgedL cs with
  | none =>
    refine Or.inr ?_
    have := opt_of R (judged_none R hj x) hv hx
    omega
  | some t =>
    obtain ⟨w, ws⟩ := t
    by_cases c : w ≤ x
    · exact Or.inl ⟨w, rfl, c⟩
    · refine Or.inr ?_
      have := opt_of R ((judged_some R hj).least x (by omega)) hv hx
      omega
def spSmall (K : PySem.W.Frag) : Sp := fun vs H Q _ => ∃ (a : Addr) (cs : List Int), vs = [.ref a, optV (limOf (judgedL cs))] ∧ SqL K H a (cs.map V.int) ∧ RowL cs ∧ RetV (.bl true) H Q
theorem spv_small {K : PySem.W.Frag} {H : Hp} {a : Addr} {cs : List Int} (ha : SqL K H a (cs.map V.int)) (R : RowL cs) :
    SpV (spSmall K) ([.ref a, optV (limOf (judgedL cs))] ++ []) H (.bl true) := fun H1 e Q q E => ⟨a, cs, rfl, ex_l e ha, R, q⟩
theorem way_one {n i : Nat} {d : Int} (h : 0 ≤ d) {v : Nat → Int} (hv : Coin.Way v n) : Coin.Way (Coin.add v i d) n := fun k hk => by
  have := hv k hk
  by_cases e : k = i
  · subst e; rw [Coin.add_at]; omega
  · rw [Coin.add_ne e]; exact this
/-- x = f(e), e a new list -/
theorem q_asgCL {sp : Sp} {te : TE} {xs : List V} {σ : L2.St} {H : Hp} {D : Ends} {tz : TS} {i : Nat} (h : EvL te σ H xs)
    (k : ∀ p H1, H p = none → Ex H H1 → H1 p = some (.lst xs) → sp ([.ref p] ++ []) H1 (fun v H2 => tz D (σ.set i (some v)) H2) E0) :
    tSeq (tAsg (tCall sp [] E0 (tCons te tNil)) (gName i)) tz D σ H := h H (Ex.refl H) _ fun p H1 hp e1 h1 => k p H1 hp e1 h1
end My

namespace My
open PySem PySem.Spec PyProof.Rows L2 Evl

def givenI (n : Nat) (f : Nat → Bool) (g : Nat → Int) : List Int := ((List.range n).filter f).map g
theorem given_map {n : Nat} {f : Nat → Bool} {g : Nat → Int} : given n f (fun i => .int (g i)) = (givenI n f g).map V.int := by
  unfold given givenI
  rw [List.map_map]; rfl
theorem mem_givenI {n : Nat} {f : Nat → Bool} {g : Nat → Int} {x : Int} : x ∈ givenI n f g ↔ ∃ i, i < n ∧ f i = true ∧ x = g i := by
  unfold givenI
  rw [List.mem_map]
  constructor
  · rintro ⟨i, hi, e⟩
    have := List.mem_filter.mp hi
    exact ⟨i, List.mem_range.mp this.1, this.2, e.symm⟩
  · rintro ⟨i, h1, h2, e⟩
    exact ⟨i, List.mem_filter.mpr ⟨List.mem_range.mpr h1, h2⟩, e.symm⟩
theorem ev_minL {K : PySem.W.Frag} {σ : L2.St} {H : Hp} {ta : TE} {ns : List Int} {m : Int} (h : EvL ta σ H (ns.map V.int)) (hm : m ∈ ns) (hl : ∀ y ∈ ns, m ≤ y) : Ev (tCB (rMin K) (tCons ta tNil)) σ H (.int m) := fun H1 e Q q =>
  h H1 e _ fun p H2 hp e2 h2 => ⟨p, ns, rfl, sq_of h2, List.length_pos_of_mem hm, fun m' h1 h2' => by
    have a := hl m' h1
    have b := h2' m hm
    have e : m' = m := by omega
    rw [e]; exact q H2 e2⟩
theorem ev_minR {K : PySem.W.Frag} {σ : L2.St} {H : Hp} {ta : TE} {p : Addr} {ns : List Int} {m : Int} (h : Ev ta σ H (.ref p)) (hs : SqL K H p (ns.map V.int)) (hm : m ∈ ns) (hl : ∀ y ∈ ns, m ≤ y) : Ev (tCB (rMin K) (tCons ta tNil)) σ H (.int m) := fun H1 e Q q =>
  h H1 e _ fun H2 e2 => ⟨p, ns, rfl, ex_l (e.trans e2) hs, List.length_pos_of_mem hm, fun m' h1 h2' => by
    have a := hl m' h1
    have b := h2' m hm
    have e : m' = m := by omega
    rw [e]; exact q H2 e2⟩
/-- one piece less: the least that greatest first makes of the amount less one coin -/
theorem least_less {cs : List Int} (R : RowL cs) {w : Int} {ws : List Int} (vd : Verd cs w ws) :
    (∃ k, k < cs.length ∧ gd cs k ≤ w ∧ (grL cs (w - gd cs k)).sum = ws.sum - 1) ∧ ∀ k, k < cs.length → gd cs k ≤ w → ws.sum - 1 ≤ (grL cs (w - gd cs k)).sum := by
  have hc : ∀ k, k < cs.length → 1 ≤ gd cs k := fun k hk => R.ge1 hk
  have lower : ∀ k, k < cs.length → gd cs k ≤ w → ws.sum - 1 ≤ (grL cs (w - gd cs k)).sum := by
    intro k hk hle
    have hx : 0 ≤ w - gd cs k := by omega
    have h1 := Coin.gr_way (n := cs.length) hc hx
    have h2 := Coin.gr_worth R.row hx
    have := vd.few (Coin.add (Coin.gr (gd cs) cs.length (w - gd cs k)) k 1) (way_one (by decide) h1) (by rw [Coin.wsum_add hk, h2]; omega)
    rw [Coin.psum_add hk, ← grL_sum] at this
    omega
  refine ⟨?_, lower⟩
  have hw := vd.way R
  have hs : Coin.wsum (gd cs) (gd ws) cs.length = w := vd.worth
  have hpos : 0 < w := by
    have low := vd.low R
    have := hc 2 low.1
    omega
  obtain ⟨k, hk, h1⟩ := Coin.has_piece (c := gd cs) (v := gd ws) (n := cs.length) hw (by rw [hs]; exact hpos)
  have hle := Coin.coin_le (c := gd cs) (v := gd ws) hc hw hk h1
  rw [hs] at hle
  refine ⟨k, hk, hle, ?_⟩
  have l := lower k hk hle
  have ck := hc k hk
  have u := opt_of R (vd.least (w - gd cs k) (by omega)) (v := Coin.add (gd ws) k (-1)) (fun m hm => by
    by_cases e : m = k
    · subst e; rw [Coin.add_at]; omega
    · rw [Coin.add_ne e]; exact hw m hm) (by rw [Coin.wsum_add hk, hs, Int.mul_neg, Int.mul_one]; omega)
  rw [Coin.psum_add hk] at u
  have e : ws.sum = Coin.psum (gd ws) cs.length := by rw [sum_gd, vd.len]
  omega
theorem triw_bound {cs : List Int} (R : RowL cs) {w : Int} {ws : List Int} (vd : Verd cs w ws) : ∀ x ∈ ws, 0 ≤ x ∧ x ≤ 10 ^ 60 := by
  obtain ⟨h, l, hh, hl, e⟩ := vd.place
  rw [e]; exact tri_bound R hh
end My

namespace My
open PySem PySem.Spec PyProof.Rows L2 Evl

/-! ### k11: the table of the fewest pieces -/
def spRowS (K : PySem.W.Frag) : Sp := fun vs H Q _ => ∃ (l : Addr) (ns : List Int), vs = [.ref l] ∧ SqL K H l (ns.map V.int) ∧
  ∀ cs, RowL cs → gd cs (cs.length - 1) ≤ 46 → RetL (cs.map V.int) H Q
/-- the amount i + 1 when all before it are right -/
def Step11 (cs : List Int) (i : Nat) : Prop :=
    ∃ m, (∃ k, k < cs.length ∧ gd cs k ≤ 1 + (i : Int) ∧ (grL cs (1 + (i : Int) - gd cs k)).sum = m) ∧ (∀ k, k < cs.length → gd cs k ≤ 1 + (i : Int) → m ≤ (grL cs (1 + (i : Int) - gd cs k)).sum) ∧
      ((∃ ws, judgedL cs = some (1 + (i : Int), ws) ∧ 1 + m = ws.sum ∧ ws.sum < (grL cs (1 + (i : Int))).sum) ∨
       ((∀ w ws, judgedL cs = some (w, ws) → 1 + (i : Int) < w) ∧ 1 + m = (grL cs (1 + (i : Int))).sum))
theorem step11 {cs : List Int} (R : RowL cs) {i : Nat} (hi : ∀ w ws, judgedL cs = some (w, ws) → (i : Int) < w) : Step11 cs i := by
  have hc : ∀ k, k < cs.length → 1 ≤ gd cs k := fun k hk => R.ge1 hk
  have rest : (∀ w ws, judgedL cs = some (w, ws) → 1 + (i : Int) < w) → Step11 cs i := fun hw => by
    have nw : ∀ b, b ≤ 1 + (i : Int) → ¬ Coin.Wrong (gd cs) cs.length b := fun b hb => by
      cases hj : judgedL cs with
      | none => exact judged_none R hj b
      | some t =>
        obtain ⟨w, ws⟩ := t
        have := hw w ws hj
        exact (judged_some R hj).least b (by omega)
    have ha : (0 : Int) ≤ 1 + (i : Int) := by omega
    have gw := Coin.gr_way (n := cs.length) (c := gd cs) hc ha
    have gs := Coin.gr_worth R.row ha
    have gp : (grL cs (1 + (i : Int))).sum = _ := grL_sum
    have low : ∀ k, k < cs.length → gd cs k ≤ 1 + (i : Int) → (grL cs (1 + (i : Int))).sum - 1 ≤ (grL cs (1 + (i : Int) - gd cs k)).sum := by
      intro k hk hle
      have hx : 0 ≤ 1 + (i : Int) - gd cs k := by omega
      have h1 := Coin.gr_way (n := cs.length) hc hx
      have h2 := Coin.gr_worth R.row hx
      have := opt_of R (nw (1 + (i : Int)) (by omega)) (v := Coin.add (Coin.gr (gd cs) cs.length (1 + (i : Int) - gd cs k)) k 1) (way_one (by decide) h1) (by rw [Coin.wsum_add hk, h2]; omega)
      rw [Coin.psum_add hk, ← grL_sum] at this
      omega
    obtain ⟨k, hk, h1⟩ := Coin.has_piece (n := cs.length) gw (by rw [gs]; omega)
    have hle := Coin.coin_le (n := cs.length) hc gw hk h1
    rw [gs] at hle
    have l := low k hk hle
    have ck := hc k hk
    have u := opt_of R (nw (1 + (i : Int) - gd cs k) (by omega)) (v := Coin.add (Coin.gr (gd cs) cs.length (1 + (i : Int))) k (-1)) (fun m hm => by
      by_cases e : m = k
      · subst e; rw [Coin.add_at]; omega
      · rw [Coin.add_ne e]; exact gw m hm) (by rw [Coin.wsum_add hk, gs, Int.mul_neg, Int.mul_one]; omega)
    rw [Coin.psum_add hk] at u
    exact ⟨(grL cs (1 + (i : Int))).sum - 1, ⟨k, hk, hle, by omega⟩, low, .inr ⟨hw, by omega⟩⟩
  cases hj : judgedL cs with
  | none => exact rest (fun w ws h => by rw [hj] at h; cases h)
  | some t =>
    obtain ⟨w, ws⟩ := t
    have h1 := hi w ws hj
    by_cases e : w = 1 + (i : Int)
    · subst e
      have vd := judged_some R hj
      obtain ⟨⟨k, hk, hle, he⟩, low⟩ := least_less R vd
      exact ⟨ws.sum - 1, ⟨k, hk, hle, he⟩, low, .inl ⟨ws, hj, by omega, vd.fewer⟩⟩
    · exact rest (fun w' ws' h => by rw [hj] at h; cases h; omega)
theorem has_min : ∀ {ns : List Int}, 0 < ns.length → ∃ m, m ∈ ns ∧ ∀ y ∈ ns, m ≤ y
  | [], h => by cases h
  | [x], _ => ⟨x, List.mem_singleton.mpr rfl, fun y hy => by rw [List.mem_singleton.mp hy]; exact Int.le_refl _⟩
  | x :: y :: r, _ => by
    obtain ⟨m, hm, hl⟩ := has_min (ns := y :: r) (by simp)
    by_cases c : x ≤ m
    · exact ⟨x, List.mem_cons_self .., fun z hz => by
        rcases List.mem_cons.mp hz with e | e
        · omega
        · have := hl z e; omega⟩
    · exact ⟨m, List.mem_cons_of_mem _ hm, fun z hz => by
        rcases List.mem_cons.mp hz with e | e
        · omega
        · exact hl z e⟩
theorem tab_succ {n : Nat} {f : Nat → Int} : tab (n + 1) f = tab n f ++ [f n] := by
  unfold tab; rw [List.range_succ, List.map_append]; rfl
theorem least0 {cs : List Int} (R : RowL cs) : (grL cs ((0 : Nat) : Int)).sum = 0 := by
  have hc : ∀ k, k < cs.length → 1 ≤ gd cs k := fun k hk => R.ge1 hk
  have ge : 0 ≤ (grL cs ((0 : Nat) : Int)).sum := by
    rw [grL_sum]; exact Coin.psum_nonneg (Coin.gr_way hc (Int.le_refl 0))
  have z : ∀ (v : Nat → Int) (n : Nat), (∀ k, k < n → v k ≤ 0) → Coin.psum v n ≤ 0 := by
    intro v n
    induction n with
    | zero => intro _; exact Int.le_refl 0
    | succ n ih =>
      intro h
      have a := ih fun k hk => h k (by omega)
      have b := h n (by omega)
      show Coin.psum v n + v n ≤ 0
      omega
  have le := z (Coin.gr (gd cs) cs.length 0) cs.length fun k hk => Coin.gr_le hc (Int.le_refl 0) hk
  rw [← grL_sum] at le
  exact Int.le_antisymm le ge
end My

namespace My
open PySem PySem.Spec PyProof.Rows L2 Evl

/-! ### k04: one trial -/
theorem ev_intB {σ : L2.St} {H : Hp} {ta : TE} {k : Bool} (h : Ev ta σ H (.bl k)) :
    Ev (tCB (fun xs H Q => (∃ i, xs = [V.int i] ∧ Q (.int i) H) ∨ ∃ k, xs = [V.bl k] ∧ Q (.int (if k then 1 else 0)) H) (tCons ta tNil)) σ H (.int (if k then 1 else 0)) := fun H1 e Q q =>
  h H1 e _ fun H2 e2 => Or.inr ⟨k, rfl, q H2 e2⟩
theorem ev_eqRL {K : PySem.W.Frag} {σ : L2.St} {H : Hp} {ta tb : TE} {a : Addr} {xs : List Int} (h1 : Ev ta σ H (.ref a)) (h2 : EvL tb σ H (xs.map V.int)) (ha : SqL K H a (xs.map V.int)) :
    Ev (tOp (rEqD K) ta tb) σ H (.bl true) := fun H1 e Q q => h1 H1 e _ fun H2 e2 => h2 H2 (e.trans e2) _ fun p H3 hp e3 h3 =>
  rv_eqD (ex_l ((e.trans e2).trans e3) ha) (sq_of h3) H3 (Ex.refl H3) Q (fun H4 e4 => by rw [decide_eq_true rfl]; exact q H4 ((e2.trans e3).trans e4))
def Place (cs : List Int) (h l : Int) : Prop := 0 ≤ l ∧ l < h ∧ h < (cs.length : Int)
def spTrial (K : PySem.W.Frag) (A : Addr) : Sp := fun vs H Q E => ∃ (a : Addr) (cs : List Int) (h l : Int), vs = [.ref a, .int h, .int l] ∧ SqL K H a (cs.map V.int) ∧ RowL cs ∧
  (Place cs h l → RetL ((triL cs h.toNat l.toNat).map V.int) H Q) ∧ (¬ Place cs h l → ∀ H', Ex H H' → E (.ref A) none H')
def spDue (K : PySem.W.Frag) : Sp := fun vs H Q _ => ∃ (a : Addr) (cs : List Int) (h l : Nat), vs = [.ref a, .int (h : Int), .int (l : Int)] ∧ SqL K H a (cs.map V.int) ∧ RowL cs ∧
  l < h ∧ h < cs.length ∧ RetL ((triL cs h l).map V.int) H Q
theorem spl_due {K : PySem.W.Frag} {H : Hp} {a : Addr} {cs : List Int} {h l : Int} (ha : SqL K H a (cs.map V.int)) (R : RowL cs) (p : Place cs h l) :
    SpL (spDue K) ([.ref a, .int h, .int l] ++ []) H ((triL cs h.toNat l.toNat).map V.int) := fun H1 e Q q E =>
  ⟨a, cs, h.toNat, l.toNat, by obtain ⟨p1, p2, p3⟩ := p; rw [Int.toNat_of_nonneg p1, Int.toNat_of_nonneg (by omega)]; rfl, ex_l e ha, R, by obtain ⟨p1, p2, p3⟩ := p; omega, by obtain ⟨p1, p2, p3⟩ := p; omega, q⟩
def spRefusedT (K : PySem.W.Frag) : Sp := fun vs H Q _ => ∃ (a : Addr) (cs : List Int) (h l : Int), vs = [.ref a, .int h, .int l] ∧ SqL K H a (cs.map V.int) ∧ RowL cs ∧ ¬ Place cs h l ∧ RetV (.bl true) H Q
theorem spv_refusedT {K : PySem.W.Frag} {H : Hp} {a : Addr} {cs : List Int} {h l : Int} (ha : SqL K H a (cs.map V.int)) (R : RowL cs) (bad : ¬ Place cs h l) :
    SpV (spRefusedT K) ([.ref a, .int h, .int l] ++ []) H (.bl true) := fun H1 e Q q E => ⟨a, cs, h, l, rfl, ex_l e ha, R, bad, q⟩
/-- the due way, place by place -/
def dueAt (cs : List Int) (h l k : Nat) : Int := gd (triL cs h l) k
theorem due_low {cs : List Int} {h l k : Nat} (hk : k < cs.length) (c : k < l) : dueAt cs h l k = 0 := by
  unfold dueAt; rw [gd_triL hk]; unfold Coin.tri; rw [if_pos c]
theorem due_high {cs : List Int} {h l k : Nat} (hk : k < cs.length) (c : ¬ k < l) : dueAt cs h l k = gd (grL cs (gd cs h - 1)) k + (if decide ((k : Int) = (l : Int)) then 1 else 0) := by
  unfold dueAt; rw [gd_triL hk]; unfold Coin.tri
  rw [if_neg c, show gd (grL cs (gd cs h - 1)) k = Coin.gr (gd cs) cs.length (gd cs h - 1) k from gd_tab hk]
  by_cases e : k = l
  · rw [if_pos e, e, decide_eq_true rfl]; rfl
  · rw [if_neg e, decide_eq_false (by omega)]; simp
theorem due_all {cs : List Int} {h l : Nat} : tab cs.length (dueAt cs h l) = triL cs h l := by
  have := eq_tab (xs := triL cs h l)
  rw [triL_len] at this
  exact this.symm
theorem spl_trial {K : PySem.W.Frag} {H : Hp} {A a : Addr} {cs : List Int} {h l : Int} (ha : SqL K H a (cs.map V.int)) (R : RowL cs) (p : Place cs h l) :
    SpL (spTrial K A) ([.ref a, .int h, .int l] ++ []) H ((triL cs h.toNat l.toNat).map V.int) := fun H1 e Q q E => ⟨a, cs, h, l, rfl, ex_l e ha, R, fun _ => q, fun n => absurd p n⟩
end My

namespace My
open PySem PySem.Spec PyProof.Rows L2 Evl

/-! ### k05: all trials -/
def refs (n : Nat) (f : Nat → Addr) : List V := (List.range n).map fun i => .ref (f i)
theorem refs_len {n : Nat} {f : Nat → Addr} : (refs n f).length = n := by unfold refs; rw [List.length_map, List.length_range]
theorem refs_at {n i : Nat} {f : Nat → Addr} (h : i < n) : atI (refs n f) (i : Int) = some (.ref (f i)) := by
  refine atI_nat ?_
  unfold refs
  rw [List.getElem?_map, List.getElem?_range h]; rfl
def tn (ts : List (Int × List Int)) (i : Nat) : Int × List Int := ts.getD i (0, [])
structure PairsAt (H : Hp) (f : Addr) (ts : List (Int × List Int)) (tp lp : Nat → Addr) (ex : Nat → Prop) : Prop where
  lst : H f = some (.lst (refs ts.length tp))
  tup : ∀ i, i < ts.length → H (tp i) = some (.tup [.int (tn ts i).1, .ref (lp i)])
  way : ∀ i, i < ts.length → ¬ ex i → H (lp i) = some (.lst ((tn ts i).2.map V.int))
theorem PairsAt.mono {H H' : Hp} {f : Addr} {ts : List (Int × List Int)} {tp lp : Nat → Addr} {ex : Nat → Prop} (h : PairsAt H f ts tp lp ex) (e : Ex H H') : PairsAt H' f ts tp lp ex :=
  ⟨e _ _ h.lst, fun i hi => e _ _ (h.tup i hi), fun i hi hx => e _ _ (h.way i hi hx)⟩
theorem PairsAt.weak {H : Hp} {f : Addr} {ts : List (Int × List Int)} {tp lp : Nat → Addr} {ex ex' : Nat → Prop} (h : PairsAt H f ts tp lp ex) (w : ∀ i, ex i → ex' i) : PairsAt H f ts tp lp ex' :=
  ⟨h.lst, h.tup, fun i hi hx => h.way i hi fun z => hx (w i z)⟩
def spTrials (K : PySem.W.Frag) : Sp := fun vs H Q _ => ∃ (a : Addr) (cs : List Int), vs = [.ref a] ∧ SqL K H a (cs.map V.int) ∧ RowL cs ∧
  ∀ f H2 tp lp, H f = none → Ex H H2 → PairsAt H2 f (trialsL cs) tp lp (fun _ => False) → (∀ i, i < (trialsL cs).length → H (tp i) = none ∧ H (lp i) = none) →
    (∀ i j, i < (trialsL cs).length → j < (trialsL cs).length → lp i = lp j → i = j) → Q (.ref f) H2
def spAll (K : PySem.W.Frag) : Sp := fun vs H Q _ => ∃ (f a : Addr) (cs : List Int) (but : Int) (tp lp : Nat → Addr), vs = [.ref f, .ref a, .int but] ∧ SqL K H a (cs.map V.int) ∧ RowL cs ∧
  PairsAt H f (trialsL cs) tp lp (fun i => (i : Int) = but) ∧ RetV (.bl true) H Q
theorem spv_all {K : PySem.W.Frag} {H : Hp} {f a : Addr} {cs : List Int} {but : Int} {tp lp : Nat → Addr} (ha : SqL K H a (cs.map V.int)) (R : RowL cs) (p : PairsAt H f (trialsL cs) tp lp (fun i => (i : Int) = but)) :
    SpV (spAll K) ([.ref f, .ref a, .int but] ++ []) H (.bl true) := fun H1 e Q q E => ⟨f, a, cs, but, tp, lp, rfl, ex_l e ha, R, p.mono e, q⟩
def spAlike (K : PySem.W.Frag) : Sp := fun vs H Q _ => ∃ (p a g l : Addr) (cs : List Int) (h low : Nat), vs = [.ref p, .ref a, .ref g, .int (low : Int)] ∧ SqL K H a (cs.map V.int) ∧ RowL cs ∧
  SqL K H g ((grL cs (gd cs h - 1)).map V.int) ∧ low < h ∧ h < cs.length ∧ H p = some (.tup [.int (wor cs (triL cs h low)), .ref l]) ∧ H l = some (.lst ((triL cs h low).map V.int)) ∧ RetV (.bl true) H Q
theorem spv_alike {K : PySem.W.Frag} {H : Hp} {p a g l : Addr} {cs : List Int} {h low : Nat} (ha : SqL K H a (cs.map V.int)) (R : RowL cs) (hg : SqL K H g ((grL cs (gd cs h - 1)).map V.int)) (h1 : low < h) (h2 : h < cs.length)
    (hp : H p = some (.tup [.int (wor cs (triL cs h low)), .ref l])) (hl : H l = some (.lst ((triL cs h low).map V.int))) :
    SpV (spAlike K) ([.ref p, .ref a, .ref g, .int (low : Int)] ++ []) H (.bl true) := fun H1 e Q q E => ⟨p, a, g, l, cs, h, low, rfl, ex_l e ha, R, ex_l e hg, h1, h2, e _ _ hp, e _ _ hl, q⟩
theorem up_len {cs : List Int} : ∀ {m : Nat}, 2 * (trialsUp cs m).length = m * (m - 1)
  | 0 => rfl
  | m + 1 => by
    show 2 * (trialsUp cs m ++ (List.range m).map (trial1 cs m)).length = (m + 1) * m
    rw [List.length_append, List.length_map, List.length_range, Nat.mul_add, up_len (m := m)]
    cases m with
    | zero => rfl
    | succ k =>
      show (k + 1) * k + 2 * (k + 1) = (k + 1 + 1) * (k + 1)
      rw [Nat.mul_comm 2, ← Nat.mul_add, Nat.mul_comm]
theorem up_le {cs : List Int} {m n : Nat} (h : m ≤ n) : (trialsUp cs m).length ≤ (trialsUp cs n).length := by
  induction n with
  | zero => rw [show m = 0 by omega]; exact Nat.le_refl _
  | succ n ih =>
    by_cases e : m = n + 1
    · subst e; exact Nat.le_refl _
    · refine Nat.le_trans (ih (by omega)) ?_
      show _ ≤ (trialsUp cs n ++ (List.range n).map (trial1 cs n)).length
      rw [List.length_append]; omega
theorem up_at {cs : List Int} {h l : Nat} (hl : l < h) : ∀ {n : Nat}, h < n → (trialsUp cs n)[(trialsUp cs h).length + l]? = some (trial1 cs h l)
  | 0, z => absurd z (Nat.not_lt_zero _)
  | n + 1, z => by
    show (trialsUp cs n ++ (List.range n).map (trial1 cs n))[_]? = _
    by_cases e : h = n
    · subst e
      rw [List.getElem?_append_right (by omega), show (trialsUp cs h).length + l - (trialsUp cs h).length = l by omega, List.getElem?_map, List.getElem?_range hl]; rfl
    · have ih := up_at hl (cs := cs) (n := n) (by omega)
      have lt : (trialsUp cs h).length + l < (trialsUp cs n).length := (List.getElem?_eq_some_iff.mp ih).1
      rw [List.getElem?_append_left lt]
      exact ih
theorem tn_at {cs : List Int} {h l : Nat} (hl : l < h) (hh : h < cs.length) : (trialsUp cs h).length + l < (trialsL cs).length ∧ tn (trialsL cs) ((trialsUp cs h).length + l) = trial1 cs h l := by
  have e := up_at (cs := cs) hl hh
  refine ⟨(List.getElem?_eq_some_iff.mp e).1, ?_⟩
  unfold tn
  rw [List.getD_eq_getElem?_getD, show (trialsL cs)[(trialsUp cs h).length + l]? = some (trial1 cs h l) from e]; rfl
theorem tn_len {cs : List Int} {i : Nat} (hi : i < (trialsL cs).length) : (tn (trialsL cs) i).2.length = cs.length := by
  have m : tn (trialsL cs) i ∈ trialsL cs := by
    unfold tn
    rw [List.getD_eq_getElem?_getD, List.getElem?_eq_getElem hi]
    exact List.getElem_mem hi
  obtain ⟨h, l, _, _, e⟩ := mem_trialsL.mp m
  rw [e]; exact triL_len
/-! comparing with the empty list -/
def dPairs (ts : List (Int × List Int)) (n : Nat) : List PyData := (List.range n).map fun i => .tuple [.int (tn ts i).1, .list ((tn ts i).2.map .int)]
theorem depthAll_map {α : Type} {f : α → PyData} {d : Nat} (h : ∀ x, (f x).depth ≤ d) : ∀ xs : List α, PyData.depthAll (xs.map f) ≤ d
  | [] => by simp [PyData.depthAll]
  | x :: xs => by
    have := depthAll_map h xs
    have := h x
    simp only [List.map_cons, PyData.depthAll]
    omega
theorem canLayAll_map {α : Type} {f : α → PyData} (h : ∀ x, (f x).canLay0 = true) : ∀ xs : List α, PyData.canLayAll0 (xs.map f) = true
  | [] => by simp [PyData.canLayAll0]
  | x :: xs => by simp [PyData.canLayAll0, h x, canLayAll_map h xs]
theorem shaped_pairs {ts : List (Int × List Int)} {n : Nat} : SeqAt.shaped (.list (dPairs ts n)) = true := by
  have h1 : PyData.depthAll (dPairs ts n) ≤ 10 := depthAll_map (fun i => by
    have := PySem.W.depthAll_ints (tn ts i).2
    simp only [PyData.depth, PyData.depthAll]
    omega) _
  have h2 : PyData.depth (.list (dPairs ts n)) ≤ 64 := by simp only [PyData.depth]; omega
  have h3 : PyData.canLayAll0 (dPairs ts n) = true := canLayAll_map (fun i => by
    simp only [PyData.canLay0, PyData.canLayAll0, PySem.W.canLayAll0_ints, Bool.and_true]) _
  show (PyData.canLay0 (.list (dPairs ts n)) && decide (PyData.depth (.list (dPairs ts n)) ≤ 64)) = true
  rw [Bool.and_eq_true]
  exact ⟨by simp only [PyData.canLay0]; exact h3, decide_eq_true h2⟩
theorem dp_pairs {K : PySem.W.Frag} {H : Hp} {f : Addr} {ts : List (Int × List Int)} {tp lp : Nat → Addr} (p : PairsAt H f ts tp lp (fun _ => False)) : ∀ xs : List Nat, (∀ i ∈ xs, i < ts.length) →
    DpAll K H (xs.map fun i => .ref (tp i)) (xs.map fun i => .tuple [.int (tn ts i).1, .list ((tn ts i).2.map .int)])
  | [], _ => .nil
  | i :: xs, h => .cons (.tup (st_of (p.tup i (h i (List.mem_cons_self ..)))) (.cons (.int _) (.cons (.lst (sq_of (p.way i (h i (List.mem_cons_self ..)) id)) (dp_ints _)) .nil))) (dp_pairs p xs fun j hj => h j (List.mem_cons_of_mem _ hj))
theorem ev_noPairs {K : PySem.W.Frag} {σ : L2.St} {H : Hp} {ta : TE} {f : Addr} {ts : List (Int × List Int)} {tp lp : Nat → Addr} (ha : Ev ta σ H (.ref f)) (p : PairsAt H f ts tp lp (fun _ => False)) :
    Ev (tOp (rEqD K) ta (tLst tNil)) σ H (.bl (decide (ts = []))) := fun H1 e Q q => ha H1 e _ fun H2 e2 => el_lst ea_nil (by simp) H2 (e.trans e2) _ fun g H3 hg e3 h3 => by
  have p3 := p.mono ((e.trans e2).trans e3)
  refine ⟨.list (dPairs ts ts.length), .list [], .lst (sq_of p3.lst) (dp_pairs p3 _ fun i hi => List.mem_range.mp hi), .lst (sq_of h3) .nil, shaped_pairs, by decide, ?_⟩
  have e : PyData.eqv (.list (dPairs ts ts.length)) (.list []) = decide (ts = []) := by
    cases ts with
    | nil => rw [decide_eq_true rfl]; rfl
    | cons t r =>
      rw [decide_eq_false (by simp)]
      unfold dPairs
      rw [List.length_cons, List.range_succ_eq_map, List.map_cons]
      simp only [PyData.eqv, PyData.eqvAll]
  rw [e]
  exact q H3 (e2.trans e3)
end My

namespace My
open PySem PySem.Spec PyProof.Rows L2 Evl

/-! ### texts -/
def numT (i : Int) : Str := Str.ofString (toString i)
theorem numT_len {i : Int} (h0 : 0 ≤ i) (h1 : i ≤ 10 ^ 62) : (numT i).length ≤ 70 := by
  obtain ⟨m, rfl⟩ := Int.eq_ofNat_of_zero_le h0
  have e := W.KIN.signs_num m
  have l : (numT (m : Int)).length = (Nat.toDigits 10 m).length := by
    have : (numT (m : Int)).cps.toList.length = (numT (m : Int)).length := Array.length_toList
    rw [← this, show (numT (m : Int)).cps.toList = _ from e, List.length_map]
  rw [l]
  have hlt : m < 10 ^ 70 := by
    have : (m : Int) < 10 ^ 70 := Int.lt_of_le_of_lt h1 (by decide)
    exact Int.ofNat_lt.mp (by simpa using this)
  have r := (Nat.length_repr_le_iff (n := m) (by decide : 0 < 70)).mpr hlt
  rwa [← String.length_toList, Nat.toList_repr] at r
theorem numT_log {i : Int} (h0 : 0 ≤ i) (h1 : i ≤ 10 ^ 62) : i.natAbs.log2 < 1920 := by
  by_cases z : i.natAbs = 0
  · rw [z]; decide
  · refine (Nat.log2_lt z).mpr ?_
    have a : i.natAbs ≤ 10 ^ 62 := by omega
    exact Nat.lt_of_le_of_lt a (by decide +kernel)
theorem rv_sadd {H : Hp} {i j : Str} (h : i.length + j.length ≤ 100000) :
    RV (fun x y H Q => ∃ i j, x = V.str i ∧ y = V.str j ∧ i.length + j.length ≤ sizeLine ∧ Q (V.str (i ++ j)) H) (.str i) (.str j) H (.str (i ++ j)) := fun H1 _ _ q => ⟨i, j, rfl, rfl, sz_of h, q H1 (Ex.refl H1)⟩
theorem ev_str {σ : L2.St} {H : Hp} {ta : TE} {i : Int} (h : Ev ta σ H (.int i)) (h0 : 0 ≤ i) (h1 : i ≤ 10 ^ 62) :
    Ev (tCB (fun xs H Q => ∃ i, xs = [V.int i] ∧ i.natAbs.log2 < 1920 ∧ Q (V.str (toString i)) H) (tCons ta tNil)) σ H (.str (numT i)) := fun H1 e Q q =>
  h H1 e _ fun H2 e2 => ⟨i, rfl, numT_log h0 h1, q H2 e2⟩
theorem ev_isi_ss {K : PySem.W.Frag} {σ : L2.St} {H : Hp} {ta tc : TE} {x : Str} (h : Ev ta σ H (.str x)) (hc : Ev tc σ H (.ty "str")) : Ev (tCB (rIsi K) (tCons ta (tCons tc tNil))) σ H (.bl true) := ev_isi h hc (fun _ _ => .base (.str x)) kit_ss
def oneT (n c : Int) : Str := numT n ++ " of " ++ numT c
theorem oneT_len {n c : Int} (h0 : 0 ≤ n) (h1 : n ≤ 10 ^ 62) (g0 : 0 ≤ c) (g1 : c ≤ 10 ^ 62) : (oneT n c).length ≤ 144 := by
  have a := numT_len h0 h1
  have b := numT_len g0 g1
  have o : (" of " : Str).length = 4 := by decide +kernel
  unfold oneT
  rw [Str.length_append, Str.length_append, o]; omega
/-- a way, the least coins first gone through -/
def shUp (cs ws : List Int) : Nat → Str
  | 0 => ""
  | k + 1 => if 0 < gd ws k then (if shUp cs ws k = "" then oneT (gd ws k) (gd cs k) else oneT (gd ws k) (gd cs k) ++ " and ") ++ shUp cs ws k else shUp cs ws k
def shownT (cs ws : List Int) : Str := if shUp cs ws cs.length = "" then "nothing" else shUp cs ws cs.length
theorem shUp_len {cs ws : List Int} {m : Nat} (hc : ∀ k, k < m → 0 ≤ gd cs k ∧ gd cs k ≤ 10 ^ 62) (hw : ∀ k, k < m → 0 ≤ gd ws k ∧ gd ws k ≤ 10 ^ 62) : (shUp cs ws m).length ≤ 150 * m := by
  induction m with
  | zero => exact Nat.le_of_eq rfl
  | succ k ih =>
    have i := ih (fun j hj => hc j (by omega)) (fun j hj => hw j (by omega))
    have a := oneT_len (hw k (by omega)).1 (hw k (by omega)).2 (hc k (by omega)).1 (hc k (by omega)).2
    have o : (" and " : Str).length = 5 := by decide +kernel
    unfold shUp
    by_cases c : 0 < gd ws k
    · rw [if_pos c, Str.length_append]
      by_cases d : shUp cs ws k = ""
      · rw [if_pos d]; omega
      · rw [if_neg d, Str.length_append, o]; omega
    · rw [if_neg c]; omega
def Wb (ws : List Int) : Prop := ∀ x ∈ ws, 0 ≤ x ∧ x ≤ 10 ^ 60 - 1
def spShown (K : PySem.W.Frag) : Sp := fun vs H Q _ => ∃ (a b : Addr) (cs ws : List Int), vs = [.ref a, .ref b] ∧ SqL K H a (cs.map V.int) ∧ SqL K H b (ws.map V.int) ∧ RowL cs ∧ ws.length = cs.length ∧ Wb ws ∧
  RetV (.str (shownT cs ws)) H Q
theorem spv_shown {K : PySem.W.Frag} {H : Hp} {a b : Addr} {cs ws : List Int} (ha : SqL K H a (cs.map V.int)) (hb : SqL K H b (ws.map V.int)) (R : RowL cs) (hl : ws.length = cs.length) (hw : Wb ws) :
    SpV (spShown K) ([.ref a, .ref b] ++ []) H (.str (shownT cs ws)) := fun H1 e Q q E => ⟨a, b, cs, ws, rfl, ex_l e ha, ex_l e hb, R, hl, hw, q⟩
def toldT (cs : List Int) : Str := match judgedL cs with
  | none => "right for every amount"
  | some (w, ws) => numT w ++ ": " ++ shownT cs ws ++ ", not " ++ shownT cs (grL cs w)
def spTold (K : PySem.W.Frag) : Sp := fun vs H Q _ => ∃ (a : Addr) (cs : List Int), vs = [.ref a] ∧ SqL K H a (cs.map V.int) ∧ RowL cs ∧ RetV (.str (toldT cs)) H Q
theorem spv_told {K : PySem.W.Frag} {H : Hp} {a : Addr} {cs : List Int} (ha : SqL K H a (cs.map V.int)) (R : RowL cs) :
    SpV (spTold K) ([.ref a] ++ []) H (.str (toldT cs)) := fun H1 e Q q E => ⟨a, cs, rfl, ex_l e ha, R, q⟩
theorem shownT_len {cs ws : List Int} (R : RowL cs) (hl : ws.length = cs.length) (hw : Wb ws) : (shownT cs ws).length ≤ 1800 := by
  have b := shUp_len (cs := cs) (ws := ws) (m := cs.length) (fun k hk => by
    have := R.bound _ (gd_mem hk)
    exact ⟨this.1, Int.le_trans this.2 (by decide)⟩) (fun k hk => by
    have := hw _ (gd_mem (xs := ws) (i := k) (by omega))
    exact ⟨this.1, Int.le_trans this.2 (by decide)⟩)
  have := R.len
  have o : ("nothing" : Str).length = 7 := by decide +kernel
  unfold shownT
  by_cases c : shUp cs ws cs.length = ""
  · rw [if_pos c, o]; omega
  · rw [if_neg c]; omega
theorem part_le {c v : Nat → Int} : ∀ {n : Nat}, (∀ k, k < n → 1 ≤ c k) → Coin.Way v n → ∀ k, k < n → c k * v k ≤ Coin.wsum c v n
  | 0, _, _, _, h => absurd h (Nat.not_lt_zero _)
  | n + 1, hc, hv, k, hk => by
    show c k * v k ≤ Coin.wsum c v n + c n * v n
    have hv' : Coin.Way v n := fun j hj => hv j (by omega)
    have s := Coin.wsum_nonneg (n := n) (fun j hj => hc j (by omega)) hv'
    have m : 0 ≤ c n * v n := Int.mul_nonneg (by have := hc n (by omega); omega) (hv n (by omega))
    by_cases e : k = n
    · subst e; omega
    · have := part_le (fun j hj => hc j (by omega)) hv' k (by omega)
      omega
theorem verd_coins {cs : List Int} (R : RowL cs) {w : Int} {ws : List Int} (vd : Verd cs w ws) : gd cs 1 ≤ 10 ^ 60 - 1 ∧ 2 ≤ gd cs 1 ∧ w < 2 * 10 ^ 60 - 1 := by
  have low := vd.low R
  have high := vd.high R
  have l1 : gd cs 1 < gd cs 2 := R.lt (by decide) low.1
  have m2 : gd cs 2 ≤ 10 ^ 60 := R.most 2 low.1
  have l0 : gd cs 0 < gd cs 1 := R.lt (by decide) (by omega)
  have one : gd cs 0 = 1 := R.one
  have a : gd cs (cs.length - 1) ≤ 10 ^ 60 := R.most (cs.length - 1) (by omega)
  have b : gd cs (cs.length - 2) < gd cs (cs.length - 1) := R.lt (by omega) (by omega)
  omega
theorem piece_top {cs : List Int} (R : RowL cs) {w : Int} {v : Nat → Int} (hv : Coin.Way v cs.length) (hs : Coin.wsum (gd cs) v cs.length = w) (hw : w < 2 * 10 ^ 60 - 1) {k : Nat} (hk : k < cs.length) (h0 : k ≠ 0) : v k ≤ 10 ^ 60 - 1 := by
  have p := part_le (c := gd cs) (fun k hk => R.ge1 hk) hv k hk
  rw [hs] at p
  have l : gd cs 0 < gd cs k := R.lt (by omega) hk
  have one : gd cs 0 = 1 := R.one
  have m := Int.mul_le_mul_of_nonneg_right (show 2 ≤ gd cs k by omega) (hv k hk)
  omega
theorem wb_tri {cs : List Int} (R : RowL cs) {w : Int} {ws : List Int} (vd : Verd cs w ws) : Wb ws := fun x hx => by
  have nn := (triw_bound R vd x hx).1
  refine ⟨nn, ?_⟩
  obtain ⟨h1, h2, h3⟩ := verd_coins R vd
  obtain ⟨k, hk, rfl⟩ := mem_gd hx
  have hl := vd.len
  have hv : Coin.Way (gd ws) cs.length := fun j hj => (triw_bound R vd _ (gd_mem (by omega))).1
  have hs : Coin.wsum (gd cs) (gd ws) cs.length = w := vd.worth
  have low := vd.low R
  by_cases e : k = 0
  · subst e
    refine Classical.byContradiction fun no => ?_
    have one : gd cs 0 = 1 := R.one
    have f := vd.few (Coin.add (Coin.add (gd ws) 0 (-(gd cs 1))) 1 1) (fun j hj => by
      by_cases e1 : j = 1
      · subst e1
        rw [Coin.add_at, Coin.add_ne (by decide)]
        have := hv 1 hj; omega
      · rw [Coin.add_ne e1]
        by_cases e0 : j = 0
        · subst e0; rw [Coin.add_at]; omega
        · rw [Coin.add_ne e0]; exact hv j hj) (by rw [Coin.wsum_add (by omega), Coin.wsum_add (by omega), hs, one]; omega)
    rw [Coin.psum_add (by omega), Coin.psum_add (by omega)] at f
    have s : ws.sum = Coin.psum (gd ws) cs.length := by rw [sum_gd, hl]
    omega
  · exact piece_top R hv hs h3 (by omega) e
theorem wb_gr {cs : List Int} (R : RowL cs) {w : Int} {ws : List Int} (vd : Verd cs w ws) (h0 : 0 ≤ w) : Wb (grL cs w) := fun x hx => by
  obtain ⟨k, hk, rfl⟩ := mem_tab hx
  have hc : ∀ k, k < cs.length → 1 ≤ gd cs k := fun k hk => R.ge1 hk
  have hv := Coin.gr_way (n := cs.length) hc h0
  refine ⟨hv k hk, ?_⟩
  obtain ⟨h1, h2, h3⟩ := verd_coins R vd
  by_cases e : k = 0
  · subst e
    have low := vd.low R
    have g := Coin.Gd_gr R.row h0 1 (by omega)
    have z : Coin.wsum (gd cs) (Coin.gr (gd cs) cs.length w) 1 = 0 + gd cs 0 * Coin.gr (gd cs) cs.length w 0 := rfl
    have one : gd cs 0 = 1 := R.one
    rw [z, one] at g
    omega
  · exact piece_top R hv (Coin.gr_worth R.row h0) h3 hk e
theorem verd_top {cs : List Int} (R : RowL cs) {w : Int} {ws : List Int} (vd : Verd cs w ws) : 0 ≤ w ∧ w ≤ 10 ^ 61 := by
  have low := vd.low R
  have high := vd.high R
  have c2 : 1 ≤ gd cs 2 := R.ge1 low.1
  have a := R.most (cs.length - 1) (by omega)
  have b := R.most (cs.length - 2) (by omega)
  have a' : gd cs (cs.length - 1) ≤ 10 ^ 60 := a
  have b' : gd cs (cs.length - 2) ≤ 10 ^ 60 := b
  omega
end My

namespace My
open PySem PySem.Spec PyProof.Rows L2 Evl

/-! ### k07: the fewest pieces -/
theorem gd_set {ws : List Int} {j : Nat} {x : Int} (hj : j < ws.length) (k : Nat) : gd (ws.set j x) k = if k = j then x else gd ws k := by
  unfold gd
  rw [List.getD_eq_getElem?_getD, List.getElem?_set]
  by_cases e : j = k
  · subst e; rw [if_pos rfl, if_pos hj, if_pos rfl]; rfl
  · rw [if_neg e, if_neg (fun z => e z.symm), List.getD_eq_getElem?_getD]
theorem wsum_set {cs ws : List Int} {j : Nat} {x : Int} (hj : j < ws.length) (hl : ws.length = cs.length) :
    Coin.wsum (gd cs) (gd (ws.set j x)) cs.length = Coin.wsum (gd cs) (gd ws) cs.length + gd cs j * (x - gd ws j) := by
  rw [← Coin.wsum_add (by omega)]
  refine Coin.wsum_congr fun k hk => ?_
  rw [gd_set hj]
  by_cases e : k = j
  · subst e; rw [if_pos rfl, Coin.add_at]; omega
  · rw [if_neg e, Coin.add_ne e]
theorem le_wsum {c v : Nat → Int} : ∀ {n : Nat}, (∀ k, k < n → 1 ≤ c k) → Coin.Way v n → ∀ k, k < n → v k ≤ Coin.wsum c v n
  | 0, _, _, _, h => absurd h (Nat.not_lt_zero _)
  | n + 1, hc, hv, k, hk => by
    show v k ≤ Coin.wsum c v n + c n * v n
    have hv' : Coin.Way v n := fun j hj => hv j (by omega)
    have s := Coin.wsum_nonneg (n := n) (fun j hj => hc j (by omega)) hv'
    have cn := hc n (by omega)
    have vn : 0 ≤ v n := hv n (by omega)
    have m : v n ≤ c n * v n := by
      have := Int.mul_le_mul_of_nonneg_right cn vn
      omega
    by_cases e : k = n
    · subst e; omega
    · have := le_wsum (fun j hj => hc j (by omega)) hv' k (by omega)
      omega
def NBf (u v : Nat → Int) (n : Nat) : Prop := Coin.psum u n < Coin.psum v n ∨ (Coin.psum u n = Coin.psum v n ∧ ((∀ k, k < n → u k = v k) ∨ ∃ k, k < n ∧ v k < u k ∧ ∀ j, k < j → j < n → u j = v j))
structure Fewest (cs : List Int) (x : Int) (ws : List Int) : Prop where
  len : ws.length = cs.length
  way : Coin.Way (gd ws) cs.length
  worth : Coin.wsum (gd cs) (gd ws) cs.length = x
  best : ∀ v, Coin.Way v cs.length → Coin.wsum (gd cs) v cs.length = x → NBf (gd ws) v cs.length
def spFewest (K : PySem.W.Frag) (A A2 : Addr) : Sp := fun vs H Q E => ∃ (a : Addr) (cs : List Int) (x : Int), vs = [.ref a, .int x] ∧ SqL K H a (cs.map V.int) ∧ RowL cs ∧
  (0 ≤ x ∧ x ≤ 400 → ∀ ws, Fewest cs x ws → RetL (ws.map V.int) H Q) ∧ (¬ (0 ≤ x ∧ x ≤ 10 ^ 80) → ∀ H', Ex H H' → E (.ref A) none H') ∧ (400 < x ∧ x ≤ 10 ^ 80 → ∀ H', Ex H H' → E (.ref A2) none H')
/-- a way worth at most 400 -/
def Small (cs ws : List Int) : Prop := ws.length = cs.length ∧ Coin.Way (gd ws) cs.length ∧ Coin.wsum (gd cs) (gd ws) cs.length ≤ 400
theorem Small.bound {cs ws : List Int} (R : RowL cs) (h : Small cs ws) : ∀ x ∈ ws, 0 ≤ x ∧ x < 2 ^ 500 := fun x hx => by
  obtain ⟨k, hk, rfl⟩ := mem_gd hx
  obtain ⟨h1, h2, h3⟩ := h
  have a := h2 k (by omega)
  have b := le_wsum (c := gd cs) (n := cs.length) (fun k hk => R.ge1 hk) h2 k (by omega)
  exact ⟨a, small500 (Int.le_trans (show gd ws k ≤ 400 by omega) (by decide))⟩
theorem Fewest.small {cs ws : List Int} {x : Int} (h : Fewest cs x ws) (hx : x ≤ 400) : Small cs ws := ⟨h.len, h.way, by rw [h.worth]; exact hx⟩
def spFew (K : PySem.W.Frag) : Sp := fun vs H Q _ => ∃ (s a : Addr) (ns cs : List Int) (m : Int), vs = [.ref s, .ref a, .int m] ∧ SqL K H s (ns.map V.int) ∧ SqL K H a (cs.map V.int) ∧ RowL cs ∧ 0 ≤ m ∧ m ≤ 50 ∧
  ∀ ws, Small cs ws → RetL (ws.map V.int) H Q
def spWayS (K : PySem.W.Frag) : Sp := fun vs H Q _ => ∃ (s a : Addr) (ns cs : List Int), vs = [.ref s, .ref a] ∧ SqL K H s (ns.map V.int) ∧ SqL K H a (cs.map V.int) ∧ RowL cs ∧
  ∀ ws, Small cs ws → RetL (ws.map V.int) H Q
def spNB (K : PySem.W.Frag) : Sp := fun vs H Q _ => ∃ (a b : Addr) (xs ys : List Int), vs = [.ref a, .ref b] ∧ SqL K H a (xs.map V.int) ∧ SqL K H b (ys.map V.int) ∧ xs.length = ys.length ∧ xs.length ≤ 12 ∧
  NBf (gd xs) (gd ys) xs.length ∧ RetV (.bl true) H Q
theorem spv_nb {K : PySem.W.Frag} {H : Hp} {a b : Addr} {xs ys : List Int} (ha : SqL K H a (xs.map V.int)) (hb : SqL K H b (ys.map V.int)) (hl : xs.length = ys.length) (h12 : xs.length ≤ 12) (nb : NBf (gd xs) (gd ys) xs.length) :
    SpV (spNB K) ([.ref a, .ref b] ++ []) H (.bl true) := fun H1 e Q q E => ⟨a, b, xs, ys, rfl, ex_l e ha, ex_l e hb, hl, h12, nb, q⟩
def spFewRef (K : PySem.W.Frag) : Sp := fun vs H Q _ => ∃ (a : Addr) (cs : List Int) (x : Int), vs = [.ref a, .int x] ∧ SqL K H a (cs.map V.int) ∧ RowL cs ∧ ¬ (0 ≤ x ∧ x ≤ 400) ∧ RetV (.bl true) H Q
theorem spv_fewRef {K : PySem.W.Frag} {H : Hp} {a : Addr} {cs : List Int} {x : Int} (ha : SqL K H a (cs.map V.int)) (R : RowL cs) (bad : ¬ (0 ≤ x ∧ x ≤ 400)) :
    SpV (spFewRef K) ([.ref a, .int x] ++ []) H (.bl true) := fun H1 e Q q E => ⟨a, cs, x, rfl, ex_l e ha, R, bad, q⟩
def spFewAny (K : PySem.W.Frag) : Sp := fun vs H Q _ => ∃ (a : Addr) (cs : List Int) (x : Int), vs = [.ref a, .int x] ∧ SqL K H a (cs.map V.int) ∧ RowL cs ∧
  (¬ (0 ≤ x ∧ x ≤ 400) → RetV (.bl true) H Q) ∧ (0 ≤ x ∧ x ≤ 400 → RetV (.bl false) H Q)
theorem spv_anyT {K : PySem.W.Frag} {H : Hp} {a : Addr} {cs : List Int} {x : Int} (ha : SqL K H a (cs.map V.int)) (R : RowL cs) (bad : ¬ (0 ≤ x ∧ x ≤ 400)) :
    SpV (spFewAny K) ([.ref a, .int x] ++ []) H (.bl true) := fun H1 e Q q E => ⟨a, cs, x, rfl, ex_l e ha, R, fun _ => q, fun g => absurd g bad⟩
theorem spv_anyF {K : PySem.W.Frag} {H : Hp} {a : Addr} {cs : List Int} {x : Int} (ha : SqL K H a (cs.map V.int)) (R : RowL cs) (g : 0 ≤ x ∧ x ≤ 400) :
    SpV (spFewAny K) ([.ref a, .int x] ++ []) H (.bl false) := fun H1 e Q q E => ⟨a, cs, x, rfl, ex_l e ha, R, fun n => absurd g n, fun _ => q⟩
theorem spl_fewest {K : PySem.W.Frag} {H : Hp} {A A2 a : Addr} {cs : List Int} {x : Int} {σ : L2.St} {D : Ends} {tz : TS} {i : Nat} {ta : TA} (ea : EvA ta σ H [.ref a, .int x]) (ha : SqL K H a (cs.map V.int)) (R : RowL cs) (g : 0 ≤ x ∧ x ≤ 400)
    (k : ∀ ws, Fewest cs x ws → ∀ p H1, H p = none → Ex H H1 → H1 p = some (.lst (ws.map V.int)) → tz D (σ.set i (some (.ref p))) H1) :
    tSeq (tAsg (tCall (spFewest K A A2) [] E0 ta) (gName i)) tz D σ H := ea H (Ex.refl H) _ fun H1 e1 =>
  ⟨a, cs, x, rfl, ex_l e1 ha, R, fun _ ws hw p H2 hp e2 h2 => k ws hw p H2 (fresh_back e1 hp) (e1.trans e2) h2, fun n => absurd ⟨g.1, Int.le_trans g.2 (by decide)⟩ n, fun n => absurd n.1 (by omega)⟩
theorem ev_call2L {σ : L2.St} {H : Hp} {ta tb : TE} {sp : Sp} {x v : V} {xs : List V} (h1 : Ev ta σ H x) (h2 : EvL tb σ H xs)
    (hs : ∀ p H1, H1 p = some (.lst xs) → Ex H H1 → SpV sp ([x, .ref p] ++ []) H1 v) : Ev (tCall sp [] E0 (tCons ta (tCons tb tNil))) σ H v := fun H1 e Q q =>
  h1 H1 e _ fun H2 e2 => h2 H2 (e.trans e2) _ fun p H3 hp e3 hh => hs p H3 hh ((e.trans e2).trans e3) H3 (Ex.refl H3) Q (fun H4 e4 => q H4 ((e2.trans e3).trans e4)) E0
theorem op_mulB {X : Cx} : OpR X (binaryOp .Mult) (rI IntMulOk fun i j => .int (i * j)) := opI fun _ _ _ _ _ _ _ hc q => mul_int q hc
/-- not so many bits that the machine's numbers end -/
def Bits (z : Int) : Prop := Builtin.Int.intBits z ≤ 1048576
theorem bits_div {z d : Int} (h : Bits z) (hd : 1 ≤ d) : Bits (z / d) := by
  unfold Bits Builtin.Int.intBits at *
  by_cases e : z / d = 0
  · rw [if_pos (by rw [e]; rfl)]; omega
  · have ez : ¬ z = 0 := fun y => e (by rw [y]; exact Int.zero_ediv d)
    rw [if_neg (by simpa using e)]
    rw [if_neg (by simpa using ez)] at h
    have le : (z / d).natAbs ≤ z.natAbs := by
      rcases Int.le_total 0 z with p | p
      · have a := Int.ediv_le_self d p
        have b := Int.ediv_nonneg p (show 0 ≤ d by omega)
        omega
      · have a : z ≤ z / d := by
          have := (Int.le_ediv_iff_mul_le (show 0 < d by omega) (a := z) (b := z)).mpr (by
            have := Int.mul_le_mul_of_nonneg_left hd (show 0 ≤ -z by omega)
            rw [Int.neg_mul, Int.neg_mul, Int.mul_one] at this
            omega)
          exact this
        have b : z / d < 1 := (Int.ediv_lt_iff_lt_mul (show 0 < d by omega)).mpr (by omega)
        omega
    have m : (z / d).natAbs.log2 ≤ z.natAbs.log2 := by
      have n0 : (z / d).natAbs ≠ 0 := by omega
      have a := Nat.log2_self_le n0
      have b := @Nat.lt_log2_self z.natAbs
      exact Nat.le_of_lt_succ ((Nat.pow_lt_pow_iff_right (by decide : 1 < 2)).mp (Nat.lt_of_le_of_lt (Nat.le_trans a le) b))
    omega
theorem bits_mul {i j : Int} (h : Bits i) (hj : j.natAbs.log2 ≤ 1000) : IntMulOk i j := by
  unfold IntMulOk
  have a : Builtin.Int.intBits j ≤ 1001 := by
    unfold Builtin.Int.intBits
    split <;> omega
  unfold Bits at h
  have e : Builtin.Int.intTooBig ((Builtin.Int.intBits i + Builtin.Int.intBits j : Nat) : Int) = false := by
    unfold Builtin.Int.intTooBig
    rw [PySem.bitsLine_eq]
    exact decide_eq_false (by omega)
  intro z
  rw [Bool.and_eq_true] at z
  have z2 := z.2
  rw [show ((Builtin.Int.intBits i : Int) + (Builtin.Int.intBits j : Int)) = ((Builtin.Int.intBits i + Builtin.Int.intBits j : Nat) : Int) by omega, e] at z2
  cases z2
/-- the class of the handled error known as one of some -/
def rIsV (K : PySem.W.Frag) (cls : Value) (a : Addr) : List V → Hp → VK → Prop := fun xs H Q => ∃ D, cls = .ref D ∧ rIsE K D a xs H Q
theorem call_isV {X : Cx} {K : PySem.W.Frag} {cls : Value} {d : Option Addr} {D a : Addr} (hC : cls = .ref D ∧ d = none) (c : CallR X (.builtin "isinstance") (rIsE K D a)) : CallR X (.builtin "isinstance") (rIsV K cls a) := by
  intro pins s σ H xs us Q I r h
  obtain ⟨D', e, h⟩ := h
  have e2 := hC.1.symm.trans e
  cases e2
  exact c _ _ _ _ _ _ _ I r h
theorem ev_isVT {K : PySem.W.Frag} {σ : L2.St} {H : Hp} {ta tc : TE} {a A : Addr} {n : String} {b : Bool} (h : Ev ta σ H (.ref a)) (hc : Ev tc σ H (.ty n))
    (k : PySem.W.kitOne K (.ref A) (.type n) = some b) : Ev (tCB (rIsV K (.ref A) a) (tCons ta (tCons tc tNil))) σ H (.bl b) := fun H1 e Q q =>
  h H1 e _ fun H2 e2 => hc H2 (e.trans e2) _ fun H3 e3 => ⟨A, rfl, .ty n, .type n, b, rfl, fun u r => r, k, q H3 (e2.trans e3)⟩
def spFar : Sp := fun vs H Q _ => ∃ (c : Int), vs = [.int c] ∧ Bits c ∧ ∀ x, ¬ (0 ≤ x ∧ x ≤ 400) → RetV (.int x) H Q
def spLawB (K : PySem.W.Frag) : Sp := fun vs H Q _ => ∃ (a : Addr) (ns : List Int), vs = [.ref a] ∧ SqL K H a (ns.map V.int) ∧ ns.length ≤ 63 ∧ (∀ z ∈ ns, Bits z) ∧ ∀ H', Q (.bl true) H'
theorem bits_at {ns : List Int} (h : ∀ z ∈ ns, Bits z) (k : Nat) : Bits (ns.getD k 0) := by
  rw [List.getD_eq_getElem?_getD]
  cases e : ns[k]? with
  | none => show Bits 0; unfold Bits; decide
  | some z => exact h z (List.mem_of_getElem? e)
end My

namespace My
open PySem PySem.Spec PyProof.Rows L2 Evl

/-! ### k09: rows as texts -/
/-- the words that begin on a row's numbers -/
def textN (xs : List Int) : Nat → Str
  | 0 => ""
  | k + 1 => (if textN xs k = "" then textN xs k else textN xs k ++ " ") ++ numT (gd xs k)
def textT (xs : List Int) : Str := textN xs xs.length
def Nums (xs : List Int) : Prop := xs.length ≤ 14 ∧ ∀ x ∈ xs, 0 ≤ x ∧ x ≤ 10 ^ 62
theorem textN_len {xs : List Int} {m : Nat} (h : ∀ k, k < m → 0 ≤ gd xs k ∧ gd xs k ≤ 10 ^ 62) : (textN xs m).length ≤ 71 * m := by
  induction m with
  | zero => exact Nat.le_of_eq rfl
  | succ k ih =>
    have i := ih (fun j hj => h j (by omega))
    have a := numT_len (h k (by omega)).1 (h k (by omega)).2
    have o : (" " : Str).length = 1 := by decide +kernel
    unfold textN
    by_cases d : textN xs k = ""
    · rw [if_pos d, Str.length_append]; omega
    · rw [if_neg d, Str.length_append, Str.length_append, o]; omega
theorem Nums.bound {xs : List Int} (h : Nums xs) : ∀ k, k < xs.length → 0 ≤ gd xs k ∧ gd xs k ≤ 10 ^ 62 := fun k hk => h.2 _ (gd_mem hk)
theorem textT_len {xs : List Int} (h : Nums xs) : (textT xs).length ≤ 1000 := by
  have := textN_len h.bound
  have := h.1
  unfold textT; omega
theorem RowL.nums {cs : List Int} (R : RowL cs) : Nums cs := ⟨by have := R.len; omega, fun x hx => by
  have := R.bound x hx
  exact ⟨this.1, Int.le_trans this.2 (by decide)⟩⟩
def spText (K : PySem.W.Frag) : Sp := fun vs H Q _ => ∃ (a : Addr) (xs : List Int), vs = [.ref a] ∧ SqL K H a (xs.map V.int) ∧ Nums xs ∧ RetV (.str (textT xs)) H Q
theorem spv_text {K : PySem.W.Frag} {H : Hp} {a : Addr} {xs : List Int} (ha : SqL K H a (xs.map V.int)) (h : Nums xs) :
    SpV (spText K) ([.ref a] ++ []) H (.str (textT xs)) := fun H1 e Q q E => ⟨a, xs, rfl, ex_l e ha, h, q⟩
def spWritten (K : PySem.W.Frag) : Sp := fun vs H Q _ => ∃ (a : Addr) (cs : List Int), vs = [.ref a] ∧ SqL K H a (cs.map V.int) ∧ RowL cs ∧ RetV (.str (textT cs)) H Q
theorem spv_written {K : PySem.W.Frag} {H : Hp} {a : Addr} {cs : List Int} (ha : SqL K H a (cs.map V.int)) (R : RowL cs) :
    SpV (spWritten K) ([.ref a] ++ []) H (.str (textT cs)) := fun H1 e Q q E => ⟨a, cs, rfl, ex_l e ha, R, q⟩
/-! some text of a bounded length -/
def RetS (n : Nat) (H : Hp) (Q : VK) : Prop := ∀ s : Str, s.length ≤ n → RetV (.str s) H Q
def spSign : Sp := fun vs H Q _ => ∃ c : Int, vs = [.int c] ∧ RetS 1 H Q
def spOdd : Sp := fun vs H Q _ => ∃ c : Int, vs = [.int c] ∧ RetS 5 H Q
def spLine (K : PySem.W.Frag) : Sp := fun vs H Q _ => ∃ (a : Addr) (cs : List Int) (m c : Int), vs = [.ref a, .int m, .int c] ∧ SqL K H a (cs.map V.int) ∧ RowL cs ∧ RetS 2500 H Q
def spSecond : Sp := fun vs H Q _ => ∃ (s : Str) (c : Int), vs = [.str s, .int c] ∧ s.length ≤ 2500 ∧ RetS 6000 H Q
/-- an expression with some short text -/
def EvS (te : TE) (σ : L2.St) (H : Hp) (n : Nat) : Prop := ∀ H1, Ex H H1 → ∀ Q : VK, (∀ s : Str, s.length ≤ n → ∀ H2, Ex H1 H2 → Q (.str s) H2) → te σ H1 Q
theorem es_str {te : TE} {σ : L2.St} {H : Hp} {s : Str} {n : Nat} (h : Ev te σ H (.str s)) (hs : s.length ≤ n) : EvS te σ H n := fun H1 e Q q => h H1 e Q (q s hs)
theorem es_add {ta tb : TE} {σ : L2.St} {H : Hp} {n m k : Nat} (h1 : EvS ta σ H n) (h2 : EvS tb σ H m) (hk : n + m ≤ k) (h : k ≤ 100000) :
    EvS (tOp (fun x y H Q => ∃ i j, x = V.str i ∧ y = V.str j ∧ i.length + j.length ≤ sizeLine ∧ Q (V.str (i ++ j)) H) ta tb) σ H k := fun H1 e Q q =>
  h1 H1 e _ fun s hs H2 e2 => h2 H2 (e.trans e2) _ fun t ht H3 e3 => ⟨s, t, rfl, rfl, sz_of (by omega), q (s ++ t) (by rw [Str.length_append]; omega) H3 (e2.trans e3)⟩
theorem es_call {sp : Sp} {ta : TA} {vs : List V} {σ : L2.St} {H : Hp} {n : Nat} (h : EvA ta σ H vs) (k : ∀ H1, Ex H H1 → ∀ Q E, RetS n H1 Q → sp vs H1 Q E) : EvS (tCall sp [] E0 ta) σ H n := fun H1 e Q q =>
  h H1 e _ fun H2 e2 => by
    have := k H2 (e.trans e2) Q E0 fun s hs H3 e3 => q s hs H3 (e2.trans e3)
    show sp (vs ++ []) H2 Q E0
    rw [List.append_nil]; exact this
theorem cutS_len {z : Str} {lo hi : Option Int} : (cutS z lo hi).length ≤ z.length := by
  have e : ((z.cps.toList.drop (HT.sIx z.length 0 lo)).take (HT.sIx z.length z.length hi - HT.sIx z.length 0 lo)).length ≤ z.length := by
    rw [List.length_take, List.length_drop, Array.length_toList]
    show min _ (z.length - _) ≤ _
    omega
  exact e
theorem es_cut {ta : TE} {tl th : TO} {σ : L2.St} {H : Hp} {z : Str} {lo hi : Option Int} (h : Ev ta σ H (.str z)) (hl : EvO tl σ H lo) (hh : EvO th σ H hi) (hz : z.length ≤ 100000) : EvS (tSl rSlS ta tl th) σ H z.length := fun H1 e Q q =>
  h H1 e _ fun H2 e2 => hl H2 (e.trans e2) _ fun H3 e3 => hh H3 ((e.trans e2).trans e3) _ fun H4 e4 => ⟨z, rfl, sz_of hz, q _ cutS_len H4 ((e2.trans e3).trans e4)⟩
theorem s_retS {te : TE} {σ : L2.St} {H : Hp} {D : Ends} {n : Nat} (h : EvS te σ H n) (k : ∀ s : Str, s.length ≤ n → ∀ H1, Ex H H1 → D.rt (.str s) H1) : tRet te D σ H := h H (Ex.refl H) _ fun s hs H1 e1 => k s hs H1 e1
theorem q_asgS {te : TE} {σ : L2.St} {H : Hp} {D : Ends} {tz : TS} {i n : Nat} (h : EvS te σ H n) (k : ∀ s : Str, s.length ≤ n → ∀ H1, Ex H H1 → tz D (σ.set i (some (.str s))) H1) : tSeq (tAsg te (gName i)) tz D σ H :=
  h H (Ex.refl H) _ fun s hs H1 e1 => k s hs H1 e1
theorem ev_lenS {ta : TE} {σ : L2.St} {H : Hp} {z : Str} (h : Ev ta σ H (.str z)) (hz : z.length ≤ 100000) : Ev (tCB (fun xs H Q => ∃ z, xs = [V.str z] ∧ z.length ≤ sizeLine ∧ Q (V.int z.length) H) (tCons ta tNil)) σ H (.int (z.length : Int)) := fun H1 e Q q =>
  h H1 e _ fun H2 e2 => ⟨z, rfl, sz_of hz, q H2 e2⟩
theorem strip_len {a : Str} : (Txt.strip a).length ≤ a.length := by
  unfold Txt.strip Txt.stripBy
  split
  · exact Nat.le_refl _
  · exact PyProof.Rows.sub_short a _ _
theorem es_strip {ta : TE} {σ : L2.St} {H : Hp} {n : Nat} (h : EvS ta σ H n) (hn : n ≤ 100000) : EvS (tM0 (fun x xs H Q => ∃ a, x = V.str a ∧ xs = [] ∧ a.length ≤ sizeLine ∧ Q (V.str (Txt.strip a)) H) ta) σ H n := fun H1 e Q q =>
  h H1 e _ fun s hs H2 e2 => ⟨⟨s, rfl⟩, s, rfl, rfl, sz_of (by omega), q _ (Nat.le_trans strip_len hs) H2 e2⟩
theorem es_ix {ta tb : TE} {σ : L2.St} {H : Hp} {z : Str} {i : Int} (h1 : Ev ta σ H (.str z)) (h2 : Ev tb σ H (.int i)) (h0 : 0 ≤ i) (hi : i < (z.length : Int)) (hz : z.length ≤ 100000) : EvS (tOp rIxS ta tb) σ H 1 := fun H1 e Q q => by
  obtain ⟨k, rfl⟩ := Int.eq_ofNat_of_zero_le h0
  have hk : k < z.cps.toList.length := by rw [Array.length_toList]; show k < z.length; omega
  exact h1 H1 e _ fun H2 e2 => h2 H2 (e.trans e2) _ fun H3 e3 => ⟨z, (k : Int), z.cps.toList[k], rfl, rfl, sz_of hz, atI_nat (List.getElem?_eq_getElem hk), q ⟨#[z.cps.toList[k]]⟩ (Nat.le_refl 1) H3 (e2.trans e3)⟩
def shortAll (n : Nat) (xs : List V) : Bool := xs.all fun v => match v with | .str s => decide (s.length ≤ n) | _ => false
theorem es_ixL {K : PySem.W.Frag} {ta tb : TE} {σ : L2.St} {H : Hp} {g : Addr} {xs : List V} {i : Int} {n : Nat} (h1 : Ev ta σ H (.ref g)) (h2 : Ev tb σ H (.int i)) (hs : SqL K H g xs) (h0 : 0 ≤ i) (hi : i < (xs.length : Int)) (sh : shortAll n xs = true) :
    EvS (tOp (rIxL K) ta tb) σ H n := fun H1 e Q q => by
  obtain ⟨k, rfl⟩ := Int.eq_ofNat_of_zero_le h0
  have hk : k < xs.length := by omega
  have sk := List.all_eq_true.mp sh xs[k] (List.getElem_mem hk)
  refine h1 H1 e _ fun H2 e2 => h2 H2 (e.trans e2) _ fun H3 e3 => ⟨g, xs, (k : Int), xs[k], rfl, rfl, ex_l ((e.trans e2).trans e3) hs, atI_nat (List.getElem?_eq_getElem hk), ?_⟩
  generalize xs[k] = v at *
  cases v with
  | str s => exact q s (of_decide_eq_true sk) H3 (e2.trans e3)
  | _ => exact Bool.noConfusion sk
theorem ev_call1L {σ : L2.St} {H : Hp} {tb : TE} {sp : Sp} {v : V} {xs : List V} (h2 : EvL tb σ H xs) (hs : ∀ p H1, H1 p = some (.lst xs) → Ex H H1 → SpV sp ([.ref p] ++ []) H1 v) : Ev (tCall sp [] E0 (tCons tb tNil)) σ H v := fun H1 e Q q =>
  h2 H1 e _ fun p H3 hp e3 hh => hs p H3 hh (e.trans e3) H3 (Ex.refl H3) Q (fun H4 e4 => q H4 (e3.trans e4)) E0
theorem Nums.sub {cs xs : List Int} (h : Nums cs) (hl : xs.length ≤ 14) (hm : ∀ x ∈ xs, x ∈ cs) : Nums xs := ⟨hl, fun x hx => h.2 x (hm x hx)⟩
/-! a sign many times -/
theorem rep_size {a : Array Nat} (h : a.size = 1) : ∀ (n : Nat) (b : Array Nat), ((List.replicate n a).foldl (· ++ ·) b).size = b.size + n
  | 0, b => rfl
  | n + 1, b => by
    show ((List.replicate n a).foldl (· ++ ·) (b ++ a)).size = _
    rw [rep_size h n, Array.size_append]; omega
theorem op_mulS {X : Cx} : OpR X (binaryOp .Mult) (fun x y H Q => ∃ (a : Str) (n : Int), x = .str a ∧ y = .int n ∧ a.length = 1 ∧ 2 ≤ n ∧ n ≤ 1000 ∧ ∀ s : Str, s.length ≤ 1000 → Q (.str s) H) := by
  intro pins s σ H x y v u Q I rx ry h
  obtain ⟨a, n, rfl, rfl, ha, h0, h1, q⟩ := h
  obtain ⟨t, rfl⟩ := rx
  obtain ⟨t', rfl⟩ := ry
  have l : (⟨(List.replicate n.toNat a.cps).foldl (· ++ ·) #[]⟩ : Str).length = n.toNat := by
    show ((List.replicate n.toNat a.cps).foldl (· ++ ·) #[]).size = _
    rw [rep_size ha]; simp
  refine P.mul_str (by rw [decide_eq_false (by omega), decide_eq_false (by omega)]; rfl) (fun _ _ => ?_) (fun _ _ => ?_) ?_
  · rw [ha]
    have : (1000 : Int) ≤ (2 ^ 63 - 1) / n := by
      refine (Int.le_ediv_iff_mul_le (by omega)).mpr ?_
      omega
    omega
  · rw [ha]
    unfold Builtin.Str.tooLong
    exact decide_eq_false (by have := sz_of (n := 1 * n.toNat) (by omega); omega)
  · rw [if_neg (by omega), if_neg (by rw [ha]; simp; omega)]
    exact ⟨by rw [l]; exact sz_of (by omega), ⟨V.str _, H, I.tok _, ⟨_, rfl⟩, q _ (by rw [l]; omega)⟩⟩
theorem es_mul {ta tb : TE} {σ : L2.St} {H : Hp} {a : Str} {n : Int} (h1 : Ev ta σ H (.str a)) (h2 : Ev tb σ H (.int n)) (ha : a.length = 1) (h0 : 2 ≤ n) (hn : n ≤ 1000) :
    EvS (tOp (fun x y H Q => ∃ (a : Str) (n : Int), x = .str a ∧ y = .int n ∧ a.length = 1 ∧ 2 ≤ n ∧ n ≤ 1000 ∧ ∀ s : Str, s.length ≤ 1000 → Q (.str s) H) ta tb) σ H 1000 := fun H1 e Q q =>
  h1 H1 e _ fun H2 e2 => h2 H2 (e.trans e2) _ fun H3 e3 => ⟨a, n, rfl, rfl, ha, h0, hn, fun s hs => q s hs H3 (e2.trans e3)⟩
end My

namespace My
open PySem PySem.Spec PyProof.Rows L2 Evl

/-! ### k09: what a text's numbers are -/
def figs (w : Str) : Bool := w.cps.toList.all fun c => decide (c ∈ ("0123456789" : Str).cps.toList)
def wordOk (w : Str) : Bool := !decide (w = "") && (decide (w.length ≤ 61) && (!decide (w.cps.toList.head? = some 48) && figs w))
def valW (w : Str) : Int := ((NumText.digitsVal w.cps.toList : Nat) : Int)
def wordsOf (line : Str) : List Str := Txt.split line " "
def numsOf (line : Str) : Option (List Int) := if (wordsOf line).all wordOk = true then some ((wordsOf line).map valW) else none
theorem fig_list : ("0123456789" : Str).cps.toList = [48, 49, 50, 51, 52, 53, 54, 55, 56, 57] := by decide +kernel
theorem figs_digits {w : Str} (h : figs w = true) : NumText.AllDigits w.cps.toList := fun c hc => by
  have := of_decide_eq_true (List.all_eq_true.mp h c hc)
  rw [fig_list] at this
  simp only [List.mem_cons, List.not_mem_nil, or_false] at this
  omega
theorem val_text {w : Str} (h : wordOk w = true) : intText? w = some (valW w) ∧ w.length ≤ 61 := by
  unfold wordOk at h
  simp only [Bool.and_eq_true] at h
  obtain ⟨h1, h2, h3, h4⟩ := h
  have l := of_decide_eq_true h2
  refine ⟨intText_digits (figs_digits h4) (fun z => ?_) (by omega), l⟩
  have e : w = "" := by
    have : w.cps = #[] := by
      have := congrArg List.toArray z
      simpa using this
    cases w with
    | mk c =>
      have e : c = #[] := this
      rw [e]; decide +kernel
  rw [e] at h1
  simp at h1
theorem nums_some {line : Str} {ns : List Int} (h : numsOf line = some ns) : (wordsOf line).all wordOk = true ∧ ns = (wordsOf line).map valW := by
  unfold numsOf at h
  by_cases c : (wordsOf line).all wordOk = true
  · rw [if_pos c] at h; exact ⟨c, (Option.some.inj h).symm⟩
  · rw [if_neg c] at h; cases h
theorem nums_len {line : Str} {ns : List Int} (h : numsOf line = some ns) : 1 ≤ ns.length ∧ ns.length ≤ line.length + 2 := by
  rw [(nums_some h).2, List.length_map]
  exact ⟨PyProof.Rows.split_pos _ _, PyProof.Rows.split_le _ _⟩
theorem s_forS {te : TE} {g : TG} {tu : TS} {D : Ends} {σ : L2.St} {H : Hp} {x : Str} (h : Ev te σ H (.str x)) (Pv : Nat → L2.St → Hp → Prop) (h0 : ∀ H1, Ex H H1 → Pv 0 σ H1)
    (hs : ∀ i c σ' H', x.cps.toList[i]? = some c → Pv i σ' H' → g (.str ⟨#[c]⟩) σ' H' fun σ2 H2 => tu { D with nx := Pv (i + 1), ct := Pv (i + 1), bk := D.nx } σ2 H2) (hd : ∀ σ' H', Pv x.cps.toList.length σ' H' → D.nx σ' H') : tFor (iStr te) g tu D σ H :=
  h H (Ex.refl H) _ fun H1 e => ⟨x, rfl, fun i m σ H => m = x.cps.toList.length - i ∧ i ≤ x.cps.toList.length ∧ Pv i σ H, ⟨x.cps.toList.length, by simp, Nat.zero_le _, h0 H1 e⟩, by
    rintro i m σ' H' ⟨rfl, hi, p⟩
    by_cases c : i = x.cps.toList.length
    · exact .inl ⟨by show x.cps.size ≤ i; rw [c]; simp, hd σ' H' (by rw [← c]; exact p)⟩
    · have lt : i < x.cps.toList.length := by omega
      refine .inr ⟨by show i < x.cps.size; simpa using lt, Pv (i + 1), fun σ2 H2 p2 => ⟨x.cps.toList.length - (i + 1), by omega, rfl, by omega, p2⟩, ?_⟩
      rintro v H2 ⟨rfl, cc, hc, rfl⟩
      exact hs i cc σ' H2 (by rw [Array.getElem?_toList]; exact hc) p⟩
theorem q_forS {te : TE} {g : TG} {tu tz : TS} {D : Ends} {σ : L2.St} {H : Hp} {x : Str} (h : Ev te σ H (.str x)) (Pv : Nat → L2.St → Hp → Prop) (h0 : ∀ H1, Ex H H1 → Pv 0 σ H1)
    (hs : ∀ i c σ' H', x.cps.toList[i]? = some c → Pv i σ' H' → g (.str ⟨#[c]⟩) σ' H' fun σ2 H2 => tu { D with nx := Pv (i + 1), ct := Pv (i + 1), bk := tz D } σ2 H2) (hd : ∀ σ' H', Pv x.cps.toList.length σ' H' → tz D σ' H') : tSeq (tFor (iStr te) g tu) tz D σ H :=
  s_forS (D := { D with nx := tz D }) h Pv h0 hs hd
theorem el_split {ta tb : TE} {σ : L2.St} {H : Hp} {a b : Str} (h1 : Ev ta σ H (.str a)) (h2 : Ev tb σ H (.str b)) (hb : (b.length == 0) = false) (ha : a.length + 2 ≤ 100000) :
    EvL (tM1 (fun x xs H Q => ∃ a b, x = V.str a ∧ xs = [V.str b] ∧ (b.length == 0) = false ∧ a.length + 2 ≤ sizeLine ∧ rNewStrs (Txt.split a b) H Q) ta tb) σ H ((Txt.split a b).map V.str) := fun H1 e Q q =>
  h1 H1 e _ fun H2 e2 => ⟨⟨a, rfl⟩, h2 H2 (e.trans e2) _ fun H3 e3 => ⟨a, b, rfl, rfl, hb, sz_of ha, fun p hp => q p _ (fresh_back (e2.trans e3) hp) ((e2.trans e3).trans (Ex.new hp)) upd_same⟩⟩
theorem rv_notIn {H : Hp} {c : Nat} {z : Str} : RV (fun x y H Q => ∃ (c : Nat) (z : Str), x = V.str ⟨#[c]⟩ ∧ y = V.str z ∧ Q (V.bl (!decide (c ∈ z.cps.toList))) H) (.str ⟨#[c]⟩) (.str z) H (.bl (!decide (c ∈ z.cps.toList))) := fun H1 _ _ q => ⟨c, z, rfl, rfl, q H1 (Ex.refl H1)⟩
theorem ev_intS {ta : TE} {σ : L2.St} {H : Hp} {w : Str} {n : Int} (h : Ev ta σ H (.str w)) (hn : intText? w = some n) (hl : w.length ≤ 640) :
    Ev (tCB (fun xs H Q => ∃ a n, xs = [V.str a] ∧ PySem.intText? a = some n ∧ a.length ≤ 640 ∧ Q (V.int n) H) (tCons ta tNil)) σ H (.int n) := fun H1 e Q q => h H1 e _ fun H2 e2 => ⟨w, n, rfl, hn, hl, q H2 e2⟩
theorem str_at {ys : List Str} {i : Nat} {x : V} (h : (ys.map V.str)[i]? = some x) : ∃ (hi : i < ys.length), x = V.str ys[i] := by
  rw [List.getElem?_map] at h
  cases e : ys[i]? with
  | none => rw [e] at h; cases h
  | some w =>
    rw [e] at h
    obtain ⟨hi, e2⟩ := List.getElem?_eq_some_iff.mp e
    exact ⟨hi, by rw [e2]; exact (Option.some.inj h).symm⟩
def spNumbers : Sp := fun vs H Q _ => ∃ s : Str, vs = [.str s] ∧ s.length ≤ 6000 ∧ (numsOf s = none → RetV .non H Q) ∧ (∀ ns, numsOf s = some ns → RetL (ns.map V.int) H Q)
def spGoodN (K : PySem.W.Frag) : Sp := fun vs H Q _ => ∃ (a : Addr) (L : List Int), vs = [.ref a] ∧ SqL K H a (L.map V.int) ∧ 1 ≤ L.length ∧ L.length ≤ 7000 ∧ (RowP L → RetV (.bl true) H Q) ∧ (¬ RowP L → RetV (.bl false) H Q)
theorem spv_goodN {K : PySem.W.Frag} {H : Hp} {a : Addr} {L : List Int} {b : Bool} (ha : SqL K H a (L.map V.int)) (h1 : 1 ≤ L.length) (h2 : L.length ≤ 7000) (yes : RowP L → b = true) (no : ¬ RowP L → b = false) :
    SpV (spGoodN K) ([.ref a] ++ []) H (.bl b) := fun H1 e Q q E => ⟨a, L, rfl, ex_l e ha, h1, h2, fun g => by have e := yes g; subst e; exact q, fun g => by have e := no g; subst e; exact q⟩
def GoodT (s : Str) : Prop := ∃ ns, numsOf s = some ns ∧ RowP ns
def spRead (AT AR : Addr) : Sp := fun vs H Q E => ∃ s : Str, vs = [.str s] ∧ s.length ≤ 6000 ∧ (∀ ns, numsOf s = some ns → RowP ns → RetL (ns.map V.int) H Q) ∧
  (numsOf s = none → ∀ H', Ex H H' → E (.ref AT) none H') ∧ (∀ ns, numsOf s = some ns → ¬ RowP ns → ∀ H', Ex H H' → E (.ref AR) none H')
def spReadRef : Sp := fun vs H Q _ => ∃ (s : Str) (b : Bool), vs = [.str s, .bl b] ∧ s.length ≤ 6000 ∧ ((numsOf s = none ∧ b = false) ∨ ∃ ns, numsOf s = some ns ∧ ¬ RowP ns ∧ b = true) ∧ RetV (.bl true) H Q
def spReadAny : Sp := fun vs H Q _ => ∃ (s : Str), vs = [.str s] ∧ s.length ≤ 6000 ∧ (GoodT s → RetV (.bl false) H Q) ∧ (¬ GoodT s → RetV (.bl true) H Q)
theorem spv_readRef {H : Hp} {s : Str} {b : Bool} (hl : s.length ≤ 6000) (h : (numsOf s = none ∧ b = false) ∨ ∃ ns, numsOf s = some ns ∧ ¬ RowP ns ∧ b = true) : SpV spReadRef ([.str s, .bl b] ++ []) H (.bl true) := fun H1 e Q q E => ⟨s, b, rfl, hl, h, q⟩
theorem spv_readAnyT {H : Hp} {s : Str} (hl : s.length ≤ 6000) (h : ¬ GoodT s) : SpV spReadAny ([.str s] ++ []) H (.bl true) := fun H1 e Q q E => ⟨s, rfl, hl, fun g => absurd g h, fun _ => q⟩
theorem spv_readAnyF {H : Hp} {s : Str} (hl : s.length ≤ 6000) (h : GoodT s) : SpV spReadAny ([.str s] ++ []) H (.bl false) := fun H1 e Q q E => ⟨s, rfl, hl, fun _ => q, fun n => absurd h n⟩
theorem q_read {AT AR : Addr} {s : Str} {ns : List Int} {σ : L2.St} {H : Hp} {D : Ends} {tz : TS} {i : Nat} {ta : TA} (ea : EvA ta σ H [.str s]) (hl : s.length ≤ 6000) (hn : numsOf s = some ns) (g : RowP ns)
    (k : ∀ p H1, H p = none → Ex H H1 → H1 p = some (.lst (ns.map V.int)) → tz D (σ.set i (some (.ref p))) H1) :
    tSeq (tAsg (tCall (spRead AT AR) [] E0 ta) (gName i)) tz D σ H := ea H (Ex.refl H) _ fun H1 e1 =>
  ⟨s, rfl, hl, fun ns' hn' _ p H2 hp e2 h2 => by
      rw [hn] at hn'
      cases hn'
      exact k p H2 (fresh_back e1 hp) (e1.trans e2) h2,
    fun z => (by rw [hn] at z; cases z), fun ns' hn' bad => by
      rw [hn] at hn'
      cases hn'
      exact absurd g bad⟩
end My

namespace My
open PySem PySem.Spec PyProof.Rows L2 Evl

/-! ### the program's trials -/
theorem p62 {x : Int} (h : x ≤ 10 ^ 62) : x < 2 ^ 500 := Int.lt_of_le_of_lt h (by decide +kernel)
def spWorthW (K : PySem.W.Frag) (A : Addr) : Sp := fun vs H Q E => ∃ (a b : Addr) (cs ws : List Int), vs = [.ref a, .ref b] ∧
  SqL K H a (cs.map V.int) ∧ SqL K H b (ws.map V.int) ∧ (∀ c ∈ cs, 0 ≤ c ∧ c ≤ 10 ^ 60) ∧ (∀ x ∈ ws, x ≤ 10 ^ 62) ∧
  (GoodWay cs ws → RetV (.int (Coin.wsum (gd cs) (gd ws) cs.length)) H Q) ∧ (¬ GoodWay cs ws → ∀ H', Ex H H' → E (.ref A) none H')
theorem spv_worthW {K : PySem.W.Frag} {H : Hp} {A a b : Addr} {cs ws : List Int} (ha : SqL K H a (cs.map V.int)) (hb : SqL K H b (ws.map V.int)) (R : RowL cs) (hl : ws.length = cs.length) (hw : ∀ x ∈ ws, 0 ≤ x ∧ x ≤ 10 ^ 60) :
    SpV (spWorthW K A) ([.ref a, .ref b] ++ []) H (.int (wor cs ws)) := fun H1 e Q q E => ⟨a, b, cs, ws, rfl, ex_l e ha, ex_l e hb, R.bound, fun x hx => Int.le_trans (hw x hx).2 (by decide), fun _ => q, fun n => absurd ⟨hl, fun x hx => (hw x hx).1⟩ n⟩
/-- trials gathered in a list at f, all of it new since H0 -/
def Gath (H0 H : Hp) (f : Addr) (ts : List (Int × List Int)) : Prop := ∃ tp lp, PairsAt H f ts tp lp (fun _ => False) ∧ (∀ i, i < ts.length → H0 (tp i) = none ∧ H0 (lp i) = none) ∧
  (∀ i j, i < ts.length → j < ts.length → lp i = lp j → i = j) ∧ (∀ i, i < ts.length → tp i ≠ f ∧ lp i ≠ f)
theorem Gath.mono {H0 H H' : Hp} {f : Addr} {ts : List (Int × List Int)} (h : Gath H0 H f ts) (e : Ex H H') : Gath H0 H' f ts := by
  obtain ⟨tp, lp, p, a, b, c⟩ := h
  exact ⟨tp, lp, p.mono e, a, b, c⟩
theorem Gath.nil {H0 H : Hp} {f : Addr} (h : H f = some (.lst [])) : Gath H0 H f [] := ⟨fun _ => 0, fun _ => 0, ⟨h, fun i hi => absurd hi (Nat.not_lt_zero _), fun i hi => absurd hi (Nat.not_lt_zero _)⟩, fun i hi => absurd hi (Nat.not_lt_zero _),
  fun i _ hi => absurd hi (Nat.not_lt_zero _), fun i hi => absurd hi (Nat.not_lt_zero _)⟩
theorem Gath.lst {H0 H : Hp} {f : Addr} {ts : List (Int × List Int)} (h : Gath H0 H f ts) : ∃ xs, H f = some (.lst xs) ∧ xs.length = ts.length := by
  obtain ⟨tp, lp, p, _⟩ := h
  exact ⟨_, p.lst, refs_len⟩
theorem tn_app_lt {ts : List (Int × List Int)} {t : Int × List Int} {i : Nat} (h : i < ts.length) : tn (ts ++ [t]) i = tn ts i := by
  unfold tn; rw [List.getD_eq_getElem?_getD, List.getD_eq_getElem?_getD, List.getElem?_append_left h]
theorem tn_app_eq {ts : List (Int × List Int)} {t : Int × List Int} : tn (ts ++ [t]) ts.length = t := by
  unfold tn; rw [List.getD_eq_getElem?_getD, List.getElem?_append_right (Nat.le_refl _), Nat.sub_self]; rfl
theorem Gath.snoc {H0 H H1 : Hp} {f l m : Addr} {ts : List (Int × List Int)} {w : Int} {ws : List Int} {xs : List V} (g : Gath H0 H f ts) (e0 : Ex H0 H) (e : Ex H H1) (hl : H l = none) (hm : H m = none)
    (h1 : H1 l = some (.lst (ws.map V.int))) (h2 : H1 m = some (.tup [.int w, .ref l])) (hx : H f = some (.lst xs)) : Gath H0 (upd H1 f (.lst (xs ++ [.ref m]))) f (ts ++ [(w, ws)]) := by
  obtain ⟨tp, lp, p, a, b, c⟩ := g
  have ex : xs = refs ts.length tp := by have := p.lst; rw [hx] at this; exact HO.lst.inj (Option.some.inj this)
  have lf : l ≠ f := fun z => by rw [z, hx] at hl; cases hl
  have mf : m ≠ f := fun z => by rw [z, hx] at hm; cases hm
  have old : ∀ i, i < ts.length → i ≠ ts.length := fun i hi => by omega
  obtain ⟨tp', q1, q2⟩ : ∃ tp' : Nat → Addr, tp' ts.length = m ∧ ∀ i, i < ts.length → tp' i = tp i := ⟨fun i => if i = ts.length then m else tp i, if_pos rfl, fun i hi => if_neg (old i hi)⟩
  obtain ⟨lp', r1, r2⟩ : ∃ lp' : Nat → Addr, lp' ts.length = l ∧ ∀ i, i < ts.length → lp' i = lp i := ⟨fun i => if i = ts.length then l else lp i, if_pos rfl, fun i hi => if_neg (old i hi)⟩
  have cut : ∀ {i}, i < (ts ++ [(w, ws)]).length → i = ts.length ∨ i < ts.length := fun h => by
    rw [List.length_append, List.length_singleton] at h; omega
  refine ⟨tp', lp', ⟨?_, fun i hi => ?_, fun i hi _ => ?_⟩, fun i hi => ?_, fun i j hi hj z => ?_, fun i hi => ?_⟩
  · rw [upd_same, ex]
    congr 2
    unfold refs
    rw [List.length_append, List.length_singleton, List.range_succ, List.map_append]
    congr 1
    · refine List.map_congr_left fun i hi => ?_
      rw [q2 i (List.mem_range.mp hi)]
    · show _ = [V.ref (tp' ts.length)]
      rw [q1]
  · rcases cut hi with rfl | hi'
    · rw [q1, r1, tn_app_eq, upd_ne mf]; exact h2
    · rw [q2 i hi', r2 i hi', tn_app_lt hi', upd_ne (c i hi').1]; exact e _ _ (p.tup i hi')
  · rcases cut hi with rfl | hi'
    · rw [r1, tn_app_eq, upd_ne lf]; exact h1
    · rw [r2 i hi', tn_app_lt hi', upd_ne (c i hi').2]; exact e _ _ (p.way i hi' id)
  · rcases cut hi with rfl | hi'
    · rw [q1, r1]; exact ⟨fresh_back e0 hm, fresh_back e0 hl⟩
    · rw [q2 i hi', r2 i hi']; exact a i hi'
  · have nl : ∀ k, k < ts.length → lp k ≠ l := fun k hk y => by
      have := p.way k hk id
      rw [y, hl] at this; cases this
    rcases cut hi with rfl | hi'
    · rcases cut hj with rfl | hj'
      · rfl
      · rw [r1, r2 j hj'] at z
        exact absurd z.symm (nl j hj')
    · rcases cut hj with rfl | hj'
      · rw [r1, r2 i hi'] at z
        exact absurd z (nl i hi')
      · rw [r2 i hi', r2 j hj'] at z
        exact b i j hi' hj' z
  · rcases cut hi with rfl | hi'
    · rw [q1, r1]; exact ⟨mf, lf⟩
    · rw [q2 i hi', r2 i hi']; exact c i hi'
theorem up_step {cs : List Int} {h : Nat} : trialsUp cs (h + 1) = trialsUp cs h ++ (List.range h).map (trial1 cs h) := rfl
theorem worth_top {cs : List Int} (R : RowL cs) {h l : Nat} (hh : h < cs.length) (hl : l < h) : 0 ≤ wor cs (triL cs h l) ∧ wor cs (triL cs h l) ≤ 10 ^ 61 := by
  refine ⟨wor_nonneg R (fun x hx => (tri_bound R hh x hx).1) triL_len, ?_⟩
  have t := Coin.tri_high' R.row hl hh
  rw [← wor_triL] at t
  have a : gd cs (cs.length - 1) ≤ 10 ^ 60 := R.most (cs.length - 1) (by omega)
  have b : gd cs (cs.length - 2) ≤ 10 ^ 60 := R.most (cs.length - 2) (by omega)
  omega
/-- for a, b in trials(..) -/
theorem q_forTr {K : PySem.W.Frag} {σ : L2.St} {H : Hp} {ta : TA} {g : TG} {tu tz : TS} {D : Ends} {a : Addr} {cs : List Int} (ea : EvA ta σ H [.ref a]) (ha : SqL K H a (cs.map V.int)) (R : RowL cs)
    (k : ∀ f H1 tp lp, H f = none → Ex H H1 → PairsAt H1 f (trialsL cs) tp lp (fun _ => False) → (∀ i, i < (trialsL cs).length → H (tp i) = none ∧ H (lp i) = none) →
      ∃ Pv : Nat → L2.St → Hp → Prop, Pv 0 σ H1 ∧ (∀ i σ' H', Pv i σ' H' → SqL K H' f (refs (trialsL cs).length tp)) ∧
        (∀ i σ' H', i < (trialsL cs).length → Pv i σ' H' → g (.ref (tp i)) σ' H' fun σ2 H2 => tu { D with nx := Pv (i + 1), ct := Pv (i + 1), bk := tz D } σ2 H2) ∧ (∀ σ' H', Pv (trialsL cs).length σ' H' → tz D σ' H')) :
    tSeq (tFor (iList K (tCall (spTrials K) [] E0 ta)) g tu) tz D σ H := ea H (Ex.refl H) _ fun H1 e1 =>
  ⟨a, cs, rfl, ex_l e1 ha, R, fun f H2 tp lp hf e2 ps fr inj => by
    obtain ⟨Pv, h0, hl, hs, hd⟩ := k f H2 tp lp (fresh_back e1 hf) (e1.trans e2) ps fun i hi => ⟨fresh_back e1 (fr i hi).1, fresh_back e1 (fr i hi).2⟩
    refine ⟨f, rfl, ⟨refs (trialsL cs).length tp, sq_of ps.lst⟩, for_list (D := { D with nx := tz D }) (xs := refs (trialsL cs).length tp) Pv h0 (fun i σ' H' _ p => hl i σ' H' p) (fun i x σ' H' hx p => ?_) (fun σ' H' p => hd σ' H' (by rw [refs_len] at p; exact p))⟩
    unfold refs at hx
    rw [List.getElem?_map] at hx
    by_cases lt : i < (trialsL cs).length
    · rw [List.getElem?_range lt] at hx
      have := Option.some.inj hx
      rw [← this]
      exact hs i σ' H' lt p
    · rw [List.getElem?_eq_none (by rw [List.length_range]; omega)] at hx
      cases hx⟩
theorem fold_take {cs : List Int} {ts : List (Int × List Int)} {i : Nat} (h : i < ts.length) : (ts.take (i + 1)).foldl (stepJ cs) none = stepJ cs ((ts.take i).foldl (stepJ cs) none) (tn ts i) := by
  rw [List.take_add_one, List.getElem?_eq_getElem h, List.foldl_append]
  unfold tn
  rw [List.getD_eq_getElem?_getD, List.getElem?_eq_getElem h]; rfl
theorem JAt.ex {H0 H H' : Hp} {v : V} {r : Option (Int × List Int)} (e : Ex H H') (h : JAt H0 H v r) : JAt H0 H' v r := by
  cases r with
  | none => exact h
  | some t =>
    obtain ⟨w, ws⟩ := t
    obtain ⟨p, l, a, b, c, d, d2⟩ := h
    exact ⟨p, l, a, b, c, e _ _ d, e _ _ d2⟩
theorem spl_trialN {K : PySem.W.Frag} {H : Hp} {A a : Addr} {cs : List Int} {h l : Int} {hn ln : Nat} (ha : SqL K H a (cs.map V.int)) (R : RowL cs) (eh : h = (hn : Int)) (el : l = (ln : Int)) (p1 : ln < hn) (p2 : hn < cs.length) :
    SpL (spTrial K A) ([.ref a, .int h, .int l] ++ []) H ((triL cs hn ln).map V.int) := by
  subst eh el
  have := spl_trial (A := A) (h := (hn : Int)) (l := (ln : Int)) ha R ⟨by omega, by omega, by omega⟩
  rw [Int.toNat_natCast, Int.toNat_natCast] at this
  exact this
end My

namespace My
open PySem PySem.Spec PyProof.Rows L2 Evl

/-! ### methods of an own class, by their promises: that let nothing out (Mc), that may raise (Mn) -/
structure Mc (P : Program) (w : World) (K : PySem.W.Frag) (mg : Str → Option Value) (base : Heap) (k : Nat) (C : Addr) (m : Str) (sp : Sp) : Prop where
  ex : ∃ f fd ps, Cls K C ∧ Meth K C m f ∧ FnOk P w K mg base CX0 k f fd ps sp ∧ Binds K fd ps []
structure Mn (P : Program) (w : World) (K : PySem.W.Frag) (mg : Str → Option Value) (base : Heap) (k : Nat) (C : Addr) (m : Str) (sp : Sp) : Prop where
  ex : ∃ f fd ps, Cls K C ∧ Meth K C m f ∧ FnOk P w K mg base (L2N.CX P w) k f fd ps sp ∧ Binds K fd ps []
/-- a method within a try -/
def tMethT (C : Addr) (m : Str) (sp : Sp) (E : L2.St → XK) (ta : TE) (t : TA) : TE := fun σ H Q => ta σ H fun x H1 => ∃ a dx fs, x = .ref a ∧ H1 a = some (.ins C dx fs) ∧ fs.lookup m = none ∧
  t σ H1 fun vs H2 => sp (x :: vs) H2 Q (E σ)
section
variable {X : Cx} {k : Nat} {C : Addr} {m : Str} {sp : Sp} {o e : Expr} {es : List Expr} {ta : TE} {t : TA} {apos pos : Pos}
theorem pe_mc {pl : Sem Bool} (c : Mc X.prog X.w X.K X.mg X.base k C m sp) (hr : Room k X.A) (he : PE X o ta) (ha : PA X (e :: es) t)
    (hst : starEach (e :: es) X.env = (false, eval e X.env) :: starEach es X.env := by rfl) (hpl : (backTo pos (starEach es X.env)).any (·.1) = false := by rfl)
    (ht : eval (.Call (.Attribute o m apos) (e :: es) [] pos) X.env = (do
      let ov ← eval o X.env
      standAt apos.atName
      let (f, first) ← holding [ov] (getMethod ov m pl)
      callWith pos f first (backTo pos (starEach (e :: es) X.env)) (backToKw pos (keywordEach [] X.env))) := by rfl) :
    PE X (.Call (.Attribute o m apos) (e :: es) [] pos) (tMeth C m sp [] E0 ta t) := by
  obtain ⟨f, fd, ps, cl, hm, F, b⟩ := c.ex
  exact pe_meth (pl := pl) he cl hm F hr b .nil pass0 ha hst hpl ht
theorem pe_mc0 {pl : Sem Bool} (c : Mc X.prog X.w X.K X.mg X.base k C m sp) (hr : Room k X.A) (he : PE X o ta)
    (ht : eval (.Call (.Attribute o m apos) [] [] pos) X.env = (do
      let ov ← eval o X.env
      standAt apos.atName
      let (f, first) ← holding [ov] (getMethod ov m pl)
      callWith pos f first (backTo pos (starEach [] X.env)) (backToKw pos (keywordEach [] X.env))) := by rfl) :
    PE X (.Call (.Attribute o m apos) [] [] pos) (tMeth C m sp [] E0 ta tNil) := by
  obtain ⟨f, fd, ps, cl, hm, F, b⟩ := c.ex
  exact pe_meth0 (pl := pl) he cl hm F hr b .nil pass0 ht
theorem pe_mn {pl : Sem Bool} (c : Mn X.prog X.w X.K X.mg X.base k C m sp) (hr : Room k X.A) (he : PE X o ta) (ha : PA X (e :: es) t)
    (hst : starEach (e :: es) X.env = (false, eval e X.env) :: starEach es X.env := by rfl) (hpl : (backTo pos (starEach es X.env)).any (·.1) = false := by rfl)
    (ht : eval (.Call (.Attribute o m apos) (e :: es) [] pos) X.env = (do
      let ov ← eval o X.env
      standAt apos.atName
      let (f, first) ← holding [ov] (getMethod ov m pl)
      callWith pos f first (backTo pos (starEach (e :: es) X.env)) (backToKw pos (keywordEach [] X.env))) := by rfl) :
    PE X (.Call (.Attribute o m apos) (e :: es) [] pos) (tMeth C m sp [] E0 ta t) := by
  obtain ⟨f, fd, ps, cl, hm, F, b⟩ := c.ex
  exact pe_meth (pl := pl) he cl hm F hr b .nil passN ha hst hpl ht
theorem pe_mn0 {pl : Sem Bool} (c : Mn X.prog X.w X.K X.mg X.base k C m sp) (hr : Room k X.A) (he : PE X o ta)
    (ht : eval (.Call (.Attribute o m apos) [] [] pos) X.env = (do
      let ov ← eval o X.env
      standAt apos.atName
      let (f, first) ← holding [ov] (getMethod ov m pl)
      callWith pos f first (backTo pos (starEach [] X.env)) (backToKw pos (keywordEach [] X.env))) := by rfl) :
    PE X (.Call (.Attribute o m apos) [] [] pos) (tMeth C m sp [] E0 ta tNil) := by
  obtain ⟨f, fd, ps, cl, hm, F, b⟩ := c.ex
  exact pe_meth0 (pl := pl) he cl hm F hr b .nil passN ht
theorem pe_mt {W : WX} {pl : Sem Bool} (c : Mn X.prog X.w X.K X.mg X.base k C m sp) (hr : Room k X.A) (tk : L2N.Takes X W) (he : PE X o ta) (ha : PA X (e :: es) t)
    (hst : starEach (e :: es) X.env = (false, eval e X.env) :: starEach es X.env := by rfl) (hpl : (backTo pos (starEach es X.env)).any (·.1) = false := by rfl)
    (ht : eval (.Call (.Attribute o m apos) (e :: es) [] pos) X.env = (do
      let ov ← eval o X.env
      standAt apos.atName
      let (f, first) ← holding [ov] (getMethod ov m pl)
      callWith pos f first (backTo pos (starEach (e :: es) X.env)) (backToKw pos (keywordEach [] X.env))) := by rfl) :
    PE X (.Call (.Attribute o m apos) (e :: es) [] pos) (tMethT C m sp (WE W) ta t) := by
  obtain ⟨f, fd, ps, cl, hm, F, b⟩ := c.ex
  refine ⟨fun pins s σ H Q I h => ?_⟩
  refine PySem.W.methodCall_KW (pl := pl) (thn (he.run pins s σ H _ I h) fun u s1 ⟨x, H1, I1, rx, a, dx, fs, ex, ea, l, q⟩ => ?_) ht
  subst ex
  obtain rfl : u = Value.ref a := rx
  refine getmeth_ok I1 ea cl hm l ?_
  refine PySem.W.callWith_K (first := [.ref a]) (h₀ := X.base) I.ok.mod.kin hm.kp (thn (ha.run pos pins s1 σ H1 _ I1 q) fun us s2 ⟨vs, H2, I2, r, q2⟩ => ⟨I2.kIn, ?_⟩) hst hpl
  exact run_fnS (us := .ref a :: us) (vs := .ref a :: vs) F hr b (L2N.passAt tk σ) I2 (.cons rfl r) q2
theorem pe_mt0 {W : WX} {pl : Sem Bool} (c : Mn X.prog X.w X.K X.mg X.base k C m sp) (hr : Room k X.A) (tk : L2N.Takes X W) (he : PE X o ta)
    (ht : eval (.Call (.Attribute o m apos) [] [] pos) X.env = (do
      let ov ← eval o X.env
      standAt apos.atName
      let (f, first) ← holding [ov] (getMethod ov m pl)
      callWith pos f first (backTo pos (starEach [] X.env)) (backToKw pos (keywordEach [] X.env))) := by rfl) :
    PE X (.Call (.Attribute o m apos) [] [] pos) (tMethT C m sp (WE W) ta tNil) := by
  obtain ⟨f, fd, ps, cl, hm, F, b⟩ := c.ex
  refine ⟨fun pins s σ H Q I h => ?_⟩
  refine PySem.W.methodCall_KW (pl := pl) (thn (he.run pins s σ H _ I h) fun u s1 ⟨x, H1, I1, rx, a, dx, fs, ex, ea, l, q⟩ => ?_) ht
  subst ex
  obtain rfl : u = Value.ref a := rx
  refine getmeth_ok I1 ea cl hm l ?_
  exact PySem.W.callWith_K0 (first := [.ref a]) I1.kIn hm.kp (run_fnS (us := [.ref a]) (vs := [.ref a]) F hr b (L2N.passAt tk σ) I1 (.cons rfl .nil) q)
end
end My

namespace My
open PySem PySem.Spec PyProof.Rows L2 Evl

/-! ### k08: a judge, whatever its fields: J H j F cs, a judge at j over the row cs, that stands in the places F of the heap -/
abbrev JP := Hp → Addr → (Addr → Prop) → List Int → Prop
structure JRep (C : Addr) (J : JP) : Prop where
  frame : ∀ {H H' : Hp} {j : Addr} {F : Addr → Prop} {cs : List Int}, J H j F cs → (∀ b o, F b → H b = some o → H' b = some o) → J H' j F cs
  obj : ∀ {H : Hp} {j : Addr} {F : Addr → Prop} {cs : List Int}, J H j F cs → F j ∧ ∃ dx fs, H j = some (.ins C dx fs) ∧ fs.lookup ("more" : Str) = none ∧ fs.lookup ("fewer" : Str) = none ∧ fs.lookup ("row" : Str) = none ∧ fs.lookup ("verdict" : Str) = none
  live : ∀ {H : Hp} {j : Addr} {F : Addr → Prop} {cs : List Int} {b : Addr}, J H j F cs → F b → ∃ o, H b = some o
theorem JRep.ex {C : Addr} {J : JP} (R : JRep C J) {H H' : Hp} {j : Addr} {F : Addr → Prop} {cs : List Int} (h : J H j F cs) (e : Ex H H') : J H' j F cs := R.frame h fun b o _ x => e b o x
/-- what else stood there stands as before -/
def Off (F : Addr → Prop) (H H' : Hp) : Prop := ∀ b o, H b = some o → ¬ F b → H' b = some o
def New (F F' : Addr → Prop) (H : Hp) : Prop := ∀ b, F' b → F b ∨ H b = none
def PutOk (cs : List Int) (x : Int) : Prop := cs.length < 12 ∧ gd cs (cs.length - 1) < x ∧ x ≤ 10 ^ 60
def spMRow (J : JP) : Sp := fun vs H Q _ => ∃ (j : Addr) (F : Addr → Prop) (cs : List Int), vs = [.ref j] ∧ J H j F cs ∧ RowL cs ∧ RetL (cs.map V.int) H Q
def spMVerdict (J : JP) : Sp := fun vs H Q _ => ∃ (j : Addr) (F : Addr → Prop) (cs : List Int), vs = [.ref j] ∧ J H j F cs ∧ RowL cs ∧ ∀ v H2, Ex H H2 → JAt H H2 v (judgedL cs) → Q v H2
def spMMore (J : JP) (A : Addr) : Sp := fun vs H Q E => ∃ (j : Addr) (F : Addr → Prop) (cs : List Int) (x : Int), vs = [.ref j, .int x] ∧ J H j F cs ∧ RowL cs ∧
  (PutOk cs x → ∀ F' H', J H' j F' (cs ++ [x]) → New F F' H → Off F H H' → Q .non H') ∧ (¬ PutOk cs x → ∀ H', Ex H H' → E (.ref A) none H')
def spMFewer (J : JP) (A : Addr) : Sp := fun vs H Q E => ∃ (j : Addr) (F : Addr → Prop) (cs : List Int), vs = [.ref j] ∧ J H j F cs ∧ RowL cs ∧
  (1 < cs.length → ∀ F' H', J H' j F' cs.dropLast → New F F' H → Off F H H' → Q (.int (gd cs (cs.length - 1))) H') ∧ (cs.length = 1 → ∀ H', Ex H H' → E (.ref A) none H')
/-! the law's defs -/
def spCoinBy : Sp := fun vs H Q _ => ∃ (l c : Int), vs = [.int l, .int c] ∧ 1 ≤ l ∧ l ≤ 10 ^ 60 ∧ ∀ x : Int, RetV (.int x) H Q
def spPut (J : JP) : Sp := fun vs H Q _ => ∃ (j : Addr) (F : Addr → Prop) (cs : List Int) (x : Int), vs = [.ref j, .int x] ∧ J H j F cs ∧ RowL cs ∧ PutOk cs x ∧
  ∀ F' H', J H' j F' (cs ++ [x]) → New F F' H → Off F H H' → Q (.bl true) H'
def spPutRef (J : JP) : Sp := fun vs H Q _ => ∃ (j : Addr) (F : Addr → Prop) (cs : List Int) (x : Int), vs = [.ref j, .int x] ∧ J H j F cs ∧ RowL cs ∧ ¬ PutOk cs x ∧ RetV (.bl true) H Q
def spOffRef (J : JP) : Sp := fun vs H Q _ => ∃ (j : Addr) (F : Addr → Prop) (cs : List Int), vs = [.ref j] ∧ J H j F cs ∧ RowL cs ∧ cs.length = 1 ∧ RetV (.bl true) H Q
def spDeed (J : JP) : Sp := fun vs H Q _ => ∃ (j r : Addr) (F : Addr → Prop) (cs : List Int) (c : Int), vs = [.ref j, .ref r, .int c] ∧ J H j F cs ∧ H r = some (.lst (cs.map V.int)) ∧ RowL cs ∧ ¬ F r ∧
  ∀ cs' F' H', RowL cs' → J H' j F' cs' → H' r = some (.lst (cs'.map V.int)) → New F F' H → Off (fun b => F b ∨ b = r) H H' → Q (.bl true) H'
def spIs (J : JP) : Sp := fun vs H Q _ => ∃ (j r : Addr) (F : Addr → Prop) (cs : List Int), vs = [.ref j, .ref r] ∧ J H j F cs ∧ H r = some (.lst (cs.map V.int)) ∧ RowL cs ∧ RetV (.bl true) H Q
section
variable {K : PySem.W.Frag} {C : Addr} {J : JP} {σ : L2.St} {H : Hp} {ta tb : TE} {j : Addr} {F : Addr → Prop} {cs : List Int}
theorem el_row (rep : JRep C J) (hj : Ev ta σ H (.ref j)) (h : J H j F cs) (R : RowL cs) : EvL (tMeth C "row" (spMRow J) [] E0 ta tNil) σ H (cs.map V.int) := fun H1 e Q q => hj H1 e _ fun H2 e2 => by
  have h2 := rep.ex h (e.trans e2)
  obtain ⟨_, dx, fs, o1, _, _, o3, _⟩ := rep.obj h2
  exact ⟨j, dx, fs, rfl, o1, o3, j, F, cs, rfl, h2, R, fun p H3 hp e3 h3 => q p H3 (fresh_back e2 hp) (e2.trans e3) h3⟩
/-- x = j.verdict() -/
theorem q_verdict {D : Ends} {tz : TS} {i : Nat} (rep : JRep C J) (hj : Ev ta σ H (.ref j)) (h : J H j F cs) (R : RowL cs) (k : ∀ v H1, Ex H H1 → JAt H H1 v (judgedL cs) → tz D (σ.set i (some v)) H1) :
    tSeq (tAsg (tMeth C "verdict" (spMVerdict J) [] E0 ta tNil) (gName i)) tz D σ H := hj H (Ex.refl H) _ fun H2 e2 => by
  have h2 := rep.ex h e2
  obtain ⟨_, dx, fs, o1, _, _, _, o4⟩ := rep.obj h2
  refine ⟨j, dx, fs, rfl, o1, o4, j, F, cs, rfl, h2, R, fun v H3 e3 a => k v H3 (e2.trans e3) ?_⟩
  cases hj : judgedL cs with
  | none => rw [hj] at a; exact a
  | some t =>
    obtain ⟨w, ws⟩ := t
    rw [hj] at a
    obtain ⟨p, l, a1, a2, a3, a4, a5⟩ := a
    exact ⟨p, l, a1, fresh_back e2 a2, fresh_back e2 a3, a4, a5⟩
theorem New.back {H1 : Hp} {F' : Addr → Prop} (n : New F F' H1) (e : Ex H H1) : New F F' H := fun b hb => (n b hb).imp id (fresh_back e)
theorem Off.back {H1 H' : Hp} (o : Off F H1 H') (e : Ex H H1) : Off F H H' := fun b x h => o b x (e b x h)
theorem t_more {sp : Sp} {E : L2.St → XK} {t : TA} {vs : List V} {Q : VK} (rep : JRep C J) (hj : Ev ta σ H (.ref j)) (ea : EvA t σ H vs) (h : J H j F cs) (k : ∀ H1, Ex H H1 → J H1 j F cs → sp (.ref j :: vs) H1 Q (E σ)) :
    tMethT C "more" sp E ta t σ H Q := hj H (Ex.refl H) _ fun H1 e1 => by
  have h1 := rep.ex h e1
  obtain ⟨_, dx, fs, o1, o2, _, _, _⟩ := rep.obj h1
  exact ⟨j, dx, fs, rfl, o1, o2, ea H1 e1 _ fun H2 e2 => k H2 (e1.trans e2) (rep.ex h1 e2)⟩
theorem t_fewer {sp : Sp} {E : L2.St → XK} {Q : VK} (rep : JRep C J) (hj : Ev ta σ H (.ref j)) (h : J H j F cs) (k : ∀ H1, Ex H H1 → J H1 j F cs → sp [.ref j] H1 Q (E σ)) :
    tMethT C "fewer" sp E ta tNil σ H Q := hj H (Ex.refl H) _ fun H1 e1 => by
  have h1 := rep.ex h e1
  obtain ⟨_, dx, fs, o1, _, o2, _, _⟩ := rep.obj h1
  exact ⟨j, dx, fs, rfl, o1, o2, k H1 e1 h1⟩
theorem q_fewer {A : Addr} {D : Ends} {tz : TS} {i : Nat} (rep : JRep C J) (hj : Ev ta σ H (.ref j)) (h : J H j F cs) (R : RowL cs) (l : 1 < cs.length)
    (k : ∀ F' H', J H' j F' cs.dropLast → New F F' H → Off F H H' → tz D (σ.set i (some (.int (gd cs (cs.length - 1))))) H') : tSeq (tAsg (tMeth C "fewer" (spMFewer J A) [] E0 ta tNil) (gName i)) tz D σ H := hj H (Ex.refl H) _ fun H1 e1 => by
  have h1 := rep.ex h e1
  obtain ⟨_, dx, fs, o1, _, o2, _, _⟩ := rep.obj h1
  exact ⟨j, dx, fs, rfl, o1, o2, j, F, cs, rfl, h1, R, fun _ F' H' a n o => k F' H' a (n.back e1) (o.back e1), fun z => absurd z (by omega)⟩
theorem ev_eqLR {a : Addr} {xs : List Int} (h1 : EvL ta σ H (xs.map V.int)) (h2 : ∀ H1, Ex H H1 → Ev tb σ H1 (.ref a)) (ha : SqL K H a (xs.map V.int)) : Ev (tOp (rEqD K) ta tb) σ H (.bl true) :=
  ev_opL1 h1 h2 fun p H1 hp e1 => by
    have := rv_eqD (K := K) (sq_of hp) (ex_l e1 ha)
    rw [decide_eq_true rfl] at this
    exact this
end
end My

namespace My
open PySem PySem.Spec PyProof.Rows L2 Evl
theorem gd_last {cs : List Int} {x : Int} : gd (cs ++ [x]) cs.length = x := getD_snoc
theorem snoc_of {cs : List Int} (hp : 0 < cs.length) : ∃ ds x, cs = ds ++ [x] := by
  refine ⟨cs.dropLast, cs.getLast (fun z => ?_), (List.dropLast_concat_getLast _).symm⟩
  rw [z] at hp; cases hp
theorem last_split {cs : List Int} (hp : 0 < cs.length) : cs.map V.int = cs.dropLast.map V.int ++ [.int (gd cs (cs.length - 1))] := by
  obtain ⟨ds, x, rfl⟩ := snoc_of hp
  rw [List.dropLast_concat, List.length_append, List.length_singleton, Nat.add_sub_cancel, gd_last, List.map_append]; rfl
theorem RowL.drop {cs : List Int} (R : RowL cs) (h : 1 < cs.length) : RowL cs.dropLast := by
  obtain ⟨ds, x, rfl⟩ := snoc_of (cs := cs) (by omega)
  rw [List.dropLast_concat]
  rw [List.length_append, List.length_singleton] at h
  refine ⟨by omega, by have := R.len; rw [List.length_append] at this; omega, ?_, fun k hk => ?_, fun k hk => ?_⟩
  · have := R.one; rwa [getD_snoc_lt (by omega)] at this
  · have := R.up k (by rw [List.length_append, List.length_singleton]; omega)
    rwa [getD_snoc_lt (by omega), getD_snoc_lt (by omega)] at this
  · have := R.most k (by rw [List.length_append, List.length_singleton]; omega)
    rwa [getD_snoc_lt (by omega)] at this
theorem RowL.put {cs : List Int} {x : Int} (R : RowL cs) (ok : PutOk cs x) : RowL (cs ++ [x]) := R.snoc ok.1 ok.2.1 ok.2.2
theorem set_first {cs : List Int} {x y : Int} (hp : 0 < cs.length) : (cs.map V.int ++ [V.int y]).set 0 (V.int x) = ([x] ++ cs.drop 1 ++ [y]).map V.int := by
  cases cs with
  | nil => cases hp
  | cons c r =>
    show V.int x :: (r.map V.int ++ [V.int y]) = V.int x :: ((r ++ [y]).map V.int)
    rw [List.map_append]; rfl
theorem t_andR {σ : L2.St} {H : Hp} {ta tb : TE} {Q : VK} (h : Ev ta σ H (.bl true)) (k : ∀ H1, Ex H H1 → tb σ H1 Q) : tAndV ta tb σ H Q := h H (Ex.refl H) _ fun H1 e1 => ⟨true, rfl, k H1 e1⟩
/-- a number == l.pop() -/
theorem t_eqPop {K : PySem.W.Frag} {σ : L2.St} {H : Hp} {ta tb : TE} {Q : VK} {r : Addr} {xs : List V} {x : Int} (h1 : Ev ta σ H (.int x)) (h2 : Ev tb σ H (.ref r)) (hr : H r = some (.lst (xs ++ [.int x])))
    (k : ∀ H1, Ex H H1 → Q (.bl true) (upd H1 r (.lst xs))) : tOp rEq ta (tBM0 K "list" rPop tb) σ H Q := h1 H (Ex.refl H) _ fun H1 e1 => h2 H1 e1 _ fun H2 e2 => by
  have hr2 := (e1.trans e2) _ _ hr
  refine ⟨Or.inl ⟨rfl, _, sq_of hr2⟩, r, _, .int x, rfl, rfl, hr2, ?_, ?_⟩
  · rw [List.length_append, List.length_singleton, Nat.add_sub_cancel, List.getElem?_append_right (Nat.le_refl _), Nat.sub_self]; rfl
  · rw [List.dropLast_concat]
    exact ⟨rfl, by rw [decide_eq_true rfl]; exact k H2 (e1.trans e2)⟩
end My

namespace My
open PySem PySem.Spec PyProof.Rows L2 Evl
/-- a verdict's tuple at p, its list at l -/
def TupAt (H : Hp) (p l : Addr) (w : Int) (ws : List Int) : Prop := H p = some (.tup [.int w, .ref l]) ∧ H l = some (.lst (ws.map V.int))
theorem TupAt.mono {H H' : Hp} {p l : Addr} {w : Int} {ws : List Int} (h : TupAt H p l w ws) (e : Ex H H') : TupAt H' p l w ws := ⟨e _ _ h.1, e _ _ h.2⟩
def dTup (w : Int) (ws : List Int) : PyData := .tuple [.int w, .list (ws.map .int)]
theorem shaped_tup {w : Int} {ws : List Int} : SeqAt.shaped (dTup w ws) = true := by
  have h1 := PySem.W.depthAll_ints ws
  have h2 : PyData.depth (dTup w ws) ≤ 64 := by unfold dTup; simp only [PyData.depth, PyData.depthAll]; omega
  have h3 : PyData.canLay0 (dTup w ws) = true := by unfold dTup; simp only [PyData.canLay0, PyData.canLayAll0, PySem.W.canLayAll0_ints, Bool.and_true]
  show (PyData.canLay0 (dTup w ws) && decide (PyData.depth (dTup w ws) ≤ 64)) = true
  rw [Bool.and_eq_true]
  exact ⟨h3, decide_eq_true h2⟩
theorem eqv_tup {w : Int} {ws : List Int} : PyData.eqv (dTup w ws) (dTup w ws) = true := by
  have e : PyData.eqv (.list (ws.map .int)) (.list (ws.map .int)) = true := by
    rw [show PyData.eqv (.list (ws.map .int)) (.list (ws.map .int)) = decide (ws = ws) from PySem.W.ked_eqvAll ws ws, decide_eq_true rfl]
  have i : PyData.eqv (.int w) (.int w) = true := by simp only [PyData.eqv, beq_self_eq_true]
  unfold dTup
  show (PyData.eqv (.int w) (.int w) && (PyData.eqv (.list (ws.map .int)) (.list (ws.map .int)) && true)) = true
  rw [e, i]; rfl
theorem dp_tup {K : PySem.W.Frag} {H : Hp} {p l : Addr} {w : Int} {ws : List Int} (h : TupAt H p l w ws) : Dp K H (.ref p) (dTup w ws) := .tup (st_of h.1) (.cons (.int w) (.cons (.lst (sq_of h.2) (dp_ints ws)) .nil))
theorem rv_eqP {K : PySem.W.Frag} {H : Hp} {p l p2 l2 : Addr} {w : Int} {ws : List Int} (h : TupAt H p l w ws) (h2 : TupAt H p2 l2 w ws) : RV (rEqD K) (.ref p) (.ref p2) H (.bl true) := fun H1 e Q q =>
  ⟨_, _, dp_tup (h.mono e), dp_tup (h2.mono e), shaped_tup, shaped_tup, by rw [eqv_tup]; exact q H1 (Ex.refl H1)⟩
theorem rv_neP {K : PySem.W.Frag} {H : Hp} {p l p2 l2 : Addr} {w : Int} {ws : List Int} (h : TupAt H p l w ws) (h2 : TupAt H p2 l2 w ws) : RV (rNeD K) (.ref p) (.ref p2) H (.bl false) := fun H1 e Q q =>
  ⟨_, _, dp_tup (h.mono e), dp_tup (h2.mono e), shaped_tup, shaped_tup, by rw [eqv_tup]; exact q H1 (Ex.refl H1)⟩
/-- j.verdict() == that tuple -/
theorem ev_verdictEq {K : PySem.W.Frag} {C : Addr} {J : JP} {σ : L2.St} {H : Hp} {ta tb : TE} {j p l : Addr} {F : Addr → Prop} {cs : List Int} {w : Int} {ws : List Int} (rep : JRep C J) (hj : Ev ta σ H (.ref j)) (h : J H j F cs) (R : RowL cs)
    (hv : judgedL cs = some (w, ws)) (h2 : ∀ H1, Ex H H1 → Ev tb σ H1 (.ref p)) (hp : TupAt H p l w ws) : Ev (tOp (rEqD K) (tMeth C "verdict" (spMVerdict J) [] E0 ta tNil) tb) σ H (.bl true) := fun H1 e Q q => hj H1 e _ fun H2 e2 => by
  have j2 := rep.ex h (e.trans e2)
  obtain ⟨_, dx, fs, o1, _, _, _, o4⟩ := rep.obj j2
  refine ⟨j, dx, fs, rfl, o1, o4, j, F, cs, rfl, j2, R, fun v H3 e3 a => ?_⟩
  rw [hv] at a
  obtain ⟨p', l', rfl, _, _, a4, a5⟩ := a
  have e03 := (e.trans e2).trans e3
  exact h2 H3 e03 H3 (Ex.refl H3) _ fun H4 e4 => rv_eqP (K := K) (TupAt.mono ⟨a4, a5⟩ e4) (hp.mono (e03.trans e4)) H4 (Ex.refl H4) Q fun H5 e5 => q H5 (((e2.trans e3).trans e4).trans e5)
end My

namespace My
open PySem PySem.Spec PyProof.Rows L2 Evl
/-- a new judge -/
def tMkc (J : JP) : TE := fun _ H Q => ∀ (j : Addr) (F : Addr → Prop) (H' : Hp), H j = none → J H' j F [1] → (∀ b, F b → H b = none) → Ex H H' → Q (.ref j) H'
structure Mkc (P : Program) (w : World) (K : PySem.W.Frag) (mg : Str → Option Value) (base : Heap) (k : Nat) (C : Addr) (x : Str) (J : JP) : Prop where
  ex : ∃ f fd ps spI, Mk K C f ∧ FnOk P w K mg base CX0 k f fd ps spI ∧ mg x = some (.ref C) ∧ Binds K fd ps [] ∧
    ∀ (H : Hp) (j dx : Addr) (Q : VK) (E : XK), H j = none → H dx = none → dx ≠ j → (∀ (F : Addr → Prop) (H' : Hp), J H' j F [1] → (∀ b, F b → H b = none) → Ex H H' → Q (.ref j) H') →
      spI [.ref j] (upd (upd H dx (.own j)) j (.ins C dx [])) (fun v H2 => v = .non ∧ Q (.ref j) H2) E
theorem pe_mkc {X : Cx} {k : Nat} {C : Addr} {x : Str} {J : JP} {p pos : Pos} (c : Mkc X.prog X.w X.K X.mg X.base k C x J) (hr : Room (k + 1) X.A) (hg : Gl X x) (hdb : (x == ("__debug__" : Str)) = false := by decide) :
    PE X (.Call (.Name x p) [] [] pos) (tMkc J) := by
  obtain ⟨f, fd, ps, spI, M, F, hm, b, imp⟩ := c.ex
  have pe := pe_make0 (p := p) (pos := pos) M F hr hg hm b .nil pass0 hdb
  exact ⟨fun pins s σ H Q I h => pe.run pins s σ H Q I fun j dx hj hdx ne => imp H j dx Q E0 hj hdx ne fun G H' a n e => h j G H' hj a n e⟩
/-- x = [C(), C()] -/
theorem q_judges {C : Addr} {J : JP} {σ : L2.St} {H : Hp} {D : Ends} {tz : TS} {i : Nat} (rep : JRep C J)
    (k : ∀ j0 F0 j1 F1 p H3, J H3 j0 F0 [1] → J H3 j1 F1 [1] → (∀ b, F0 b → H b = none) → (∀ b, F1 b → H b = none) → (∀ b, F0 b → ¬ F1 b) → ¬ F0 p → ¬ F1 p → H p = none → Ex H H3 → H3 p = some (.lst [.ref j0, .ref j1]) → tz D (σ.set i (some (.ref p))) H3) :
    tSeq (tAsg (tLst (tCons (tMkc J) (tCons (tMkc J) tNil))) (gName i)) tz D σ H := by
  intro j0 F0 H1 n0 a0 f0 e0 j1 F1 H2 n1 a1 f1 e1
  refine ⟨sz_of (by simp), fun p hp => ?_⟩
  have p1 : H1 p = none := fresh_back e1 hp
  have live : ∀ {b}, F0 b → ∃ o, H1 b = some o := fun h => rep.live a0 h
  have np0 : ¬ F0 p := fun z => by obtain ⟨o, h⟩ := live z; rw [p1] at h; cases h
  have np1 : ¬ F1 p := fun z => by obtain ⟨o, h⟩ := rep.live a1 z; rw [hp] at h; cases h
  exact k j0 F0 j1 F1 p _ (rep.ex a0 (e1.trans (Ex.new hp))) (rep.ex a1 (Ex.new hp)) f0 (fun b hb => fresh_back e0 (f1 b hb)) (fun b h0 h1 => by
    obtain ⟨o, h⟩ := live h0
    rw [f1 b h1] at h; cases h) np0 np1 (fresh_back (e0.trans e1) hp) ((e0.trans e1).trans (Ex.new hp)) upd_same
end My

namespace My
open PySem PySem.Spec PyProof.Rows L2 Evl
/-- two judges with their rows, all of it new since H0, and the two lists of them -/
structure Two (J : JP) (H0 H : Hp) (j0 j1 r0 r1 JL RL : Addr) (F0 F1 : Addr → Prop) (cs0 cs1 : List Int) (lj lr : List V) : Prop where
  R0 : RowL cs0
  R1 : RowL cs1
  J0 : J H j0 F0 cs0
  J1 : J H j1 F1 cs1
  h0 : H r0 = some (.lst (cs0.map V.int))
  h1 : H r1 = some (.lst (cs1.map V.int))
  n0 : H0 r0 = none
  n1 : H0 r1 = none
  f0 : ∀ b, F0 b → H0 b = none
  f1 : ∀ b, F1 b → H0 b = none
  ex : Ex H0 H
  apart : ∀ b, F0 b → ¬ F1 b
  a0 : ∀ b, b = r0 ∨ b = r1 ∨ b = JL ∨ b = RL → ¬ F0 b
  a1 : ∀ b, b = r0 ∨ b = r1 ∨ b = JL ∨ b = RL → ¬ F1 b
  r01 : r0 ≠ r1
  rl : r0 ≠ JL ∧ r0 ≠ RL ∧ r1 ≠ JL ∧ r1 ≠ RL
  jl : H JL = some (.lst lj)
  rr : H RL = some (.lst lr)
theorem Two.swap {J : JP} {H0 H : Hp} {j0 j1 r0 r1 JL RL : Addr} {F0 F1 : Addr → Prop} {cs0 cs1 : List Int} {lj lr : List V} (t : Two J H0 H j0 j1 r0 r1 JL RL F0 F1 cs0 cs1 lj lr) : Two J H0 H j1 j0 r1 r0 JL RL F1 F0 cs1 cs0 lj lr where
  R0 := t.R1
  R1 := t.R0
  J0 := t.J1
  J1 := t.J0
  h0 := t.h1
  h1 := t.h0
  n0 := t.n1
  n1 := t.n0
  f0 := t.f1
  f1 := t.f0
  ex := t.ex
  apart := fun b h1 h0 => t.apart b h0 h1
  a0 := fun b h => t.a1 b (by rcases h with h | h | h; exact .inr (.inl h); exact .inl h; exact .inr (.inr h))
  a1 := fun b h => t.a0 b (by rcases h with h | h | h; exact .inr (.inl h); exact .inl h; exact .inr (.inr h))
  r01 := t.r01.symm
  rl := ⟨t.rl.2.2.1, t.rl.2.2.2, t.rl.1, t.rl.2.1⟩
  jl := t.jl
  rr := t.rr
theorem Two.mono {C : Addr} {J : JP} {H0 H H' : Hp} {j0 j1 r0 r1 JL RL : Addr} {F0 F1 : Addr → Prop} {cs0 cs1 : List Int} {lj lr : List V} (rep : JRep C J) (t : Two J H0 H j0 j1 r0 r1 JL RL F0 F1 cs0 cs1 lj lr) (e : Ex H H') : Two J H0 H' j0 j1 r0 r1 JL RL F0 F1 cs0 cs1 lj lr :=
  { t with
    J0 := rep.ex t.J0 e
    J1 := rep.ex t.J1 e
    h0 := e _ _ t.h0
    h1 := e _ _ t.h1
    ex := t.ex.trans e
    jl := e _ _ t.jl
    rr := e _ _ t.rr }
/-- a deed of the first judge -/
theorem Two.deed {C : Addr} {J : JP} {H0 H H' : Hp} {j0 j1 r0 r1 JL RL : Addr} {F0 F1 F' : Addr → Prop} {cs0 cs1 cs' : List Int} {lj lr : List V} (rep : JRep C J) (t : Two J H0 H j0 j1 r0 r1 JL RL F0 F1 cs0 cs1 lj lr)
    (R' : RowL cs') (a : J H' j0 F' cs') (h : H' r0 = some (.lst (cs'.map V.int))) (n : New F0 F' H) (o : Off (fun b => F0 b ∨ b = r0) H H') : Two J H0 H' j0 j1 r0 r1 JL RL F' F1 cs' cs1 lj lr := by
  have notF : ∀ {b x}, H b = some x → ¬ F0 b → ¬ F' b := fun hb n0 z => by
    rcases n _ z with z | z
    · exact n0 z
    · rw [hb] at z; cases z
  have hj := t.jl
  have hr := t.rr
  have k1 := o _ _ t.h1 (fun z => z.elim (t.a0 r1 (.inr (.inl rfl))) (fun e => t.r01 e.symm))
  have kj := o _ _ hj (fun z => z.elim (t.a0 JL (.inr (.inr (.inl rfl)))) (fun e => t.rl.1 e.symm))
  have kr := o _ _ hr (fun z => z.elim (t.a0 RL (.inr (.inr (.inr rfl)))) (fun e => t.rl.2.1 e.symm))
  refine { t with
    R0 := R'
    J0 := a
    J1 := rep.frame t.J1 fun b x hb hx => o b x hx fun z => z.elim (fun f => t.apart b f hb) (fun e => t.a1 b (.inl e) hb)
    h0 := h
    h1 := k1
    f0 := fun b hb => (n b hb).elim (t.f0 b) (fresh_back t.ex)
    ex := fun b x hx => o b x (t.ex b x hx) fun z => z.elim (fun f => by rw [t.f0 b f] at hx; cases hx) (fun e => by rw [e, t.n0] at hx; cases hx)
    apart := fun b hb hb1 => (n b hb).elim (fun f => t.apart b f hb1) (fun z => by obtain ⟨x, hx⟩ := rep.live t.J1 hb1; rw [hx] at z; cases z)
    a0 := fun b hb => by
      rcases hb with rfl | rfl | rfl | rfl
      · exact notF t.h0 (t.a0 _ (.inl rfl))
      · exact notF t.h1 (t.a0 _ (.inr (.inl rfl)))
      · exact notF hj (t.a0 _ (.inr (.inr (.inl rfl))))
      · exact notF hr (t.a0 _ (.inr (.inr (.inr rfl))))
    jl := kj
    rr := kr }
end My

namespace My
open PySem PySem.Spec PyProof.Rows L2 Evl

/-! ### xs[i] += e -/
theorem pget_list {X : Cx} : PGet X (rIxL X.K) := by
  intro pins s σ H x y v u Q I rx ry h
  obtain ⟨p, xs, i, z, rfl, rfl, hq, he, q⟩ := h
  cases rx
  obtain ⟨t, rfl⟩ := ry
  obtain ⟨its, r, pl, hz⟩ := I.list hq
  obtain ⟨j, h1, h2, h3, h4, h5⟩ := atI_get he
  obtain ⟨w, ew, rw'⟩ := r.get h2
  have hl := r.length
  have hn := line63
  have fin : EP X pins σ Q w s := ⟨z, H, I, rw', q⟩
  by_cases h0 : 0 ≤ i
  · have hj : i.toNat = j := by
      rw [seqIndex_of h0 h5] at h1
      exact Option.some.inj h1
    exact wpAny_getItem_list pl.isList h0 (by omega) (by rw [hj]; simpa using ew) fin
  · have hj : (i + (its.toArray.size : Int)).toNat = j := by
      rw [seqIndex_neg (by omega) h4] at h1
      rw [List.size_toArray, ← hl]
      exact Option.some.inj h1
    exact wpAny_getItem_list_neg pl.isList (by omega) (by rw [List.size_toArray] <;> omega) (by omega) (by rw [hj]; simpa using ew) fin
section
variable {K : PySem.W.Frag} {σ : L2.St} {H : Hp} {ta tb te : TE} {D : Ends} {tz : TS} {f : Int → Int → Int}
theorem s_augL {l : Addr} {xs : List Int} {j : Nat} {b : Int} (hl : H l = some (.lst (xs.map V.int))) (ho : Ev ta σ H (.ref l)) (hi : Ev tb σ H (.int (j : Int))) (h : Ev te σ H (.int b)) (hj : j < xs.length)
    (k : ∀ H1, Ex H H1 → D.nx σ (upd H1 l (.lst ((xs.set j (f (gd xs j) b)).map V.int)))) : tAugS ta tb te (rIxL K) (ipI f) rSetL D σ H := ho H (Ex.refl H) _ fun H1 e1 => hi H1 e1 _ fun H2 e2 =>
  ⟨l, xs.map V.int, (j : Int), .int (gd xs j), rfl, rfl, sq_of ((e1.trans e2) l _ hl), gd_at hj, h H2 (e1.trans e2) _ fun H3 e3 => ⟨gd xs j, b, rfl, rfl,
    l, xs.map V.int, (j : Int), j, rfl, rfl, ((e1.trans e2).trans e3) l _ hl, ixN_nat (by rw [List.length_map]; exact hj), by
      have := k H3 ((e1.trans e2).trans e3)
      rw [← map_set] at this
      exact this⟩⟩
theorem q_augL {l : Addr} {xs : List Int} {j : Nat} {b : Int} (hl : H l = some (.lst (xs.map V.int))) (ho : Ev ta σ H (.ref l)) (hi : Ev tb σ H (.int (j : Int))) (h : Ev te σ H (.int b)) (hj : j < xs.length)
    (k : ∀ H1, Ex H H1 → tz D σ (upd H1 l (.lst ((xs.set j (f (gd xs j) b)).map V.int)))) : tSeq (tAugS ta tb te (rIxL K) (ipI f) rSetL) tz D σ H := s_augL (D := { D with nx := tz D }) hl ho hi h hj k
end

/-! ### min(xs, key=f, default=d), f an own def that gives pairs of ints -/
abbrev in1X (X : Cx) : Cx := { X with A := X.A.in1, xe := fun _ _ => False }
section
variable {X : Cx} {pins : List (Addr × Obj)} {σ : L2.St} {H : Hp} {s : Shared}
theorem inv_in1 (I : Inv X pins σ H s) : Inv (in1X X) pins σ H s :=
  ⟨⟨I.ok.mod, I.ok.kind, I.ok.glob, I.ok.blt, I.ok.above, I.ok.inj, I.ok.has, I.ok.cab, fun h => I.ok.hd h, I.ok.frames, I.ok.stk, I.ok.exf, I.ok.bs, I.ok.bsz, I.ok.noex, I.ok.exfs, I.ok.funs, I.ok.frf⟩,
    I.os, I.bare, I.base, I.loc, I.cell, I.free, I.freeC, I.pin, I.hok, I.len⟩
theorem inv_out1 (ok : X.Ok) (I : Inv (in1X X) pins σ H s) : Inv X pins σ H s :=
  ⟨ok, I.os, I.bare, I.base, I.loc, I.cell, I.free, I.freeC, I.pin, I.hok, I.len⟩
/-- a record of ours, but for what the heap knows of it -/
def Rec (X : Cx) (pins : List (Addr × Obj)) (b : Addr) : Prop :=
  b ≠ X.env.locals ∧ b ∉ X.fs ∧ (b ∈ X.ex ∨ X.s_0.heap.objs.size ≤ b) ∧ (∀ x c, X.env.cells.lookup x = some c → c ≠ b) ∧ ∀ p ∈ X.pn ++ pins, p.1 ≠ b
theorem inv_rec {b : Addr} {h' : Heap} {t' : Nat} (I : Inv X pins σ H s) (r : Rec X pins b) (hn : H b = none) (k : ∀ c o, c ≠ b → s.heap.get? c = some o → h'.get? c = some o) :
    Inv X pins σ H { s with heap := h', toks := t' } := I.turned k hn r.1 r.2.2.1 r.2.2.2.1 r.2.2.2.2
end
/-- the least of the keys, the first of several -/
def BestAt (rk : Nat → Int × Int) (n i : Nat) : Prop := (∀ j, j < n → less2 (rk j) (rk i) = false) ∧ ∀ j, j < i → less2 (rk i) (rk j) = true
def KeyOk (sp : Sp) (H0 : Hp) (xs : List V) (rk : Nat → Int × Int) : Prop := ∀ i x H', xs[i]? = some x → Ex H0 H' →
  sp ([x] ++ []) H' (fun v H'' => Ex H' H'' ∧ ∃ t, v = .ref t ∧ H'' t = some (.tup [.int (rk i).1, .int (rk i).2])) E0
theorem less2_trans {a b c : Int × Int} (h1 : less2 a b = true) (h2 : less2 b c = true) : less2 a c = true := by
  rw [less2_iff] at *; omega
theorem less2_not {a b c : Int × Int} (h1 : less2 a b = false) (h2 : less2 a c = true) : less2 b c = true := by
  rw [Bool.eq_false_iff, ne_eq, less2_iff] at h1
  rw [less2_iff] at *; omega
theorem best_step {rk : Nat → Int × Int} {n i : Nat} (h : BestAt rk n i) (hi : i < n) : if less2 (rk n) (rk i) = true then BestAt rk (n + 1) n else BestAt rk (n + 1) i := by
  by_cases c : less2 (rk n) (rk i) = true
  · rw [if_pos c]
    have low : ∀ j, j < n → less2 (rk n) (rk j) = true := fun j hj => by
      by_cases e : less2 (rk j) (rk i) = true
      · rw [h.1 j hj] at e; cases e
      · have h1 := h.1 j hj
        rw [Bool.eq_false_iff, ne_eq, less2_iff] at h1
        rw [less2_iff] at c ⊢
        omega
    refine ⟨fun j hj => ?_, low⟩
    by_cases e : j = n
    · subst e; exact less2_irrefl _
    · have := low j (by omega)
      rw [Bool.eq_false_iff, ne_eq, less2_iff]
      rw [less2_iff] at this
      omega
  · rw [if_neg c]
    refine ⟨fun j hj => ?_, h.2⟩
    by_cases e : j = n
    · subst e; exact Bool.eq_false_iff.mpr c
    · exact h.1 j (by omega)
section
variable {X : Cx} {pins : List (Addr × Obj)} {σ : L2.St} {k : Nat} {f : Addr} {fd : FuncData} {ps : List Str} {sp : Sp}
/-- one turn: the next item, its key -/
theorem minkd_key (F : FnOk X.prog X.w X.K X.mg X.base CX0 k f fd ps sp) (hr : Room (k + 1) X.A) (hb : Binds X.K fd ps [])
    {a I S : Addr} {xs : List V} {rk : Nat → Int × Int} {H0 H : Hp} {s : Shared} {items : Array Value} {c i n : Nat} {x : V} {v : Value} {Q : Value → Shared → Prop} {E : Value → Shared → Prop} {hv : List Value}
    (hSI : S ≠ I) (rS : Rec X pins S) (rI : Rec X pins I) (key : KeyOk sp H0 xs rk) (J : Inv (in1X X) pins σ H s) (e0 : Ex H0 H) (hit : s.heap.IsListIter I a n) (hS : s.heap.get? S = some (seqObj "list" items c)) (nS : H S = none) (nI : H I = none)
    (hx : xs[i]? = some x) (rx : RelV x v)
    (q : ∀ H' s' t, Inv (in1X X) pins σ H' s' → Ex H H' → s'.heap.IsListIter I a n → s'.heap.get? S = some (seqObj "list" items c) → H' S = none → H' I = none → H' t = some (.tup [.int (rk i).1, .int (rk i).2]) → Q (.ref t) s') :
    wpAny (model X.prog X.w) X.A.in1 (holding hv (call (.ref f) [v])) Q E s := by
  obtain ⟨oI, hoI, hoc, hod⟩ := id hit
  have J1 : Inv (in1X X) (pins ++ [(S, seqObj "list" items c), (I, oI)]) σ H s := J.pins_of fun p hp => by
    rcases List.mem_append.mp hp with hp | hp
    · exact J.pin p (List.mem_append_right _ hp)
    · rcases List.mem_cons.mp hp with rfl | hp
      · exact ⟨hS, nS, rS.1, rS.2.1, fun v z => by cases z⟩
      · rw [List.mem_singleton.mp hp]
        exact ⟨hoI, nI, rI.1, rI.2.1, fun v z => by rw [hod] at z; cases z⟩
  refine wpAny_holding (wpAny_mono (run_fn (X := in1X X) F hr.in1 hb .nil pass0 J1 (.cons rx .nil) (key i x H hx e0)) (fun w s'' he => ?_) fun _ _ hF => hF.elim)
  obtain ⟨y, H2, J2, ry, e2, t, rfl, ht⟩ := he
  cases ry
  have pS := J2.pin (S, seqObj "list" items c) (by simp)
  have pI := J2.pin (I, oI) (by simp)
  exact q H2 s'' t (J2.pins_of fun p hp => J2.pin p (List.mem_append_right _ (List.mem_append_left _ hp))) e2 ⟨oI, pI.1, hoc, hod⟩ pS.1 pS.2.1 pI.2.1 ht

theorem minkd_loop (F : FnOk X.prog X.w X.K X.mg X.base CX0 k f fd ps sp) (hr : Room (k + 1) X.A) (hb : Binds X.K fd ps [])
    {a I S : Addr} {xs : List V} {rk : Nat → Int × Int} {H0 : Hp} {d : Value} {R : Result → Shared → Prop} (hSI : S ≠ I) (rS : Rec X pins S) (rI : Rec X pins I) (hx0 : SqL X.K H0 a xs) (key : KeyOk sp H0 xs rk)
    (hR : ∀ i x H' v s', xs[i]? = some x → Ex H0 H' → BestAt rk xs.length i → Inv (in1X X) pins σ H' s' → RelV x v → R (.ok (.ret v)) s') :
    ∀ (r j i : Nat) (H : Hp) (s : Shared) (x : V) (vb : Value) (t : Addr) (c : Nat), xs.length - (j + 1) = r → j + 1 ≤ xs.length → Inv (in1X X) pins σ H s → Ex H0 H → s.heap.IsListIter I a (j + 1) →
      s.heap.get? S = some (seqObj "list" #[vb, .ref t] c) → H S = none → H I = none → xs[i]? = some x → RelV x vb → H t = some (.tup [.int (rk i).1, .int (rk i).2]) → i ≤ j → BestAt rk (j + 1) i →
      codeAny (model X.prog X.w) X.A (.builtin "min.loop" ⟨[.ref I, .ref f, .ref S], [(Str.ofString "default", d)]⟩) R s := by
  have hname : (toString "min" ++ toString ".loop" : String) = "min.loop" := by decide
  have hh : X.A.in1.handled = none := hr.hd
  intro r
  induction r with
  | zero =>
    intro j i H s x vb t c hr' hj J e0 hit hS nS nI hxi rx ht hij hbest
    have hin : j + 1 = xs.length := by omega
    obtain ⟨its, rv, pl, hz⟩ := J.list (ex_l e0 hx0)
    have hl := rv.length
    refine codeAny_builtin PySem.F.entry_min_loop ?_
    rw [Around.under_plainId PySem.F.plain_min_loop _]
    show wpAny _ X.A.in1 (seqItems? (.ref S) >>= _) _ _ _
    refine wpAny_bind (wpAny_seqItems hS rfl ?_)
    show wpAny _ X.A.in1 (tryCatch (pyNext (.ref I)) _ >>= _) _ _ _
    refine wpAny_bind (wpAny_tryCatch (wpAny_pyNext_list_end hh hit pl.isList (by simp; omega) fun h' eb => ?_))
    have J1 : Inv (in1X X) pins σ H { s with heap := h' } := inv_rec (X := in1X X) (t' := s.toks) J rI nI fun b o hb e => eb b o hb e
    have hS' := eb S _ hSI hS
    show wpAny _ X.A.in1 (updateSeq S (fun _ => #[]) >>= _) _ _ _
    refine wpAny_bind ?_
    refine wpAny_updateSeq hS' rfl (wpAny_bind (wpAny_letGo (wpAny_pure ?_)))
    have J2 : Inv (in1X X) pins σ H { s with heap := h'.update S (Obj.mapSeq fun _ => #[]) } := inv_rec (X := in1X X) (s := { s with heap := h' }) (t' := s.toks) J1 rS nS fun b o hb e => (Heap.get?_update_other _ _ (Ne.symm hb)).trans e
    exact hR i x H vb _ hxi e0 (by rw [← hin]; exact hbest) J2 rx
  | succ r ih =>
    intro j i H s x vb t c hr' hj J e0 hit hS nS nI hxi rx ht hij hbest
    have hlt : j + 1 < xs.length := by omega
    obtain ⟨its, rv, pl, hz⟩ := J.list (ex_l e0 hx0)
    have hl := rv.length
    obtain ⟨y, hy⟩ : ∃ y, xs[j + 1]? = some y := ⟨_, List.getElem?_eq_getElem hlt⟩
    obtain ⟨v, hv, ry⟩ := rv.get hy
    refine codeAny_builtin PySem.F.entry_min_loop ?_
    rw [Around.under_plainId PySem.F.plain_min_loop _]
    show wpAny _ X.A.in1 (seqItems? (.ref S) >>= _) _ _ _
    refine wpAny_bind (wpAny_seqItems hS rfl ?_)
    show wpAny _ X.A.in1 (tryCatch (pyNext (.ref I)) _ >>= _) _ _ _
    refine wpAny_bind (wpAny_tryCatch (wpAny_pyNext_list_item hit pl.isList (x := v) (by simpa using hv) fun h' hit' sb => ?_))
    have J1 : Inv (in1X X) pins σ H { s with heap := h' } := inv_rec (X := in1X X) (t' := s.toks) J rI nI fun b o hb e => (sb.2 b hb).trans e
    have hS1 : h'.get? S = some (seqObj "list" #[vb, .ref t] c) := (sb.2 S hSI).trans hS
    show wpAny _ X.A.in1 (tryCatch (holding [v] (call (.ref f) [v])) _ >>= _) _ _ _
    refine wpAny_bind (wpAny_tryCatch (minkd_key F hr hb hSI rS rI key J1 e0 hit' hS1 nS nI hy ry fun H2 s2 t2 J2 e2 hit2 hS2 nS2 nI2 ht2 => ?_))
    show wpAny _ X.A.in1 (tryCatch (holding [v, .ref t2] (compareOp .Lt (.ref t2) (.ref t) >>= _)) _ >>= _) _ _ _
    obtain ⟨is1, q1, p1, _⟩ := J2.tuple (st_of (K := X.K) (xs := [(rk (j + 1)).1, (rk (j + 1)).2].map V.int) ht2)
    obtain ⟨is2, q2, p2, _⟩ := J2.tuple (st_of (K := X.K) (xs := [(rk i).1, (rk i).2].map V.int) (e2 _ _ ht))
    have i1 : IntsAre is1.toArray.toList [(rk (j + 1)).1, (rk (j + 1)).2] := intsAre_of q1
    have i2 : IntsAre is2.toArray.toList [(rk i).1, (rk i).2] := intsAre_of q2
    refine wpAny_bind (wpAny_tryCatch (wpAny_holding (wpAny_bind (HT.lt_tupInts p1 p2 i1 i2 hr.in1.units0 ?_))))
    rw [lex2]
    refine wpAny_bind (wpAny_holding (wpAny_truthy_bool ?_))
    refine wpAny_bind (wpAny_letGo (wpAny_pure ?_))
    have bs := best_step hbest (show i < j + 1 by omega)
    cases hb' : less2 (rk (j + 1)) (rk i) with
    | true =>
      rw [hb', if_pos rfl] at bs
      simp only [if_true]
      refine wpAny_bind ?_
      refine wpAny_updateSeq hS2 rfl (wpAny_bind (wpAny_letGo ?_))
      rw [hname]
      obtain ⟨c2, hc2⟩ : ∃ c2, (s2.heap.update S (Obj.mapSeq fun _ => #[v, .ref t2])).get? S = some (seqObj "list" #[v, .ref t2] c2) := ⟨_, get?_update_seq hS2 fun _ => #[v, .ref t2]⟩
      have J4 : Inv (in1X X) pins σ H2 { s2 with heap := s2.heap.update S (Obj.mapSeq fun _ => #[v, .ref t2]) } := inv_rec (X := in1X X) (t' := s2.toks) J2 rS nS2 fun b o hb e => (Heap.get?_update_other _ _ (Ne.symm hb)).trans e
      have hit4 : (s2.heap.update S (Obj.mapSeq fun _ => #[v, .ref t2])).IsListIter I a (j + 1 + 1) := hit2.at fun o e => (Heap.get?_update_other _ _ hSI).trans e
      exact wpAny_pure ⟨plainId_quiet PySem.F.plain_min_loop _, ih (j + 1) (j + 1) H2 _ y v t2 c2 (by omega) hlt J4 (e0.trans e2) hit4 hc2 nS2 nI2 hy ry ht2 (Nat.le_refl _) bs⟩
    | false =>
      rw [hb', if_neg (by decide)] at bs
      simp only [Bool.false_eq_true, if_false]
      refine wpAny_bind (wpAny_letGo ?_)
      rw [hname]
      exact wpAny_pure ⟨plainId_quiet PySem.F.plain_min_loop _, ih (j + 1) i H2 _ x vb t c (by omega) hlt J2 (e0.trans e2) hit2 hS2 nS2 nI2 hxi rx (e2 _ _ ht) (by omega) bs⟩
theorem minkd_args (a v d : Value) : argsOk "min" ⟨[a], [(Str.ofString "key", v), (Str.ofString "default", d)]⟩ := by unfold argsOk; kernel_rfl
theorem minkd_bind (f : Addr) (dv : Value) : Builtin.Builtins.bindParams "min" ["key", "default"] 0 ⟨[], [(Str.ofString "key", .ref f), (Str.ofString "default", dv)]⟩ = pure [Option.some (.ref f), Option.some dv] := by kernel_rfl
/-- min(xs, key=f, default=d) -/
theorem minkd_run (F : FnOk X.prog X.w X.K X.mg X.base CX0 k f fd ps sp) (hr : Room (k + 1) X.A) (hb : Binds X.K fd ps [])
    {a : Addr} {xs : List V} {rk : Nat → Int × Int} {H : Hp} {s : Shared} {d : V} {dv : Value} {Q : VK} (I : Inv X pins σ H s) (rd : RelV d dv) (hx0 : SqL X.K H a xs) (key : KeyOk sp H xs rk)
    (none : xs = [] → Q d H) (some : ∀ i x H', xs[i]? = some x → Ex H H' → BestAt rk xs.length i → Q x H') :
    wpAny (model X.prog X.w) X.A (call (.builtin "min") [.ref a] [(Str.ofString "key", .ref f), (Str.ofString "default", dv)]) (EP X pins σ Q) X.xe s := by
  have hname : (toString "min" ++ toString ".loop" : String) = "min.loop" := by decide
  have hh : X.A.in1.handled = Option.none := hr.hd
  obtain ⟨its, rv, pl, hz⟩ := I.list hx0
  have hl := rv.length
  refine kmk_tree PySem.F.kind_min PySem.F.plain_min PySem.F.entry_min (minkd_args _ _ _) ?_
  show wpAny _ X.A.in1 (Builtin.Builtins.bindParams "min" ["key", "default"] 0 ⟨[], [(Str.ofString "key", .ref f), (Str.ofString "default", dv)]⟩ >>= _) _ _ s
  refine wpAny_bind (wpAny_of_eq (minkd_bind f dv) ?_)
  refine wpAny_bind (wpAny_pure ?_)
  refine wpAny_bind (wpAny_pyIter_list pl.isList ?_)
  refine wpAny_bind (wpAny_newList ?_ (Nat.zero_le _))
  rw [hname]
  have hS : (s.heap.push { cls := .type "list_iterator", data := .fields #[.ref a, .int 0 0] }).objs.size = s.heap.objs.size + 1 := Heap.size_push ..
  generalize hSe : (s.heap.push { cls := .type "list_iterator", data := .fields #[.ref a, .int 0 0] }).objs.size = S at *
  have hSI : S ≠ s.heap.objs.size := by rw [hS]; exact Nat.succ_ne_self _
  have gI : ((s.heap.push { cls := .type "list_iterator", data := .fields #[.ref a, .int 0 0] }).push (seqObj "list" #[] 0)).get? s.heap.objs.size = Option.some { cls := .type "list_iterator", data := .fields #[.ref a, .int 0 0] } := Heap.get?_push_of_some _ (Heap.get?_push_size _ rfl)
  have gS : ((s.heap.push { cls := .type "list_iterator", data := .fields #[.ref a, .int 0 0] }).push (seqObj "list" #[] 0)).get? S = Option.some (seqObj "list" #[] 0) := by rw [← hSe]; exact Heap.get?_push_size _ rfl
  have kp : ∀ b o, s.heap.get? b = Option.some o → ((s.heap.push { cls := .type "list_iterator", data := .fields #[.ref a, .int 0 0] }).push (seqObj "list" #[] 0)).get? b = Option.some o := fun b o e => Heap.get?_push_of_some _ (Heap.get?_push_of_some _ e)
  generalize (s.heap.push { cls := .type "list_iterator", data := .fields #[.ref a, .int 0 0] }).push (seqObj "list" #[] 0) = h2 at gI gS kp ⊢
  have I2 : Inv X pins σ H { s with heap := h2 } := I.kept (t' := s.toks) kp
  have J : Inv (in1X X) pins σ H { s with heap := h2 } := inv_in1 I2
  have nS : H S = Option.none := I.hok.fresh (by rw [hS]; exact Nat.le_succ _)
  have nI : H s.heap.objs.size = Option.none := I.hok.fresh (Nat.le_refl _)
  have rS : Rec X pins S := (I.fpOk (H' := H) (b := S) (by rw [hS]; exact Nat.le_succ _) nS).2
  have rI : Rec X pins s.heap.objs.size := (I.fpOk (H' := H) (b := s.heap.objs.size) (Nat.le_refl _) nI).2
  have hit : h2.IsListIter s.heap.objs.size a 0 := ⟨_, gI, rfl, rfl⟩
  obtain ⟨its2, rv2, pl2, _⟩ := J.list hx0
  have hl2 := rv2.length
  refine wpAny_pure ⟨plainId_quiet PySem.F.plain_min_loop _, ?_⟩
  refine codeAny_builtin PySem.F.entry_min_loop ?_
  rw [Around.under_plainId PySem.F.plain_min_loop _]
  show wpAny _ X.A.in1 (seqItems? (.ref S) >>= _) _ _ _
  refine wpAny_bind (wpAny_seqItems gS rfl ?_)
  show wpAny _ X.A.in1 (tryCatch (pyNext (.ref s.heap.objs.size)) _ >>= _) _ _ _
  by_cases e : xs = []
  · have z : its2.toArray[0]? = Option.none := by
      have z : its2.length = 0 := by rw [← hl2, e]; rfl
      rw [List.length_eq_zero_iff.mp z]; rfl
    refine wpAny_bind (wpAny_tryCatch (wpAny_pyNext_list_end hh hit pl2.isList z fun h' eb => ?_))
    have J1 : Inv (in1X X) pins σ H { s with heap := h' } := inv_rec (X := in1X X) (s := { s with heap := h2 }) (t' := s.toks) J rI nI fun b o hb e => eb b o hb e
    refine wpAny_bind (wpAny_rule (wpAny_pure ?_))
    exact ⟨d, H, inv_out1 I.ok J1, rd, none e⟩
  · have h0 : 0 < xs.length := List.length_pos_iff.mpr e
    obtain ⟨y, hy⟩ : ∃ y, xs[0]? = Option.some y := ⟨_, List.getElem?_eq_getElem h0⟩
    obtain ⟨v, hv, ry⟩ := rv2.get hy
    refine wpAny_bind (wpAny_tryCatch (wpAny_pyNext_list_item hit pl2.isList (x := v) (by simpa using hv) fun h' hit' sb => ?_))
    have J1 : Inv (in1X X) pins σ H { s with heap := h' } := inv_rec (X := in1X X) (s := { s with heap := h2 }) (t' := s.toks) J rI nI fun b o hb e => (sb.2 b hb).trans e
    have hS1 : h'.get? S = Option.some (seqObj "list" #[] 0) := (sb.2 S hSI).trans gS
    show wpAny _ X.A.in1 (tryCatch (holding [v] (call (.ref f) [v])) _ >>= _) _ _ _
    refine wpAny_bind (wpAny_tryCatch (minkd_key F hr hb hSI rS rI key J1 (Ex.refl H) hit' hS1 nS nI hy ry fun H2 s2 t2 J2 e2 hit2 hS2 nS2 nI2 ht2 => ?_))
    show wpAny _ X.A.in1 (updateSeq S (fun _ => #[v, .ref t2]) >>= _) _ _ _
    refine wpAny_bind ?_
    refine wpAny_updateSeq hS2 rfl ?_
    rw [hname]
    obtain ⟨c2, hc2⟩ : ∃ c2, (s2.heap.update S (Obj.mapSeq fun _ => #[v, .ref t2])).get? S = Option.some (seqObj "list" #[v, .ref t2] c2) := ⟨_, get?_update_seq hS2 fun _ => #[v, .ref t2]⟩
    have J4 : Inv (in1X X) pins σ H2 { s2 with heap := s2.heap.update S (Obj.mapSeq fun _ => #[v, .ref t2]) } := inv_rec (X := in1X X) (t' := s2.toks) J2 rS nS2 fun b o hb e => (Heap.get?_update_other _ _ (Ne.symm hb)).trans e
    have hit4 : (s2.heap.update S (Obj.mapSeq fun _ => #[v, .ref t2])).IsListIter s.heap.objs.size a (0 + 1) := hit2.at fun o e => (Heap.get?_update_other _ _ hSI).trans e
    refine wpAny_pure ⟨plainId_quiet PySem.F.plain_min_loop _, minkd_loop F hr hb hSI rS rI hx0 key (fun i x H' w s' hx ex best J' rw' => ?_) _ 0 0 H2 _ y v t2 c2 rfl h0 J4 e2 hit4 hc2 nS2 nI2 hy ry ht2 (Nat.le_refl _) ⟨fun j hj => ?_, fun j hj => absurd hj (Nat.not_lt_zero _)⟩⟩
    · exact ⟨x, H', inv_out1 I.ok J', rw', some i x H' hx ex best⟩
    · have e : j = 0 := by omega
      subst e; exact less2_irrefl _
end
/-- the reading of min(xs, key=f, default=None) -/
def tMinKD (K : PySem.W.Frag) (sp : Sp) (te : TE) : TE := fun σ H Q => te σ H fun x H1 => ∃ (a : Addr) (xs : List V) (rk : Nat → Int × Int), [x] = [.ref a] ∧ SqL K H1 a xs ∧ KeyOk sp H1 xs rk ∧ (xs = [] → Q .non H1) ∧
  ∀ i x H', xs[i]? = some x → Ex H1 H' → BestAt rk xs.length i → Q x H'
theorem pe_minKD {X : Cx} {k : Nat} {y : Str} {sp : Sp} {p p2 p3 p4 p5 pos : Pos} {j : Nat} {e : Expr} {te : TE} (c : Cl X.prog X.w X.K X.mg X.base k y sp) (hr : Room (k + 1) X.A) (hgy : Gl X y) (hm : X.mg "min" = none) (hg : Gl X "min") (he : PE X e te)
    (hdb : (y == ("__debug__" : Str)) = false := by decide)
    (hst : starEach [e] X.env = (false, eval e X.env) :: starEach [] X.env := by rfl)
    (hs1 : backTo pos (starEach [e] X.env) = (false, eval e X.env) :: backTo pos (starEach [] X.env) := by rfl) (hpl : (backTo pos (starEach [e] X.env)).any (·.1) = false := by rfl)
    (hall : (backToKw pos (keywordEach [⟨some "key", .Name y p2, p3⟩, ⟨some "default", .Constant .none j p4, p5⟩] X.env)).all (·.1.isSome) = true := by rfl)
    (hnone : (backToKw pos (keywordEach [⟨some "key", .Name y p2, p3⟩, ⟨some "default", .Constant .none j p4, p5⟩] X.env)).any (·.1.isNone) = false := by rfl)
    (hks : (backToKw pos (keywordEach [⟨some "key", .Name y p2, p3⟩, ⟨some "default", .Constant .none j p4, p5⟩] X.env)).filterMap (·.1) = [Str.ofString "key", Str.ofString "default"] := by rfl) :
    PE X (.Call (.Name "min" p) [e] [⟨some "key", .Name y p2, p3⟩, ⟨some "default", .Constant .none j p4, p5⟩] pos) (tMinKD X.K sp te) := by
  obtain ⟨f, fd, ps, F, hmy, kp, b⟩ := c.ex
  have hk : PK X [⟨some "key", .Name y p2, p3⟩, ⟨some "default", .Constant .none j p4, p5⟩] (tCons (tC (.ref f)) (tCons (tC .non) tNil)) := pk_cons (pe_glob (v := .ref f) hgy hmy rfl hdb) (pk_cons pe_non pk_nil)
  refine ⟨fun pins s σ H Q I h => ?_⟩
  refine wpAny_Call_Name_kw (ld_blt (u := .builtin "min") I hg hm (by decide +kernel) ?_ (by decide) (by decide))
  refine PyProof.Rows.callWith_kw (thn ((pa_cons he pa_nil hst).run pos pins s σ H (fun vs H1 => ∃ (a : Addr) (xs : List V) (rk : Nat → Int × Int), vs = [.ref a] ∧ SqL X.K H1 a xs ∧ KeyOk sp H1 xs rk ∧ (xs = [] → Q .non H1) ∧
      ∀ i x H', xs[i]? = some x → Ex H1 H' → BestAt rk xs.length i → Q x H') I h) fun us s1 ⟨vs, H1, I1, r1, q1⟩ => thn (hk.run pos pins s1 σ H1 (fun zs H2 => zs = [.ref f, .non] ∧ H2 = H1) I1 ⟨rfl, rfl⟩) fun ws s2 ⟨zs, H2, I2, r2, q2⟩ => ?_) hs1 hpl hall hnone
  rw [hks]
  obtain ⟨rfl, rfl⟩ := q2
  obtain ⟨a, xs, rk, rfl, hs, key, q0, q3⟩ := q1
  obtain rfl := Vals.ref1 r1
  obtain ⟨w1, w2, rfl, e1, e2⟩ := vals2 r2
  obtain rfl : w1 = Value.ref f := e1
  obtain rfl : w2 = Value.none := e2
  exact minkd_run (d := .non) F hr b I2 rfl hs key q0 q3
end My

namespace My
open PySem PySem.Spec PyProof.Rows L2 Evl

/-! ### a call that may raise, the error let through -/
theorem pe_cr {X : Cx} {k : Nat} {x : Str} {sp : Sp} {E : XK} {p pos : Pos} {e : Expr} {es : List Expr} {t : TA} (c : Cn X.prog X.w X.K X.mg X.base k x sp) (hr : Room k X.A) (hx : Passes (L2N.CX X.prog X.w) X E) (hg : Gl X x) (ha : PA X (e :: es) t)
    (hdb : (x == ("__debug__" : Str)) = false := by decide) (he : starEach (e :: es) X.env = (false, eval e X.env) :: starEach es X.env := by rfl)
    (hpl : (backTo pos (starEach es X.env)).any (·.1) = false := by rfl) : PE X (.Call (.Name x p) (e :: es) [] pos) (tCall sp [] E t) := by
  obtain ⟨f, fd, ps, F, hm, kp, b⟩ := c.ex
  exact pe_call F hr hg hm kp b .nil hx ha hdb he hpl
section
variable {σ : L2.St} {H : Hp} {ta : TA} {vs : List V} {sp : Sp} {E : XK} {D : Ends} {tz : TS}
theorem q_dropC (h : EvA ta σ H vs) (k : ∀ H1, Ex H H1 → sp (vs ++ []) H1 (fun _ H2 => tz D σ H2) E) : tSeq (tDrop (tCall sp [] E ta)) tz D σ H := h H (Ex.refl H) _ fun H1 e1 => k H1 e1
theorem s_retE (h : EvA ta σ H vs) (k : ∀ H1, Ex H H1 → sp (vs ++ []) H1 (fun v H2 => D.rt v H2) E) : tRet (tCall sp [] E ta) D σ H := h H (Ex.refl H) _ fun H1 e1 => k H1 e1
end
def spCheck (A : Addr) : Sp := fun vs H Q E => ∃ x : Int, vs = [.int x] ∧ (0 ≤ x ∧ x ≤ 10 ^ 80 → RetV .non H Q) ∧ (¬ (0 ≤ x ∧ x ≤ 10 ^ 80) → ∀ H', Ex H H' → E (.ref A) none H')
end My

namespace My
open PySem PySem.Spec PyProof.Rows L2 Evl

/-! ### the verdict as the least of the trials that beat the first way -/
def stepB (b : Option (Int × List Int)) (t : Int × List Int) : Option (Int × List Int) := if better b t = true then some t else b
theorem stepJ_if {cs : List Int} {b : Option (Int × List Int)} {t : Int × List Int} : stepJ cs b t = if cand cs t = true then stepB b t else b := by
  unfold stepJ stepB
  cases cand cs t <;> cases better b t <;> rfl
theorem fold_mem : ∀ (l : List (Int × List Int)) (b : Option (Int × List Int)), l.foldl stepB b = b ∨ ∃ y ∈ l, l.foldl stepB b = some y
  | [], b => Or.inl rfl
  | t :: l, b => by
    rcases fold_mem l (stepB b t) with h | ⟨y, hy, h⟩
    · show l.foldl stepB (stepB b t) = b ∨ _
      by_cases c : better b t = true
      · exact Or.inr ⟨t, List.mem_cons_self .., by show l.foldl stepB (stepB b t) = _; rw [h]; unfold stepB; rw [if_pos c]⟩
      · exact Or.inl (by rw [h]; unfold stepB; rw [if_neg c])
    · exact Or.inr ⟨y, List.mem_cons_of_mem _ hy, h⟩
theorem fold_keep {x : Int × List Int} : ∀ (l : List (Int × List Int)), (∀ y ∈ l, less2 (mark y) (mark x) = false) → l.foldl stepB (some x) = some x
  | [], _ => rfl
  | t :: l, h => by
    have e : stepB (some x) t = some x := by
      unfold stepB
      rw [if_neg (by show ¬ less2 (mark t) (mark x) = true; rw [h t (List.mem_cons_self ..)]; decide)]
    show l.foldl stepB (stepB (some x) t) = _
    rw [e]
    exact fold_keep l fun y hy => h y (List.mem_cons_of_mem _ hy)
theorem fold_best {L : List (Int × List Int)} {k : Nat} {x : Int × List Int} (hk : L[k]? = some x) (h1 : ∀ y ∈ L, less2 (mark y) (mark x) = false) (h2 : ∀ j y, j < k → L[j]? = some y → less2 (mark x) (mark y) = true) : L.foldl stepB none = some x := by
  obtain ⟨hlt, hx⟩ := List.getElem?_eq_some_iff.mp hk
  have e : L = L.take k ++ (x :: L.drop (k + 1)) := by
    rw [← hx, List.getElem_cons_drop, List.take_append_drop]
  rw [e, List.foldl_append]
  show (L.drop (k + 1)).foldl stepB (stepB ((L.take k).foldl stepB none) x) = _
  have s : stepB ((L.take k).foldl stepB none) x = some x := by
    rcases fold_mem (L.take k) none with z | ⟨y, hy, z⟩
    · rw [z]; rfl
    · rw [z]
      obtain ⟨j, hj, ej⟩ := List.mem_iff_getElem.mp hy
      have hjk : j < k := by rw [List.length_take] at hj; omega
      have : L[j]? = some y := by
        rw [← ej, List.getElem_take, List.getElem?_eq_getElem (by omega)]
      unfold stepB
      rw [if_pos (show better (some y) x = true from h2 j y hjk this)]
  rw [s]
  exact fold_keep _ fun y hy => h1 y (List.mem_of_mem_drop hy)
def betterIx (cs : List Int) : List Nat := (List.range (trialsL cs).length).filter fun i => cand cs (tn (trialsL cs) i)
theorem trials_map {cs : List Int} : trialsL cs = (List.range (trialsL cs).length).map (tn (trialsL cs)) := by
  refine List.ext_getElem? fun i => ?_
  rw [List.getElem?_map]
  by_cases h : i < (trialsL cs).length
  · rw [List.getElem?_range h, List.getElem?_eq_getElem h]
    show _ = some (tn (trialsL cs) i)
    unfold tn
    rw [List.getD_eq_getElem?_getD, List.getElem?_eq_getElem h]; rfl
  · rw [List.getElem?_eq_none (by omega), List.getElem?_eq_none (by rw [List.length_range]; omega)]; rfl
theorem judged_fold {cs : List Int} : judgedL cs = ((betterIx cs).map (tn (trialsL cs))).foldl stepB none := by
  have e : (betterIx cs).map (tn (trialsL cs)) = (trialsL cs).filter (cand cs) := by
    conv => rhs; rw [trials_map]
    rw [List.filter_map]; rfl
  rw [e, List.foldl_filter]
  unfold judgedL
  congr 1
  funext b t
  exact stepJ_if
theorem judged_no {cs : List Int} (h : betterIx cs = []) : judgedL cs = none := by rw [judged_fold, h]; rfl
theorem judged_yes {cs : List Int} {k i : Nat} (h : (betterIx cs)[k]? = some i) (b : BestAt (fun j => mark (tn (trialsL cs) ((betterIx cs).getD j 0))) (betterIx cs).length k) : judgedL cs = some (tn (trialsL cs) i) := by
  have gd' : ∀ j m, (betterIx cs)[j]? = some m → (betterIx cs).getD j 0 = m := fun j m e => by rw [List.getD_eq_getElem?_getD, e]; rfl
  have lt : ∀ j m, (betterIx cs)[j]? = some m → j < (betterIx cs).length := fun j m e => (List.getElem?_eq_some_iff.mp e).1
  rw [judged_fold]
  refine fold_best (k := k) (by rw [List.getElem?_map, h]; rfl) (fun y hy => ?_) (fun j y hj hy => ?_)
  · obtain ⟨m, hm, rfl⟩ := List.mem_map.mp hy
    obtain ⟨j, hj⟩ := List.getElem?_of_mem hm
    have := b.1 j (lt j m hj)
    dsimp only at this
    rw [gd' j m hj, gd' k i h] at this
    exact this
  · rw [List.getElem?_map] at hy
    cases e : (betterIx cs)[j]? with
    | none => rw [e] at hy; cases hy
    | some m =>
      rw [e] at hy
      cases (Option.some.inj hy)
      have := b.2 j hj
      dsimp only at this
      rw [gd' j m e, gd' k i h] at this
      exact this

/-! ### the program's two small defs, and the comprehension over the trials -/
def spBeats (K : PySem.W.Frag) : Sp := fun vs H Q _ => ∃ (a p l : Addr) (cs : List Int) (x : Int) (ws : List Int), vs = [.ref a, .ref p] ∧ SqL K H a (cs.map V.int) ∧ RowL cs ∧ H p = some (.tup [.int x, .ref l]) ∧ H l = some (.lst (ws.map V.int)) ∧
  0 ≤ x ∧ x ≤ 10 ^ 80 ∧ RetV (.bl (cand cs (x, ws))) H Q
theorem spv_beats {K : PySem.W.Frag} {H : Hp} {a p l : Addr} {cs : List Int} {x : Int} {ws : List Int} (ha : SqL K H a (cs.map V.int)) (R : RowL cs) (hp : H p = some (.tup [.int x, .ref l])) (hl : H l = some (.lst (ws.map V.int))) (h0 : 0 ≤ x) (h1 : x ≤ 10 ^ 80) :
    SpV (spBeats K) ([.ref a, .ref p] ++ []) H (.bl (cand cs (x, ws))) := fun H1 e Q q E => ⟨a, p, l, cs, x, ws, rfl, ex_l e ha, R, e _ _ hp, e _ _ hl, h0, h1, q⟩
def spRank : Sp := fun vs H Q _ => ∃ (p l : Addr) (x : Int) (ws : List Int), vs = [.ref p] ∧ H p = some (.tup [.int x, .ref l]) ∧ H l = some (.lst (ws.map V.int)) ∧
  ∀ q H2, H q = none → Ex H H2 → H2 q = some (.tup [.int x, .int ws.sum]) → Q (.ref q) H2
theorem q_lcTr {K : PySem.W.Frag} {σ : L2.St} {H : Hp} {ta : TA} {tt : TT} {te : TE} {tz : TS} {D : Ends} {a : Addr} {cs : List Int} {j i : Nat} {vs : List Nat} (f : Nat → Bool) (ea : EvA ta σ H [.ref a]) (ha : SqL K H a (cs.map V.int)) (R : RowL cs)
    (hw : ∀ x, wipe ((wipe σ vs).set j (some x)) vs = wipe σ vs)
    (k : ∀ g H1 tp lp, H g = none → Ex H H1 → PairsAt H1 g (trialsL cs) tp lp (fun _ => False) → (∀ m, m < (trialsL cs).length → H (tp m) = none ∧ H (lp m) = none) →
      (∀ m H2, Ex H1 H2 → m < (trialsL cs).length → EvT tt ((wipe σ vs).set j (some (.ref (tp m)))) H2 (f m)) ∧ (∀ m H2, Ex H1 H2 → Ev te ((wipe σ vs).set j (some (.ref (tp m)))) H2 (.ref (tp m))) ∧
        ∀ L H2, Ex H1 H2 → H2 L = some (.lst (given (trialsL cs).length f fun m => .ref (tp m))) → tz D (σ.set i (some (.ref L))) H2) :
    tSeq (tAsg (tLc (iList K (tCall (spTrials K) [] E0 ta)) (gName j) tt te vs) (gName i)) tz D σ H := ea H (Ex.refl H) _ fun H1 e1 =>
  ⟨a, cs, rfl, ex_l e1 ha, R, fun g H2 tp lp hg e2 ps fr inj => by
    have nl : 2 * (trialsL cs).length = cs.length * (cs.length - 1) := up_len
    have le : (trialsL cs).length ≤ 100 := by
      have hR := R.len
      have : cs.length * (cs.length - 1) ≤ 12 * 11 := Nat.mul_le_mul hR (by omega)
      omega
    obtain ⟨ht, he, kk⟩ := k g H2 tp lp (fresh_back e1 hg) (e1.trans e2) ps fun m hm => ⟨fresh_back e1 (fr m hm).1, fresh_back e1 (fr m hm).2⟩
    refine ⟨g, rfl, ⟨refs (trialsL cs).length tp, sq_of ps.lst⟩, fun Dl hD => lc_list (xs := refs (trialsL cs).length tp) (Cw H2 f (fun m => .ref (tp m)) Dl) ⟨hD, Ex.new hD, upd_same⟩ (fun m H' _ p => sq_of (p.2.1 _ _ ps.lst)) (fun m x H' hx p => ?_) (fun H' p => ?_)⟩
    · have lt : m < (trialsL cs).length := by
        have := (List.getElem?_eq_some_iff.mp hx).1
        rw [refs_len] at this; exact this
      have ex : x = .ref (tp m) := by
        unfold refs at hx
        rw [List.getElem?_map, List.getElem?_range lt] at hx
        exact (Option.some.inj hx).symm
      subst ex
      exact ⟨hw _, cw_turn p (by omega) (ht m H2 (Ex.refl H2) lt) fun _ => he m H2 (Ex.refl H2)⟩
    · rw [refs_len] at p
      exact kk Dl H' p.2.1 p.2.2⟩
end My

namespace My
open PySem PySem.Spec PyProof.Rows L2 Evl

/-! ### the program's judge: one field, the list of its row -/
def JC (C : Addr) : JP := fun H j F cs => ∃ dx l, H j = some (.ins C dx [("_coins", .ref l)]) ∧ H dx = some (.own j) ∧ H l = some (.lst (cs.map V.int)) ∧ ∀ b, F b ↔ (b = j ∨ b = dx ∨ b = l)
theorem lk_no {m : Str} {v : V} (h : (m == ("_coins" : Str)) = false) : List.lookup m [(("_coins" : Str), v)] = none := by
  show (match m == ("_coins" : Str) with | true => some v | false => none) = none
  rw [h]
theorem lk_yes {v : V} : List.lookup ("_coins" : Str) [(("_coins" : Str), v)] = some v := by
  show (match ("_coins" : Str) == ("_coins" : Str) with | true => some v | false => none) = some v
  rw [show (("_coins" : Str) == ("_coins" : Str)) = true from by decide +kernel]
theorem jrep {C : Addr} : JRep C (JC C) where
  frame := fun ⟨dx, l, h1, h2, h3, hF⟩ e => ⟨dx, l, e _ _ ((hF _).mpr (.inl rfl)) h1, e _ _ ((hF _).mpr (.inr (.inl rfl))) h2, e _ _ ((hF _).mpr (.inr (.inr rfl))) h3, hF⟩
  obj := fun ⟨dx, l, h1, h2, h3, hF⟩ => ⟨(hF _).mpr (.inl rfl), dx, _, h1, lk_no (by decide +kernel), lk_no (by decide +kernel), lk_no (by decide +kernel), lk_no (by decide +kernel)⟩
  live := fun ⟨dx, l, h1, h2, h3, hF⟩ hb => by
    rcases (hF _).mp hb with rfl | rfl | rfl
    · exact ⟨_, h1⟩
    · exact ⟨_, h2⟩
    · exact ⟨_, h3⟩
theorem ev_fld {K : PySem.W.Frag} {σ : L2.St} {H : Hp} {ta : TE} {j C dx : Addr} {fs : List (Str × V)} {f : Str} {v : V} (h : Ev ta σ H (.ref j)) (hj : H j = some (.ins C dx fs)) (cl : Cls K C) (n : NoAttr K C f) (hl : fs.lookup f = some v) : Ev (tFld K ta f) σ H v := fun H1 e Q q =>
  h H1 e _ fun H2 e2 => ⟨j, C, dx, fs, v, rfl, (e.trans e2) _ _ hj, cl, n, hl, q H2 e2⟩
theorem put_iff {cs : List Int} (R : RowL cs) {x : Int} : RowP (cs ++ [x]) ↔ PutOk cs x := by
  have hp := R.pos
  constructor
  · rintro ⟨h1, h2, h3, h4, h5⟩
    rw [List.length_append, List.length_singleton] at h2 h4 h5
    refine ⟨by omega, ?_, ?_⟩
    · have := h5 (cs.length - 1) (by omega)
      rw [show cs.length - 1 + 1 = cs.length by omega] at this
      have a : gd (cs ++ [x]) (cs.length - 1) = gd cs (cs.length - 1) := getD_snoc_lt (by omega)
      rw [a, gd_last] at this
      exact this
    · rw [Nat.add_sub_cancel, gd_last] at h4; exact h4
  · exact fun ok => (R.put ok).p
def spInitJ (C : Addr) : Sp := fun vs H Q _ => ∃ j dx, vs = [.ref j] ∧ H j = some (.ins C dx []) ∧ H dx = some (.own j) ∧
  ∀ (F : Addr → Prop) (H' : Hp), JC C H' j F [1] → (∀ b, F b → b = j ∨ b = dx ∨ H b = none) → (∀ b o, b ≠ j → H b = some o → H' b = some o) → Q .non H'
theorem mkc_of {P : Program} {w : World} {K : PySem.W.Frag} {mg : Str → Option Value} {base : Heap} {k : Nat} {C f : Addr} {fd : FuncData} {x : Str} (M : Mk K C f) (F : FnOk P w K mg base CX0 k f fd ["self"] (spInitJ C)) (hm : mg x = some (.ref C)) (b : Binds K fd ["self"] []) :
    Mkc P w K mg base k C x (JC C) := ⟨f, fd, ["self"], spInitJ C, M, F, hm, b, fun H j dx Q E nj nd ne k => ⟨j, dx, rfl, upd_same, by rw [upd_ne ne, upd_same], fun F H' hJ hF hx => ⟨rfl, k F H' hJ (fun b hb => by
    rcases hF b hb with rfl | rfl | h
    · exact nj
    · exact nd
    · by_cases e1 : b = j
      · rw [e1]; exact nj
      · rw [upd_ne e1] at h
        by_cases e2 : b = dx
        · rw [e2]; exact nd
        · rw [upd_ne e2] at h; exact h) fun b o hb => hx b o (fun z => by rw [z, nj] at hb; cases hb) (by
      rw [upd_ne (ne_of_none hb nj), upd_ne (ne_of_none hb nd)]
      exact hb)⟩⟩⟩
theorem JAt.back {H H1 H2 : Hp} {v : V} {r : Option (Int × List Int)} (e : Ex H H1) (h : JAt H1 H2 v r) : JAt H H2 v r := by
  cases r with
  | none => exact h
  | some t =>
    obtain ⟨w, ws⟩ := t
    obtain ⟨p, l, a1, a2, a3, a4, a5⟩ := h
    exact ⟨p, l, a1, fresh_back e a2, fresh_back e a3, a4, a5⟩
/-- return l.pop() -/
theorem s_retPop {K : PySem.W.Frag} {σ : L2.St} {H : Hp} {ta : TE} {D : Ends} {r : Addr} {xs : List V} {x : Int} (h2 : Ev ta σ H (.ref r)) (hr : H r = some (.lst (xs ++ [.int x]))) (k : ∀ H1, Ex H H1 → D.rt (.int x) (upd H1 r (.lst xs))) :
    tRet (tBM0 K "list" rPop ta) D σ H := h2 H (Ex.refl H) _ fun H2 e2 => by
  have hr2 := e2 _ _ hr
  refine ⟨Or.inl ⟨rfl, _, sq_of hr2⟩, r, _, .int x, rfl, rfl, hr2, ?_, ?_⟩
  · rw [List.length_append, List.length_singleton, Nat.add_sub_cancel, List.getElem?_append_right (Nat.le_refl _), Nat.sub_self]; rfl
  · rw [List.dropLast_concat]
    exact k H2 e2
end My

namespace My
open PySem PySem.Spec PyProof.Rows L2 Evl

/-! ### k08: the law's own loop -/
theorem spv_is {C : Addr} {J : JP} {H : Hp} {j r : Addr} {F : Addr → Prop} {cs : List Int} (rep : JRep C J) (hJ : J H j F cs) (hr : H r = some (.lst (cs.map V.int))) (R : RowL cs) : SpV (spIs J) ([.ref j, .ref r] ++ []) H (.bl true) := fun H1 e Q q E =>
  ⟨j, r, F, cs, rfl, rep.ex hJ e, e _ _ hr, R, q⟩
def rMin2 : List V → Hp → VK → Prop := fun xs H Q => ∃ i j, xs = [.int i, .int j] ∧ Q (.int (if j < i then j else i)) H
theorem ev_min2 {σ : L2.St} {H : Hp} {ta tb : TE} {i j : Int} (ha : Ev ta σ H (.int i)) (hb : Ev tb σ H (.int j)) : Ev (tCB rMin2 (tCons ta (tCons tb tNil))) σ H (.int (if j < i then j else i)) := fun H1 e Q q =>
  ha H1 e _ fun H2 e2 => hb H2 (e.trans e2) _ fun H3 e3 => ⟨i, j, rfl, q H3 (e2.trans e3)⟩
/-- x = [[..], [..]], two new lists in a new list -/
theorem q_rows {σ : L2.St} {H : Hp} {D : Ends} {tz : TS} {i : Nat} {ta tb : TE} {xs ys : List V} (ha : EvL ta σ H xs) (hb : EvL tb σ H ys)
    (k : ∀ r0 r1 p H3, H r0 = none → H r1 = none → H p = none → r0 ≠ r1 → r0 ≠ p → r1 ≠ p → Ex H H3 → H3 r0 = some (.lst xs) → H3 r1 = some (.lst ys) → H3 p = some (.lst [.ref r0, .ref r1]) → tz D (σ.set i (some (.ref p))) H3) :
    tSeq (tAsg (tLst (tCons ta (tCons tb tNil))) (gName i)) tz D σ H := ha H (Ex.refl H) _ fun r0 H1 n0 e1 h1 => hb H1 e1 _ fun r1 H2 n1 e2 h2 => ⟨sz_of (by simp), fun p hp => by
  have h12 := e2 _ _ h1
  have a01 : r0 ≠ r1 := fun z => by rw [← z, h1] at n1; cases n1
  have a0p : r0 ≠ p := ne_of_none h12 hp
  have a1p : r1 ≠ p := ne_of_none h2 hp
  exact k r0 r1 p _ n0 (fresh_back e1 n1) (fresh_back (e1.trans e2) hp) a01 a0p a1p ((e1.trans e2).trans (Ex.new hp)) (by rw [upd_ne a0p]; exact h12) (by rw [upd_ne a1p]; exact h2) upd_same⟩
def bI (b : Bool) : Int := if b then 1 else 0
theorem at_pick {x y : V} (b : Bool) : atI [x, y] (bI b) = some (cond b y x) := by
  cases b
  · exact atI_nat (j := 0) rfl
  · exact atI_nat (j := 1) rfl
theorem at_0 {x y : V} : atI [x, y] 0 = some x := atI_nat (j := 0) rfl
theorem at_1 {x y : V} : atI [x, y] 1 = some y := atI_nat (j := 1) rfl
section
variable {C : Addr} {J : JP} {H0 H : Hp} {j0 j1 r0 r1 JL RL : Addr} {F0 F1 : Addr → Prop} {cs0 cs1 : List Int} {lj lr : List V} {σ : L2.St} {D : Ends} {tz tu : TS}
/-- if not deed(judges[b], rows[b], c): .. -/
theorem q_deedT {ta : TA} {c : Int} (rep : JRep C J) (t : Two J H0 H j0 j1 r0 r1 JL RL F0 F1 cs0 cs1 lj lr) (b : Bool) (ea : EvA ta σ H [cond b (.ref j1) (.ref j0), cond b (.ref r1) (.ref r0), .int c])
    (k : ∀ F0' F1' cs0' cs1' H', Two J H0 H' j0 j1 r0 r1 JL RL F0' F1' cs0' cs1' lj lr → tz D σ H') : tSeq (tIfS (tNot (tB (tCall (spDeed J) [] E0 ta))) tu tNext) tz D σ H := ea H (Ex.refl H) _ fun H1 e1 => by
  cases b with
  | false =>
    have t1 := t.mono rep e1
    exact ⟨j0, r0, F0, cs0, c, rfl, t1.J0, t1.h0, t1.R0, t1.a0 r0 (.inl rfl), fun cs' F' H' R' J' h' n o => ⟨true, rfl, k F' F1 cs' cs1 H' (t1.deed rep R' J' h' n o)⟩⟩
  | true =>
    have t1 := (t.mono rep e1).swap
    exact ⟨j1, r1, F1, cs1, c, rfl, t1.J0, t1.h0, t1.R0, t1.a0 r1 (.inl rfl), fun cs' F' H' R' J' h' n o => ⟨true, rfl, k F0 F' cs0 cs' H' (t1.deed rep R' J' h' n o).swap⟩⟩
theorem Two.isb (rep : JRep C J) (t : Two J H0 H j0 j1 r0 r1 JL RL F0 F1 cs0 cs1 lj lr) (b : Bool) : SpV (spIs J) ([cond b (.ref j1) (.ref j0), cond b (.ref r1) (.ref r0)] ++ []) H (.bl true) := by
  cases b with
  | false => exact spv_is rep t.J0 t.h0 t.R0
  | true => exact spv_is rep t.J1 t.h1 t.R1
end
theorem mod2_bool (x : Int) : ∃ b : Bool, x % 2 = bI b := by
  have h0 := Int.emod_nonneg x (show (2 : Int) ≠ 0 by decide)
  have h1 := Int.emod_lt_of_pos x (show (0 : Int) < 2 by decide)
  by_cases e : x % 2 = 0
  · exact ⟨false, e⟩
  · exact ⟨true, by show x % 2 = 1; omega⟩
theorem bI_mul (a b : Bool) : bI a * bI b = bI (a && b) := by cases a <;> cases b <;> rfl
theorem bI_bound (a : Bool) : 0 ≤ bI a ∧ bI a ≤ 1 := by cases a <;> decide
end My

namespace My
open PySem PySem.Spec PyProof.Rows L2 Evl
def top (i : Nat) : Stmt := PySem.Challenge.pw_coinjudge_k08_a_judge_through_deeds.main.body.getD i (.Pass ⟨0, 0, 0, 0⟩)
local macro_rules | `(tactic| walk_at "sq") => `(tactic| first | assumption | (refine ex_l ?_ (by assumption); first | assumption | exact Ex.trans (by assumption) (by assumption)))
local macro_rules | `(tactic| walk_at "side") => `(tactic| first | assumption | decide | exact ⟨by decide, by decide⟩ | exact ⟨by decide, by decide, by decide⟩ | omega)
local macro_rules | `(tactic| walk_at "rv") => `(tactic| first | ((with_reducible show RV (rI0 _) _ _ _ _); exact rv_I0) | ((with_reducible show RV (rI _ _) _ _ _ _); exact rv_I (by walk_at "side")) | ((with_reducible show RV (rIxL _) _ _ _ _); exact rv_ixL (by walk_at "sq") (by assumption)) | ((with_reducible show RV rEq _ _ _ _); exact rv_eq rfl) | ((with_reducible show RV rNe _ _ _ _); exact rv_ne rfl))
local macro_rules | `(tactic| walk_at "ev") => `(tactic| first | ((with_reducible show Ev (tC _) _ _ _); exact ev_c) | ((with_reducible show Ev (tVar _) _ _ _); exact ev_var rfl) | ((with_reducible show Ev (tOp _ _ _) _ _ _); exact ev_op (by walk_at "ev") (by walk_at "ev") (by walk_at "rv")) | ((with_reducible show Ev (tUn _ _) _ _ _); exact ev_un (by walk_at "ev") ru_neg) | ((with_reducible show Ev (tCall _ _ _ _) _ _ _); exact ev_call (by walk_at "ea") (by walk_at "sp")) | ((with_reducible show Ev (tNotV _) _ _ _); exact ev_notV (by walk_at "ev")) | ((with_reducible show Ev (tAndV _ _) _ _ _); exact ev_andV (by walk_at "ev") (fun _ => by walk_at "ev")) | ((with_reducible show Ev (tOrV _ _) _ _ _); exact ev_orV (by walk_at "ev") (fun _ => by walk_at "ev")) | ((with_reducible show Ev (tCB _ _) _ _ _); walk_at "cb"))
local macro_rules | `(tactic| walk_at "cb") => `(tactic| first | exact ev_len (by walk_at "ev") (by walk_at "sq"))
local macro_rules | `(tactic| walk_at "ea") => `(tactic| first | ((with_reducible show EvA tNil _ _ _); exact ea_nil) | exact ea_cons (by walk_at "ev") (by walk_at "ea"))
local macro_rules | `(tactic| walk_at "et") => `(tactic| first | ((with_reducible show EvT (tTest _) _ _ _); exact et_test (by walk_at "ev")) | ((with_reducible show EvT (tB _) _ _ _); exact et_B (by walk_at "ev")) | ((with_reducible show EvT (tNot _) _ _ _); exact et_not (by walk_at "et")) | ((with_reducible show EvT (tAnd _ _) _ _ _); exact et_and (by walk_at "et") (fun _ => by walk_at "et")) | ((with_reducible show EvT (tOr _ _) _ _ _); exact et_or (by walk_at "et") (fun _ => by walk_at "et")))
local macro_rules | `(tactic| walk_at "sp") => `(tactic| first | exact spv_cellI (by walk_at "sq") (by omega))
section
variable {P : Program} {w : World} {K : PySem.W.Frag} {mg : Str → Option Value} {base : Heap}
abbrev s_good_row : Stmt := top 10
abbrev N_good_row : List Str := ["coins", "at"]
theorem sc_good_row : FnScope N_good_row ["coins"] (defScope s_good_row) := ⟨rfl, rfl, rfl, by decide +kernel, rfl, by decide +kernel, by decide +kernel⟩
theorem ok_good_row {A : Addr} {f : Addr} {fd : FuncData} {t1 t2 : Tok} (F : Fun K "good_row" "good_row" s_good_row f fd) (m_len : mg "len" = none) (m_range : mg "range" = none) (m_list : mg "list" = none)
    (c_MOST : mg "MOST" = some (.int 12 t1)) (c_GREATEST : mg "GREATEST" = some (.int (10 ^ 60) t2)) (T_NoRow : Er K mg "NoRow" A) :
    FnOk P w K mg base (L2N.CX P w) 1 f fd ["coins"] (spGoodRow K A) := by
  refine okN F sc_good_row (fun vs H Q E h => ?_) (fun cdv A1 outer s H vs Q E hr h => ?_)
  · obtain ⟨a, L, rfl, _⟩ := h
    rfl
  · obtain ⟨a, L, rfl, ha, hl, good, bad⟩ := h
    refine ⟨_, (pss_cons (ps_if (PW.pt (pw_or (pt_cmpR op_lt (pe_callB call_len_seq (by rfl) m_len PySem.boot_len (pa_cons (pv 0) pa_nil)) pe_int (nomark _)) (pw_or1 (pt_cmpR op_gt (pe_callB call_len_seq (by rfl) m_len PySem.boot_len (pa_cons (pv 0) pa_nil)) (pe_glob (v := .int 12) rfl c_MOST ⟨_, rfl⟩) (nomark _))))) (pss_one (L2N.ps_raise rfl (L2N.takes_of rfl rfl rfl rfl) (L2N.pmk_own PySem.F.excBase_ValueError T_NoRow.xC T_NoRow.gC T_NoRow.kC (raises_own T_NoRow.bC T_NoRow.tC) rfl))) pss_nil)
      (pss_cons (ps_if (pt_cmpR op_ne (pe_ix ix_list (pv 0) pe_int (fun _ _ => rfl)) pe_int (nomark _)) (pss_one (L2N.ps_raise rfl (L2N.takes_of rfl rfl rfl rfl) (L2N.pmk_own PySem.F.excBase_ValueError T_NoRow.xC T_NoRow.gC T_NoRow.kC (raises_own T_NoRow.bC T_NoRow.tC) rfl))) pss_nil)
      (pss_cons (ps_for (passes_of rfl) rfl (pi_range2 rfl m_range (pa_cons pe_int (pa_cons (pe_callB call_len_seq (by rfl) m_len PySem.boot_len (pa_cons (pv 0) pa_nil)) pa_nil))) (pg_name (i := 1) sc_good_row.nd rfl (.inl rfl)) (pss_one (ps_if (pt_cmpR op_le (pe_ix ix_list (pv 0) (pv 1) (fun _ _ => rfl)) (pe_ix ix_list (pv 0) (pe_op op_sub (pv 1) pe_int) (fun _ _ => rfl)) (nomark _)) (pss_one (L2N.ps_raise rfl (L2N.takes_of rfl rfl rfl rfl) (L2N.pmk_own PySem.F.excBase_ValueError T_NoRow.xC T_NoRow.gC T_NoRow.kC (raises_own T_NoRow.bC T_NoRow.tC) rfl))) pss_nil)))
      (pss_cons (ps_if (pt_cmpR op_gt (pe_ix ix_list (pv 0) (pe_un un_neg pe_int) (fun _ _ => rfl)) (pe_glob (v := .int (10 ^ 60)) rfl c_GREATEST ⟨_, rfl⟩) (nomark _)) (pss_one (L2N.ps_raise rfl (L2N.takes_of rfl rfl rfl rfl) (L2N.pmk_own PySem.F.excBase_ValueError T_NoRow.xC T_NoRow.gC T_NoRow.kC (raises_own T_NoRow.bC T_NoRow.tC) rfl))) pss_nil)
      (pss_one (ps_ret (pe_callTy call_list_of (by rfl) m_list (by decide +kernel) (pa_cons (pv 0) pa_nil)))))))), ?_⟩
    have len : ((L.map V.int).length : Int) = (L.length : Int) := by rw [List.length_map]
    refine q_when (b := decide (((L.map V.int).length : Int) < 1) || decide (12 < ((L.map V.int).length : Int))) (by walk_at "et") (fun hb H1 e1 => bad (fun g => ?_) H1 e1) (fun hb H1 e1 => ?_)
    · rw [len, Bool.or_eq_true] at hb
      rcases hb with h | h
      · have := of_decide_eq_true h; have := g.1; omega
      · have := of_decide_eq_true h; have := g.2.1; omega
    rw [len, Bool.or_eq_false_iff] at hb
    have l1 := of_decide_eq_false hb.1
    have l2 := of_decide_eq_false hb.2
    have ha1 := ex_l e1 ha
    have at0 := gd_at (xs := L) (j := 0) (by omega)
    refine q_when (b := !decide (V.int (gd L 0) = V.int 1)) (et_test (ev_op (ev_op (ev_var rfl) ev_c (rv_ixL ha1 at0)) ev_c (rv_ne rfl))) (fun hb H2 e2 => bad (fun g => ?_) H2 (e1.trans e2)) (fun hb2 H2 e2 => ?_)
    · rw [g.2.2.1] at hb; simp at hb
    have h1 : gd L 0 = 1 := by
      have : V.int (gd L 0) = V.int 1 := by simpa using hb2
      exact V.int.inj this
    have e02 := e1.trans e2
    have ha2 := ex_l e02 ha
    refine q_forR2 (lo := 1) (n := ((L.map V.int).length : Int)) (by walk_at "ea") ⟨by decide, by decide, by omega, by omega⟩
      (fun i σ H' => ∃ v1, σ = [some (.ref a), v1] ∧ Ex H2 H' ∧ ∀ k, k < i → gd L k < gd L (k + 1)) (fun H3 e3 => ⟨none, rfl, e3, fun k hk => absurd hk (Nat.not_lt_zero _)⟩) ?_ ?_
    · rintro i σ H' hi ⟨v1, rfl, e3, up⟩
      have hi1 : i + 1 < L.length := by rw [len] at hi; omega
      have ha3 := ex_l e3 ha2
      have at1 : atI (L.map V.int) (1 + (i : Int)) = some (.int (gd L (i + 1))) := by
        rw [show (1 : Int) + (i : Int) = ((i + 1 : Nat) : Int) by omega]; exact gd_at hi1
      have at2 : atI (L.map V.int) (1 + (i : Int) - 1) = some (.int (gd L i)) := by
        rw [show (1 : Int) + (i : Int) - 1 = (i : Int) by omega]; exact gd_at (by omega)
      refine s_when (b := decide (gd L (i + 1) ≤ gd L i)) (et_test (ev_op (ev_op (ev_var rfl) (ev_var rfl) (rv_ixL ha3 at1)) (ev_op (ev_var rfl) (ev_op (ev_var rfl) ev_c rv_I0) (rv_ixL ha3 at2)) rv_I0)) (fun hb H4 e4 => bad (fun g => ?_) H4 ((e02.trans e3).trans e4)) (fun hb H4 e4 => ?_)
      · have := of_decide_eq_true hb; have := g.2.2.2.2 i hi1; omega
      · refine ⟨_, rfl, e3.trans e4, fun k hk => ?_⟩
        by_cases e : k = i
        · subst e; have := of_decide_eq_false hb; omega
        · exact up k (by omega)
    · rintro σ H' ⟨v1, rfl, e3, up⟩
      have ha3 := ex_l e3 ha2
      have atl := atI_lastmap (ns := L) (by omega)
      refine q_when (b := decide (10 ^ 60 < gd L (L.length - 1))) (et_test (ev_op (ev_op (ev_var rfl) (ev_un ev_c ru_neg) (rv_ixL ha3 atl)) ev_c rv_I0)) (fun hb H4 e4 => bad (fun g => ?_) H4 ((e02.trans e3).trans e4)) (fun hb H4 e4 => ?_)
      · have := of_decide_eq_true hb; have := g.2.2.2.1; omega
      · have h2 := of_decide_eq_false hb
        refine s_retL (el_listI (ev_var rfl) (ex_l e4 ha3)) fun p H5 hp e5 h5 => ?_
        have e05 := (e02.trans e3).trans e4
        refine good ⟨by omega, by omega, h1, by omega, fun k hk => up k ?_⟩ p H5 (fresh_back e05 hp) (e05.trans e5) h5
        rw [len]; omega
abbrev s_check_amount : Stmt := top 15
abbrev N_check_amount : List Str := ["amount"]
theorem sc_check_amount : FnScope N_check_amount ["amount"] (defScope s_check_amount) := ⟨rfl, rfl, rfl, by decide +kernel, rfl, by decide +kernel, by decide +kernel⟩
theorem ok_check_amount {A : Addr} {f : Addr} {fd : FuncData} {tk_MOST : Tok} (F : Fun K "check_amount" "check_amount" s_check_amount f fd)
    (c_MOST_AMOUNT : mg "MOST_AMOUNT" = some (.int (10 ^ 80) tk_MOST)) (T_NoAmount : Er K mg "NoAmount" A) :
    FnOk P w K mg base (L2N.CX P w) 1 f fd ["amount"] (spCheck A) := by
  refine okN F sc_check_amount (fun vs H Q E h => ?_) (fun cdv A1 outer s H vs Q E hr h => ?_)
  · obtain ⟨x, rfl, _⟩ := h
    rfl
  · obtain ⟨x, rfl, good, bad⟩ := h
    refine ⟨_, (pss_one (ps_if (PW.pt (pw_or (pt_cmpR op_lt (pv 0) pe_int (nomark _)) (pw_or1 (pt_cmpR op_gt (pv 0) (pe_glob (v := .int (10 ^ 80)) rfl c_MOST_AMOUNT ⟨_, rfl⟩) (nomark _))))) (pss_one (L2N.ps_raise rfl (L2N.takes_of rfl rfl rfl rfl) (L2N.pmk_own PySem.F.excBase_ValueError T_NoAmount.xC T_NoAmount.gC T_NoAmount.kC (raises_own T_NoAmount.bC T_NoAmount.tC) rfl))) pss_nil)), ?_⟩
    refine s_when (b := decide (x < 0) || decide (10 ^ 80 < x)) (by walk_at "et") (fun hb H1 e1 => ?_) (fun hb H1 e1 => ?_)
    · refine bad (fun g => ?_) H1 e1
      rw [Bool.or_eq_true] at hb
      rcases hb with h | h
      · have := of_decide_eq_true h; omega
      · have := of_decide_eq_true h; omega
    · rw [Bool.or_eq_false_iff] at hb
      have h0 := of_decide_eq_false hb.1
      have h1 := of_decide_eq_false hb.2
      exact good ⟨by omega, by omega⟩ H1 e1
abbrev s_first_way : Stmt := top 16
abbrev N_first_way : List Str := ["coins", "amount", "way", "due", "at"]
theorem sc_first_way : FnScope N_first_way ["coins", "amount"] (defScope s_first_way) := ⟨rfl, rfl, rfl, by decide +kernel, rfl, by decide +kernel, by decide +kernel⟩
theorem ok_first_way {A : Addr} {f : Addr} {fd : FuncData} (F : Fun K "first_way" "first_way" s_first_way f fd) (m_len : mg "len" = none) (m_range : mg "range" = none)
    (C_check_amount : Cn P w K mg base 1 "check_amount" (spCheck A)) :
    FnOk P w K mg base (L2N.CX P w) 2 f fd ["coins", "amount"] (spFirst K A) := by
  refine okN F sc_first_way (fun vs H Q E h => ?_) (fun cdv A1 outer s H vs Q E hr h => ?_)
  · obtain ⟨a, cs, x, rfl, _⟩ := h
    rfl
  · obtain ⟨a, cs, x, rfl, ha, R, good, bad⟩ := h
    refine ⟨_, (pss_cons (ps_expr (pe_cr C_check_amount (hr.mono (by decide)) (L2N.passes_call (L2N.takes_of rfl rfl rfl rfl) (fun _ _ _ _ h => h)) (by rfl) (pa_cons (pv 1) pa_nil)))
      (pss_cons (ps_set (i := 2) sc_first_way.nd rfl (.inl rfl) (pe_op op_rep (pe_lst (pa_cons pe_int pa_nil)) (pe_callB call_len_seq (by rfl) m_len PySem.boot_len (pa_cons (pv 0) pa_nil))))
      (pss_cons (ps_set (i := 3) sc_first_way.nd rfl (.inl rfl) (pv 1))
      (pss_cons (ps_for (passes_of rfl) rfl (pi_range3 rfl m_range (pa_cons (pe_op op_sub (pe_callB call_len_seq (by rfl) m_len PySem.boot_len (pa_cons (pv 0) pa_nil)) pe_int) (pa_cons (pe_un un_neg pe_int) (pa_cons (pe_un un_neg pe_int) pa_nil)))) (pg_name (i := 4) sc_first_way.nd rfl (.inl rfl)) (pss_cons (ps_asg (pe_op op_fdivW (pv 3) (pe_ix ix_list (pv 0) (pv 4) (fun _ _ => rfl))) (pg_sub (pv 2) (pv 4) set_list))
      (pss_one (ps_set (i := 3) sc_first_way.nd rfl (.inl rfl) (pe_op op_sub (pv 3) (pe_op op_mulW (pe_ix ix_list (pv 2) (pv 4) (fun _ _ => rfl)) (pe_ix ix_list (pv 0) (pv 4) (fun _ _ => rfl))))))))
      (pss_one (ps_ret (pv 2))))))), ?_⟩
    refine q_dropC (by walk_at "ea") fun H0 e0 => ⟨x, rfl, fun gx H1 e1' => ?_, fun g H' e' => bad g H' (e0.trans e')⟩
    have e1 := e0.trans e1'
    · obtain ⟨h0, h1⟩ := gx
      have hx0 : 0 ≤ x := by omega
      have hc := fun k (hk : k < cs.length) => R.ge1 (i := k) hk
      have ha1 := ex_l e1 ha
      have hR := R.len
      have hR0 := R.pos
      refine q_asgL (el_rep (n := cs.length) (el_lst (by walk_at "ea") (by simp)) (ev_is (ev_len (ev_var rfl) ha1) (by rw [List.length_map])) (by omega)) fun r H2 hr0 e2 h2 => ?_
      have e02 := e1.trans e2
      have ha2 := ex_l e2 ha1
      refine q_asg (by walk_at "ev") fun H3 e3 => ?_
      refine q_forDown (n := cs.length) (ea_cons (ev_is (ev_op (ev_len (ev_var rfl) (ex_l e3 ha2)) ev_c rv_I0) (by rw [List.length_map])) (by walk_at "ea")) (by omega)
        (fun i σ H' => ∃ v4, σ = [some (.ref a), some (.int x), some (.ref r), some (.int (Coin.rest (gd cs) cs.length x i)), v4] ∧ Ex H1 H' ∧
          H' r = some (.lst ((tab cs.length fun k => if cs.length - i ≤ k then Coin.gr (gd cs) cs.length x k else 0).map V.int)))
        (fun H4 e4 => ⟨none, rfl, (e2.trans e3).trans e4, ?_⟩) ?_ ?_
      · rw [(e3.trans e4) _ _ h2]
        congr 2
        refine List.ext_getElem? fun i => ?_
        rw [List.getElem?_map]
        unfold tab
        rw [List.getElem?_map]
        by_cases h : i < cs.length
        · rw [List.getElem?_range h, List.getElem?_replicate, if_pos h]
          show some (V.int 0) = some (V.int (if cs.length - 0 ≤ i then _ else 0))
          rw [if_neg (by omega)]
        · rw [List.getElem?_eq_none (by rw [List.length_replicate]; omega), List.getElem?_eq_none (by rw [List.length_range]; omega)]; rfl
      · rintro i σ H' hi ⟨v4, rfl, e4, h4⟩
        have haa := ex_l e4 ha1
        have hj : cs.length - 1 - i < cs.length := by omega
        have at1 := gd_at hj
        have c1 := hc _ hj
        have c2 := R.most _ hj
        have r0 := Coin.rest_nonneg (n := cs.length) hc hx0 (i := i) (by omega)
        have r1 := Coin.rest_le (n := cs.length) hc hx0 (i := i) (by omega)
        have d1 : CDivW (Coin.rest (gd cs) cs.length x i) (gd cs (cs.length - 1 - i)) := div_ok (by show 0 < gd cs (cs.length - 1 - i); exact c1) (p500 c2)
        refine q_setL (v := .int (Coin.gr (gd cs) cs.length x (cs.length - 1 - i))) h4 (ev_is (by walk_at "ev") (by rw [Coin.gr_at hi])) (by walk_at "ev") (by walk_at "ev") (by rw [List.length_map, tab_len]; exact hj) fun H5 e5 => ?_
        rw [map_set, tab_set]
        have h5 := upd_same (H := H5) (a := r) (o := HO.lst ((tab cs.length (fun k => if k = cs.length - 1 - i then Coin.gr (gd cs) cs.length x (cs.length - 1 - i) else if cs.length - i ≤ k then Coin.gr (gd cs) cs.length x k else 0)).map V.int))
        have e15 : Ex H1 (upd H5 r (HO.lst ((tab cs.length (fun k => if k = cs.length - 1 - i then Coin.gr (gd cs) cs.length x (cs.length - 1 - i) else if cs.length - i ≤ k then Coin.gr (gd cs) cs.length x k else 0)).map V.int))) := Ex.mut (e4.trans e5) hr0
        have hr5 : SqL K (upd H5 r (HO.lst ((tab cs.length (fun k => if k = cs.length - 1 - i then Coin.gr (gd cs) cs.length x (cs.length - 1 - i) else if cs.length - i ≤ k then Coin.gr (gd cs) cs.length x k else 0)).map V.int))) r _ := sq_of h5
        have ha5 := ex_l e15 ha1
        have at2 := gd_at (xs := tab cs.length (fun k => if k = cs.length - 1 - i then Coin.gr (gd cs) cs.length x (cs.length - 1 - i) else if cs.length - i ≤ k then Coin.gr (gd cs) cs.length x k else 0)) (j := cs.length - 1 - i) (by rw [tab_len]; exact hj)
        rw [gd_tab hj, if_pos rfl] at at2
        have g0 := Coin.gr_way (n := cs.length) hc hx0 _ hj
        have g1 := Coin.gr_le (n := cs.length) hc hx0 hj
        have m1 : CMulW (Coin.gr (gd cs) cs.length x (cs.length - 1 - i)) (gd cs (cs.length - 1 - i)) := mul_ok g0 (Int.lt_of_le_of_lt (Int.le_trans g1 (by omega)) p80) (Int.le_trans (by decide) c1) (p500 c2)
        refine s_asg (by walk_at "ev") fun H6 e6 => ?_
        refine ⟨some (.int ((cs.length - 1 - i : Nat) : Int)), ?_, e15.trans e6, ?_⟩
        · have e : Coin.rest (gd cs) cs.length x (i + 1) = Coin.rest (gd cs) cs.length x i - Coin.gr (gd cs) cs.length x (cs.length - 1 - i) * gd cs (cs.length - 1 - i) := by
            show Coin.rest (gd cs) cs.length x i % gd cs (cs.length - 1 - i) = _
            rw [Coin.gr_at hi, Int.mul_comm]
            have := Int.emod_add_mul_ediv (Coin.rest (gd cs) cs.length x i) (gd cs (cs.length - 1 - i))
            omega
          rw [e]; rfl
        · rw [e6 _ _ h5]
          congr 3
          refine tab_ext fun k hk => ?_
          by_cases e : k = cs.length - 1 - i
          · rw [if_pos e, if_pos (by omega), e]
          · rw [if_neg e]
            by_cases e2 : cs.length - i ≤ k
            · rw [if_pos e2, if_pos (by omega)]
            · rw [if_neg e2, if_neg (by omega)]
      · rintro σ H' ⟨v4, rfl, e4, h4⟩
        have e : (tab cs.length fun k => if cs.length - cs.length ≤ k then Coin.gr (gd cs) cs.length x k else 0) = grL cs x := tab_ext fun k _ => by rw [if_pos (by omega)]
        rw [e] at h4
        exact s_ret (by walk_at "ev") fun H5 e5 => good ⟨hx0, by omega⟩ r H5 (fresh_back e1 hr0) ((e1.trans e4).trans e5) (e5 _ _ h4)
abbrev s_worth : Stmt := top 13
abbrev N_worth : List Str := ["coins", "way", "total", "coin", "many"]
theorem sc_worth : FnScope N_worth ["coins", "way"] (defScope s_worth) := ⟨rfl, rfl, rfl, by decide +kernel, rfl, by decide +kernel, by decide +kernel⟩
theorem ok_worth {A : Addr} {f : Addr} {fd : FuncData} (F : Fun K "worth" "worth" s_worth f fd) (m_len : mg "len" = none) (m_zip : mg "zip" = none) (T_NoWay : Er K mg "NoWay" A) :
    FnOk P w K mg base (L2N.CX P w) 1 f fd ["coins", "way"] (spWorthW K A) := by
  refine okN F sc_worth (fun vs H Q E h => ?_) (fun cdv A1 outer s H vs Q E hr h => ?_)
  · obtain ⟨a, b, cs, ws, rfl, _⟩ := h
    rfl
  · obtain ⟨a, b, cs, ws, rfl, ha, hb, hc, hw, good, bad⟩ := h
    refine ⟨_, (pss_cons (ps_if (pt_cmpR op_ne (pe_callB call_len_seq (by rfl) m_len PySem.boot_len (pa_cons (pv 1) pa_nil)) (pe_callB call_len_seq (by rfl) m_len PySem.boot_len (pa_cons (pv 0) pa_nil)) (nomark _)) (pss_one (L2N.ps_raise rfl (L2N.takes_of rfl rfl rfl rfl) (L2N.pmk_own PySem.F.excBase_ValueError T_NoWay.xC T_NoWay.gC T_NoWay.kC (raises_own T_NoWay.bC T_NoWay.tC) rfl))) pss_nil)
      (pss_cons (ps_set (i := 2) sc_worth.nd rfl (.inl rfl) pe_int)
      (pss_cons (ps_for (passes_of rfl) rfl (pi_zip (by rfl) m_zip (pa_cons (pv 0) (pa_cons (pv 1) pa_nil))) (pg_tup rfl (pgs_cons (pg_name (i := 3) sc_worth.nd rfl (.inl rfl)) (pgs_cons (pg_name (i := 4) sc_worth.nd rfl (.inl rfl)) pgs_nil))) (pss_cons (ps_if (pt_cmpR op_lt (pv 4) pe_int (nomark _)) (pss_one (L2N.ps_raise rfl (L2N.takes_of rfl rfl rfl rfl) (L2N.pmk_own PySem.F.excBase_ValueError T_NoWay.xC T_NoWay.gC T_NoWay.kC (raises_own T_NoWay.bC T_NoWay.tC) rfl))) pss_nil)
      (pss_one (ps_aug (i := 2) sc_worth.nd rfl (.inl rfl) (pe_op op_mulW (pv 3) (pv 4)) ip_add))))
      (pss_one (ps_ret (pv 2)))))), ?_⟩
    refine q_when (b := !decide (V.int ((ws.map V.int).length : Int) = V.int ((cs.map V.int).length : Int))) (by walk_at "et") (fun hb H1 e1 => ?_) (fun hb2 H1 e1 => ?_)
    · refine bad (fun g => ?_) H1 e1
      rw [List.length_map, List.length_map, g.1] at hb
      simp at hb
    · have hl : ws.length = cs.length := by
        rw [List.length_map, List.length_map] at hb2
        have : V.int (ws.length : Int) = V.int (cs.length : Int) := by simpa using hb2
        have := V.int.inj this
        omega
      refine q_asg (by walk_at "ev") fun H2 e2 => ?_
      have e02 := e1.trans e2
      refine q_zip (a := a) (b := b) (xs := cs.map V.int) (ys := ws.map V.int) (by walk_at "ea") (ex_l e02 ha) (ex_l e02 hb) (by rw [List.length_map, List.length_map, hl])
        (fun i σ H' => ∃ v3 v4, σ = [some (.ref a), some (.ref b), some (.int (Coin.wsum (gd cs) (gd ws) i)), v3, v4] ∧ (∀ k, k < i → 0 ≤ gd ws k) ∧ Ex H2 H')
        (fun H3 e3 => ⟨none, none, rfl, fun k hk => absurd hk (Nat.not_lt_zero _), e3⟩) (fun i σ H' ⟨_, _, _, _, e⟩ => e) ?_ ?_
      · rintro i x y σ H' H3 hx hy ⟨v3, v4, rfl, hpos, e3⟩ e4
        obtain ⟨hi, rfl⟩ := int_at hx
        obtain ⟨hi2, rfl⟩ := int_at hy
        refine q_when (b := decide (gd ws i < 0)) (by walk_at "et") (fun hb H5 e5 => ?_) (fun hb H5 e5 => ?_)
        · have hneg := of_decide_eq_true hb
          refine bad (fun g => ?_) H5 (((e02.trans e3).trans e4).trans e5)
          have := g.2 (gd ws i) (gd_mem hi2)
          omega
        · have hnn := of_decide_eq_false hb
          have hcm := hc _ (gd_mem hi)
          have hwm := hw _ (gd_mem hi2)
          have m1 : CMulW (gd cs i) (gd ws i) := mul_ok hcm.1 (p500 hcm.2) (by omega) (p62 hwm)
          refine s_aug (f := fun i j => i + j) rfl (by walk_at "ev") fun H6 e6 => ?_
          refine ⟨_, _, rfl, fun k hk => ?_, ((e3.trans e4).trans e5).trans e6⟩
          by_cases e : k = i
          · subst e; omega
          · exact hpos k (by omega)
      · rintro σ H' ⟨v3, v4, rfl, hpos, e3⟩
        rw [List.length_map] at hpos ⊢
        refine s_ret (by walk_at "ev") fun H3 e4 => ?_
        refine good ⟨hl, fun x hx => ?_⟩ H3 ((e02.trans e3).trans e4)
        obtain ⟨k, hk, rfl⟩ := mem_gd hx
        exact hpos k (by omega)
abbrev s_pieces : Stmt := top 14
abbrev N_pieces : List Str := ["way"]
theorem sc_pieces : FnScope N_pieces ["way"] (defScope s_pieces) := ⟨rfl, rfl, rfl, by decide +kernel, rfl, by decide +kernel, by decide +kernel⟩
theorem ok_pieces {f : Addr} {fd : FuncData} (F : Fun K "pieces" "pieces" s_pieces f fd) (m_sum : mg "sum" = none) :
    FnOk P w K mg base CX0 1 f fd ["way"] (spPieces K) := by
  refine F.ok sc_pieces (fun vs H Q E h => ?_) (fun cdv A1 outer s H vs Q E hr h => ?_)
  · obtain ⟨a, ws, rfl, _⟩ := h
    rfl
  · obtain ⟨a, ws, rfl, ha, q⟩ := h
    refine ⟨_, (pss_one (ps_ret (pe_callB (cr_sum rfl) (by rfl) m_sum (by decide +kernel) (pa_cons (pv 0) pa_nil)))), ?_⟩
    refine s_ret (ev_sum (ev_var rfl) ha) fun H1 e1 => ?_
    rw [sum_gd]
    exact q H1 e1
abbrev s_trial : Stmt := top 18
abbrev N_trial : List Str := ["coins", "high", "low", "way", "at"]
theorem sc_trial : FnScope N_trial ["coins", "high", "low"] (defScope s_trial) := ⟨rfl, rfl, rfl, by decide +kernel, rfl, by decide +kernel, by decide +kernel⟩
theorem ok_trial {A AN : Addr} {f : Addr} {fd : FuncData} (F : Fun K "trial" "trial" s_trial f fd) (m_len : mg "len" = none) (m_range : mg "range" = none) (T_NoWay : Er K mg "NoWay" A) (C_first_way : Cn P w K mg base 2 "first_way" (spFirst K AN)) :
    FnOk P w K mg base (L2N.CX P w) 3 f fd ["coins", "high", "low"] (spTrial K A) := by
  refine okN F sc_trial (fun vs H Q E h => ?_) (fun cdv A1 outer s H vs Q E hr h => ?_)
  · obtain ⟨a, cs, h, l, rfl, _⟩ := h
    rfl
  · obtain ⟨a, cs, h, l, rfl, ha, R, good, bad⟩ := h
    refine ⟨_, (pss_cons (ps_if (PW.pt (pw_or (pt_cmpR op_lt (pv 2) pe_int (nomark _)) (pw_or (pt_cmpR op_ge (pv 2) (pv 1) (nomark _)) (pw_or1 (pt_cmpR op_ge (pv 1) (pe_callB call_len_seq (by rfl) m_len PySem.boot_len (pa_cons (pv 0) pa_nil)) (nomark _)))))) (pss_one (L2N.ps_raise rfl (L2N.takes_of rfl rfl rfl rfl) (L2N.pmk_own PySem.F.excBase_ValueError T_NoWay.xC T_NoWay.gC T_NoWay.kC (raises_own T_NoWay.bC T_NoWay.tC) rfl))) pss_nil)
      (pss_cons (ps_set (i := 3) sc_trial.nd rfl (.inl rfl) (pe_cn C_first_way (hr.mono (by decide)) (by rfl) (pa_cons (pv 0) (pa_cons (pe_op op_sub (pe_ix ix_list (pv 0) (pv 1) (fun _ _ => rfl)) pe_int) pa_nil))))
      (pss_cons (ps_for (passes_of rfl) rfl (pi_range1 rfl m_range (pa_cons (pv 2) pa_nil)) (pg_name (i := 4) sc_trial.nd rfl (.inl rfl)) (pss_one (ps_asg pe_int (pg_sub (pv 3) (pv 4) set_list))))
      (pss_cons (ps_augS (pv 3) (pv 2) pget_list pe_int ip_add set_list)
      (pss_one (ps_ret (pv 3))))))), ?_⟩
    have hR := R.len
    refine q_when (b := decide (l < 0) || (decide (h ≤ l) || decide (((cs.map V.int).length : Int) ≤ h))) (by walk_at "et") (fun hb H1 e1 => ?_) (fun hb H1 e1 => ?_)
    · refine bad (fun z => ?_) H1 e1
      obtain ⟨p1, p2, p3⟩ := z
      rw [List.length_map, decide_eq_false (by omega), decide_eq_false (by omega), decide_eq_false (by omega)] at hb
      cases hb
    · have g : Place cs h l := by
        rw [Bool.or_eq_false_iff, Bool.or_eq_false_iff, List.length_map] at hb
        exact ⟨by have := of_decide_eq_false hb.1; omega, by have := of_decide_eq_false hb.2.1; omega, by have := of_decide_eq_false hb.2.2; omega⟩
      obtain ⟨p1, p2, p3⟩ := id g
      obtain ⟨hn, rfl⟩ := Int.eq_ofNat_of_zero_le (show 0 ≤ h by omega)
      obtain ⟨ln, rfl⟩ := Int.eq_ofNat_of_zero_le p1
      have hh : hn < cs.length := by omega
      have hl : ln < cs.length := by omega
      have ha1 := ex_l e1 ha
      have at1 := gd_at hh
      have c1 : 1 ≤ gd cs hn := R.ge1 hh
      have c2 : gd cs hn ≤ 10 ^ 60 := R.most _ hh
      have x80 : gd cs hn - 1 ≤ 10 ^ 80 := Int.le_trans (show gd cs hn - 1 ≤ 10 ^ 60 by omega) (by decide)
      refine q_asgL (el_call (vs := [.ref a, .int (gd cs hn - 1)]) (by walk_at "ea") (spl_first ha1 R (by omega) x80)) fun fl H2 hf0 e2 h2 => ?_
      have hf2 : SqL K H2 fl ((grL cs (gd cs hn - 1)).map V.int) := sq_of h2
      have lf : (grL cs (gd cs hn - 1)).length = cs.length := tab_len
      have hfl := fresh_back e1 hf0
      refine q_forR1 (n := (ln : Int)) (by walk_at "ea") ⟨by omega, by omega⟩
        (fun i σ H' => ∃ v4, σ = [some (.ref a), some (.int (hn : Int)), some (.int (ln : Int)), some (.ref fl), v4] ∧ Ex H H' ∧ H' fl = some (.lst ((tab cs.length fun k => if k < i then 0 else gd (grL cs (gd cs hn - 1)) k).map V.int)))
        (fun H3 e3 => ⟨none, rfl, (e1.trans e2).trans e3, ?_⟩) ?_ ?_
      · rw [e3 _ _ h2]
        congr 3
        have := eq_tab (xs := grL cs (gd cs hn - 1))
        rw [lf] at this
        rw [this]
        exact tab_ext fun k hk => by rw [if_neg (Nat.not_lt_zero _), gd_tab hk]
      · rintro i σ H' hi ⟨v4, rfl, e3, h3⟩
        refine s_setL (v := .int 0) h3 ev_c (ev_var rfl) (ev_var rfl) (by rw [List.length_map, tab_len]; omega) fun H4 e4 => ?_
        refine ⟨_, rfl, Ex.mut (e3.trans e4) hfl, ?_⟩
        rw [upd_same, map_set, tab_set]
        congr 3
        refine tab_ext fun k hk => ?_
        by_cases e : k = i
        · rw [if_pos e, if_pos (by omega)]
        · rw [if_neg e]
          by_cases c : k < i
          · rw [if_pos c, if_pos (by omega)]
          · rw [if_neg c, if_neg (by omega)]
      · rintro σ H' ⟨v4, rfl, e3, h3⟩
        rw [Int.toNat_natCast] at h3
        refine q_augL (f := fun i j => i + j) (j := ln) (b := 1) h3 (ev_var rfl) (ev_var rfl) ev_c (by rw [tab_len]; exact hl) fun H4 e4 => ?_
        refine s_ret (ev_var rfl) fun H5 e5 => good g fl H5 hfl ((Ex.mut (e3.trans e4) hfl).trans e5) ?_
        rw [Int.toNat_natCast, Int.toNat_natCast, e5 _ _ upd_same, tab_set]
        congr 3
        unfold triL
        refine tab_ext fun k hk => ?_
        unfold Coin.tri
        by_cases e : k = ln
        · rw [if_pos e, if_neg (by omega), if_pos e, e, gd_tab hl, if_neg (Nat.lt_irrefl _)]
          rw [show gd (grL cs (gd cs hn - 1)) ln = Coin.gr (gd cs) cs.length (gd cs hn - 1) ln from gd_tab hl]
        · rw [if_neg e]
          by_cases c : k < ln
          · rw [if_pos c, if_pos c]
          · rw [if_neg c, if_neg c, if_neg e]
            exact gd_tab hk
abbrev s_trials : Stmt := top 19
abbrev N_trials : List Str := ["coins", "pairs", "high", "low", "way"]
theorem sc_trials : FnScope N_trials ["coins"] (defScope s_trials) := ⟨rfl, rfl, rfl, by decide +kernel, rfl, by decide +kernel, by decide +kernel⟩
theorem ok_trials {A AW : Addr} {f : Addr} {fd : FuncData} (F : Fun K "trials" "trials" s_trials f fd) (m_len : mg "len" = none) (m_range : mg "range" = none) (C_trial : Cn P w K mg base 3 "trial" (spTrial K A)) (C_worth : Cn P w K mg base 1 "worth" (spWorthW K AW)) :
    FnOk P w K mg base CX0 4 f fd ["coins"] (spTrials K) := by
  refine F.ok sc_trials (fun vs H Q E h => ?_) (fun cdv A1 outer s H vs Q E hr h => ?_)
  · obtain ⟨a, cs, rfl, _⟩ := h
    rfl
  · obtain ⟨a, cs, rfl, ha, R, q⟩ := h
    refine ⟨_, (pss_cons (ps_set (i := 1) sc_trials.nd rfl (.inl rfl) (pe_lst pa_nil))
      (pss_cons (ps_for PassesOwn.never rfl (pi_range2 rfl m_range (pa_cons pe_int (pa_cons (pe_callB call_len_seq (by rfl) m_len PySem.boot_len (pa_cons (pv 0) pa_nil)) pa_nil))) (pg_name (i := 2) sc_trials.nd rfl (.inl rfl)) (pss_one (ps_for PassesOwn.never rfl (pi_range1 rfl m_range (pa_cons (pv 2) pa_nil)) (pg_name (i := 3) sc_trials.nd rfl (.inl rfl)) (pss_cons (ps_set (i := 4) sc_trials.nd rfl (.inl rfl) (pe_cn C_trial (hr.mono (by decide)) (by rfl) (pa_cons (pv 0) (pa_cons (pv 2) (pa_cons (pv 3) pa_nil)))))
      (pss_one (ps_expr (pe_bm PySem.F.plainAttrs_list PySem.F.slot_list_append PySem.F.type_list_append mt_append (pv 1) (pa_cons (pe_tup (pa_cons (pe_cn C_worth (hr.mono (by decide)) (by rfl) (pa_cons (pv 0) (pa_cons (pv 4) pa_nil))) (pa_cons (pv 4) pa_nil))) pa_nil))))))))
      (pss_one (ps_ret (pv 1))))), ?_⟩
    have hR := R.len
    have hp := R.pos
    have nl : 2 * (trialsL cs).length = cs.length * (cs.length - 1) := up_len
    have le : (trialsL cs).length ≤ 100 := by
      have : cs.length * (cs.length - 1) ≤ 12 * 11 := Nat.mul_le_mul hR (by omega)
      omega
    refine q_asgL (el_lst ea_nil (by simp)) fun g H1 hg0 e1 h1 => ?_
    refine q_forR2 (lo := 1) (n := ((cs.map V.int).length : Int)) (ea_cons ev_c (ea_cons (ev_len (ev_var rfl) (ex_l e1 ha)) ea_nil)) ⟨by decide, by decide, by omega, by rw [List.length_map]; omega⟩
      (fun i σ H' => ∃ v2 v3 v4, σ = [some (.ref a), some (.ref g), v2, v3, v4] ∧ Ex H H' ∧ Gath H H' g (trialsUp cs (i + 1)))
      (fun H2 e2 => ⟨none, none, none, rfl, e1.trans e2, Gath.nil (e2 _ _ h1)⟩) ?_ ?_
    · rintro i σ H' hi ⟨v2, v3, v4, rfl, e2, gt⟩
      have hh : i + 1 < cs.length := by rw [List.length_map] at hi; omega
      refine s_forR1 (n := 1 + (i : Int)) (by walk_at "ea") ⟨by omega, by omega⟩
        (fun j σ H'' => ∃ v3 v4, σ = [some (.ref a), some (.ref g), some (.int (1 + (i : Int))), v3, v4] ∧ Ex H H'' ∧ Gath H H'' g (trialsUp cs (i + 1) ++ (List.range j).map (trial1 cs (i + 1))))
        (fun H4 e4 => ⟨v3, v4, rfl, e2.trans e4, by rw [List.range_zero, List.map_nil, List.append_nil]; exact gt.mono e4⟩) ?_ ?_
      · rintro j σ H'' hj ⟨v3, v4, rfl, e4, gj⟩
        have hjh : j < i + 1 := by omega
        refine q_asgL (el_call (vs := [.ref a, .int (1 + (i : Int)), .int (j : Int)]) (by walk_at "ea") (spl_trialN (ex_l e4 ha) R (by omega) rfl hjh hh)) fun l H5 hl0 e5 h5 => ?_
        have gj5 := gj.mono e5
        obtain ⟨xs, hx5, hxl⟩ := gj5.lst
        have tb := tri_bound R (l := j) hh
        have short : xs.length < 100000 := by
          rw [hxl, List.length_append, List.length_map, List.length_range]
          have := up_le (cs := cs) (show i + 1 ≤ cs.length by omega)
          have : (trialsUp cs cs.length).length ≤ 100 := le
          omega
        refine s_appU (ys := [.int (wor cs (triL cs (i + 1) j)), .ref l]) hx5 (ev_var rfl) (eu_tup (ea_cons (ev_call (vs := [.ref a, .ref l]) (by walk_at "ea") (spv_worthW (ex_l (e4.trans e5) ha) (sq_of h5) R triL_len tb)) (ea_cons (ev_var rfl) ea_nil)) (by simp)) short fun m H6 hm0 e6 h6 => ?_
        obtain ⟨xs', hx, hxl'⟩ := gj.lst
        have hx' : xs' = xs := by have := e5 _ _ hx; rw [hx5] at this; exact (HO.lst.inj (Option.some.inj this)).symm
        subst hx'
        have snoc := gj.snoc (w := wor cs (triL cs (i + 1) j)) (ws := triL cs (i + 1) j) e4 (e5.trans e6) hl0 (fresh_back e5 hm0) (e6 _ _ h5) h6 hx
        refine ⟨_, _, rfl, Ex.mut ((e4.trans e5).trans e6) hg0, ?_⟩
        rw [List.range_succ, List.map_append, ← List.append_assoc]
        exact snoc
      · rintro σ H'' ⟨v3, v4, rfl, e4, gj⟩
        rw [show (1 + (i : Int)).toNat = i + 1 by omega] at gj
        exact ⟨_, _, _, rfl, e4, gj⟩
    · rintro σ H' ⟨v2, v3, v4, rfl, e2, gt⟩
      rw [List.length_map, show ((cs.length : Int) - 1).toNat + 1 = cs.length by omega] at gt
      refine s_ret (ev_var rfl) fun H3 e3 => ?_
      obtain ⟨tp, lp, ps, fr, inj, ne⟩ := gt.mono e3
      exact q g H3 tp lp hg0 (e2.trans e3) ps fr inj
abbrev s_beats_first_way : Stmt := top 21
abbrev N_beats_first_way : List Str := ["coins", "pair", "amount", "way"]
theorem sc_beats_first_way : FnScope N_beats_first_way ["coins", "pair"] (defScope s_beats_first_way) := ⟨rfl, rfl, rfl, by decide +kernel, rfl, by decide +kernel, by decide +kernel⟩
theorem ok_beats_first_way {AN : Addr} {f : Addr} {fd : FuncData} (F : Fun K "_beats_first_way" "_beats_first_way" s_beats_first_way f fd) (C_pieces : Cl P w K mg base 1 "pieces" (spPieces K)) (C_first_way : Cn P w K mg base 2 "first_way" (spFirst K AN)) :
    FnOk P w K mg base CX0 3 f fd ["coins", "pair"] (spBeats K) := by
  refine F.ok sc_beats_first_way (fun vs H Q E h => ?_) (fun cdv A1 outer s H vs Q E hr h => ?_)
  · obtain ⟨a, p, l, cs, x, ws, rfl, _⟩ := h
    rfl
  · obtain ⟨a, p, l, cs, x, ws, rfl, ha, R, hp, hl, h0, h1, q⟩ := h
    refine ⟨_, (pss_cons (ps_asg (pv 1) (pg_tup rfl (pgs_cons (pg_name (i := 2) sc_beats_first_way.nd rfl (.inl rfl)) (pgs_cons (pg_name (i := 3) sc_beats_first_way.nd rfl (.inl rfl)) pgs_nil))))
      (pss_one (ps_ret (pe_cmpR op_lt (pe_cl C_pieces (hr.mono (by decide)) (by rfl) (pa_cons (pv 3) pa_nil)) (pe_cl C_pieces (hr.mono (by decide)) (by rfl) (pa_cons (pe_cn C_first_way (hr.mono (by decide)) (by rfl) (pa_cons (pv 0) (pa_cons (pv 2) pa_nil))) pa_nil)) (nomark _))))), ?_⟩
    refine ⟨.ref p, rfl, p, [.int x, .ref l], rfl, Or.inl (Or.inl hp), rfl, .int x, [.ref l], rfl, .ref l, [], rfl, rfl, ?_⟩
    have pw : Coin.psum (gd ws) ws.length = ws.sum := (sum_gd ..).symm
    have pg : Coin.psum (gd (grL cs x)) (grL cs x).length = (grL cs x).sum := (sum_gd ..).symm
    have hc : cand cs (x, ws) = decide (ws.sum < (grL cs x).sum) := by unfold cand; rfl
    rw [hc] at q
    dsimp only
    refine s_ret (v := V.bl (decide (ws.sum < (grL cs x).sum))) (ev_op (r := rI0 fun i j => V.bl (decide (i < j))) (x := .int ws.sum) (y := .int (grL cs x).sum) ?_ ?_ (rv_I0 (g := fun i j => V.bl (decide (i < j))))) fun H1 e1 => q H1 e1
    · rw [← pw]
      exact ev_call (vs := [.ref l]) (by walk_at "ea") (spv_pieces (sq_of hl))
    · rw [← pg]
      exact ev_call1L (xs := (grL cs x).map V.int) (el_call (vs := [.ref a, .int x]) (by walk_at "ea") (spl_first ha R h0 h1)) (fun p H4 hp e4 => spv_pieces (sq_of hp))
abbrev s_rank : Stmt := top 22
abbrev N_rank : List Str := ["pair", "amount", "way"]
theorem sc_rank : FnScope N_rank ["pair"] (defScope s_rank) := ⟨rfl, rfl, rfl, by decide +kernel, rfl, by decide +kernel, by decide +kernel⟩
theorem ok_rank {f : Addr} {fd : FuncData} (F : Fun K "_rank" "_rank" s_rank f fd) (C_pieces : Cl P w K mg base 1 "pieces" (spPieces K)) :
    FnOk P w K mg base CX0 2 f fd ["pair"] spRank := by
  refine F.ok sc_rank (fun vs H Q E h => ?_) (fun cdv A1 outer s H vs Q E hr h => ?_)
  · obtain ⟨p, l, x, ws, rfl, _⟩ := h
    rfl
  · obtain ⟨p, l, x, ws, rfl, hp, hl, q⟩ := h
    refine ⟨_, (pss_cons (ps_asg (pv 0) (pg_tup rfl (pgs_cons (pg_name (i := 1) sc_rank.nd rfl (.inl rfl)) (pgs_cons (pg_name (i := 2) sc_rank.nd rfl (.inl rfl)) pgs_nil))))
      (pss_one (ps_ret (pe_tup (pa_cons (pv 1) (pa_cons (pe_cl C_pieces (hr.mono (by decide)) (by rfl) (pa_cons (pv 2) pa_nil)) pa_nil)))))), ?_⟩
    refine ⟨.ref p, rfl, p, [.int x, .ref l], rfl, Or.inl (Or.inl hp), rfl, .int x, [.ref l], rfl, .ref l, [], rfl, rfl, ?_⟩
    have pw : Coin.psum (gd ws) ws.length = ws.sum := (sum_gd ..).symm
    exact s_retU (eu_tup (vs := [.int x, .int ws.sum]) (ea_cons (ev_var rfl) (ea_cons (ev_is (ev_call (vs := [.ref l]) (by walk_at "ea") (spv_pieces (sq_of hl))) (by rw [pw])) ea_nil)) (by simp)) fun q' H1 hq e1 h1 => q q' H1 hq e1 h1
abbrev s_judged : Stmt := top 20
abbrev N_judged : List Str := ["coins", "better", "pair"]
theorem sc_judged : FnScope N_judged ["coins"] (defScope s_judged) := ⟨rfl, rfl, rfl, by decide +kernel, rfl, by decide +kernel, by decide +kernel⟩
theorem ok_judged {f : Addr} {fd : FuncData} (F : Fun K "judged" "judged" s_judged f fd) (m_min : mg "min" = none) (C_trials : Cl P w K mg base 4 "trials" (spTrials K)) (C_beats_first_way : Cl P w K mg base 3 "_beats_first_way" (spBeats K)) (C_rank : Cl P w K mg base 2 "_rank" spRank) :
    FnOk P w K mg base CX0 6 f fd ["coins"] (spJudged K) := by
  refine F.ok sc_judged (fun vs H Q E h => ?_) (fun cdv A1 outer s H vs Q E hr h => ?_)
  · obtain ⟨a, cs, rfl, _⟩ := h
    rfl
  · obtain ⟨a, cs, rfl, ha, R, q⟩ := h
    refine ⟨_, (pss_cons (ps_setLc (i := 1) (own := [("pair", 2)]) (g := gName 2) (by rfl) sc_judged.nd rfl rfl (sw_true rfl rfl rfl (by decide +kernel)) (pi_list (pe_cl C_trials (hr.mono (by decide)) (by rfl) (pa_cons (pv 0) pa_nil))) (blkOk_by (own := [("pair", 2)]) (N := N_judged) (sc := defScope s_judged) (by decide +kernel)) (fun _ _ _ _ _ => pg_name (i := 2) sc_judged.nd rfl (Or.inl rfl)) (fun _ _ _ _ _ => (pts_one (pt_val (pe_cl C_beats_first_way (hr.mono (by decide)) (by rfl) (pa_cons (pv 0) (pa_cons (pv 2) pa_nil)))))) (fun _ _ _ _ _ => (pv 2)))
      (pss_one (ps_ret (pe_minKD C_rank (hr.mono (by decide)) (by rfl) m_min (by rfl) (pv 1))))), ?_⟩

    refine q_lcTr (fun m => cand cs (tn (trialsL cs) m)) (by walk_at "ea") ha R (fun x => rfl) fun g H1 tp lp hg e1 ps fr => ⟨fun m H2 e2 hm => ?_, fun m H2 e2 => ev_var rfl, fun L H2 e2 hL => ?_⟩
    · obtain ⟨hh, ll, p1, p2, te⟩ : ∃ h l, h < cs.length ∧ l < h ∧ tn (trialsL cs) m = trial1 cs h l := by
        refine mem_trialsL.mp ?_
        unfold tn
        rw [List.getD_eq_getElem?_getD, List.getElem?_eq_getElem hm]
        exact List.getElem_mem hm
      have ht := e2 _ _ (ps.tup m hm)
      have hl := e2 _ _ (ps.way m hm id)
      have top := worth_top R p1 p2
      rw [te] at ht hl ⊢
      exact et_B (ev_call (vs := [.ref a, .ref (tp m)]) (by walk_at "ea") (spv_beats (ex_l (e1.trans e2) ha) R ht hl top.1 (Int.le_trans top.2 (by decide))))
    · have xs : given (trialsL cs).length (fun m => cand cs (tn (trialsL cs) m)) (fun m => V.ref (tp m)) = (betterIx cs).map fun m => V.ref (tp m) := rfl
      rw [xs] at hL
      have at' : ∀ (k : Nat) (x : V), ((betterIx cs).map fun m => V.ref (tp m))[k]? = some x → ∃ m, (betterIx cs)[k]? = some m ∧ m < (trialsL cs).length ∧ x = .ref (tp m) := fun k x h => by
        rw [List.getElem?_map] at h
        cases e : (betterIx cs)[k]? with
        | none => rw [e] at h; cases h
        | some m =>
          rw [e] at h
          exact ⟨m, rfl, List.mem_range.mp (List.mem_filter.mp (List.mem_of_getElem? e)).1, (Option.some.inj h).symm⟩
      have e02 := e1.trans e2
      refine ⟨.ref L, rfl, L, _, fun j => mark (tn (trialsL cs) ((betterIx cs).getD j 0)), rfl, sq_of hL, fun k x H' hx e' => ?_, fun h => ?_, fun k x H' hx e' b => ?_⟩
      · obtain ⟨m, hm, lt, rfl⟩ := at' k x hx
        have gm : (betterIx cs).getD k 0 = m := by rw [List.getD_eq_getElem?_getD, hm]; rfl
        dsimp only
        rw [gm]
        exact ⟨tp m, lp m, (tn (trialsL cs) m).1, (tn (trialsL cs) m).2, rfl, (e2.trans e') _ _ (ps.tup m lt), (e2.trans e') _ _ (ps.way m lt id), fun q' H'' hq e'' h'' => ⟨e'', q', rfl, h''⟩⟩
      · exact q .non H2 e02 (by rw [judged_no (List.map_eq_nil_iff.mp h)]; rfl)
      · obtain ⟨m, hm, lt, rfl⟩ := at' k x hx
        rw [List.length_map] at b
        refine q _ H' (e02.trans e') ?_
        rw [judged_yes hm b]
        exact ⟨tp m, lp m, rfl, (fr m lt).1, (fr m lt).2, (e2.trans e') _ _ (ps.tup m lt), (e2.trans e') _ _ (ps.way m lt id)⟩
abbrev s_Judge_init : Stmt := inClass (top 24) 0
abbrev N_Judge_init : List Str := ["self"]
theorem sc_Judge_init : FnScope N_Judge_init ["self"] (defScope s_Judge_init) := ⟨rfl, rfl, rfl, by decide +kernel, rfl, by decide +kernel, by decide +kernel⟩
theorem ok_Judge_init {C : Addr} {f : Addr} {fd : FuncData} (F : Fun K "__init__" "Judge.__init__" s_Judge_init f fd) (cl : Cls K C) (nC : NoAttr K C "_coins") :
    FnOk P w K mg base CX0 1 f fd ["self"] (spInitJ C) := by
  refine F.ok sc_Judge_init (fun vs H Q E h => ?_) (fun cdv A1 outer s H vs Q E hr h => ?_)
  · obtain ⟨j, dx, rfl, _⟩ := h
    rfl
  · obtain ⟨j, dx, rfl, hj, hd, q⟩ := h
    refine ⟨_, (pss_one (ps_fld (pv 0) (pe_lst (pa_cons pe_int pa_nil)) rfl)), ?_⟩
    refine el_lst (vs := [.int 1]) (by walk_at "ea") (by simp) H (Ex.refl H) _ fun p H1 hp e1 h1 => ?_
    have pj : p ≠ j := (ne_of_none hj hp).symm
    have pd : dx ≠ j := ne_of hd hj (by intro z; cases z)
    refine ⟨_, rfl, j, C, dx, [], rfl, e1 _ _ hj, cl, nC, by decide, ?_⟩
    refine q (fun b => b = j ∨ b = dx ∨ b = p) _ ⟨dx, p, upd_same, by rw [upd_ne pd]; exact e1 _ _ hd, by rw [upd_ne pj]; exact h1, fun b => Iff.rfl⟩ (fun b hb => ?_) (fun b o hb ho => by rw [upd_ne hb]; exact e1 _ _ ho)
    rcases hb with h | h | h
    · exact .inl h
    · exact .inr (.inl h)
    · exact .inr (.inr (by rw [h]; exact hp))
abbrev s_Judge_row : Stmt := inClass (top 24) 1
abbrev N_Judge_row : List Str := ["self"]
theorem sc_Judge_row : FnScope N_Judge_row ["self"] (defScope s_Judge_row) := ⟨rfl, rfl, rfl, by decide +kernel, rfl, by decide +kernel, by decide +kernel⟩
theorem ok_Judge_row {C : Addr} {f : Addr} {fd : FuncData} (F : Fun K "row" "Judge.row" s_Judge_row f fd) (cl : Cls K C) (nC : NoAttr K C "_coins") (m_list : mg "list" = none) :
    FnOk P w K mg base CX0 3 f fd ["self"] (spMRow (JC C)) := by
  refine F.ok sc_Judge_row (fun vs H Q E h => ?_) (fun cdv A1 outer s H vs Q E hr h => ?_)
  · obtain ⟨j, _, cs, rfl, _⟩ := h
    rfl
  · obtain ⟨j, G, cs, rfl, hJ, R, q⟩ := h
    obtain ⟨dx, l, hj, hd, hl, hF⟩ := hJ
    refine ⟨_, (pss_one (ps_ret (pe_callTy call_list_of (by rfl) m_list (by decide +kernel) (pa_cons (pe_fld (pv 0) rfl) pa_nil)))), ?_⟩
    exact s_retL (el_listI (ev_fld (ev_var rfl) hj cl nC lk_yes) (sq_of hl)) fun p H1 hp e1 h1 => q p H1 hp e1 h1
abbrev s_Judge_more : Stmt := inClass (top 24) 2
abbrev N_Judge_more : List Str := ["self", "coin"]
theorem sc_Judge_more : FnScope N_Judge_more ["self", "coin"] (defScope s_Judge_more) := ⟨rfl, rfl, rfl, by decide +kernel, rfl, by decide +kernel, by decide +kernel⟩
theorem ok_Judge_more {C A : Addr} {f : Addr} {fd : FuncData} (F : Fun K "more" "Judge.more" s_Judge_more f fd) (cl : Cls K C) (nC : NoAttr K C "_coins") (C_good_row : Cn P w K mg base 1 "good_row" (spGoodRow K A)) :
    FnOk P w K mg base (L2N.CX P w) 3 f fd ["self", "coin"] (spMMore (JC C) A) := by
  refine okN F sc_Judge_more (fun vs H Q E h => ?_) (fun cdv A1 outer s H vs Q E hr h => ?_)
  · obtain ⟨j, _, cs, x, rfl, _⟩ := h
    rfl
  · obtain ⟨j, G, cs, x, rfl, hJ, R, good, bad⟩ := h
    obtain ⟨dx, l, hj, hd, hl, hF⟩ := hJ
    refine ⟨_, (pss_one (ps_fld (pv 0) (pe_cr C_good_row (hr.mono (by decide)) (L2N.passes_call (L2N.takes_of rfl rfl rfl rfl) (fun _ _ _ _ h => h)) (by rfl) (pa_cons (pe_op op_cat (pe_fld (pv 0) rfl) (pe_lst (pa_cons (pv 1) pa_nil))) pa_nil)) rfl)), ?_⟩
    have hR := R.len
    refine el_is (ys := (cs ++ [x]).map V.int) (el_catRL (ev_fld (ev_var rfl) hj cl nC lk_yes) hl (el_lst (vs := [.int x]) (by walk_at "ea") (by simp)) (by rw [List.length_map]; simp; omega)) (by rw [List.map_append]; rfl) H (Ex.refl H) _ fun p H1 hp e1 h1 => ?_
    refine ⟨p, cs ++ [x], rfl, sq_of h1, by rw [List.length_append, List.length_singleton]; omega, fun rp g H2 hg e2 h2 => ?_, fun nr H' e' => bad (fun ok => nr ((put_iff R).mpr ok)) H' (e1.trans e')⟩
    have ok := (put_iff R).mp rp
    have e02 := e1.trans e2
    have gj : g ≠ j := (ne_of_none (e1 _ _ hj) hg).symm
    have pd : dx ≠ j := ne_of hd hj (by intro z; cases z)
    refine ⟨_, rfl, j, C, dx, _, rfl, e02 _ _ hj, cl, nC, by show 1 < 1000; decide, ?_⟩
    have pf : putF "_coins" (V.ref g) [(("_coins" : Str), V.ref l)] = [(("_coins" : Str), V.ref g)] := by
      show (if ("_coins" : Str) = "_coins" then _ else _) = _
      rw [if_pos rfl]
    rw [pf]
    refine good ok (fun b => b = j ∨ b = dx ∨ b = g) _ ⟨dx, g, upd_same, by rw [upd_ne pd]; exact e02 _ _ hd, by rw [upd_ne gj]; exact h2, fun b => Iff.rfl⟩ (fun b hb => ?_) (fun b o hb nb => ?_)
    · rcases hb with h | h | h
      · exact .inl ((hF b).mpr (.inl h))
      · exact .inl ((hF b).mpr (.inr (.inl h)))
      · exact .inr (by rw [h]; exact fresh_back e1 hg)
    · have : b ≠ j := fun z => nb ((hF b).mpr (.inl z))
      rw [upd_ne this]
      exact e02 _ _ hb
abbrev s_Judge_fewer : Stmt := inClass (top 24) 3
abbrev N_Judge_fewer : List Str := ["self"]
theorem sc_Judge_fewer : FnScope N_Judge_fewer ["self"] (defScope s_Judge_fewer) := ⟨rfl, rfl, rfl, by decide +kernel, rfl, by decide +kernel, by decide +kernel⟩
theorem ok_Judge_fewer {C A : Addr} {f : Addr} {fd : FuncData} (F : Fun K "fewer" "Judge.fewer" s_Judge_fewer f fd) (cl : Cls K C) (nC : NoAttr K C "_coins") (m_len : mg "len" = none) (T_NoRow : Er K mg "NoRow" A) :
    FnOk P w K mg base (L2N.CX P w) 3 f fd ["self"] (spMFewer (JC C) A) := by
  refine okN F sc_Judge_fewer (fun vs H Q E h => ?_) (fun cdv A1 outer s H vs Q E hr h => ?_)
  · obtain ⟨j, _, cs, rfl, _⟩ := h
    rfl
  · obtain ⟨j, G, cs, rfl, hJ, R, good, bad⟩ := h
    obtain ⟨dx, l, hj, hd, hl, hF⟩ := hJ
    refine ⟨_, (pss_cons (ps_if (pt_cmpR op_eq (pe_callB call_len_seq (by rfl) m_len PySem.boot_len (pa_cons (pe_fld (pv 0) rfl) pa_nil)) pe_int (nomark _)) (pss_one (L2N.ps_raise rfl (L2N.takes_of rfl rfl rfl rfl) (L2N.pmk_own PySem.F.excBase_ValueError T_NoRow.xC T_NoRow.gC T_NoRow.kC (raises_own T_NoRow.bC T_NoRow.tC) rfl))) pss_nil)
      (pss_one (ps_ret (pe_bm0 PySem.F.plainAttrs_list PySem.F.slot_list_pop PySem.F.type_list_pop mt_pop (pe_fld (pv 0) rfl))))), ?_⟩
    have hp := R.pos
    refine q_when (b := decide (V.int ((cs.map V.int).length : Int) = V.int 1)) (et_test (ev_op (ev_len (ev_fld (ev_var rfl) hj cl nC lk_yes) (sq_of hl)) ev_c (rv_eq rfl))) (fun hb H1 e1 => ?_) (fun hb H1 e1 => ?_)
    · have := V.int.inj (of_decide_eq_true hb)
      rw [List.length_map] at this
      exact bad (by omega) H1 e1
    · have n1 : 1 < cs.length := by
        have : ¬ cs.length = 1 := fun z => of_decide_eq_false hb (by rw [List.length_map, z]; rfl)
        omega
      have lj : j ≠ l := ne_of hj hl (by intro z; cases z)
      have ld : dx ≠ l := ne_of hd hl (by intro z; cases z)
      rw [last_split (by omega)] at hl
      refine s_retPop (ev_fld (ev_var rfl) (e1 _ _ hj) cl nC lk_yes) (e1 _ _ hl) fun H2 e2 => ?_
      have e02 := e1.trans e2
      · refine good n1 G _ ⟨dx, l, by rw [upd_ne lj]; exact e02 _ _ hj, by rw [upd_ne ld]; exact e02 _ _ hd, upd_same, hF⟩ (fun b hb => .inl hb) (fun b o hb nb => ?_)
        have : b ≠ l := fun z => nb ((hF b).mpr (.inr (.inr z)))
        rw [upd_ne this]
        exact e02 _ _ hb
abbrev s_Judge_verdict : Stmt := inClass (top 24) 4
abbrev N_Judge_verdict : List Str := ["self"]
theorem sc_Judge_verdict : FnScope N_Judge_verdict ["self"] (defScope s_Judge_verdict) := ⟨rfl, rfl, rfl, by decide +kernel, rfl, by decide +kernel, by decide +kernel⟩
theorem ok_Judge_verdict {C : Addr} {f : Addr} {fd : FuncData} (F : Fun K "verdict" "Judge.verdict" s_Judge_verdict f fd) (cl : Cls K C) (nC : NoAttr K C "_coins") (C_judged : Cl P w K mg base 6 "judged" (spJudged K)) :
    FnOk P w K mg base CX0 7 f fd ["self"] (spMVerdict (JC C)) := by
  refine F.ok sc_Judge_verdict (fun vs H Q E h => ?_) (fun cdv A1 outer s H vs Q E hr h => ?_)
  · obtain ⟨j, _, cs, rfl, _⟩ := h
    rfl
  · obtain ⟨j, G, cs, rfl, hJ, R, q⟩ := h
    obtain ⟨dx, l, hj, hd, hl, hF⟩ := hJ
    refine ⟨_, (pss_one (ps_ret (pe_cl C_judged (hr.mono (by decide)) (by rfl) (pa_cons (pe_fld (pv 0) rfl) pa_nil)))), ?_⟩
    exact s_retC (ea_cons (ev_fld (ev_var rfl) hj cl nC lk_yes) ea_nil) fun H1 e1 => ⟨l, cs, rfl, sq_of (e1 _ _ hl), R, fun v H2 e2 a => q v H2 (e1.trans e2) (a.back e1)⟩
abbrev s_law_whole : Stmt := top 26
abbrev N_law_whole : List Str := ["_law_found"]
theorem sc_law_whole : FnScope N_law_whole ["_law_found"] (defScope s_law_whole) := ⟨rfl, rfl, rfl, by decide +kernel, rfl, by decide +kernel, by decide +kernel⟩
theorem ok_law_whole {f : Addr} {fd : FuncData} (F : Fun K "_law_whole" "_law_whole" s_law_whole f fd) (m_isinstance : mg "isinstance" = none) (m_int : mg "int" = none) (m_bool : mg "bool" = none) :
    FnOk P w K mg base CX0 1 f fd ["_law_found"] spWhole := by
  refine F.ok sc_law_whole (fun vs H Q E h => ?_) (fun cdv A1 outer s H vs Q E hr h => ?_)
  · obtain ⟨i, rfl, _⟩ := h
    rfl
  · obtain ⟨i, rfl, q⟩ := h
    refine ⟨_, (pss_one (ps_ret (pe_and (pe_callB call_isi (by rfl) m_isinstance (by decide +kernel) (pa_cons (pv 0) (pa_cons (pe_bltn (v := .ty "int") (by rfl) m_int (by decide +kernel) rfl) pa_nil))) (pe_one (pe_not (pe_callB call_isi (by rfl) m_isinstance (by decide +kernel) (pa_cons (pv 0) (pa_cons (pe_bltn (v := .ty "bool") (by rfl) m_bool (by decide +kernel) rfl) pa_nil)))))))), ?_⟩
    exact s_ret (ev_andV (ev_isi_ii (ev_var rfl) ev_c) (fun _ => ev_notV (ev_isi_ib (ev_var rfl) ev_c))) q
abbrev s_law_cell_at : Stmt := top 27
abbrev N_law_cell_at : List Str := ["_law_script", "_law_k"]
theorem sc_law_cell_at : FnScope N_law_cell_at ["_law_script", "_law_k"] (defScope s_law_cell_at) := ⟨rfl, rfl, rfl, by decide +kernel, rfl, by decide +kernel, by decide +kernel⟩
theorem ok_law_cell_at {f : Addr} {fd : FuncData} (F : Fun K "_law_cell_at" "_law_cell_at" s_law_cell_at f fd) (m_len : mg "len" = none) :
    FnOk P w K mg base CX0 1 f fd ["_law_script", "_law_k"] (spCell K) := by
  refine F.ok sc_law_cell_at (fun vs H Q E h => ?_) (fun cdv A outer s H vs Q E hr h => ?_)
  · obtain ⟨l, ns, j, rfl, _⟩ := h
    rfl
  · obtain ⟨l, ns, j, rfl, hs, q⟩ := h
    refine ⟨_, (pss_cons (ps_if (pt_cmpR op_lt (pv 1) (pe_callB call_len_seq (by rfl) m_len PySem.boot_len (pa_cons (pv 0) pa_nil)) (nomark _)) (pss_one (ps_ret (pe_ix ix_list (pv 0) (pv 1) (fun _ _ => rfl)))) pss_nil)
      (pss_one (ps_ret pe_int))), ?_⟩
    refine q_when (b := decide ((j : Int) < (ns.map V.int).length)) (by walk_at "et") (fun hb H1 e1 => ?_) (fun hb H1 e1 => ?_)
    · have hj : j < ns.length := by
        have := of_decide_eq_true hb
        rw [List.length_map] at this; omega
      have at_ := atI_map hj
      exact s_ret (by walk_at "ev") fun H2 e2 => q H2 (e1.trans e2)
    · have hj : ¬ j < ns.length := fun h => by
        have := of_decide_eq_false hb
        rw [List.length_map] at this; omega
      have e0 : ns.getD j 0 = 0 := by rw [List.getD_eq_getElem?_getD, List.getElem?_eq_none (by omega)]; rfl
      rw [e0] at q
      exact s_ret (by walk_at "ev") fun H2 e2 => q H2 (e1.trans e2)
abbrev s_law_kinds : Stmt := top 30
abbrev N_law_kinds : List Str := ["_law_e", "_law_some"]
theorem sc_law_kinds : FnScope N_law_kinds ["_law_e"] (defScope s_law_kinds) := ⟨rfl, rfl, rfl, by decide +kernel, rfl, by decide +kernel, by decide +kernel⟩
/-- the kinds of an error of the class at A: k tells which of the five it is -/
theorem ok_law_kinds {A A_NoRow A_NoWay A_NoAmount A_TooGreat A_NoText : Addr} {b1 b2 b3 b4 b5 : Bool} {f : Addr} {fd : FuncData} {x : Str} (F : Fun K "_law_kinds" "_law_kinds" s_law_kinds f fd)
    (m_isinstance : mg "isinstance" = none) (T : Er K mg x A)
    (g_NoRow : mg "NoRow" = some (.ref A_NoRow)) (g_NoWay : mg "NoWay" = some (.ref A_NoWay)) (g_NoAmount : mg "NoAmount" = some (.ref A_NoAmount)) (g_TooGreat : mg "TooGreat" = some (.ref A_TooGreat)) (g_NoText : mg "NoText" = some (.ref A_NoText))
    (k1 : PySem.W.kitOne K (.ref A) (.ref A_NoRow) = some b1) (k2 : PySem.W.kitOne K (.ref A) (.ref A_NoWay) = some b2) (k3 : PySem.W.kitOne K (.ref A) (.ref A_NoAmount) = some b3)
    (k4 : PySem.W.kitOne K (.ref A) (.ref A_TooGreat) = some b4) (k5 : PySem.W.kitOne K (.ref A) (.ref A_NoText) = some b5) (one : [b1, b2, b3, b4, b5].count true = 1)
    {a : Addr} {oe : Obj} (hz : Zc (.ref A) none oe) (hf : ∃ vs, oe.data = .fields vs) :
    HotRun P w K mg base 1 f fd ["_law_e"] (a, oe) (spKinds a) := by
  refine hot_of F sc_law_kinds (fun cdv A1 outer s H vs Q hot hr h => ?_)
  obtain ⟨rfl, q⟩ := h
  refine ⟨_, (pss_cons (ps_set (i := 1) sc_law_kinds.nd rfl (.inl rfl) (pe_lst (pa_cons (pe_callB (call_isP T.exc hz hf List.mem_cons_self) (by rfl) m_isinstance (by decide +kernel) (pa_cons (pv 0) (pa_cons (pe_glob (v := .ref A_NoRow) rfl g_NoRow rfl) pa_nil))) (pa_cons (pe_callB (call_isP T.exc hz hf List.mem_cons_self) (by rfl) m_isinstance (by decide +kernel) (pa_cons (pv 0) (pa_cons (pe_glob (v := .ref A_NoWay) rfl g_NoWay rfl) pa_nil))) (pa_cons (pe_callB (call_isP T.exc hz hf List.mem_cons_self) (by rfl) m_isinstance (by decide +kernel) (pa_cons (pv 0) (pa_cons (pe_glob (v := .ref A_NoAmount) rfl g_NoAmount rfl) pa_nil))) (pa_cons (pe_callB (call_isP T.exc hz hf List.mem_cons_self) (by rfl) m_isinstance (by decide +kernel) (pa_cons (pv 0) (pa_cons (pe_glob (v := .ref A_TooGreat) rfl g_TooGreat rfl) pa_nil))) pa_nil))))))
      (pss_one (ps_ret (pe_bm PySem.F.plainAttrs_list PySem.F.slot_list_count PySem.F.type_list_count mt_countB (pe_op op_cat (pv 1) (pe_lst (pa_cons (pe_callB (call_isP T.exc hz hf List.mem_cons_self) (by rfl) m_isinstance (by decide +kernel) (pa_cons (pv 0) (pa_cons (pe_glob (v := .ref A_NoText) rfl g_NoText rfl) pa_nil))) pa_nil))) (pa_cons pe_bl pa_nil))))), ?_⟩
  refine q_asgL (xs := [.bl b1, .bl b2, .bl b3, .bl b4]) (el_lst (ea_cons (ev_isE (ev_var rfl) ev_c k1) (ea_cons (ev_isE (ev_var rfl) ev_c k2) (ea_cons (ev_isE (ev_var rfl) ev_c k3) (ea_cons (ev_isE (ev_var rfl) ev_c k4) ea_nil)))) (by simp)) fun r H1 hr0 e1 h1 => ?_
  refine s_ret (ev_countB (bs := [b1, b2, b3, b4, b5]) (k := true) (el_catRL (xs := [.bl b1, .bl b2, .bl b3, .bl b4]) (ys := [.bl b5]) (ev_var rfl) h1 (el_lst (ea_cons (ev_isE (ev_var rfl) ev_c k5) ea_nil) (by simp)) (by simp)) ev_c) fun H2 e2 => ?_
  rw [one]
  exact q H2 (e1.trans e2)
variable {C : Addr} {J : JP}
abbrev s_law_coin_by : Stmt := top 28
abbrev N_law_coin_by : List Str := ["_law_last", "_law_cell", "_law_more"]
theorem sc_law_coin_by : FnScope N_law_coin_by ["_law_last", "_law_cell"] (defScope s_law_coin_by) := ⟨rfl, rfl, rfl, by decide +kernel, rfl, by decide +kernel, by decide +kernel⟩
theorem ok_law_coin_by {f : Addr} {fd : FuncData} (F : Fun K "_law_coin_by" "_law_coin_by" s_law_coin_by f fd) :
    FnOk P w K mg base CX0 1 f fd ["_law_last", "_law_cell"] spCoinBy := by
  refine F.ok sc_law_coin_by (fun vs H Q E h => ?_) (fun cdv A outer s H vs Q E hr h => ?_)
  · obtain ⟨l, c, rfl, _⟩ := h
    rfl
  · obtain ⟨last, c, rfl, l1, l2, q⟩ := h
    refine ⟨_, (pss_cons (ps_set (i := 2) sc_law_coin_by.nd rfl (.inl rfl) (pe_op op_fdiv (pv 1) pe_int))
      (pss_cons (ps_if (PW.pt (pw_or (pt_cmpR op_eq (pe_op op_mod (pv 1) pe_int) pe_int (nomark _)) (pw_or1 (pt_cmpR op_eq (pe_op op_mod (pv 1) pe_int) pe_int (nomark _))))) (pss_one (ps_ret (pe_op op_mulW (pv 0) (pe_op op_add pe_int (pe_op op_mod (pv 2) pe_int))))) pss_nil)
      (pss_cons (ps_if (pt_cmpR op_eq (pe_op op_mod (pv 1) pe_int) pe_int (nomark _)) (pss_one (ps_ret (pe_op op_sub (pe_op op_mulW (pv 0) (pe_op op_add pe_int (pe_op op_mod (pv 2) pe_int))) pe_int))) pss_nil)
      (pss_cons (ps_if (pt_cmpR op_eq (pe_op op_mod (pv 1) pe_int) pe_int (nomark _)) (pss_one (ps_ret (pe_op op_add (pe_op op_mulW (pv 0) (pe_op op_add pe_int (pe_op op_mod (pv 2) (pe_op op_add (pe_op op_pow pe_int pe_int) pe_int)))) (pe_op op_mod (pe_op op_fdiv (pv 2) pe_int) (pv 0))))) pss_nil)
      (pss_cons (ps_if (pt_cmpR op_eq (pe_op op_mod (pv 1) pe_int) pe_int (nomark _)) (pss_one (ps_ret (pe_op op_sub (pv 0) (pe_op op_mod (pv 2) pe_int)))) pss_nil)
      (pss_cons (ps_if (pt_cmpR op_eq (pe_op op_mod (pv 1) pe_int) pe_int (nomark _)) (pss_one (ps_ret (pe_op op_add (pe_op op_add (pe_op op_pow pe_int pe_int) pe_int) (pe_op op_mod (pv 2) pe_int)))) pss_nil)
      (pss_one (ps_ret (pe_op op_add (pe_op op_add (pv 0) pe_int) (pe_op op_mod (pv 2) pe_int)))))))))), ?_⟩
    have b500 := p500 l2
    refine q_asg (by walk_at "ev") fun H1 e1 => ?_
    generalize c / 8 = more
    have m1 : CMulW last (2 + more % 5) := mul_ok (by omega) b500 (by omega) (small500 (by omega))
    have n3 := Int.emod_nonneg more (show (10 ^ (15 : Int).toNat + 37 : Int) ≠ 0 by decide)
    have n4 := Int.emod_lt_of_pos more (show 0 < (10 ^ (15 : Int).toNat + 37 : Int) by decide)
    have m5 : CMulW last (2 + more % (10 ^ (15 : Int).toNat + 37)) := mul_ok (by omega) b500 (by omega) (small500 (Int.le_trans (show _ ≤ 2 + (10 ^ (15 : Int).toNat + 37 : Int) by omega) (by decide)))
    have s1 : 0 < last := by omega
    refine q_when (by walk_at "et") (fun _ H2 e2 => s_ret (by walk_at "ev") fun H3 e3 => q _ H3 ((e1.trans e2).trans e3)) (fun _ H2 e2 => ?_)
    refine q_when (by walk_at "et") (fun _ H3 e3 => s_ret (by walk_at "ev") fun H4 e4 => q _ H4 (((e1.trans e2).trans e3).trans e4)) (fun _ H3 e3 => ?_)
    refine q_when (by walk_at "et") (fun _ H4 e4 => s_ret (by walk_at "ev") fun H5 e5 => q _ H5 ((((e1.trans e2).trans e3).trans e4).trans e5)) (fun _ H4 e4 => ?_)
    refine q_when (by walk_at "et") (fun _ H5 e5 => s_ret (by walk_at "ev") fun H6 e6 => q _ H6 (((((e1.trans e2).trans e3).trans e4).trans e5).trans e6)) (fun _ H5 e5 => ?_)
    refine q_when (by walk_at "et") (fun _ H6 e6 => s_ret (by walk_at "ev") fun H7 e7 => q _ H7 ((((((e1.trans e2).trans e3).trans e4).trans e5).trans e6).trans e7)) (fun _ H6 e6 => ?_)
    exact s_ret (by walk_at "ev") fun H7 e7 => q _ H7 ((((((e1.trans e2).trans e3).trans e4).trans e5).trans e6).trans e7)
abbrev s_law_put : Stmt := top 29
abbrev N_law_put : List Str := ["_law_judge", "_law_coin"]
theorem sc_law_put : FnScope N_law_put ["_law_judge", "_law_coin"] (defScope s_law_put) := ⟨rfl, rfl, rfl, by decide +kernel, rfl, by decide +kernel, by decide +kernel⟩
theorem ok_law_put {A : Addr} {f : Addr} {fd : FuncData} (F : Fun K "_law_put" "_law_put" s_law_put f fd) (rep : JRep C J) (M_more : Mn P w K mg base 3 C "more" (spMMore J A)) (g_NoRow : mg "NoRow" = some (.ref A)) :
    FnOk P w K mg base CX0 4 f fd ["_law_judge", "_law_coin"] (spPut J) := by
  refine F.ok sc_law_put (fun vs H Q E h => ?_) (fun cdv A1 outer s H vs Q E hr h => ?_)
  · obtain ⟨j, G, cs, x, rfl, _⟩ := h
    rfl
  · obtain ⟨j, G, cs, x, rfl, hJ, R, ok, q⟩ := h
    refine ⟨_, (pss_one (L2N.ps_try_many rfl rfl takes0N (fun W pn xe tk _ => (pss_one (ps_ret (pe_cmpR op_isN (pe_mt M_more (hr.mono (by decide)) tk (pv 0) (pa_cons (pv 1) pa_nil)) pe_non (nomark _))))) (L2N.HdsOk.cons ⟨rfl, by decide, Or.inl g_NoRow⟩ (fun a oe cls d pn hz hf => (pss_one (ps_ret pe_bl))) L2N.HdsOk.nil))), ?_⟩
    refine t_more rep (ev_var rfl) (vs := [.int x]) (by walk_at "ea") hJ fun H1 e1 j1 => ⟨j, G, cs, x, rfl, j1, R, fun _ F' H' a n o => ⟨rfl, ?_⟩, fun z => absurd ok z⟩
    rw [decide_eq_true rfl]
    exact q F' H' a (n.back e1) (o.back e1)
abbrev s_law_put_refused : Stmt := top 31
abbrev N_law_put_refused : List Str := ["_law_judge", "_law_coin", "_law_e"]
theorem sc_law_put_refused : FnScope N_law_put_refused ["_law_judge", "_law_coin"] (defScope s_law_put_refused) := ⟨rfl, rfl, rfl, by decide +kernel, rfl, by decide +kernel, by decide +kernel⟩
theorem ok_law_put_refused {A_NoRow A_CoinError : Addr} {f fk : Addr} {fd fdk : FuncData} (F : Fun K "_law_put_refused" "_law_put_refused" s_law_put_refused f fd) (rep : JRep C J) (M_more : Mn P w K mg base 3 C "more" (spMMore J A_NoRow))
    (T : Er K mg "NoRow" A_NoRow) (T_CoinError : Er K mg "CoinError" A_CoinError) (g_NoRow : mg "NoRow" = some (.ref A_NoRow)) (g_CoinError : mg "CoinError" = some (.ref A_CoinError)) (under : PySem.W.subIn K (.ref A_NoRow) (.ref A_CoinError) = some true) (own : PySem.W.kitOne K (.ref A_NoRow) (.ref A_NoRow) = some true)
    (m_isinstance : mg "isinstance" = none) (m_ValueError : mg "ValueError" = none)
    (D_law_kinds : Df K mg "_law_kinds" s_law_kinds fk fdk ["_law_e"])
    (GK : ∀ {a : Addr} {oe : Obj}, Zc (.ref A_NoRow) none oe → (∃ vs, oe.data = .fields vs) → HotRun P w K mg base 1 fk fdk ["_law_e"] (a, oe) (spKinds a)) :
    FnOk P w K mg base CX0 4 f fd ["_law_judge", "_law_coin"] (spPutRef J) := by
  refine F.ok sc_law_put_refused (fun vs H Q E h => ?_) (fun cdv A1 outer s H vs Q E hr h => ?_)
  · obtain ⟨j, G, cs, x, rfl, _⟩ := h
    rfl
  · obtain ⟨j, G, cs, x, rfl, hJ, R, bad, q⟩ := h
    refine ⟨_, (pss_cons (L2N.ps_try_as (i := 2) rfl rfl sc_law_put_refused.nd rfl rfl ⟨rfl, by decide, Or.inl g_CoinError⟩ takes0N (fun W pn xe tk _ => (pss_one (ps_expr (pe_mt M_more (hr.mono (by decide)) tk (pv 0) (pa_cons (pv 1) pa_nil))))) (fun a oe cls d pn hz hf => pss_know (C := cls = .ref A_NoRow ∧ d = none) (fun hC => (pss_one (ps_ret (pe_and (pe_callB (call_isK rfl T.exc (zc_know hz hC) hf List.mem_cons_self) (by rfl) m_isinstance (by decide +kernel) (pa_cons (pv 2) (pa_cons (pe_glob (v := .ref A_NoRow) rfl g_NoRow rfl) pa_nil))) (pe_and (pe_callB (call_isK rfl T.exc (zc_know hz hC) hf List.mem_cons_self) (by rfl) m_isinstance (by decide +kernel) (pa_cons (pv 2) (pa_cons (pe_bltn (v := .ty "ValueError") (by rfl) m_ValueError (by decide +kernel) rfl) pa_nil))) (pe_one (pe_cmpR op_eq (pe_hot (GK (zc_know hz hC) hf) (roomH_mark (hr.mono (by decide))) (hot_mark hz hf) List.mem_cons_self (by rfl) D_law_kinds.g D_law_kinds.F.kp D_law_kinds.b (fun _ _ _ h => by rw [h.1]; rfl) (pa_cons (pv 2) pa_nil)) pe_int (nomark _))))))))))
      (pss_one (ps_ret pe_bl))), ?_⟩
    refine t_more rep (ev_var rfl) (vs := [.int x]) (by walk_at "ea") hJ fun H1 e1 j1 => ⟨j, G, cs, x, rfl, j1, R, fun z => absurd z bad, fun _ H2 e2 => ⟨true, T_CoinError.names under, fun _ y _ => ⟨⟨rfl, rfl⟩, ?_⟩, fun h => nomatch h⟩⟩
    exact s_ret (ev_is (ev_andV (b := true) (ev_isE (ev_var rfl) ev_c own) (fun _ => ev_andV (b := true) (ev_isET (ev_var rfl) ev_c T.vE) (fun _ => ev_is (ev_op (ev_call (ea_cons (ev_var rfl) ea_nil) spv_kinds) ev_c (rv_eq rfl)) (by decide)))) rfl) fun H3 e3 => q H3 ((e1.trans e2).trans e3)
abbrev s_law_off_refused : Stmt := top 32
abbrev N_law_off_refused : List Str := ["_law_judge"]
theorem sc_law_off_refused : FnScope N_law_off_refused ["_law_judge"] (defScope s_law_off_refused) := ⟨rfl, rfl, rfl, by decide +kernel, rfl, by decide +kernel, by decide +kernel⟩
theorem ok_law_off_refused {A : Addr} {f : Addr} {fd : FuncData} (F : Fun K "_law_off_refused" "_law_off_refused" s_law_off_refused f fd) (rep : JRep C J) (M_fewer : Mn P w K mg base 3 C "fewer" (spMFewer J A))
    (T_NoRow : Er K mg "NoRow" A) (g_NoRow : mg "NoRow" = some (.ref A)) (self : PySem.W.subIn K (.ref A) (.ref A) = some true) :
    FnOk P w K mg base CX0 4 f fd ["_law_judge"] (spOffRef J) := by
  refine F.ok sc_law_off_refused (fun vs H Q E h => ?_) (fun cdv A1 outer s H vs Q E hr h => ?_)
  · obtain ⟨j, G, cs, rfl, _⟩ := h
    rfl
  · obtain ⟨j, G, cs, rfl, hJ, R, one, q⟩ := h
    refine ⟨_, (pss_cons (L2N.ps_try_many rfl rfl takes0N (fun W pn xe tk _ => (pss_one (ps_expr (pe_mt0 M_fewer (hr.mono (by decide)) tk (pv 0))))) (L2N.HdsOk.cons ⟨rfl, by decide, Or.inl g_NoRow⟩ (fun a oe cls d pn hz hf => (pss_one (ps_ret pe_bl))) L2N.HdsOk.nil))
      (pss_one (ps_ret pe_bl))), ?_⟩
    exact t_fewer rep (ev_var rfl) hJ fun H1 e1 j1 => ⟨j, G, cs, rfl, j1, R, fun z => absurd z (by omega), fun _ H2 e2 => ⟨true, T_NoRow.names self, fun _ _ _ => q H2 (e1.trans e2), fun h => nomatch h⟩⟩
abbrev s_law_row_is : Stmt := top 34
abbrev N_law_row_is : List Str := ["_law_judge", "_law_row", "_law_found", "_law_number", "_law_other"]
theorem sc_law_row_is : FnScope N_law_row_is ["_law_judge", "_law_row"] (defScope s_law_row_is) := ⟨rfl, rfl, rfl, by decide +kernel, rfl, by decide +kernel, by decide +kernel⟩
theorem ok_law_row_is {f : Addr} {fd : FuncData} (F : Fun K "_law_row_is" "_law_row_is" s_law_row_is f fd) (rep : JRep C J) (M_row : Mc P w K mg base 3 C "row" (spMRow J)) (m_isinstance : mg "isinstance" = none) (m_list : mg "list" = none)
    (C_law_whole : Cl P w K mg base 1 "_law_whole" spWhole) :
    FnOk P w K mg base CX0 4 f fd ["_law_judge", "_law_row"] (spIs J) := by
  refine F.ok sc_law_row_is (fun vs H Q E h => ?_) (fun cdv A1 outer s H vs Q E hr h => ?_)
  · obtain ⟨j, r, G, cs, rfl, _⟩ := h
    rfl
  · obtain ⟨j, r, G, cs, rfl, hJ, hr0, R, q⟩ := h
    refine ⟨_, (pss_cons (ps_set (i := 2) sc_law_row_is.nd rfl (.inl rfl) (pe_mc0 M_row (hr.mono (by decide)) (pv 0)))
      (pss_cons (ps_if (PW.pt (pw_or (pt_not (pt_val (pe_callB call_isi (by rfl) m_isinstance (by decide +kernel) (pa_cons (pv 2) (pa_cons (pe_bltn (v := .ty "list") (by rfl) m_list (by decide +kernel) rfl) pa_nil))))) (pw_or1 (pt_cmpR (op_neD hr.units) (pv 2) (pv 1) (nomark _))))) (pss_one (ps_ret pe_bl)) pss_nil)
      (pss_cons (ps_for PassesOwn.never rfl (pi_list (pv 2)) (pg_name (i := 3) sc_law_row_is.nd rfl (.inl rfl)) (pss_one (ps_if (pt_not (pt_val (pe_cl C_law_whole (hr.mono (by decide)) (by rfl) (pa_cons (pv 3) pa_nil)))) (pss_one (ps_ret pe_bl)) pss_nil)))
      (pss_cons (ps_set (i := 4) sc_law_row_is.nd rfl (.inl rfl) (pe_mc0 M_row (hr.mono (by decide)) (pv 0)))
      (pss_cons (ps_expr (pe_bm PySem.F.plainAttrs_list PySem.F.slot_list_append PySem.F.type_list_append mt_append (pv 2) (pa_cons pe_int pa_nil)))
      (pss_cons (ps_asg pe_int (pg_sub (pv 2) pe_int set_list))
      (pss_one (ps_ret (pe_and (pe_cmpR (op_eqD hr.units) (pv 4) (pv 1) (nomark _)) (pe_and (pe_cmpR (op_eqD hr.units) (pe_mc0 M_row (hr.mono (by decide)) (pv 0)) (pv 1) (nomark _)) (pe_one (pe_cmpR (op_eqD hr.units) (pv 2) (pe_op op_cat (pe_op op_cat (pe_lst (pa_cons pe_int pa_nil)) (pe_slice sl_list (pv 1) (po_some pe_int) po_none)) (pe_lst (pa_cons pe_int pa_nil))) (nomark _))))))))))))), ?_⟩
    have hR := R.len
    have hp := R.pos
    refine q_asgL (el_row rep (ev_var rfl) hJ R) fun t H1 ht0 e1 h1 => ?_
    have hr1 := e1 _ _ hr0
    refine q_when (b := false) (et_is (et_or (et_not (et_B (ev_isi_ll (ev_var rfl) h1 ev_c))) (fun _ => et_test (ev_op (ev_var rfl) (ev_var rfl) (rv_neD (sq_of h1) (sq_of hr1))))) (by simp)) (fun h => nomatch h) (fun _ H2 e2 => ?_)
    have h2 := e2 _ _ h1
    refine q_forLn (a := t) (xs := cs.map V.int) (ev_var rfl) (sq_of h2) (fun i σ H' => ∃ v3, σ = [some (.ref j), some (.ref r), some (.ref t), v3, none] ∧ Ex H2 H')
      (fun H3 e3 => ⟨none, rfl, e3⟩) (fun i σ H' _ ⟨_, _, e⟩ => sq_of (e _ _ h2)) ?_ ?_
    · rintro i x σ H' hx ⟨v3, rfl, e3⟩
      obtain ⟨hi, rfl⟩ := int_at hx
      exact s_when (b := false) (et_is (et_not (et_B (ev_call (ea_cons (ev_var rfl) ea_nil) spv_whole))) rfl) (fun h => nomatch h) (fun _ H4 e4 => ⟨_, rfl, e3.trans e4⟩)
    · rintro σ H' ⟨v3, rfl, e3⟩
      have e03 := (e1.trans e2).trans e3
      refine q_asgL (el_row rep (ev_var rfl) (rep.ex hJ e03) R) fun o H4 ho0 e4 h4 => ?_
      have t4 := (e3.trans e4) _ _ h2
      have e04 := e03.trans e4
      refine q_app (v := .int 0) t4 (ev_var rfl) ev_c (by rw [List.length_map]; omega) fun H5 e5 => ?_
      have ot : o ≠ t := fun z => by rw [z, (e2.trans e3) _ _ h1] at ho0; cases ho0
      have e05 : Ex H (upd H5 t (.lst (cs.map V.int ++ [V.int 0]))) := Ex.mut (e04.trans e5) ht0
      refine q_setL (j := 0) (v := .int 5) (upd_same) ev_c (ev_var rfl) ev_c (by rw [List.length_append, List.length_map]; omega) fun H6 e6 => ?_
      have e06 : Ex H (upd H6 t (.lst ((cs.map V.int ++ [V.int 0]).set 0 (V.int 5)))) := Ex.mut (e05.trans e6) ht0
      have o6 : (upd H6 t (.lst ((cs.map V.int ++ [V.int 0]).set 0 (V.int 5)))) o = some (.lst (cs.map V.int)) := by
        rw [upd_ne ot]
        refine e6 _ _ ?_
        rw [upd_ne ot]
        exact e5 _ _ h4
      have r6 := e06 _ _ hr0
      have J6 := rep.ex hJ e06
      have t6 : (upd H6 t (.lst ((cs.map V.int ++ [V.int 0]).set 0 (V.int 5)))) t = some (.lst (([5] ++ cs.drop 1 ++ [0]).map V.int)) := by rw [upd_same, set_first hp]
      generalize upd H6 t (.lst ((cs.map V.int ++ [V.int 0]).set 0 (V.int 5))) = H7 at *
      have tail : EvL (tOp rCat (tOp rCat (tLst (tCons (tC (.int 5)) tNil)) (tSl (rSlL K) (tVar 1) (tPart (tC (.int 1))) tNoPart)) (tLst (tCons (tC (.int 0)) tNil))) [some (.ref j), some (.ref r), some (.ref t), v3, some (.ref o)] H7 (([5] ++ cs.drop 1 ++ [0]).map V.int) := by
        refine el_is (el_catLL (el_catLL (el_lst (vs := [V.int 5]) (ea_cons ev_c ea_nil) (by simp)) (el_sl (ev_var rfl) (eo_some (i := ((1 : Nat) : Int)) ev_c) eo_none (sq_of r6)) ?_) (el_lst (vs := [V.int 0]) (ea_cons ev_c ea_nil) (by simp)) ?_) ?_
        · rw [cut_from, List.length_map, List.length_drop]; show 1 + _ ≤ _; omega
        · rw [cut_from, List.length_append, List.length_map, List.length_drop]; show 1 + _ + 1 ≤ _; omega
        · rw [cut_from, List.map_append, List.map_append]; rfl
      exact s_ret (ev_is (ev_andV (b := true) (ev_eqLists (ev_var rfl) (ev_var rfl) (sq_of o6) (sq_of r6)) (fun _ => ev_andV (b := true) (ev_eqLR (el_row rep (ev_var rfl) J6 R) (fun _ _ => ev_var rfl) (sq_of r6)) (fun _ => ev_eqRL (ev_var rfl) tail (sq_of t6)))) rfl) fun H8 e8 => q H8 (e06.trans e8)
abbrev s_law_deed : Stmt := top 33
abbrev N_law_deed : List Str := ["_law_judge", "_law_row", "_law_cell", "_law_found", "_law_coin"]
theorem sc_law_deed : FnScope N_law_deed ["_law_judge", "_law_row", "_law_cell"] (defScope s_law_deed) := ⟨rfl, rfl, rfl, by decide +kernel, rfl, by decide +kernel, by decide +kernel⟩
theorem ok_law_deed {A : Addr} {f : Addr} {fd : FuncData} (F : Fun K "_law_deed" "_law_deed" s_law_deed f fd) (rep : JRep C J) (m_len : mg "len" = none) (C_law_off_refused : Cl P w K mg base 4 "_law_off_refused" (spOffRef J)) (M_fewer : Mn P w K mg base 3 C "fewer" (spMFewer J A))
    (C_law_whole : Cl P w K mg base 1 "_law_whole" spWhole) (C_law_coin_by : Cl P w K mg base 1 "_law_coin_by" spCoinBy) (C_law_put_refused : Cl P w K mg base 4 "_law_put_refused" (spPutRef J)) (C_law_put : Cl P w K mg base 4 "_law_put" (spPut J)) :
    FnOk P w K mg base CX0 5 f fd ["_law_judge", "_law_row", "_law_cell"] (spDeed J) := by
  refine F.ok sc_law_deed (fun vs H Q E h => ?_) (fun cdv A1 outer s H vs Q E hr h => ?_)
  · obtain ⟨j, r, G, cs, c, rfl, _⟩ := h
    rfl
  · obtain ⟨j, r, G, cs, c, rfl, hJ, hr0, R, nr, q⟩ := h
    refine ⟨_, (pss_cons (ps_if (pt_cmpR op_eq (pe_op op_mod (pv 2) pe_int) pe_int (nomark _)) (pss_cons (ps_if (pt_cmpR op_eq (pe_callB call_len_seq (by rfl) m_len PySem.boot_len (pa_cons (pv 1) pa_nil)) pe_int (nomark _)) (pss_one (ps_ret (pe_cl C_law_off_refused (hr.mono (by decide)) (by rfl) (pa_cons (pv 0) pa_nil)))) pss_nil)
      (pss_cons (ps_set (i := 3) sc_law_deed.nd rfl (.inl rfl) (pe_mn0 M_fewer (hr.mono (by decide)) (pv 0)))
      (pss_one (ps_ret (pe_and (pe_cl C_law_whole (hr.mono (by decide)) (by rfl) (pa_cons (pv 3) pa_nil)) (pe_one (pe_cmpR op_eq (pv 3) (pe_bm0 PySem.F.plainAttrs_list PySem.F.slot_list_pop PySem.F.type_list_pop mt_pop (pv 1)) (nomark _)))))))) pss_nil)
      (pss_cons (ps_set (i := 4) sc_law_deed.nd rfl (.inl rfl) (pe_cl C_law_coin_by (hr.mono (by decide)) (by rfl) (pa_cons (pe_ix ix_list (pv 1) (pe_un un_neg pe_int) (fun _ _ => rfl)) (pa_cons (pv 2) pa_nil))))
      (pss_cons (ps_if (PW.pt (pw_or (pt_cmpR op_eq (pe_callB call_len_seq (by rfl) m_len PySem.boot_len (pa_cons (pv 1) pa_nil)) pe_int (nomark _)) (pw_or (pt_cmpR op_le (pv 4) (pe_ix ix_list (pv 1) (pe_un un_neg pe_int) (fun _ _ => rfl)) (nomark _)) (pw_or1 (pt_cmpR op_gt (pv 4) (pe_op op_pow pe_int pe_int) (nomark _)))))) (pss_one (ps_ret (pe_cl C_law_put_refused (hr.mono (by decide)) (by rfl) (pa_cons (pv 0) (pa_cons (pv 4) pa_nil))))) pss_nil)
      (pss_cons (ps_expr (pe_bm PySem.F.plainAttrs_list PySem.F.slot_list_append PySem.F.type_list_append mt_append (pv 1) (pa_cons (pv 4) pa_nil)))
      (pss_one (ps_ret (pe_cl C_law_put (hr.mono (by decide)) (by rfl) (pa_cons (pv 0) (pa_cons (pv 4) pa_nil))))))))), ?_⟩
    have hR := R.len
    have hp := R.pos
    have offE : ∀ {H'}, Ex H H' → Off (fun b => G b ∨ b = r) H H' := fun e b o x _ => e b o x
    have newS : New G G H := fun b hb => .inl hb
    have stay : ∀ {F'}, New G F' H → ¬ F' r := fun n z => by
      rcases n r z with z | z
      · exact nr z
      · rw [hr0] at z; cases z
    have alt : ∀ {H'}, Ex H H' → Q (.bl true) H' := fun {H'} e => q cs G H' R (rep.ex hJ e) (e _ _ hr0) newS (offE e)
    refine q_when (b := decide (V.int (c % 8) = V.int 7)) (et_test (ev_op (ev_op (ev_var rfl) ev_c (rv_I (by decide))) ev_c (rv_eq rfl))) (fun _ H1 e1 => ?_) (fun _ H1 e1 => ?_)
    · have hr1 := e1 _ _ hr0
      refine q_when (b := decide (V.int ((cs.map V.int).length : Int) = V.int 1)) (et_test (ev_op (ev_len (ev_var rfl) (sq_of hr1)) ev_c (rv_eq rfl))) (fun hb H2 e2 => ?_) (fun hb H2 e2 => ?_)
      · have one : cs.length = 1 := by
          have := V.int.inj (of_decide_eq_true hb)
          rw [List.length_map] at this; omega
        exact s_retC (vs := [.ref j]) (by walk_at "ea") fun H3 e3 => ⟨j, G, cs, rfl, rep.ex hJ ((e1.trans e2).trans e3), R, one, fun H4 e4 => alt (((e1.trans e2).trans e3).trans e4)⟩
      · have more : 1 < cs.length := by
          have ne : ¬ V.int ((cs.map V.int).length : Int) = V.int 1 := of_decide_eq_false hb
          have : ¬ cs.length = 1 := fun z => ne (by rw [List.length_map, z]; rfl)
          omega
        have e02 := e1.trans e2
        refine q_fewer rep (ev_var rfl) (rep.ex hJ e02) R more fun F' H3 a n o => ?_
        have n0 := n.back e02
        have o0 := o.back e02
        have hr3 := o0 _ _ hr0 nr
        rw [last_split hp] at hr3
        refine t_andR (ev_call (vs := [.int (gd cs (cs.length - 1))]) (by walk_at "ea") spv_whole) fun H4 e4 => ?_
        refine t_eqPop (ev_var rfl) (ev_var rfl) (e4 _ _ hr3) fun H5 e5 => ?_
        have e35 := e4.trans e5
        have nr' := stay n0
        refine q cs.dropLast F' _ (R.drop more) (rep.frame a fun b x hb h => ?_) upd_same n0 fun b x h hn => ?_
        · rw [upd_ne (fun z => nr' (by rw [← z]; exact hb))]; exact e35 _ _ h
        · rw [upd_ne (fun z => hn (.inr z))]; exact e35 _ _ (o0 _ _ h fun z => hn (.inl z))
    · have hr1 := e1 _ _ hr0
      have atl : atI (cs.map V.int) (-1) = some (.int (gd cs (cs.length - 1))) := atI_lastmap hp
      have c1 : 1 ≤ gd cs (cs.length - 1) := R.ge1 (i := cs.length - 1) (by omega)
      have c2 : gd cs (cs.length - 1) ≤ 10 ^ 60 := R.most (cs.length - 1) (by omega)
      refine q_asgC (vs := [.int (gd cs (cs.length - 1)), .int c]) (ea_cons (ev_op (ev_var rfl) (ev_un ev_c ru_neg) (rv_ixL (sq_of hr1) atl)) (by walk_at "ea")) fun H2 e2 => ⟨_, c, rfl, c1, c2, fun x H3 e3 => ?_⟩
      have e03 := (e1.trans e2).trans e3
      have hr3 := e03 _ _ hr0
      refine q_when (b := decide (V.int ((cs.map V.int).length : Int) = V.int 12) || (decide (x ≤ gd cs (cs.length - 1)) || decide (10 ^ (60 : Int).toNat < x))) (et_or (et_test (ev_op (ev_len (ev_var rfl) (sq_of hr3)) ev_c (rv_eq rfl))) fun _ => et_or (et_test (ev_op (ev_var rfl) (ev_op (ev_var rfl) (ev_un ev_c ru_neg) (rv_ixL (sq_of hr3) atl)) rv_I0)) fun _ => et_test (ev_op (ev_var rfl) (ev_op ev_c ev_c (rv_I ⟨by decide, by decide, by decide⟩)) rv_I0)) (fun hb H4 e4 => ?_) (fun hb H4 e4 => ?_)
      · have bad : ¬ PutOk cs x := fun ⟨p1, p2, p3⟩ => by
          rw [decide_eq_false (show ¬ V.int ((cs.map V.int).length : Int) = V.int 12 from fun z => by have := V.int.inj z; rw [List.length_map] at this; omega), decide_eq_false (by omega), decide_eq_false (show ¬ (10 : Int) ^ (60 : Int).toNat < x from fun z => absurd z (by have : (10 : Int) ^ (60 : Int).toNat = 10 ^ 60 := rfl; omega))] at hb
          cases hb
        exact s_retC (vs := [.ref j, .int x]) (by walk_at "ea") fun H5 e5 => ⟨j, G, cs, x, rfl, rep.ex hJ ((e03.trans e4).trans e5), R, bad, fun H6 e6 => alt (((e03.trans e4).trans e5).trans e6)⟩
      · have ok : PutOk cs x := by
          rw [Bool.or_eq_false_iff, Bool.or_eq_false_iff] at hb
          have b1 := of_decide_eq_false hb.1
          have b2 := of_decide_eq_false hb.2.1
          have b3 := of_decide_eq_false hb.2.2
          have n12 : ¬ cs.length = 12 := fun z => b1 (by rw [List.length_map, z]; rfl)
          exact ⟨by omega, by omega, by have : (10 : Int) ^ (60 : Int).toNat = 10 ^ 60 := rfl; omega⟩
        have hr4 := e4 _ _ hr3
        refine q_app (v := .int x) hr4 (ev_var rfl) (ev_var rfl) (by rw [List.length_map]; omega) fun H5 e5 => ?_
        have e05 := (e03.trans e4).trans e5
        generalize hu : upd H5 r _ = H6
        have hr6 : H6 r = some (.lst ((cs ++ [x]).map V.int)) := by rw [← hu, upd_same, List.map_append]; rfl
        have far : ∀ b o, H b = some o → b ≠ r → H6 b = some o := fun b o h ne => by rw [← hu, upd_ne ne]; exact e05 _ _ h
        have J6 : J H6 j G cs := rep.frame hJ fun b o hb h => far b o h fun z => nr (by rw [← z]; exact hb)
        have none6 : ∀ b, H6 b = none → H b = none := fun b h => by
          cases e : H b with
          | none => rfl
          | some o =>
            by_cases z : b = r
            · rw [z, hr6] at h; cases h
            · rw [far b o e z] at h; cases h
        refine s_retC (vs := [.ref j, .int x]) (by walk_at "ea") fun H7 e7 => ⟨j, G, cs, x, rfl, rep.ex J6 e7, R, ok, fun F' H' a n o => ?_⟩
        have n0 : New G F' H := fun b hb => (n b hb).imp id fun z => none6 b (fresh_back e7 z)
        exact q (cs ++ [x]) F' H' (R.put ok) a (o _ _ (e7 _ _ hr6) nr) n0 fun b y h hn => o _ _ (e7 _ _ (far b y h fun z => hn (.inr z))) fun z => hn (.inl z)
abbrev s_law_verdict_is : Stmt := top 35
abbrev N_law_verdict_is : List Str := ["_law_judge", "_law_row", "_law_found", "_law_due", "_law_other"]
theorem sc_law_verdict_is : FnScope N_law_verdict_is ["_law_judge", "_law_row"] (defScope s_law_verdict_is) := ⟨rfl, rfl, rfl, by decide +kernel, rfl, by decide +kernel, by decide +kernel⟩
theorem ok_law_verdict_is {f : Addr} {fd : FuncData} (F : Fun K "_law_verdict_is" "_law_verdict_is" s_law_verdict_is f fd) (rep : JRep C J) (M_verdict : Mc P w K mg base 7 C "verdict" (spMVerdict J)) (C_judged : Cl P w K mg base 6 "judged" (spJudged K)) (m_isinstance : mg "isinstance" = none) (m_list : mg "list" = none) (m_tuple : mg "tuple" = none) :
    FnOk P w K mg base CX0 8 f fd ["_law_judge", "_law_row"] (spIs J) := by
  refine F.ok sc_law_verdict_is (fun vs H Q E h => ?_) (fun cdv A1 outer s H vs Q E hr h => ?_)
  · obtain ⟨j, r, G, cs, rfl, _⟩ := h
    rfl
  · obtain ⟨j, r, G, cs, rfl, hJ, hr0, R, q⟩ := h
    refine ⟨_, (pss_cons (ps_set (i := 2) sc_law_verdict_is.nd rfl (.inl rfl) (pe_mc0 M_verdict (hr.mono (by decide)) (pv 0)))
      (pss_cons (ps_set (i := 3) sc_law_verdict_is.nd rfl (.inl rfl) (pe_cl C_judged (hr.mono (by decide)) (by rfl) (pa_cons (pe_callTy call_list_of (by rfl) m_list (by decide +kernel) (pa_cons (pv 1) pa_nil)) pa_nil)))
      (pss_cons (ps_if (PW.pt (pw_or (pt_cmpR op_isN (pv 3) pe_non (nomark _)) (pw_or1 (pt_cmpR op_isN (pv 2) pe_non (nomark _))))) (pss_one (ps_ret (pe_and (pe_cmpR op_isN (pv 3) pe_non (nomark _)) (pe_one (pe_cmpR op_isN (pv 2) pe_non (nomark _)))))) pss_nil)
      (pss_cons (ps_if (PW.pt (pw_or (pt_not (pt_val (pe_callB call_isi (by rfl) m_isinstance (by decide +kernel) (pa_cons (pv 2) (pa_cons (pe_bltn (v := .ty "tuple") (by rfl) m_tuple (by decide +kernel) rfl) pa_nil))))) (pw_or1 (pt_cmpR (op_neD hr.units) (pv 2) (pv 3) (nomark _))))) (pss_one (ps_ret pe_bl)) pss_nil)
      (pss_cons (ps_set (i := 4) sc_law_verdict_is.nd rfl (.inl rfl) (pe_mc0 M_verdict (hr.mono (by decide)) (pv 0)))
      (pss_cons (ps_expr (pe_bm PySem.F.plainAttrs_list PySem.F.slot_list_append PySem.F.type_list_append mt_append (pe_ix ix_tup (pv 2) pe_int (fun _ _ => rfl)) (pa_cons pe_int pa_nil)))
      (pss_cons (ps_asg pe_int (pg_sub (pe_ix ix_tup (pv 2) pe_int (fun _ _ => rfl)) pe_int set_list))
      (pss_one (ps_ret (pe_and (pe_cmpR (op_eqD hr.units) (pv 4) (pv 3) (nomark _)) (pe_and (pe_cmpR (op_eqD hr.units) (pe_mc0 M_verdict (hr.mono (by decide)) (pv 0)) (pv 3) (nomark _)) (pe_one (pe_cmpR (op_eqD hr.units) (pe_ix ix_tup (pv 2) pe_int (fun _ _ => rfl)) (pe_op op_cat (pe_op op_cat (pe_lst (pa_cons pe_int pa_nil)) (pe_slice sl_list (pe_ix ix_tup (pv 3) pe_int (fun _ _ => rfl)) (po_some pe_int) po_none)) (pe_lst (pa_cons pe_int pa_nil))) (nomark _)))))))))))))), ?_⟩
    have hR := R.len
    have hp := R.pos
    refine q_verdict rep (ev_var rfl) hJ R fun v H1 e1 av => ?_
    refine q_asgCL (el_listI (ev_var rfl) (sq_of (e1 _ _ hr0))) fun c H2 hc0 e2 h2 => ⟨c, cs, rfl, sq_of h2, R, fun u H3 e3 au => ?_⟩
    have e03 := (e1.trans e2).trans e3
    cases hv : judgedL cs with
    | none =>
      rw [hv] at av au
      have ev : v = .non := av
      have eu : u = .non := au
      subst ev eu
      refine q_when (b := true) (et_is (et_or (et_test (ev_op (ev_var rfl) ev_c rv_isN)) (b := true) (fun z => by cases z)) rfl) (fun _ H4 e4 => ?_) (fun h => nomatch h)
      exact s_ret (ev_is (ev_andV (ev_op (ev_var rfl) ev_c rv_isN) (fun _ => ev_op (ev_var rfl) ev_c rv_isN)) rfl) fun H5 e5 => q H5 ((e03.trans e4).trans e5)
    | some t =>
      obtain ⟨wt, ws⟩ := t
      rw [hv] at av au
      have vd := judged_some R hv
      have lw := vd.len
      have wp : 0 < ws.length := by omega
      obtain ⟨p, l, rfl, a1, a2, a3, a4⟩ := av
      obtain ⟨p2, l2, rfl, b1, b2, b3, b4⟩ := au
      have tv : TupAt H3 p l wt ws := TupAt.mono ⟨a3, a4⟩ (e2.trans e3)
      have tu : TupAt H3 p2 l2 wt ws := ⟨b3, b4⟩
      refine q_when (b := false) (et_is (et_or (et_test (ev_op (ev_var rfl) ev_c rv_isN)) (fun _ => et_test (ev_op (ev_var rfl) ev_c rv_isN))) (by simp)) (fun h => nomatch h) (fun _ H4 e4 => ?_)
      have tv4 := tv.mono e4
      have tu4 := tu.mono e4
      refine q_when (b := false) (et_is (et_or (et_not (et_B (ev_isi_tt (ev_var rfl) tv4.1 ev_c))) (fun _ => et_test (ev_op (ev_var rfl) (ev_var rfl) (rv_neP tv4 tu4)))) rfl) (fun h => nomatch h) (fun _ H5 e5 => ?_)
      have e05 := (e03.trans e4).trans e5
      have tv5 := tv4.mono e5
      have tu5 := tu4.mono e5
      have t1 : atI [V.int wt, V.ref l] 1 = some (.ref l) := atI_nat (j := 1) rfl
      have t2 : atI [V.int wt, V.ref l2] 1 = some (.ref l2) := atI_nat (j := 1) rfl
      refine q_verdict rep (ev_var rfl) (rep.ex hJ e05) R fun o H6 e6 ao => ?_
      rw [hv] at ao
      obtain ⟨p3, l3, rfl, c1, c2, c3, c4⟩ := ao
      have tv6 := tv5.mono e6
      have tu6 := tu5.mono e6
      have ll2 : l2 ≠ l := fun z => by
        have x1 := e2 _ _ a4
        rw [← z, b2] at x1; cases x1
      have ll3 : l3 ≠ l := fun z => by
        have x1 := tv5.2
        rw [← z, c2] at x1; cases x1
      have pl : ∀ {p' l' : Addr}, H6 p' = some (.tup [V.int wt, V.ref l']) → p' ≠ l := fun h z => by
        rw [z, tv6.2] at h; cases h
      have e06 := e05.trans e6
      refine q_app (v := .int 0) tv6.2 (ev_op (ev_var rfl) ev_c (rv_ixT (st_of tv6.1) t1)) ev_c (by rw [List.length_map]; omega) fun H7 e7 => ?_
      have p7 : (upd H7 l (.lst (ws.map V.int ++ [.int 0]))) p = some (.tup [V.int wt, V.ref l]) := by rw [upd_ne (pl tv6.1)]; exact e7 _ _ tv6.1
      refine q_setL (j := 0) (v := V.int 9) upd_same ev_c (ev_op (ev_var rfl) ev_c (rv_ixT (st_of p7) t1)) ev_c (by rw [List.length_append, List.length_map]; omega) fun H8 e8 => ?_
      have e08 : Ex H (upd H8 l (.lst ((ws.map V.int ++ [V.int 0]).set 0 (V.int 9)))) := Ex.mut ((Ex.mut (e06.trans e7) a2).trans e8) a2
      have far : ∀ {b : Addr} {x : HO}, b ≠ l → H6 b = some x → (upd H8 l (.lst ((ws.map V.int ++ [V.int 0]).set 0 (V.int 9)))) b = some x := fun n h => by
        rw [upd_ne n]
        refine e8 _ _ ?_
        rw [upd_ne n]
        exact e7 _ _ h
      have l9 : (upd H8 l (.lst ((ws.map V.int ++ [V.int 0]).set 0 (V.int 9)))) l = some (.lst (([9] ++ ws.drop 1 ++ [0]).map V.int)) := by rw [upd_same, set_first wp]
      have p9 := far (pl tv6.1) tv6.1
      have tu9 : TupAt (upd H8 l (.lst ((ws.map V.int ++ [V.int 0]).set 0 (V.int 9)))) p2 l2 wt ws := ⟨far (pl tu6.1) tu6.1, far ll2 tu6.2⟩
      have to9 : TupAt (upd H8 l (.lst ((ws.map V.int ++ [V.int 0]).set 0 (V.int 9)))) p3 l3 wt ws := ⟨far (pl c3) c3, far ll3 c4⟩
      generalize upd H8 l (.lst ((ws.map V.int ++ [V.int 0]).set 0 (V.int 9))) = H9 at *
      have tail : EvL (tOp rCat (tOp rCat (tLst (tCons (tC (.int 9)) tNil)) (tSl (rSlL K) (tOp (rIxT K) (tVar 3) (tC (.int 1))) (tPart (tC (.int 1))) tNoPart)) (tLst (tCons (tC (.int 0)) tNil))) [some (.ref j), some (.ref r), some (.ref p), some (.ref p2), some (.ref p3)] H9 (([9] ++ ws.drop 1 ++ [0]).map V.int) := by
        refine el_is (el_catLL (el_catLL (el_lst (vs := [V.int 9]) (ea_cons ev_c ea_nil) (by simp)) (el_sl (ev_op (ev_var rfl) ev_c (rv_ixT (st_of tu9.1) t2)) (eo_some (i := ((1 : Nat) : Int)) ev_c) eo_none (sq_of tu9.2)) ?_) (el_lst (vs := [V.int 0]) (ea_cons ev_c ea_nil) (by simp)) ?_) ?_
        · rw [cut_from, List.length_map, List.length_drop]; show 1 + _ ≤ _; omega
        · rw [cut_from, List.length_append, List.length_map, List.length_drop]; show 1 + _ + 1 ≤ _; omega
        · rw [cut_from, List.map_append, List.map_append]; rfl
      exact s_ret (ev_is (ev_andV (b := true) (ev_op (ev_var rfl) (ev_var rfl) (rv_eqP to9 tu9)) (fun _ => ev_andV (b := true) (ev_verdictEq rep (ev_var rfl) (rep.ex hJ e08) R hv (fun _ _ => ev_var rfl) tu9) (fun _ => ev_eqRL (ev_op (ev_var rfl) ev_c (rv_ixT (st_of p9) t1)) tail (sq_of l9)))) rfl) fun H10 e10 => q H10 (e08.trans e10)
abbrev s_law : Stmt := top 36
abbrev N_law : List Str := ["_law_script", "_law_judges", "_law_rows", "_law_many", "_law_at", "_law_k", "_law_here"]
theorem sc_law : FnScope N_law ["_law_script"] (defScope s_law) := ⟨rfl, rfl, rfl, by decide +kernel, rfl, by decide +kernel, by decide +kernel⟩
theorem ok_law {f : Addr} {fd : FuncData} (F : Fun K "law" "law" s_law f fd) (rep : JRep C J) (m_len : mg "len" = none) (m_range : mg "range" = none) (m_min : mg "min" = none) (m_max : mg "max" = none) (M_Judge : Mkc P w K mg base 1 C "Judge" J)
    (C_law_cell_at : Cl P w K mg base 1 "_law_cell_at" (spCell K)) (C_law_deed : Cl P w K mg base 5 "_law_deed" (spDeed J)) (C_law_row_is : Cl P w K mg base 4 "_law_row_is" (spIs J)) (C_law_verdict_is : Cl P w K mg base 8 "_law_verdict_is" (spIs J)) :
    FnOk P w K mg base CX0 9 f fd ["_law_script"] (spLaw K) := by
  refine F.ok sc_law (fun vs H Q E h => ?_) (fun cdv A1 outer s H vs Q E hr h => ?_)
  · obtain ⟨a, ns, rfl, _⟩ := h
    rfl
  · obtain ⟨a, ns, rfl, hs, hlen, q⟩ := h
    refine ⟨_, (pss_cons (ps_set (i := 1) sc_law.nd rfl (.inl rfl) (pe_lst (pa_cons (pe_mkc M_Judge (hr.mono (by decide)) (by rfl)) (pa_cons (pe_mkc M_Judge (hr.mono (by decide)) (by rfl)) pa_nil))))
      (pss_cons (ps_set (i := 2) sc_law.nd rfl (.inl rfl) (pe_lst (pa_cons (pe_lst (pa_cons pe_int pa_nil)) (pa_cons (pe_lst (pa_cons pe_int pa_nil)) pa_nil))))
      (pss_cons (ps_set (i := 3) sc_law.nd rfl (.inl rfl) (pe_callB (call_min2 rfl) (by rfl) m_min (by decide +kernel) (pa_cons pe_int (pa_cons (pe_callB (call_max2 rfl) (by rfl) m_max (by decide +kernel) (pa_cons pe_int (pa_cons (pe_op op_sub (pe_callB call_len_seq (by rfl) m_len PySem.boot_len (pa_cons (pv 0) pa_nil)) pe_int) pa_nil))) pa_nil))))
      (pss_cons (ps_set (i := 4) sc_law.nd rfl (.inl rfl) (pe_op op_mod (pe_op op_fdiv (pe_cl C_law_cell_at (hr.mono (by decide)) (by rfl) (pa_cons (pv 0) (pa_cons pe_int pa_nil))) pe_int) (pe_op op_add (pv 3) pe_int)))
      (pss_cons (ps_for PassesOwn.never rfl (pi_range1 rfl m_range (pa_cons (pv 3) pa_nil)) (pg_name (i := 5) sc_law.nd rfl (.inl rfl)) (pss_cons (ps_set (i := 6) sc_law.nd rfl (.inl rfl) (pe_op op_mulW (pe_op op_mod (pe_cl C_law_cell_at (hr.mono (by decide)) (by rfl) (pa_cons (pv 0) (pa_cons pe_int pa_nil))) pe_int) (pe_op op_mod (pv 5) pe_int)))
      (pss_cons (ps_if (pt_not (pt_val (pe_cl C_law_deed (hr.mono (by decide)) (by rfl) (pa_cons (pe_ix ix_list (pv 1) (pv 6) (fun _ _ => rfl)) (pa_cons (pe_ix ix_list (pv 2) (pv 6) (fun _ _ => rfl)) (pa_cons (pe_ix ix_list (pv 0) (pe_op op_add pe_int (pv 5)) (fun _ _ => rfl)) pa_nil)))))) (pss_one (ps_ret pe_bl)) pss_nil)
      (pss_cons (ps_if (PW.pt (pw_or (pt_not (pt_val (pe_cl C_law_row_is (hr.mono (by decide)) (by rfl) (pa_cons (pe_ix ix_list (pv 1) pe_int (fun _ _ => rfl)) (pa_cons (pe_ix ix_list (pv 2) pe_int (fun _ _ => rfl)) pa_nil))))) (pw_or1 (pt_not (pt_val (pe_cl C_law_row_is (hr.mono (by decide)) (by rfl) (pa_cons (pe_ix ix_list (pv 1) pe_int (fun _ _ => rfl)) (pa_cons (pe_ix ix_list (pv 2) pe_int (fun _ _ => rfl)) pa_nil)))))))) (pss_one (ps_ret pe_bl)) pss_nil)
      (pss_one (ps_if (PW.pt (pw_and (pt_cmpR op_in_seq (pe_op op_sub (pv 5) (pv 4)) (pe_tup (pa_cons pe_int (pa_cons pe_int pa_nil))) (by rfl)) (pw_and1 (pt_not (pt_val (pe_cl C_law_verdict_is (hr.mono (by decide)) (by rfl) (pa_cons (pe_ix ix_list (pv 1) (pv 6) (fun _ _ => rfl)) (pa_cons (pe_ix ix_list (pv 2) (pv 6) (fun _ _ => rfl)) pa_nil)))))))) (pss_one (ps_ret pe_bl)) pss_nil))))))
      (pss_cons (ps_if (PW.pt (pw_or (pt_not (pt_val (pe_cl C_law_row_is (hr.mono (by decide)) (by rfl) (pa_cons (pe_ix ix_list (pv 1) pe_int (fun _ _ => rfl)) (pa_cons (pe_ix ix_list (pv 2) pe_int (fun _ _ => rfl)) pa_nil))))) (pw_or1 (pt_not (pt_val (pe_cl C_law_verdict_is (hr.mono (by decide)) (by rfl) (pa_cons (pe_ix ix_list (pv 1) pe_int (fun _ _ => rfl)) (pa_cons (pe_ix ix_list (pv 2) pe_int (fun _ _ => rfl)) pa_nil)))))))) (pss_one (ps_ret pe_bl)) pss_nil)
      (pss_one (ps_ret (pe_cl C_law_verdict_is (hr.mono (by decide)) (by rfl) (pa_cons (pe_ix ix_list (pv 1) pe_int (fun _ _ => rfl)) (pa_cons (pe_ix ix_list (pv 2) pe_int (fun _ _ => rfl)) pa_nil))))))))))), ?_⟩
    refine q_judges rep fun j0 F0 j1 F1 JL H1 a0 a1 f0 f1 ap nf0 nf1 hJL e1 hj => ?_
    refine q_rows (xs := [.int 1]) (ys := [.int 1]) (el_lst (by walk_at "ea") (by simp)) (el_lst (by walk_at "ea") (by simp)) fun r0 r1 RL H2 n0 n1 nRL ne01 ne0 ne1 e2 h0 h1 hRL => ?_
    have e02 := e1.trans e2
    have lv0 : ∀ b, F0 b → H1 b ≠ none := fun b hb z => by obtain ⟨o, h⟩ := rep.live a0 hb; rw [h] at z; cases z
    have lv1 : ∀ b, F1 b → H1 b ≠ none := fun b hb z => by obtain ⟨o, h⟩ := rep.live a1 hb; rw [h] at z; cases z
    have t2 : Two J H H2 j0 j1 r0 r1 JL RL F0 F1 [1] [1] [.ref j0, .ref j1] [.ref r0, .ref r1] :=
      { R0 := RowL.row1, R1 := RowL.row1, J0 := rep.ex a0 e2, J1 := rep.ex a1 e2, h0 := h0, h1 := h1, n0 := fresh_back e1 n0, n1 := fresh_back e1 n1, f0 := f0, f1 := f1, ex := e02, apart := ap,
        a0 := fun b hb z => by
          rcases hb with rfl | rfl | rfl | rfl
          · exact lv0 _ z n0
          · exact lv0 _ z n1
          · exact nf0 z
          · exact lv0 _ z nRL
        a1 := fun b hb z => by
          rcases hb with rfl | rfl | rfl | rfl
          · exact lv1 _ z n0
          · exact lv1 _ z n1
          · exact nf1 z
          · exact lv1 _ z nRL
        r01 := ne01, rl := ⟨(fun z => (by rw [z, hj] at n0; cases n0)), ne0, (fun z => (by rw [z, hj] at n1; cases n1)), ne1⟩, jl := e2 _ _ hj, rr := hRL }
    have hs2 := ex_l e02 hs
    have lenI : ((ns.map V.int).length : Int) = (ns.length : Int) := by rw [List.length_map]
    refine q_asg (ev_min2 ev_c (ev_max2 ev_c (ev_op (ev_len (ev_var rfl) hs2) ev_c rv_I0))) fun H3 e3 => ?_
    rw [lenI]
    obtain ⟨m, hm0, hm62, hmn, hme⟩ : ∃ m : Int, 0 ≤ m ∧ m ≤ 62 ∧ (m = 0 ∨ m + 1 ≤ (ns.length : Int)) ∧ (if (if (ns.length : Int) - 1 > 0 then (ns.length : Int) - 1 else 0) < 62 then (if (ns.length : Int) - 1 > 0 then (ns.length : Int) - 1 else 0) else 62) = m := by
      by_cases c : (ns.length : Int) - 1 > 0
      · rw [if_pos c]
        by_cases d : (ns.length : Int) - 1 < 62
        · rw [if_pos d]; exact ⟨_, by omega, by omega, .inr (by omega), rfl⟩
        · rw [if_neg d]; exact ⟨62, by decide, by decide, .inr (by omega), rfl⟩
      · rw [if_neg c, if_pos (by decide)]; exact ⟨0, by decide, by decide, .inl rfl, rfl⟩
    rw [hme]
    have t3 := t2.mono rep e3
    have hs3 := ex_l e3 hs2
    have pm : (0 : Int) < m + 1 := by omega
    refine q_asg (by walk_at "ev") fun H4 e4 => ?_
    have t4 := t3.mono rep e4
    obtain ⟨b0, hb0⟩ := mod2_bool (ns.getD (0 : Int).toNat 0)
    generalize ns.getD (0 : Int).toNat 0 / 2 % (m + 1) = at0
    refine q_forR1 (n := m) (by walk_at "ea") ⟨hm0, by omega⟩
      (fun i σ H' => ∃ v5 v6 G0 G1 ds0 ds1, σ = [some (.ref a), some (.ref JL), some (.ref RL), some (.int m), some (.int at0), v5, v6] ∧ Two J H H' j0 j1 r0 r1 JL RL G0 G1 ds0 ds1 [.ref j0, .ref j1] [.ref r0, .ref r1])
      (fun H5 e5 => ⟨none, none, F0, F1, [1], [1], rfl, t4.mono rep e5⟩) ?_ ?_
    · rintro i σ H' hi ⟨v5, v6, G0, G1, ds0, ds1, rfl, t⟩
      have hs5 := ex_l t.ex hs
      obtain ⟨b1, hb1⟩ := mod2_bool (i : Int)
      have mk := mul_ok (x := bI b0) (y := bI b1) (bI_bound b0).1 (Int.lt_of_le_of_lt (bI_bound b0).2 (by decide)) (bI_bound b1).1 (Int.lt_of_le_of_lt (bI_bound b1).2 (by decide))
      have hi1 : i + 1 < ns.length := by omega
      refine q_asg (v := .int (bI (b0 && b1))) (ev_is (ev_op (x := .int (bI b0)) (y := .int (bI b1)) (ev_is (by walk_at "ev") (by rw [hb0])) (ev_is (by walk_at "ev") (by rw [hb1])) (rv_I mk)) (by rw [bI_mul])) fun H6 e6 => ?_
      have t6 := t.mono rep e6
      have hs6 := ex_l e6 hs5
      have atn : atI (ns.map V.int) (1 + (i : Int)) = some (.int (ns.getD (i + 1) 0)) := by
        rw [show (1 : Int) + (i : Int) = ((i + 1 : Nat) : Int) by omega]; exact atI_map hi1
      refine q_deedT rep t6 (b0 && b1) (ea_cons (ev_op (ev_var rfl) (ev_var rfl) (rv_ixL (sq_of t6.jl) (at_pick _))) (ea_cons (ev_op (ev_var rfl) (ev_var rfl) (rv_ixL (sq_of t6.rr) (at_pick _))) (ea_cons (ev_op (ev_var rfl) (ev_op ev_c (ev_var rfl) rv_I0) (rv_ixL hs6 atn)) ea_nil))) fun G0' G1' ds0' ds1' H7 t7 => ?_
      refine q_when (b := false) (et_is (et_or (et_not (et_B (ev_call (vs := [.ref j0, .ref r0]) (ea_cons (ev_op (ev_var rfl) ev_c (rv_ixL (sq_of t7.jl) at_0)) (ea_cons (ev_op (ev_var rfl) ev_c (rv_ixL (sq_of t7.rr) at_0)) ea_nil)) (spv_is rep t7.J0 t7.h0 t7.R0))))
        (fun _ => et_not (et_B (ev_call (vs := [.ref j1, .ref r1]) (ea_cons (ev_op (ev_var rfl) ev_c (rv_ixL (sq_of t7.jl) at_1)) (ea_cons (ev_op (ev_var rfl) ev_c (rv_ixL (sq_of t7.rr) at_1)) ea_nil)) (spv_is rep t7.J1 t7.h1 t7.R1))))) rfl) (fun h => nomatch h) (fun _ H8 e8 => ?_)
      have t8 := t7.mono rep e8
      exact s_when (b := false) (et_is (et_and (et_test (ev_inU (ev_op (ev_var rfl) (ev_var rfl) rv_I0) (eu_tup (vs := [.int 0, .int 1]) (by walk_at "ea") (by simp)) rfl rfl))
        (fun _ => et_not (et_B (ev_call (ea_cons (ev_op (ev_var rfl) (ev_var rfl) (rv_ixL (sq_of t8.jl) (at_pick _))) (ea_cons (ev_op (ev_var rfl) (ev_var rfl) (rv_ixL (sq_of t8.rr) (at_pick _))) ea_nil)) (t8.isb rep _))))) (by simp)) (fun h => nomatch h) (fun _ H9 e9 => ⟨_, _, _, _, _, _, rfl, t8.mono rep e9⟩)
    · rintro σ H' ⟨v5, v6, G0, G1, ds0, ds1, rfl, t⟩
      refine q_when (b := false) (et_is (et_or (et_not (et_B (ev_call (vs := [.ref j0, .ref r0]) (ea_cons (ev_op (ev_var rfl) ev_c (rv_ixL (sq_of t.jl) at_0)) (ea_cons (ev_op (ev_var rfl) ev_c (rv_ixL (sq_of t.rr) at_0)) ea_nil)) (spv_is rep t.J0 t.h0 t.R0))))
        (fun _ => et_not (et_B (ev_call (vs := [.ref j1, .ref r1]) (ea_cons (ev_op (ev_var rfl) ev_c (rv_ixL (sq_of t.jl) at_1)) (ea_cons (ev_op (ev_var rfl) ev_c (rv_ixL (sq_of t.rr) at_1)) ea_nil)) (spv_is rep t.J1 t.h1 t.R1))))) rfl) (fun h => nomatch h) (fun _ H5 e5 => ?_)
      have t5 := t.mono rep e5
      exact s_ret (ev_call (vs := [.ref j0, .ref r0]) (ea_cons (ev_op (ev_var rfl) ev_c (rv_ixL (sq_of t5.jl) at_0)) (ea_cons (ev_op (ev_var rfl) ev_c (rv_ixL (sq_of t5.rr) at_0)) ea_nil)) (spv_is rep t5.J0 t5.h0 t5.R0)) fun H6 _ => q H6
end
theorem all_mk {l : PySem.W.OpenLaw} {w : World} {K : PySem.W.Frag} {h : Heap} {mg : Str → Option Value} {fa : Addr}
    {f_good_row : Addr} {od_good_row an_good_row : Option Addr} {sl_good_row : Array (Option Value)} {oc_good_row kV_good_row dc_good_row pm_good_row cd_good_row ct_good_row : Value}
    {f_check_amount : Addr} {od_check_amount an_check_amount : Option Addr} {sl_check_amount : Array (Option Value)} {oc_check_amount kV_check_amount dc_check_amount pm_check_amount cd_check_amount ct_check_amount : Value}
    {f_first_way : Addr} {od_first_way an_first_way : Option Addr} {sl_first_way : Array (Option Value)} {oc_first_way kV_first_way dc_first_way pm_first_way cd_first_way ct_first_way : Value}
    {f_worth : Addr} {od_worth an_worth : Option Addr} {sl_worth : Array (Option Value)} {oc_worth kV_worth dc_worth pm_worth cd_worth ct_worth : Value}
    {f_pieces : Addr} {od_pieces an_pieces : Option Addr} {sl_pieces : Array (Option Value)} {oc_pieces kV_pieces dc_pieces pm_pieces cd_pieces ct_pieces : Value}
    {f_trial : Addr} {od_trial an_trial : Option Addr} {sl_trial : Array (Option Value)} {oc_trial kV_trial dc_trial pm_trial cd_trial ct_trial : Value}
    {f_trials : Addr} {od_trials an_trials : Option Addr} {sl_trials : Array (Option Value)} {oc_trials kV_trials dc_trials pm_trials cd_trials ct_trials : Value}
    {f_beats_first_way : Addr} {od_beats_first_way an_beats_first_way : Option Addr} {sl_beats_first_way : Array (Option Value)} {oc_beats_first_way kV_beats_first_way dc_beats_first_way pm_beats_first_way cd_beats_first_way ct_beats_first_way : Value}
    {f_rank : Addr} {od_rank an_rank : Option Addr} {sl_rank : Array (Option Value)} {oc_rank kV_rank dc_rank pm_rank cd_rank ct_rank : Value}
    {f_judged : Addr} {od_judged an_judged : Option Addr} {sl_judged : Array (Option Value)} {oc_judged kV_judged dc_judged pm_judged cd_judged ct_judged : Value}
    {f_law_whole : Addr} {od_law_whole an_law_whole : Option Addr} {sl_law_whole : Array (Option Value)} {oc_law_whole kV_law_whole dc_law_whole pm_law_whole cd_law_whole ct_law_whole : Value}
    {f_law_cell_at : Addr} {od_law_cell_at an_law_cell_at : Option Addr} {sl_law_cell_at : Array (Option Value)} {oc_law_cell_at kV_law_cell_at dc_law_cell_at pm_law_cell_at cd_law_cell_at ct_law_cell_at : Value}
    {f_law_kinds : Addr} {od_law_kinds an_law_kinds : Option Addr} {sl_law_kinds : Array (Option Value)} {oc_law_kinds kV_law_kinds dc_law_kinds pm_law_kinds cd_law_kinds ct_law_kinds : Value}
    {f_law_coin_by : Addr} {od_law_coin_by an_law_coin_by : Option Addr} {sl_law_coin_by : Array (Option Value)} {oc_law_coin_by kV_law_coin_by dc_law_coin_by pm_law_coin_by cd_law_coin_by ct_law_coin_by : Value}
    {f_law_put : Addr} {od_law_put an_law_put : Option Addr} {sl_law_put : Array (Option Value)} {oc_law_put kV_law_put dc_law_put pm_law_put cd_law_put ct_law_put : Value}
    {f_law_put_refused : Addr} {od_law_put_refused an_law_put_refused : Option Addr} {sl_law_put_refused : Array (Option Value)} {oc_law_put_refused kV_law_put_refused dc_law_put_refused pm_law_put_refused cd_law_put_refused ct_law_put_refused : Value}
    {f_law_off_refused : Addr} {od_law_off_refused an_law_off_refused : Option Addr} {sl_law_off_refused : Array (Option Value)} {oc_law_off_refused kV_law_off_refused dc_law_off_refused pm_law_off_refused cd_law_off_refused ct_law_off_refused : Value}
    {f_law_row_is : Addr} {od_law_row_is an_law_row_is : Option Addr} {sl_law_row_is : Array (Option Value)} {oc_law_row_is kV_law_row_is dc_law_row_is pm_law_row_is cd_law_row_is ct_law_row_is : Value}
    {f_law_deed : Addr} {od_law_deed an_law_deed : Option Addr} {sl_law_deed : Array (Option Value)} {oc_law_deed kV_law_deed dc_law_deed pm_law_deed cd_law_deed ct_law_deed : Value}
    {f_law_verdict_is : Addr} {od_law_verdict_is an_law_verdict_is : Option Addr} {sl_law_verdict_is : Array (Option Value)} {oc_law_verdict_is kV_law_verdict_is dc_law_verdict_is pm_law_verdict_is cd_law_verdict_is ct_law_verdict_is : Value}
    {f_law : Addr} {od_law an_law : Option Addr} {sl_law : Array (Option Value)} {oc_law kV_law dc_law pm_law cd_law ct_law : Value}
    {A_NoRow : Addr}
    {A_NoAmount : Addr}
    {A_NoWay : Addr}
    {A_CoinError : Addr}
    {A_TooGreat : Addr}
    {A_NoText : Addr}
    {A_Judge : Addr}
    {f_Judge_init : Addr} {od_Judge_init an_Judge_init : Option Addr} {sl_Judge_init : Array (Option Value)} {oc_Judge_init kV_Judge_init dc_Judge_init pm_Judge_init cd_Judge_init ct_Judge_init : Value}
    {f_Judge_row : Addr} {od_Judge_row an_Judge_row : Option Addr} {sl_Judge_row : Array (Option Value)} {oc_Judge_row kV_Judge_row dc_Judge_row pm_Judge_row cd_Judge_row ct_Judge_row : Value}
    {f_Judge_more : Addr} {od_Judge_more an_Judge_more : Option Addr} {sl_Judge_more : Array (Option Value)} {oc_Judge_more kV_Judge_more dc_Judge_more pm_Judge_more cd_Judge_more ct_Judge_more : Value}
    {f_Judge_fewer : Addr} {od_Judge_fewer an_Judge_fewer : Option Addr} {sl_Judge_fewer : Array (Option Value)} {oc_Judge_fewer kV_Judge_fewer dc_Judge_fewer pm_Judge_fewer cd_Judge_fewer ct_Judge_fewer : Value}
    {f_Judge_verdict : Addr} {od_Judge_verdict an_Judge_verdict : Option Addr} {sl_Judge_verdict : Array (Option Value)} {oc_Judge_verdict kV_Judge_verdict dc_Judge_verdict pm_Judge_verdict cd_Judge_verdict ct_Judge_verdict : Value}
    {tk_MOST : Tok}
    {tk_GREATEST : Tok}
    {tk_MOST_AMOUNT : Tok}
    (X : K.In h) (G : h.Ns mainGlobals mg) (hfa : mg "law" = some (.ref fa))
    (a_good_row : PySem.W.nsIn K mainGlobals "good_row" = some (some (.ref f_good_row)))
    (l_good_row : K.lookup f_good_row = some ⟨oc_good_row, od_good_row, .func (PySem.W.fnOf "good_row" "good_row" (defArgs s_good_row) (defBody s_good_row) (defScope s_good_row) .none kV_good_row dc_good_row pm_good_row an_good_row cd_good_row ct_good_row), sl_good_row⟩)
    (c_good_row : PySem.W.codeIn K cd_good_row "good_row" = true)
    (k_good_row : PySem.W.keepIn K (.ref f_good_row) = true)
    (a_check_amount : PySem.W.nsIn K mainGlobals "check_amount" = some (some (.ref f_check_amount)))
    (l_check_amount : K.lookup f_check_amount = some ⟨oc_check_amount, od_check_amount, .func (PySem.W.fnOf "check_amount" "check_amount" (defArgs s_check_amount) (defBody s_check_amount) (defScope s_check_amount) .none kV_check_amount dc_check_amount pm_check_amount an_check_amount cd_check_amount ct_check_amount), sl_check_amount⟩)
    (c_check_amount : PySem.W.codeIn K cd_check_amount "check_amount" = true)
    (k_check_amount : PySem.W.keepIn K (.ref f_check_amount) = true)
    (a_first_way : PySem.W.nsIn K mainGlobals "first_way" = some (some (.ref f_first_way)))
    (l_first_way : K.lookup f_first_way = some ⟨oc_first_way, od_first_way, .func (PySem.W.fnOf "first_way" "first_way" (defArgs s_first_way) (defBody s_first_way) (defScope s_first_way) .none kV_first_way dc_first_way pm_first_way an_first_way cd_first_way ct_first_way), sl_first_way⟩)
    (c_first_way : PySem.W.codeIn K cd_first_way "first_way" = true)
    (k_first_way : PySem.W.keepIn K (.ref f_first_way) = true)
    (a_worth : PySem.W.nsIn K mainGlobals "worth" = some (some (.ref f_worth)))
    (l_worth : K.lookup f_worth = some ⟨oc_worth, od_worth, .func (PySem.W.fnOf "worth" "worth" (defArgs s_worth) (defBody s_worth) (defScope s_worth) .none kV_worth dc_worth pm_worth an_worth cd_worth ct_worth), sl_worth⟩)
    (c_worth : PySem.W.codeIn K cd_worth "worth" = true)
    (k_worth : PySem.W.keepIn K (.ref f_worth) = true)
    (a_pieces : PySem.W.nsIn K mainGlobals "pieces" = some (some (.ref f_pieces)))
    (l_pieces : K.lookup f_pieces = some ⟨oc_pieces, od_pieces, .func (PySem.W.fnOf "pieces" "pieces" (defArgs s_pieces) (defBody s_pieces) (defScope s_pieces) .none kV_pieces dc_pieces pm_pieces an_pieces cd_pieces ct_pieces), sl_pieces⟩)
    (c_pieces : PySem.W.codeIn K cd_pieces "pieces" = true)
    (k_pieces : PySem.W.keepIn K (.ref f_pieces) = true)
    (a_trial : PySem.W.nsIn K mainGlobals "trial" = some (some (.ref f_trial)))
    (l_trial : K.lookup f_trial = some ⟨oc_trial, od_trial, .func (PySem.W.fnOf "trial" "trial" (defArgs s_trial) (defBody s_trial) (defScope s_trial) .none kV_trial dc_trial pm_trial an_trial cd_trial ct_trial), sl_trial⟩)
    (c_trial : PySem.W.codeIn K cd_trial "trial" = true)
    (k_trial : PySem.W.keepIn K (.ref f_trial) = true)
    (a_trials : PySem.W.nsIn K mainGlobals "trials" = some (some (.ref f_trials)))
    (l_trials : K.lookup f_trials = some ⟨oc_trials, od_trials, .func (PySem.W.fnOf "trials" "trials" (defArgs s_trials) (defBody s_trials) (defScope s_trials) .none kV_trials dc_trials pm_trials an_trials cd_trials ct_trials), sl_trials⟩)
    (c_trials : PySem.W.codeIn K cd_trials "trials" = true)
    (k_trials : PySem.W.keepIn K (.ref f_trials) = true)
    (a_beats_first_way : PySem.W.nsIn K mainGlobals "_beats_first_way" = some (some (.ref f_beats_first_way)))
    (l_beats_first_way : K.lookup f_beats_first_way = some ⟨oc_beats_first_way, od_beats_first_way, .func (PySem.W.fnOf "_beats_first_way" "_beats_first_way" (defArgs s_beats_first_way) (defBody s_beats_first_way) (defScope s_beats_first_way) .none kV_beats_first_way dc_beats_first_way pm_beats_first_way an_beats_first_way cd_beats_first_way ct_beats_first_way), sl_beats_first_way⟩)
    (c_beats_first_way : PySem.W.codeIn K cd_beats_first_way "_beats_first_way" = true)
    (k_beats_first_way : PySem.W.keepIn K (.ref f_beats_first_way) = true)
    (a_rank : PySem.W.nsIn K mainGlobals "_rank" = some (some (.ref f_rank)))
    (l_rank : K.lookup f_rank = some ⟨oc_rank, od_rank, .func (PySem.W.fnOf "_rank" "_rank" (defArgs s_rank) (defBody s_rank) (defScope s_rank) .none kV_rank dc_rank pm_rank an_rank cd_rank ct_rank), sl_rank⟩)
    (c_rank : PySem.W.codeIn K cd_rank "_rank" = true)
    (k_rank : PySem.W.keepIn K (.ref f_rank) = true)
    (a_judged : PySem.W.nsIn K mainGlobals "judged" = some (some (.ref f_judged)))
    (l_judged : K.lookup f_judged = some ⟨oc_judged, od_judged, .func (PySem.W.fnOf "judged" "judged" (defArgs s_judged) (defBody s_judged) (defScope s_judged) .none kV_judged dc_judged pm_judged an_judged cd_judged ct_judged), sl_judged⟩)
    (c_judged : PySem.W.codeIn K cd_judged "judged" = true)
    (k_judged : PySem.W.keepIn K (.ref f_judged) = true)
    (a_law_whole : PySem.W.nsIn K mainGlobals "_law_whole" = some (some (.ref f_law_whole)))
    (l_law_whole : K.lookup f_law_whole = some ⟨oc_law_whole, od_law_whole, .func (PySem.W.fnOf "_law_whole" "_law_whole" (defArgs s_law_whole) (defBody s_law_whole) (defScope s_law_whole) .none kV_law_whole dc_law_whole pm_law_whole an_law_whole cd_law_whole ct_law_whole), sl_law_whole⟩)
    (c_law_whole : PySem.W.codeIn K cd_law_whole "_law_whole" = true)
    (k_law_whole : PySem.W.keepIn K (.ref f_law_whole) = true)
    (a_law_cell_at : PySem.W.nsIn K mainGlobals "_law_cell_at" = some (some (.ref f_law_cell_at)))
    (l_law_cell_at : K.lookup f_law_cell_at = some ⟨oc_law_cell_at, od_law_cell_at, .func (PySem.W.fnOf "_law_cell_at" "_law_cell_at" (defArgs s_law_cell_at) (defBody s_law_cell_at) (defScope s_law_cell_at) .none kV_law_cell_at dc_law_cell_at pm_law_cell_at an_law_cell_at cd_law_cell_at ct_law_cell_at), sl_law_cell_at⟩)
    (c_law_cell_at : PySem.W.codeIn K cd_law_cell_at "_law_cell_at" = true)
    (k_law_cell_at : PySem.W.keepIn K (.ref f_law_cell_at) = true)
    (a_law_kinds : PySem.W.nsIn K mainGlobals "_law_kinds" = some (some (.ref f_law_kinds)))
    (l_law_kinds : K.lookup f_law_kinds = some ⟨oc_law_kinds, od_law_kinds, .func (PySem.W.fnOf "_law_kinds" "_law_kinds" (defArgs s_law_kinds) (defBody s_law_kinds) (defScope s_law_kinds) .none kV_law_kinds dc_law_kinds pm_law_kinds an_law_kinds cd_law_kinds ct_law_kinds), sl_law_kinds⟩)
    (c_law_kinds : PySem.W.codeIn K cd_law_kinds "_law_kinds" = true)
    (k_law_kinds : PySem.W.keepIn K (.ref f_law_kinds) = true)
    (a_law_coin_by : PySem.W.nsIn K mainGlobals "_law_coin_by" = some (some (.ref f_law_coin_by)))
    (l_law_coin_by : K.lookup f_law_coin_by = some ⟨oc_law_coin_by, od_law_coin_by, .func (PySem.W.fnOf "_law_coin_by" "_law_coin_by" (defArgs s_law_coin_by) (defBody s_law_coin_by) (defScope s_law_coin_by) .none kV_law_coin_by dc_law_coin_by pm_law_coin_by an_law_coin_by cd_law_coin_by ct_law_coin_by), sl_law_coin_by⟩)
    (c_law_coin_by : PySem.W.codeIn K cd_law_coin_by "_law_coin_by" = true)
    (k_law_coin_by : PySem.W.keepIn K (.ref f_law_coin_by) = true)
    (a_law_put : PySem.W.nsIn K mainGlobals "_law_put" = some (some (.ref f_law_put)))
    (l_law_put : K.lookup f_law_put = some ⟨oc_law_put, od_law_put, .func (PySem.W.fnOf "_law_put" "_law_put" (defArgs s_law_put) (defBody s_law_put) (defScope s_law_put) .none kV_law_put dc_law_put pm_law_put an_law_put cd_law_put ct_law_put), sl_law_put⟩)
    (c_law_put : PySem.W.codeIn K cd_law_put "_law_put" = true)
    (k_law_put : PySem.W.keepIn K (.ref f_law_put) = true)
    (a_law_put_refused : PySem.W.nsIn K mainGlobals "_law_put_refused" = some (some (.ref f_law_put_refused)))
    (l_law_put_refused : K.lookup f_law_put_refused = some ⟨oc_law_put_refused, od_law_put_refused, .func (PySem.W.fnOf "_law_put_refused" "_law_put_refused" (defArgs s_law_put_refused) (defBody s_law_put_refused) (defScope s_law_put_refused) .none kV_law_put_refused dc_law_put_refused pm_law_put_refused an_law_put_refused cd_law_put_refused ct_law_put_refused), sl_law_put_refused⟩)
    (c_law_put_refused : PySem.W.codeIn K cd_law_put_refused "_law_put_refused" = true)
    (k_law_put_refused : PySem.W.keepIn K (.ref f_law_put_refused) = true)
    (a_law_off_refused : PySem.W.nsIn K mainGlobals "_law_off_refused" = some (some (.ref f_law_off_refused)))
    (l_law_off_refused : K.lookup f_law_off_refused = some ⟨oc_law_off_refused, od_law_off_refused, .func (PySem.W.fnOf "_law_off_refused" "_law_off_refused" (defArgs s_law_off_refused) (defBody s_law_off_refused) (defScope s_law_off_refused) .none kV_law_off_refused dc_law_off_refused pm_law_off_refused an_law_off_refused cd_law_off_refused ct_law_off_refused), sl_law_off_refused⟩)
    (c_law_off_refused : PySem.W.codeIn K cd_law_off_refused "_law_off_refused" = true)
    (k_law_off_refused : PySem.W.keepIn K (.ref f_law_off_refused) = true)
    (a_law_row_is : PySem.W.nsIn K mainGlobals "_law_row_is" = some (some (.ref f_law_row_is)))
    (l_law_row_is : K.lookup f_law_row_is = some ⟨oc_law_row_is, od_law_row_is, .func (PySem.W.fnOf "_law_row_is" "_law_row_is" (defArgs s_law_row_is) (defBody s_law_row_is) (defScope s_law_row_is) .none kV_law_row_is dc_law_row_is pm_law_row_is an_law_row_is cd_law_row_is ct_law_row_is), sl_law_row_is⟩)
    (c_law_row_is : PySem.W.codeIn K cd_law_row_is "_law_row_is" = true)
    (k_law_row_is : PySem.W.keepIn K (.ref f_law_row_is) = true)
    (a_law_deed : PySem.W.nsIn K mainGlobals "_law_deed" = some (some (.ref f_law_deed)))
    (l_law_deed : K.lookup f_law_deed = some ⟨oc_law_deed, od_law_deed, .func (PySem.W.fnOf "_law_deed" "_law_deed" (defArgs s_law_deed) (defBody s_law_deed) (defScope s_law_deed) .none kV_law_deed dc_law_deed pm_law_deed an_law_deed cd_law_deed ct_law_deed), sl_law_deed⟩)
    (c_law_deed : PySem.W.codeIn K cd_law_deed "_law_deed" = true)
    (k_law_deed : PySem.W.keepIn K (.ref f_law_deed) = true)
    (a_law_verdict_is : PySem.W.nsIn K mainGlobals "_law_verdict_is" = some (some (.ref f_law_verdict_is)))
    (l_law_verdict_is : K.lookup f_law_verdict_is = some ⟨oc_law_verdict_is, od_law_verdict_is, .func (PySem.W.fnOf "_law_verdict_is" "_law_verdict_is" (defArgs s_law_verdict_is) (defBody s_law_verdict_is) (defScope s_law_verdict_is) .none kV_law_verdict_is dc_law_verdict_is pm_law_verdict_is an_law_verdict_is cd_law_verdict_is ct_law_verdict_is), sl_law_verdict_is⟩)
    (c_law_verdict_is : PySem.W.codeIn K cd_law_verdict_is "_law_verdict_is" = true)
    (k_law_verdict_is : PySem.W.keepIn K (.ref f_law_verdict_is) = true)
    (a_law : PySem.W.nsIn K mainGlobals "law" = some (some (.ref f_law)))
    (l_law : K.lookup f_law = some ⟨oc_law, od_law, .func (PySem.W.fnOf "law" "law" (defArgs s_law) (defBody s_law) (defScope s_law) .none kV_law dc_law pm_law an_law cd_law ct_law), sl_law⟩)
    (c_law : PySem.W.codeIn K cd_law "law" = true)
    (k_law : PySem.W.keepIn K (.ref f_law) = true)
    (n_Judge : PySem.W.nsIn K mainGlobals "Judge" = some (some (.ref A_Judge)))
    (pg_Judge : PySem.W.plainGet K A_Judge Str.empty = true)
    (hd_Judge : PySem.W.hasDictIn K A_Judge = true)
    (po_Judge : PySem.W.plainOver K A_Judge = true)
    (sa_Judge : PySem.W.findIn K (.ref A_Judge) "__setattr__" = some (some (.builtin "object.__setattr__")))
    (mk_Judge : PySem.W.makesIn K A_Judge = true)
    (kc_Judge : PySem.W.keepIn K (.ref A_Judge) = true)
    (nF_Judge__coins : PySem.W.findIn K (.ref A_Judge) "_coins" = some none)
    (a_Judge_init : PySem.W.findIn K (.ref A_Judge) "__init__" = some (some (.ref f_Judge_init)))
    (i_Judge_init : PySem.W.isFn K (.ref f_Judge_init) = true)
    (l_Judge_init : K.lookup f_Judge_init = some ⟨oc_Judge_init, od_Judge_init, .func (PySem.W.fnOf "__init__" "Judge.__init__" (defArgs s_Judge_init) (defBody s_Judge_init) (defScope s_Judge_init) .none kV_Judge_init dc_Judge_init pm_Judge_init an_Judge_init cd_Judge_init ct_Judge_init), sl_Judge_init⟩)
    (c_Judge_init : PySem.W.codeIn K cd_Judge_init "Judge.__init__" = true)
    (k_Judge_init : PySem.W.keepIn K (.ref f_Judge_init) = true)
    (a_Judge_row : PySem.W.findIn K (.ref A_Judge) "row" = some (some (.ref f_Judge_row)))
    (i_Judge_row : PySem.W.isFn K (.ref f_Judge_row) = true)
    (l_Judge_row : K.lookup f_Judge_row = some ⟨oc_Judge_row, od_Judge_row, .func (PySem.W.fnOf "row" "Judge.row" (defArgs s_Judge_row) (defBody s_Judge_row) (defScope s_Judge_row) .none kV_Judge_row dc_Judge_row pm_Judge_row an_Judge_row cd_Judge_row ct_Judge_row), sl_Judge_row⟩)
    (c_Judge_row : PySem.W.codeIn K cd_Judge_row "Judge.row" = true)
    (k_Judge_row : PySem.W.keepIn K (.ref f_Judge_row) = true)
    (a_Judge_more : PySem.W.findIn K (.ref A_Judge) "more" = some (some (.ref f_Judge_more)))
    (i_Judge_more : PySem.W.isFn K (.ref f_Judge_more) = true)
    (l_Judge_more : K.lookup f_Judge_more = some ⟨oc_Judge_more, od_Judge_more, .func (PySem.W.fnOf "more" "Judge.more" (defArgs s_Judge_more) (defBody s_Judge_more) (defScope s_Judge_more) .none kV_Judge_more dc_Judge_more pm_Judge_more an_Judge_more cd_Judge_more ct_Judge_more), sl_Judge_more⟩)
    (c_Judge_more : PySem.W.codeIn K cd_Judge_more "Judge.more" = true)
    (k_Judge_more : PySem.W.keepIn K (.ref f_Judge_more) = true)
    (a_Judge_fewer : PySem.W.findIn K (.ref A_Judge) "fewer" = some (some (.ref f_Judge_fewer)))
    (i_Judge_fewer : PySem.W.isFn K (.ref f_Judge_fewer) = true)
    (l_Judge_fewer : K.lookup f_Judge_fewer = some ⟨oc_Judge_fewer, od_Judge_fewer, .func (PySem.W.fnOf "fewer" "Judge.fewer" (defArgs s_Judge_fewer) (defBody s_Judge_fewer) (defScope s_Judge_fewer) .none kV_Judge_fewer dc_Judge_fewer pm_Judge_fewer an_Judge_fewer cd_Judge_fewer ct_Judge_fewer), sl_Judge_fewer⟩)
    (c_Judge_fewer : PySem.W.codeIn K cd_Judge_fewer "Judge.fewer" = true)
    (k_Judge_fewer : PySem.W.keepIn K (.ref f_Judge_fewer) = true)
    (a_Judge_verdict : PySem.W.findIn K (.ref A_Judge) "verdict" = some (some (.ref f_Judge_verdict)))
    (i_Judge_verdict : PySem.W.isFn K (.ref f_Judge_verdict) = true)
    (l_Judge_verdict : K.lookup f_Judge_verdict = some ⟨oc_Judge_verdict, od_Judge_verdict, .func (PySem.W.fnOf "verdict" "Judge.verdict" (defArgs s_Judge_verdict) (defBody s_Judge_verdict) (defScope s_Judge_verdict) .none kV_Judge_verdict dc_Judge_verdict pm_Judge_verdict an_Judge_verdict cd_Judge_verdict ct_Judge_verdict), sl_Judge_verdict⟩)
    (c_Judge_verdict : PySem.W.codeIn K cd_Judge_verdict "Judge.verdict" = true)
    (k_Judge_verdict : PySem.W.keepIn K (.ref f_Judge_verdict) = true)
    (z_len : PySem.W.nsIn K mainGlobals "len" = some none)
    (z_range : PySem.W.nsIn K mainGlobals "range" = some none)
    (z_list : PySem.W.nsIn K mainGlobals "list" = some none)
    (z_zip : PySem.W.nsIn K mainGlobals "zip" = some none)
    (z_sum : PySem.W.nsIn K mainGlobals "sum" = some none)
    (z_min : PySem.W.nsIn K mainGlobals "min" = some none)
    (z_isinstance : PySem.W.nsIn K mainGlobals "isinstance" = some none)
    (z_int : PySem.W.nsIn K mainGlobals "int" = some none)
    (z_bool : PySem.W.nsIn K mainGlobals "bool" = some none)
    (z_ValueError : PySem.W.nsIn K mainGlobals "ValueError" = some none)
    (z_tuple : PySem.W.nsIn K mainGlobals "tuple" = some none)
    (z_max : PySem.W.nsIn K mainGlobals "max" = some none)
    (n_NoRow : PySem.W.nsIn K mainGlobals "NoRow" = some (some (.ref A_NoRow)))
    (n_NoAmount : PySem.W.nsIn K mainGlobals "NoAmount" = some (some (.ref A_NoAmount)))
    (n_NoWay : PySem.W.nsIn K mainGlobals "NoWay" = some (some (.ref A_NoWay)))
    (n_CoinError : PySem.W.nsIn K mainGlobals "CoinError" = some (some (.ref A_CoinError)))
    (n_TooGreat : PySem.W.nsIn K mainGlobals "TooGreat" = some (some (.ref A_TooGreat)))
    (n_NoText : PySem.W.nsIn K mainGlobals "NoText" = some (some (.ref A_NoText)))
    (xC_NoRow : PySem.W.excIn K A_NoRow [.type "ValueError", .type "Exception", .type "BaseException", .type "object"] "ValueError.__new__" = true)
    (kC_NoRow : PySem.W.keepIn K (.ref A_NoRow) = true)
    (bC_NoRow : PySem.W.subIn K (.ref A_NoRow) (.type "BaseException") = some true)
    (tC_NoRow : PySem.W.typeIn K (.ref A_NoRow) = some (.type "type"))
    (hd_NoRow : PySem.W.hasDictIn K A_NoRow = true)
    (ga_NoRow : PySem.W.findIn K (.ref A_NoRow) "__getattribute__" = some (some (.builtin "BaseException.__getattribute__")))
    (gt_NoRow : PySem.W.findIn K (.ref A_NoRow) "__getattr__" = some none)
    (cl_NoRow : PySem.W.findIn K (.ref A_NoRow) "__class__" = some (some (.builtin "object.__class__")))
    (mr_NoRow : PySem.W.mroIn K A_NoRow (.type "object") = some true)
    (vE_NoRow : PySem.W.kitOne K (.ref A_NoRow) (.type "ValueError") = some true)
    (xC_NoAmount : PySem.W.excIn K A_NoAmount [.type "ValueError", .type "Exception", .type "BaseException", .type "object"] "ValueError.__new__" = true)
    (kC_NoAmount : PySem.W.keepIn K (.ref A_NoAmount) = true)
    (bC_NoAmount : PySem.W.subIn K (.ref A_NoAmount) (.type "BaseException") = some true)
    (tC_NoAmount : PySem.W.typeIn K (.ref A_NoAmount) = some (.type "type"))
    (hd_NoAmount : PySem.W.hasDictIn K A_NoAmount = true)
    (ga_NoAmount : PySem.W.findIn K (.ref A_NoAmount) "__getattribute__" = some (some (.builtin "BaseException.__getattribute__")))
    (gt_NoAmount : PySem.W.findIn K (.ref A_NoAmount) "__getattr__" = some none)
    (cl_NoAmount : PySem.W.findIn K (.ref A_NoAmount) "__class__" = some (some (.builtin "object.__class__")))
    (mr_NoAmount : PySem.W.mroIn K A_NoAmount (.type "object") = some true)
    (vE_NoAmount : PySem.W.kitOne K (.ref A_NoAmount) (.type "ValueError") = some true)
    (xC_NoWay : PySem.W.excIn K A_NoWay [.type "ValueError", .type "Exception", .type "BaseException", .type "object"] "ValueError.__new__" = true)
    (kC_NoWay : PySem.W.keepIn K (.ref A_NoWay) = true)
    (bC_NoWay : PySem.W.subIn K (.ref A_NoWay) (.type "BaseException") = some true)
    (tC_NoWay : PySem.W.typeIn K (.ref A_NoWay) = some (.type "type"))
    (hd_NoWay : PySem.W.hasDictIn K A_NoWay = true)
    (ga_NoWay : PySem.W.findIn K (.ref A_NoWay) "__getattribute__" = some (some (.builtin "BaseException.__getattribute__")))
    (gt_NoWay : PySem.W.findIn K (.ref A_NoWay) "__getattr__" = some none)
    (cl_NoWay : PySem.W.findIn K (.ref A_NoWay) "__class__" = some (some (.builtin "object.__class__")))
    (mr_NoWay : PySem.W.mroIn K A_NoWay (.type "object") = some true)
    (vE_NoWay : PySem.W.kitOne K (.ref A_NoWay) (.type "ValueError") = some true)
    (xC_CoinError : PySem.W.excIn K A_CoinError [.type "ValueError", .type "Exception", .type "BaseException", .type "object"] "ValueError.__new__" = true)
    (kC_CoinError : PySem.W.keepIn K (.ref A_CoinError) = true)
    (bC_CoinError : PySem.W.subIn K (.ref A_CoinError) (.type "BaseException") = some true)
    (tC_CoinError : PySem.W.typeIn K (.ref A_CoinError) = some (.type "type"))
    (hd_CoinError : PySem.W.hasDictIn K A_CoinError = true)
    (ga_CoinError : PySem.W.findIn K (.ref A_CoinError) "__getattribute__" = some (some (.builtin "BaseException.__getattribute__")))
    (gt_CoinError : PySem.W.findIn K (.ref A_CoinError) "__getattr__" = some none)
    (cl_CoinError : PySem.W.findIn K (.ref A_CoinError) "__class__" = some (some (.builtin "object.__class__")))
    (mr_CoinError : PySem.W.mroIn K A_CoinError (.type "object") = some true)
    (vE_CoinError : PySem.W.kitOne K (.ref A_CoinError) (.type "ValueError") = some true)
    (spG : PySem.W.specialIn K (.builtin "object.__class__") "__get__" = some (some (.builtin "getset_descriptor.__get__")))
    (tkG : PySem.W.takesIn K (.builtin "object.__class__") = some true)
    (v_MOST : PySem.W.nsIn K mainGlobals "MOST" = some (some (.int 12 tk_MOST)))
    (v_GREATEST : PySem.W.nsIn K mainGlobals "GREATEST" = some (some (.int (10 ^ 60) tk_GREATEST)))
    (v_MOST_AMOUNT : PySem.W.nsIn K mainGlobals "MOST_AMOUNT" = some (some (.int (10 ^ 80) tk_MOST_AMOUNT)))
    (under_1 : PySem.W.subIn K (.ref A_NoRow) (.ref A_CoinError) = some true)
    (q_NoRow_NoRow : PySem.W.kitOne K (.ref A_NoRow) (.ref A_NoRow) = some true)
    (q_NoRow_NoWay : PySem.W.kitOne K (.ref A_NoRow) (.ref A_NoWay) = some false)
    (q_NoRow_NoAmount : PySem.W.kitOne K (.ref A_NoRow) (.ref A_NoAmount) = some false)
    (q_NoRow_TooGreat : PySem.W.kitOne K (.ref A_NoRow) (.ref A_TooGreat) = some false)
    (q_NoRow_NoText : PySem.W.kitOne K (.ref A_NoRow) (.ref A_NoText) = some false)
    (self_1 : PySem.W.subIn K (.ref A_NoRow) (.ref A_NoRow) = some true) :
    ∃ fd : FuncData, (∀ (s : Shared) (v : Value), BindsTo s fd ⟨[v], []⟩ [("_law_script", v)]) ∧
      ∀ base : Heap, K.In base → base.Ns mainGlobals mg → FnOk l.prog w K mg base CX0 9 fa fd ["_law_script"] (spLaw K) := by
  have same := hfa.symm.trans (PySem.W.mg_of X G a_law)
  cases same
  have D_good_row : Df K mg "good_row" s_good_row f_good_row _ ["coins"] := ⟨fun_mk (st := s_good_row) l_good_row c_good_row k_good_row, PySem.W.mg_of X G a_good_row, (fun_mk (st := s_good_row) l_good_row c_good_row k_good_row).binds fun _ _ _ _ _ _ us hl => match us, hl with | [_], _ => rfl⟩
  have D_check_amount : Df K mg "check_amount" s_check_amount f_check_amount _ ["amount"] := ⟨fun_mk (st := s_check_amount) l_check_amount c_check_amount k_check_amount, PySem.W.mg_of X G a_check_amount, (fun_mk (st := s_check_amount) l_check_amount c_check_amount k_check_amount).binds fun _ _ _ _ _ _ us hl => match us, hl with | [_], _ => rfl⟩
  have D_first_way : Df K mg "first_way" s_first_way f_first_way _ ["coins", "amount"] := ⟨fun_mk (st := s_first_way) l_first_way c_first_way k_first_way, PySem.W.mg_of X G a_first_way, (fun_mk (st := s_first_way) l_first_way c_first_way k_first_way).binds fun _ _ _ _ _ _ us hl => match us, hl with | [_, _], _ => rfl⟩
  have D_worth : Df K mg "worth" s_worth f_worth _ ["coins", "way"] := ⟨fun_mk (st := s_worth) l_worth c_worth k_worth, PySem.W.mg_of X G a_worth, (fun_mk (st := s_worth) l_worth c_worth k_worth).binds fun _ _ _ _ _ _ us hl => match us, hl with | [_, _], _ => rfl⟩
  have D_pieces : Df K mg "pieces" s_pieces f_pieces _ ["way"] := ⟨fun_mk (st := s_pieces) l_pieces c_pieces k_pieces, PySem.W.mg_of X G a_pieces, (fun_mk (st := s_pieces) l_pieces c_pieces k_pieces).binds fun _ _ _ _ _ _ us hl => match us, hl with | [_], _ => rfl⟩
  have D_trial : Df K mg "trial" s_trial f_trial _ ["coins", "high", "low"] := ⟨fun_mk (st := s_trial) l_trial c_trial k_trial, PySem.W.mg_of X G a_trial, (fun_mk (st := s_trial) l_trial c_trial k_trial).binds fun _ _ _ _ _ _ us hl => match us, hl with | [_, _, _], _ => rfl⟩
  have D_trials : Df K mg "trials" s_trials f_trials _ ["coins"] := ⟨fun_mk (st := s_trials) l_trials c_trials k_trials, PySem.W.mg_of X G a_trials, (fun_mk (st := s_trials) l_trials c_trials k_trials).binds fun _ _ _ _ _ _ us hl => match us, hl with | [_], _ => rfl⟩
  have D_beats_first_way : Df K mg "_beats_first_way" s_beats_first_way f_beats_first_way _ ["coins", "pair"] := ⟨fun_mk (st := s_beats_first_way) l_beats_first_way c_beats_first_way k_beats_first_way, PySem.W.mg_of X G a_beats_first_way, (fun_mk (st := s_beats_first_way) l_beats_first_way c_beats_first_way k_beats_first_way).binds fun _ _ _ _ _ _ us hl => match us, hl with | [_, _], _ => rfl⟩
  have D_rank : Df K mg "_rank" s_rank f_rank _ ["pair"] := ⟨fun_mk (st := s_rank) l_rank c_rank k_rank, PySem.W.mg_of X G a_rank, (fun_mk (st := s_rank) l_rank c_rank k_rank).binds fun _ _ _ _ _ _ us hl => match us, hl with | [_], _ => rfl⟩
  have D_judged : Df K mg "judged" s_judged f_judged _ ["coins"] := ⟨fun_mk (st := s_judged) l_judged c_judged k_judged, PySem.W.mg_of X G a_judged, (fun_mk (st := s_judged) l_judged c_judged k_judged).binds fun _ _ _ _ _ _ us hl => match us, hl with | [_], _ => rfl⟩
  have D_law_whole : Df K mg "_law_whole" s_law_whole f_law_whole _ ["_law_found"] := ⟨fun_mk (st := s_law_whole) l_law_whole c_law_whole k_law_whole, PySem.W.mg_of X G a_law_whole, (fun_mk (st := s_law_whole) l_law_whole c_law_whole k_law_whole).binds fun _ _ _ _ _ _ us hl => match us, hl with | [_], _ => rfl⟩
  have D_law_cell_at : Df K mg "_law_cell_at" s_law_cell_at f_law_cell_at _ ["_law_script", "_law_k"] := ⟨fun_mk (st := s_law_cell_at) l_law_cell_at c_law_cell_at k_law_cell_at, PySem.W.mg_of X G a_law_cell_at, (fun_mk (st := s_law_cell_at) l_law_cell_at c_law_cell_at k_law_cell_at).binds fun _ _ _ _ _ _ us hl => match us, hl with | [_, _], _ => rfl⟩
  have D_law_kinds : Df K mg "_law_kinds" s_law_kinds f_law_kinds _ ["_law_e"] := ⟨fun_mk (st := s_law_kinds) l_law_kinds c_law_kinds k_law_kinds, PySem.W.mg_of X G a_law_kinds, (fun_mk (st := s_law_kinds) l_law_kinds c_law_kinds k_law_kinds).binds fun _ _ _ _ _ _ us hl => match us, hl with | [_], _ => rfl⟩
  have D_law_coin_by : Df K mg "_law_coin_by" s_law_coin_by f_law_coin_by _ ["_law_last", "_law_cell"] := ⟨fun_mk (st := s_law_coin_by) l_law_coin_by c_law_coin_by k_law_coin_by, PySem.W.mg_of X G a_law_coin_by, (fun_mk (st := s_law_coin_by) l_law_coin_by c_law_coin_by k_law_coin_by).binds fun _ _ _ _ _ _ us hl => match us, hl with | [_, _], _ => rfl⟩
  have D_law_put : Df K mg "_law_put" s_law_put f_law_put _ ["_law_judge", "_law_coin"] := ⟨fun_mk (st := s_law_put) l_law_put c_law_put k_law_put, PySem.W.mg_of X G a_law_put, (fun_mk (st := s_law_put) l_law_put c_law_put k_law_put).binds fun _ _ _ _ _ _ us hl => match us, hl with | [_, _], _ => rfl⟩
  have D_law_put_refused : Df K mg "_law_put_refused" s_law_put_refused f_law_put_refused _ ["_law_judge", "_law_coin"] := ⟨fun_mk (st := s_law_put_refused) l_law_put_refused c_law_put_refused k_law_put_refused, PySem.W.mg_of X G a_law_put_refused, (fun_mk (st := s_law_put_refused) l_law_put_refused c_law_put_refused k_law_put_refused).binds fun _ _ _ _ _ _ us hl => match us, hl with | [_, _], _ => rfl⟩
  have D_law_off_refused : Df K mg "_law_off_refused" s_law_off_refused f_law_off_refused _ ["_law_judge"] := ⟨fun_mk (st := s_law_off_refused) l_law_off_refused c_law_off_refused k_law_off_refused, PySem.W.mg_of X G a_law_off_refused, (fun_mk (st := s_law_off_refused) l_law_off_refused c_law_off_refused k_law_off_refused).binds fun _ _ _ _ _ _ us hl => match us, hl with | [_], _ => rfl⟩
  have D_law_row_is : Df K mg "_law_row_is" s_law_row_is f_law_row_is _ ["_law_judge", "_law_row"] := ⟨fun_mk (st := s_law_row_is) l_law_row_is c_law_row_is k_law_row_is, PySem.W.mg_of X G a_law_row_is, (fun_mk (st := s_law_row_is) l_law_row_is c_law_row_is k_law_row_is).binds fun _ _ _ _ _ _ us hl => match us, hl with | [_, _], _ => rfl⟩
  have D_law_deed : Df K mg "_law_deed" s_law_deed f_law_deed _ ["_law_judge", "_law_row", "_law_cell"] := ⟨fun_mk (st := s_law_deed) l_law_deed c_law_deed k_law_deed, PySem.W.mg_of X G a_law_deed, (fun_mk (st := s_law_deed) l_law_deed c_law_deed k_law_deed).binds fun _ _ _ _ _ _ us hl => match us, hl with | [_, _, _], _ => rfl⟩
  have D_law_verdict_is : Df K mg "_law_verdict_is" s_law_verdict_is f_law_verdict_is _ ["_law_judge", "_law_row"] := ⟨fun_mk (st := s_law_verdict_is) l_law_verdict_is c_law_verdict_is k_law_verdict_is, PySem.W.mg_of X G a_law_verdict_is, (fun_mk (st := s_law_verdict_is) l_law_verdict_is c_law_verdict_is k_law_verdict_is).binds fun _ _ _ _ _ _ us hl => match us, hl with | [_, _], _ => rfl⟩
  have D_law : Df K mg "law" s_law _ _ ["_law_script"] := ⟨fun_mk (st := s_law) l_law c_law k_law, PySem.W.mg_of X G a_law, (fun_mk (st := s_law) l_law c_law k_law).binds fun _ _ _ _ _ _ us hl => match us, hl with | [_], _ => rfl⟩
  have cl_Judge : Cls K A_Judge := ⟨pg_Judge, hd_Judge, po_Judge, sa_Judge⟩
  have g_Judge := PySem.W.mg_of X G n_Judge
  have F_Judge_init := fun_mk (st := s_Judge_init) l_Judge_init c_Judge_init k_Judge_init
  have b_Judge_init := F_Judge_init.binds (K := K) (ps := ["self"]) fun _ _ _ _ _ _ us hl => match us, hl with | [_], _ => rfl
  have F_Judge_row := fun_mk (st := s_Judge_row) l_Judge_row c_Judge_row k_Judge_row
  have b_Judge_row := F_Judge_row.binds (K := K) (ps := ["self"]) fun _ _ _ _ _ _ us hl => match us, hl with | [_], _ => rfl
  have F_Judge_more := fun_mk (st := s_Judge_more) l_Judge_more c_Judge_more k_Judge_more
  have b_Judge_more := F_Judge_more.binds (K := K) (ps := ["self", "coin"]) fun _ _ _ _ _ _ us hl => match us, hl with | [_, _], _ => rfl
  have F_Judge_fewer := fun_mk (st := s_Judge_fewer) l_Judge_fewer c_Judge_fewer k_Judge_fewer
  have b_Judge_fewer := F_Judge_fewer.binds (K := K) (ps := ["self"]) fun _ _ _ _ _ _ us hl => match us, hl with | [_], _ => rfl
  have F_Judge_verdict := fun_mk (st := s_Judge_verdict) l_Judge_verdict c_Judge_verdict k_Judge_verdict
  have b_Judge_verdict := F_Judge_verdict.binds (K := K) (ps := ["self"]) fun _ _ _ _ _ _ us hl => match us, hl with | [_], _ => rfl
  have m_len := PySem.W.mg_none_of X G z_len
  have m_range := PySem.W.mg_none_of X G z_range
  have m_list := PySem.W.mg_none_of X G z_list
  have m_zip := PySem.W.mg_none_of X G z_zip
  have m_sum := PySem.W.mg_none_of X G z_sum
  have m_min := PySem.W.mg_none_of X G z_min
  have m_isinstance := PySem.W.mg_none_of X G z_isinstance
  have m_int := PySem.W.mg_none_of X G z_int
  have m_bool := PySem.W.mg_none_of X G z_bool
  have m_ValueError := PySem.W.mg_none_of X G z_ValueError
  have m_tuple := PySem.W.mg_none_of X G z_tuple
  have m_max := PySem.W.mg_none_of X G z_max
  have g_NoRow := PySem.W.mg_of X G n_NoRow
  have g_NoAmount := PySem.W.mg_of X G n_NoAmount
  have g_NoWay := PySem.W.mg_of X G n_NoWay
  have g_CoinError := PySem.W.mg_of X G n_CoinError
  have g_TooGreat := PySem.W.mg_of X G n_TooGreat
  have g_NoText := PySem.W.mg_of X G n_NoText
  have T_NoRow : Er K mg "NoRow" A_NoRow := ⟨g_NoRow, xC_NoRow, kC_NoRow, bC_NoRow, tC_NoRow, hd_NoRow, ga_NoRow, gt_NoRow, cl_NoRow, mr_NoRow, spG, tkG, vE_NoRow⟩
  have T_NoAmount : Er K mg "NoAmount" A_NoAmount := ⟨g_NoAmount, xC_NoAmount, kC_NoAmount, bC_NoAmount, tC_NoAmount, hd_NoAmount, ga_NoAmount, gt_NoAmount, cl_NoAmount, mr_NoAmount, spG, tkG, vE_NoAmount⟩
  have T_NoWay : Er K mg "NoWay" A_NoWay := ⟨g_NoWay, xC_NoWay, kC_NoWay, bC_NoWay, tC_NoWay, hd_NoWay, ga_NoWay, gt_NoWay, cl_NoWay, mr_NoWay, spG, tkG, vE_NoWay⟩
  have T_CoinError : Er K mg "CoinError" A_CoinError := ⟨g_CoinError, xC_CoinError, kC_CoinError, bC_CoinError, tC_CoinError, hd_CoinError, ga_CoinError, gt_CoinError, cl_CoinError, mr_CoinError, spG, tkG, vE_CoinError⟩
  have w_MOST := PySem.W.mg_of X G v_MOST
  have w_GREATEST := PySem.W.mg_of X G v_GREATEST
  have w_MOST_AMOUNT := PySem.W.mg_of X G v_MOST_AMOUNT
  refine ⟨PySem.W.fnOf "law" "law" (defArgs s_law) (defBody s_law) (defScope s_law) .none kV_law dc_law pm_law an_law cd_law ct_law, fun s v => .of_eq rfl, fun base _ _ => ?_⟩
  have C_good_row := D_good_row.cn (ok_good_row (P := l.prog) (w := w) (base := base) D_good_row.F m_len m_range m_list w_MOST w_GREATEST T_NoRow)
  have C_check_amount := D_check_amount.cn (ok_check_amount (P := l.prog) (w := w) (base := base) D_check_amount.F w_MOST_AMOUNT T_NoAmount)
  have C_first_way := D_first_way.cn (ok_first_way (P := l.prog) (w := w) (base := base) D_first_way.F m_len m_range C_check_amount)
  have C_worth := D_worth.cn (ok_worth (P := l.prog) (w := w) (base := base) D_worth.F m_len m_zip T_NoWay)
  have C_pieces := D_pieces.cl (ok_pieces (P := l.prog) (w := w) (base := base) D_pieces.F m_sum)
  have C_trial := D_trial.cn (ok_trial (P := l.prog) (w := w) (base := base) D_trial.F m_len m_range T_NoWay C_first_way)
  have C_trials := D_trials.cl (ok_trials (P := l.prog) (w := w) (base := base) D_trials.F m_len m_range C_trial C_worth)
  have C_beats_first_way := D_beats_first_way.cl (ok_beats_first_way (P := l.prog) (w := w) (base := base) D_beats_first_way.F C_pieces C_first_way)
  have C_rank := D_rank.cl (ok_rank (P := l.prog) (w := w) (base := base) D_rank.F C_pieces)
  have C_judged := D_judged.cl (ok_judged (P := l.prog) (w := w) (base := base) D_judged.F m_min C_trials C_beats_first_way C_rank)
  have M_Judge := mkc_of (P := l.prog) (w := w) (base := base) ⟨mk_Judge, a_Judge_init, i_Judge_init, kc_Judge⟩ (ok_Judge_init (P := l.prog) (w := w) (base := base) F_Judge_init cl_Judge nF_Judge__coins) g_Judge b_Judge_init
  have M_row : Mc l.prog w K mg base 3 A_Judge "row" (spMRow (JC A_Judge)) := ⟨_, _, _, cl_Judge, ⟨a_Judge_row, i_Judge_row, k_Judge_row⟩, (ok_Judge_row (P := l.prog) (w := w) (base := base) F_Judge_row cl_Judge nF_Judge__coins m_list), b_Judge_row⟩
  have M_more : Mn l.prog w K mg base 3 A_Judge "more" (spMMore (JC A_Judge) A_NoRow) := ⟨_, _, _, cl_Judge, ⟨a_Judge_more, i_Judge_more, k_Judge_more⟩, (ok_Judge_more (P := l.prog) (w := w) (base := base) F_Judge_more cl_Judge nF_Judge__coins C_good_row), b_Judge_more⟩
  have M_fewer : Mn l.prog w K mg base 3 A_Judge "fewer" (spMFewer (JC A_Judge) A_NoRow) := ⟨_, _, _, cl_Judge, ⟨a_Judge_fewer, i_Judge_fewer, k_Judge_fewer⟩, (ok_Judge_fewer (P := l.prog) (w := w) (base := base) F_Judge_fewer cl_Judge nF_Judge__coins m_len T_NoRow), b_Judge_fewer⟩
  have M_verdict : Mc l.prog w K mg base 7 A_Judge "verdict" (spMVerdict (JC A_Judge)) := ⟨_, _, _, cl_Judge, ⟨a_Judge_verdict, i_Judge_verdict, k_Judge_verdict⟩, (ok_Judge_verdict (P := l.prog) (w := w) (base := base) F_Judge_verdict cl_Judge nF_Judge__coins C_judged), b_Judge_verdict⟩
  have C_law_whole := D_law_whole.cl (ok_law_whole (P := l.prog) (w := w) (base := base) D_law_whole.F m_isinstance m_int m_bool)
  have C_law_cell_at := D_law_cell_at.cl (ok_law_cell_at (P := l.prog) (w := w) (base := base) D_law_cell_at.F m_len)
  have C_law_coin_by := D_law_coin_by.cl (ok_law_coin_by (P := l.prog) (w := w) (base := base) D_law_coin_by.F )
  have C_law_put := D_law_put.cl (ok_law_put (P := l.prog) (w := w) (base := base) D_law_put.F jrep M_more g_NoRow)
  have C_law_put_refused := D_law_put_refused.cl (ok_law_put_refused (P := l.prog) (w := w) (base := base) D_law_put_refused.F jrep M_more T_NoRow T_CoinError g_NoRow g_CoinError under_1 q_NoRow_NoRow m_isinstance m_ValueError D_law_kinds (fun hz hf => ok_law_kinds D_law_kinds.F m_isinstance T_NoRow g_NoRow g_NoWay g_NoAmount g_TooGreat g_NoText q_NoRow_NoRow q_NoRow_NoWay q_NoRow_NoAmount q_NoRow_TooGreat q_NoRow_NoText rfl hz hf))
  have C_law_off_refused := D_law_off_refused.cl (ok_law_off_refused (P := l.prog) (w := w) (base := base) D_law_off_refused.F jrep M_fewer T_NoRow g_NoRow self_1)
  have C_law_row_is := D_law_row_is.cl (ok_law_row_is (P := l.prog) (w := w) (base := base) D_law_row_is.F jrep M_row m_isinstance m_list C_law_whole)
  have C_law_deed := D_law_deed.cl (ok_law_deed (P := l.prog) (w := w) (base := base) D_law_deed.F jrep m_len C_law_off_refused M_fewer C_law_whole C_law_coin_by C_law_put_refused C_law_put)
  have C_law_verdict_is := D_law_verdict_is.cl (ok_law_verdict_is (P := l.prog) (w := w) (base := base) D_law_verdict_is.F jrep M_verdict C_judged m_isinstance m_list m_tuple)
  exact ok_law D_law.F jrep m_len m_range m_min m_max M_Judge C_law_cell_at C_law_deed C_law_row_is C_law_verdict_is
end My
open PySem PySem.W PyProof.Rows
set_option maxRecDepth 100000 in
set_option maxHeartbeats 0 in
theorem PySem.Challenge.cw_coinjudge_k08_a_judge_through_deeds_holds : PySem.Challenge.rw_coinjudge_k08_a_judge_through_deeds.Holds := by
  w_on; o_law; k_head; (case hw => w_witness2)
  k_fill
  refine L2.walk_of (l := PySem.Challenge.rw_coinjudge_k08_a_judge_through_deeds) (n := 63) (k := 9) (x := "_law_script") (CX := fun _ => L2.CX0) (sp := fun w => My.spLaw _) rfl (by decide) rfl ⟨rfl, by decide, by decide⟩ (fun w h Y => PySem.W.kIn_of Y) ?F (fun _ _ a ns hl _ hS => ⟨a, ns, rfl, hS, hl, fun _ => rfl⟩) (fun _ _ _ _ _ h => h)
  case F =>
    intro w mg fa h KX G hmg
    refine' My.all_mk KX G hmg ?a_good_row ?l_good_row ?c_good_row ?k_good_row ?a_check_amount ?l_check_amount ?c_check_amount ?k_check_amount ?a_first_way ?l_first_way ?c_first_way ?k_first_way ?a_worth ?l_worth ?c_worth ?k_worth ?a_pieces ?l_pieces ?c_pieces ?k_pieces ?a_trial ?l_trial ?c_trial ?k_trial ?a_trials ?l_trials ?c_trials ?k_trials ?a_beats_first_way ?l_beats_first_way ?c_beats_first_way ?k_beats_first_way ?a_rank ?l_rank ?c_rank ?k_rank ?a_judged ?l_judged ?c_judged ?k_judged ?a_law_whole ?l_law_whole ?c_law_whole ?k_law_whole ?a_law_cell_at ?l_law_cell_at ?c_law_cell_at ?k_law_cell_at ?a_law_kinds ?l_law_kinds ?c_law_kinds ?k_law_kinds ?a_law_coin_by ?l_law_coin_by ?c_law_coin_by ?k_law_coin_by ?a_law_put ?l_law_put ?c_law_put ?k_law_put ?a_law_put_refused ?l_law_put_refused ?c_law_put_refused ?k_law_put_refused ?a_law_off_refused ?l_law_off_refused ?c_law_off_refused ?k_law_off_refused ?a_law_row_is ?l_law_row_is ?c_law_row_is ?k_law_row_is ?a_law_deed ?l_law_deed ?c_law_deed ?k_law_deed ?a_law_verdict_is ?l_law_verdict_is ?c_law_verdict_is ?k_law_verdict_is ?a_law ?l_law ?c_law ?k_law ?n_Judge ?pg_Judge ?hd_Judge ?po_Judge ?sa_Judge ?mk_Judge ?kc_Judge ?nF_Judge__coins ?a_Judge_init ?i_Judge_init ?l_Judge_init ?c_Judge_init ?k_Judge_init ?a_Judge_row ?i_Judge_row ?l_Judge_row ?c_Judge_row ?k_Judge_row ?a_Judge_more ?i_Judge_more ?l_Judge_more ?c_Judge_more ?k_Judge_more ?a_Judge_fewer ?i_Judge_fewer ?l_Judge_fewer ?c_Judge_fewer ?k_Judge_fewer ?a_Judge_verdict ?i_Judge_verdict ?l_Judge_verdict ?c_Judge_verdict ?k_Judge_verdict ?z_len ?z_range ?z_list ?z_zip ?z_sum ?z_min ?z_isinstance ?z_int ?z_bool ?z_ValueError ?z_tuple ?z_max ?n_NoRow ?n_NoAmount ?n_NoWay ?n_CoinError ?n_TooGreat ?n_NoText ?xC_NoRow ?kC_NoRow ?bC_NoRow ?tC_NoRow ?hd_NoRow ?ga_NoRow ?gt_NoRow ?cl_NoRow ?mr_NoRow ?vE_NoRow ?xC_NoAmount ?kC_NoAmount ?bC_NoAmount ?tC_NoAmount ?hd_NoAmount ?ga_NoAmount ?gt_NoAmount ?cl_NoAmount ?mr_NoAmount ?vE_NoAmount ?xC_NoWay ?kC_NoWay ?bC_NoWay ?tC_NoWay ?hd_NoWay ?ga_NoWay ?gt_NoWay ?cl_NoWay ?mr_NoWay ?vE_NoWay ?xC_CoinError ?kC_CoinError ?bC_CoinError ?tC_CoinError ?hd_CoinError ?ga_CoinError ?gt_CoinError ?cl_CoinError ?mr_CoinError ?vE_CoinError ?spG ?tkG ?v_MOST ?v_GREATEST ?v_MOST_AMOUNT ?under_1 ?q_NoRow_NoRow ?q_NoRow_NoWay ?q_NoRow_NoAmount ?q_NoRow_TooGreat ?q_NoRow_NoText ?self_1
    (case a_good_row => k_is); (case l_good_row => k_is); (case c_good_row => k_is); (case k_good_row => k_is)
    (case a_check_amount => k_is); (case l_check_amount => k_is); (case c_check_amount => k_is); (case k_check_amount => k_is)
    (case a_first_way => k_is); (case l_first_way => k_is); (case c_first_way => k_is); (case k_first_way => k_is)
    (case a_worth => k_is); (case l_worth => k_is); (case c_worth => k_is); (case k_worth => k_is)
    (case a_pieces => k_is); (case l_pieces => k_is); (case c_pieces => k_is); (case k_pieces => k_is)
    (case a_trial => k_is); (case l_trial => k_is); (case c_trial => k_is); (case k_trial => k_is)
    (case a_trials => k_is); (case l_trials => k_is); (case c_trials => k_is); (case k_trials => k_is)
    (case a_beats_first_way => k_is); (case l_beats_first_way => k_is); (case c_beats_first_way => k_is); (case k_beats_first_way => k_is)
    (case a_rank => k_is); (case l_rank => k_is); (case c_rank => k_is); (case k_rank => k_is)
    (case a_judged => k_is); (case l_judged => k_is); (case c_judged => k_is); (case k_judged => k_is)
    (case a_law_whole => k_is); (case l_law_whole => k_is); (case c_law_whole => k_is); (case k_law_whole => k_is)
    (case a_law_cell_at => k_is); (case l_law_cell_at => k_is); (case c_law_cell_at => k_is); (case k_law_cell_at => k_is)
    (case a_law_kinds => k_is); (case l_law_kinds => k_is); (case c_law_kinds => k_is); (case k_law_kinds => k_is)
    (case a_law_coin_by => k_is); (case l_law_coin_by => k_is); (case c_law_coin_by => k_is); (case k_law_coin_by => k_is)
    (case a_law_put => k_is); (case l_law_put => k_is); (case c_law_put => k_is); (case k_law_put => k_is)
    (case a_law_put_refused => k_is); (case l_law_put_refused => k_is); (case c_law_put_refused => k_is); (case k_law_put_refused => k_is)
    (case a_law_off_refused => k_is); (case l_law_off_refused => k_is); (case c_law_off_refused => k_is); (case k_law_off_refused => k_is)
    (case a_law_row_is => k_is); (case l_law_row_is => k_is); (case c_law_row_is => k_is); (case k_law_row_is => k_is)
    (case a_law_deed => k_is); (case l_law_deed => k_is); (case c_law_deed => k_is); (case k_law_deed => k_is)
    (case a_law_verdict_is => k_is); (case l_law_verdict_is => k_is); (case c_law_verdict_is => k_is); (case k_law_verdict_is => k_is)
    (case a_law => k_is); (case l_law => k_is); (case c_law => k_is); (case k_law => k_is)
    (case n_Judge => k_is); (case pg_Judge => k_is); (case hd_Judge => k_is); (case po_Judge => k_is)
    (case sa_Judge => k_is); (case mk_Judge => k_is); (case kc_Judge => k_is); (case nF_Judge__coins => k_is)
    (case a_Judge_init => k_is); (case i_Judge_init => k_is); (case l_Judge_init => k_is); (case c_Judge_init => k_is)
    (case k_Judge_init => k_is); (case a_Judge_row => k_is); (case i_Judge_row => k_is); (case l_Judge_row => k_is)
    (case c_Judge_row => k_is); (case k_Judge_row => k_is); (case a_Judge_more => k_is); (case i_Judge_more => k_is)
    (case l_Judge_more => k_is); (case c_Judge_more => k_is); (case k_Judge_more => k_is); (case a_Judge_fewer => k_is)
    (case i_Judge_fewer => k_is); (case l_Judge_fewer => k_is); (case c_Judge_fewer => k_is); (case k_Judge_fewer => k_is)
    (case a_Judge_verdict => k_is); (case i_Judge_verdict => k_is); (case l_Judge_verdict => k_is); (case c_Judge_verdict => k_is)
    (case k_Judge_verdict => k_is); (case z_len => k_is); (case z_range => k_is); (case z_list => k_is)
    (case z_zip => k_is); (case z_sum => k_is); (case z_min => k_is); (case z_isinstance => k_is)
    (case z_int => k_is); (case z_bool => k_is); (case z_ValueError => k_is); (case z_tuple => k_is)
    (case z_max => k_is); (case n_NoRow => k_is); (case n_NoAmount => k_is); (case n_NoWay => k_is)
    (case n_CoinError => k_is); (case n_TooGreat => k_is); (case n_NoText => k_is); (case xC_NoRow => k_exc)
    (case kC_NoRow => k_is); (case bC_NoRow => k_is); (case tC_NoRow => k_is); (case hd_NoRow => k_is)
    (case ga_NoRow => k_is); (case gt_NoRow => k_is); (case cl_NoRow => k_is); (case mr_NoRow => k_is)
    (case vE_NoRow => first | rfl | k_is); (case xC_NoAmount => k_exc); (case kC_NoAmount => k_is); (case bC_NoAmount => k_is)
    (case tC_NoAmount => k_is); (case hd_NoAmount => k_is); (case ga_NoAmount => k_is); (case gt_NoAmount => k_is)
    (case cl_NoAmount => k_is); (case mr_NoAmount => k_is); (case vE_NoAmount => first | rfl | k_is); (case xC_NoWay => k_exc)
    (case kC_NoWay => k_is); (case bC_NoWay => k_is); (case tC_NoWay => k_is); (case hd_NoWay => k_is)
    (case ga_NoWay => k_is); (case gt_NoWay => k_is); (case cl_NoWay => k_is); (case mr_NoWay => k_is)
    (case vE_NoWay => first | rfl | k_is); (case xC_CoinError => k_exc); (case kC_CoinError => k_is); (case bC_CoinError => k_is)
    (case tC_CoinError => k_is); (case hd_CoinError => k_is); (case ga_CoinError => k_is); (case gt_CoinError => k_is)
    (case cl_CoinError => k_is); (case mr_CoinError => k_is); (case vE_CoinError => first | rfl | k_is); (case spG => k_is)
    (case tkG => k_is); (case v_MOST => k_is); (case v_GREATEST => k_is); (case v_MOST_AMOUNT => k_is)
    (case under_1 => first | rfl | k_is); (case q_NoRow_NoRow => first | rfl | k_is); (case q_NoRow_NoWay => first | rfl | k_is); (case q_NoRow_NoAmount => first | rfl | k_is)
    (case q_NoRow_TooGreat => first | rfl | k_is); (case q_NoRow_NoText => first | rfl | k_is); (case self_1 => first | rfl | k_is)
