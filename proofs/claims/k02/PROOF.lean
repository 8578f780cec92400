import PyProof.Rows.All
import Wide.All
import OpenK.AllK
import Wide.FinOn
import HandS.ForMost
import HandS.Exc
import HandS.ExcOwn
import HandS.TryOnly
import HandS.TryMany
import HandS.ExcCtx
import HandS.HotCalls
import HandS.ExcIs
import HandS.IsInst
import HandS.Wide
import HandS.Evl
import HandS.Zip
import HandS.RevRange
import HandS.Codes
import PyProof.Rows.CountFlat
import KE.KEqDeep
import PySem.Challenge.RW_coinjudge_k02_the_first_way
set_option Elab.async false
set_option linter.all false
set_option maxRecDepth 100000
set_option maxHeartbeats 4000000
namespace My
open PySem PySem.Spec PyProof.Rows L2

/-! ### bools counted in a list -/
def rCntB (K : PySem.W.Frag) : V → List V → Hp → VK → Prop := fun x xs H Q =>
  ∃ (p : Addr) (bs : List Bool) (k : Bool), x = .ref p ∧ xs = [.bl k] ∧ SqL K H p (bs.map V.bl) ∧
    Q (.int (bs.count k : Nat)) H
theorem bools_read {h : Heap} : ∀ {bs : List Bool} {us : List Value}, Vals (bs.map V.bl) us →
    ReadsAll h us (bs.map PyData.bool) []
  | [], _, r => by cases r; exact .nil
  | b :: bs, _, r => by
    cases r with
    | cons r1 r2 =>
      have e := r1
      cases e
      exact ReadsAll.cons (as := []) (bs := []) (.bool b) (bools_read r2)
theorem bools_has : ∀ bs : List Bool, (bs.map PyData.bool).all PySem.Spec.Shape.bool.has = true
  | [] => rfl
  | b :: bs => by
    rw [List.map_cons, List.all_cons, bools_has bs]; rfl
theorem bools_count (k : Bool) : ∀ bs : List Bool, PySem.Spec.countIn (.bool k) (bs.map PyData.bool) = (bs.count k : Nat)
  | [] => rfl
  | b :: bs => by
    rw [List.map_cons, List.count_cons]
    show (if PySem.Spec.same (.bool b) (.bool k) = true then (1 : Int) else 0) + PySem.Spec.countIn (.bool k) (bs.map PyData.bool) = _
    rw [bools_count k bs]
    have e : PySem.Spec.same (PyData.bool b) (PyData.bool k) = (b == k) := by cases b <;> cases k <;> rfl
    rw [e]
    cases (b == k) <;> simp <;> omega
theorem mt_countB {X : Cx} : MtR X "list.count" (rCntB X.K) := by
  intro pins s σ H x xs v us Q I rx rxs h
  obtain ⟨p, bs, k, rfl, rfl, hs, q⟩ := h
  cases rx
  obtain ⟨u, rfl, ru⟩ := rxs.one
  have eu : u = Value.bool k := ru
  subst eu
  obtain ⟨its, rv, ⟨o, n, ho, hc, hdn, hd⟩, hlen⟩ := I.list hs
  refine count_list_bools (l := p) (vs := its) (k := k) ⟨o, ho, hc, n, by simpa using hd⟩
    (bools_read (h := s.heap) rv) (bools_has bs) ?_
  rw [bools_count k bs]
  exact ⟨.int (bs.count k : Nat), H, I.tok _, ⟨s.toks, rfl⟩, q⟩

/-! ### the handled exception, in the suite and in a def called there -/
theorem call_isP {X : Cx} {a D : Addr} {oe : Obj} (C : ExcC X.K D) (hz : Zc (.ref D) none oe) (hf : ∃ vs, oe.data = .fields vs)
    (hp : (a, oe) ∈ X.pn) : CallR X (.builtin "isinstance") (rIsE X.K D a) := by
  intro pins s σ H xs us Q I rel want
  obtain ⟨c, cv, b, rfl, same, known, out⟩ := want
  obtain ⟨u1, u2, rfl, r1, r2⟩ := vals2 rel
  have e1 : u1 = Value.ref a := r1
  have e2 : u2 = cv := same _ r2
  subst e1 e2
  have there := (I.pin (a, oe) (List.mem_append_left _ hp)).1
  obtain ⟨vs, hv⟩ := hf
  have J : PySem.W.InstAt s.heap a oe D none := by
    obtain ⟨oc, od, da, os⟩ := oe
    obtain ⟨z1, z2⟩ := hz
    dsimp only at z1 z2 hv
    subst z1 z2 hv
    exact ⟨there, rfl, rfl, trivial⟩
  refine PySem.W.kia_one (PySem.W.handS_kitx_exc C.hg C.hk C.hs C.hd C.ha C.hn C.ht C.hm) I.kIn J known
    (fun z => by cases z) fun tk => ?_
  exact ⟨.bl b, H, I.kept (t' := tk) (fun _ _ z => z), rfl, out⟩

/-- what a def gives that is called while the exception p is handled -/
def HotRun (P : Program) (w : World) (K : PySem.W.Frag) (mg : Str → Option Value) (base : Heap) (k : Nat) (f : Addr) (fd : FuncData)
    (ps : List Str) (p : Addr × Obj) (sp : Sp) : Prop :=
  ∀ (A : Around) (outer : List Env) (s : Shared) (H : Hp) (us : List Value) (vs : List V) (Q : VK), L2H.RoomH k A → L2H.Hot1 A p →
    L2H.PinOk outer H s p → Env0 P w K mg base A outer s H → BindsTo s fd ⟨us, []⟩ (ps.zip us) → Vals vs us →
    vs.length = ps.length → sp vs H Q E0 →
    codeAny (model P w) A (.call (.ref f) ⟨us, []⟩) (CR CX0 outer P w H s Q E0) s

theorem hot_of {P : Program} {w : World} {K : PySem.W.Frag} {mg : Str → Option Value} {base : Heap} {k : Nat} {x : Str} {st : Stmt}
    {f : Addr} {fd : FuncData} {N ps : List Str} {sp : Sp} {p : Addr × Obj} (F : Fun K x x st f fd) (S : FnScope N ps (defScope st))
    (body : ∀ (cdv : Value) (A : Around) (outer : List Env) (s : Shared) (H : Hp) (vs : List V) (Q : VK), L2H.Hot1 A p →
      L2H.RoomH k (A.deeper (envOfC x (defScope st) s.heap.objs.size f cdv)) → sp vs H Q E0 →
      ∃ t, PSs (L2H.cxH CX0 P w K mg base N x (defScope st) f cdv A outer s H E0 p) (defBody st) t ∧
        t { nx := fun _ H' => Q .non H', rt := Q } (start N vs) H) :
    HotRun P w K mg base (k + 1) f fd ps p sp := by
  intro A outer s H us vs Q room hot pinned e0 bound rel len want
  obtain ⟨oc, od, kV, doc, pm, an, cdv, ct, osl, rfl, there, code⟩ := F.ex
  have inK := e0.mod.kin.keeps fun b o e => (e0.bs b o e).1
  have noLim := e0.mod.nolimit.keeps fun b o e => (e0.bs b o e).1
  have kinds : ∀ y ∈ ps.zip us, (defScope st).names.lookup y.1 = some .local ∨ ((defScope st).names.lookup y.1 = some .cell ∧
      ((cellsFrom (s.heap.objs.size + 1) (defScope st).names []).lookup y.1).isSome = true) := by
    rintro ⟨n, v⟩ hy
    have := S.par n (List.of_mem_zip hy).1
    rcases this with h | h
    · exact Or.inl h
    · exact Or.inr ⟨h, PySem.W.cellsFrom_some _ _ _ (Or.inl h)⟩
  refine codeAny_call_function room.depth (inK _ _ there) rfl S.co S.gen rfl (PySem.W.codeRec_of inK code) (bound _ _ _ _ ?_)
  refine wpAny_newFunctionEnv_cells S.kind kinds ?_
  intro env he s1 called
  subst he
  refine ⟨noLim.keeps called.toInCall.keep, codeAny_func ?_⟩
  obtain ⟨t, derived, reads⟩ := body cdv A outer s H vs Q hot (room.deeper _) want
  have I0 := L2H.inv_startH (CX := CX0) (E := E0) (base := base) S pinned e0 len rel called
  refine wpAny_mono (derived.run [] s1 _ H _ I0 reads) ?_ (fun _ _ z => z)
  intro fl s' ends
  cases fl with
  | ret u => obtain ⟨v, σ', H', J, rv, q⟩ := ends; exact ⟨v, H', J.os, J.bare, J.base, J.hok, rv, q⟩
  | next => obtain ⟨σ', H', J, q⟩ := ends; exact ⟨V.non, H', J.os, J.bare, J.base, J.hok, rfl, q⟩
  | brk => obtain ⟨_, _, _, no⟩ := ends; exact no.elim
  | cont => obtain ⟨_, _, _, no⟩ := ends; exact no.elim

theorem pe_hot {X : Cx} {k : Nat} {f : Addr} {fd : FuncData} {ps : List Str} {sp : Sp} {p : Addr × Obj} {x : Str} {q pos : Pos} {e : Expr}
    {es : List Expr} {t : TA} (F : HotRun X.prog X.w X.K X.mg X.base k f fd ps p sp) (room : L2H.RoomH k X.A) (hot : L2H.Hot1 X.A p)
    (hp : p ∈ X.pn) (hg : Gl X x) (hm : X.mg x = some (.ref f)) (hk : PySem.W.keepIn X.K (.ref f) = true) (hb : Binds X.K fd ps [])
    (len : ∀ vs H Q, sp vs H Q E0 → vs.length = ps.length)
    (ha : PA X (e :: es) t) (hdb : (x == ("__debug__" : Str)) = false := by decide)
    (he : starEach (e :: es) X.env = (false, eval e X.env) :: starEach es X.env := by rfl)
    (hpl : (backTo pos (starEach es X.env)).any (·.1) = false := by rfl) :
    PE X (.Call (.Name x q) (e :: es) [] pos) (tCall sp [] E0 t) := by
  refine ⟨fun pins s σ H Q I want => ?_⟩
  refine wpAny_Call_Name_kw (ld_glob I hg hm ?_ hdb)
  refine PySem.W.callWith_K (h₀ := X.base) I.ok.mod.kin hk (thn (ha.run pos pins s σ H _ I want) ?_) he hpl
  rintro us s1 ⟨vs, H1, I1, rel, w1⟩
  refine ⟨I1.kIn, ?_⟩
  rw [List.append_nil] at w1
  have lv := len _ _ _ w1
  have lu : us.length = ps.length := by rw [← rel.length]; exact lv
  have bound := hb s1 us I1.kIn (by rw [List.append_nil]; exact lu)
  rw [List.append_nil] at bound
  have P1 := I1.pin p (List.mem_append_left _ hp)
  have notFrame : p.1 ∉ frs X.stack := fun hmem => by
    rcases List.mem_cons.mp (I1.stkSub p.1 hmem) with h | h
    · exact P1.2.2.1 h
    · exact P1.2.2.2.1 h
  refine wpAny_call (codeAny_mono (F X.A X.stack s1 H1 us vs Q room hot ⟨P1.1, P1.2.1, notFrame, P1.2.2.2.2⟩ I1.env0 bound rel lv w1) ?_)
  intro r s' hq
  cases r with
  | error e => exact False.elim hq
  | ok fl =>
    cases fl with
    | ret u => exact I1.after hq
    | next => exact False.elim hq
    | brk => exact False.elim hq
    | cont => exact False.elim hq

end My

namespace My
open PySem PySem.Spec PyProof.Rows L2 Evl

/-! ### defs as they are called -/
theorem passN {X : Cx} : Passes (L2N.CX X.prog X.w) X E0 := fun _ _ _ _ _ _ _ h => by
  obtain ⟨_, _, _, _, _, _, _, _, _, _, _, _, z⟩ := h
  exact z.elim
theorem takes0N {X : Cx} : L2N.Takes X (fun _ _ _ _ => False) := fun _ _ x => by
  obtain ⟨_, _, _, _, _, _, _, _, _, _, _, _, _, _, _, _, z⟩ := x
  exact z.elim
/-- a def that lets nothing out, by its name -/
structure Cl (P : Program) (w : World) (K : PySem.W.Frag) (mg : Str → Option Value) (base : Heap) (k : Nat) (x : Str) (sp : Sp) : Prop where
  ex : ∃ f fd ps, FnOk P w K mg base CX0 k f fd ps sp ∧ mg x = some (.ref f) ∧ PySem.W.keepIn K (.ref f) = true ∧ Binds K fd ps []
/-- a def that may raise -/
structure Cn (P : Program) (w : World) (K : PySem.W.Frag) (mg : Str → Option Value) (base : Heap) (k : Nat) (x : Str) (sp : Sp) : Prop where
  ex : ∃ f fd ps, FnOk P w K mg base (L2N.CX P w) k f fd ps sp ∧ mg x = some (.ref f) ∧ PySem.W.keepIn K (.ref f) = true ∧ Binds K fd ps []
section
variable {X : Cx} {j k : Nat} {x : Str} {sp : Sp} {p pos : Pos} {e : Expr} {es : List Expr} {t : TA}
theorem pe_cl (c : Cl X.prog X.w X.K X.mg X.base k x sp) (hr : Room k X.A) (hg : Gl X x) (ha : PA X (e :: es) t)
    (hdb : (x == ("__debug__" : Str)) = false := by decide) (he : starEach (e :: es) X.env = (false, eval e X.env) :: starEach es X.env := by rfl)
    (hpl : (backTo pos (starEach es X.env)).any (·.1) = false := by rfl) : PE X (.Call (.Name x p) (e :: es) [] pos) (tCall sp [] E0 t) := by
  obtain ⟨f, fd, ps, F, hm, kp, b⟩ := c.ex
  exact pe_call F hr hg hm kp b .nil pass0 ha hdb he hpl
theorem pe_cn (c : Cn X.prog X.w X.K X.mg X.base k x sp) (hr : Room k X.A) (hg : Gl X x) (ha : PA X (e :: es) t)
    (hdb : (x == ("__debug__" : Str)) = false := by decide) (he : starEach (e :: es) X.env = (false, eval e X.env) :: starEach es X.env := by rfl)
    (hpl : (backTo pos (starEach es X.env)).any (·.1) = false := by rfl) : PE X (.Call (.Name x p) (e :: es) [] pos) (tCall sp [] E0 t) := by
  obtain ⟨f, fd, ps, F, hm, kp, b⟩ := c.ex
  exact pe_call F hr hg hm kp b .nil passN ha hdb he hpl
/-- the same within a try: W is wished of what it raises -/
theorem pe_ct {W : WX} (c : Cn X.prog X.w X.K X.mg X.base k x sp) (hr : Room k X.A) (tk : L2N.Takes X W) (hg : Gl X x) (ha : PA X (e :: es) t)
    (hdb : (x == ("__debug__" : Str)) = false := by decide) (he : starEach (e :: es) X.env = (false, eval e X.env) :: starEach es X.env := by rfl)
    (hpl : (backTo pos (starEach es X.env)).any (·.1) = false := by rfl) : PE X (.Call (.Name x p) (e :: es) [] pos) (tCallS sp (WE W) t) := by
  obtain ⟨f, fd, ps, F, hm, kp, b⟩ := c.ex
  exact pe_callS F hr hg hm kp b (fun σ => L2N.passAt tk σ) ha hdb he hpl
end

/-! ### an own error's class, at A -/
structure Er (K : PySem.W.Frag) (mg : Str → Option Value) (x : Str) (A : Addr) : Prop where
  gC : mg x = some (.ref A)
  xC : PySem.W.excIn K A [.type "ValueError", .type "Exception", .type "BaseException", .type "object"] "ValueError.__new__" = true
  kC : PySem.W.keepIn K (.ref A) = true
  bC : PySem.W.subIn K (.ref A) (.type "BaseException") = some true
  tC : PySem.W.typeIn K (.ref A) = some (.type "type")
  hd : PySem.W.hasDictIn K A = true
  ga : PySem.W.findIn K (.ref A) "__getattribute__" = some (some (.builtin "BaseException.__getattribute__"))
  gt : PySem.W.findIn K (.ref A) "__getattr__" = some none
  cl : PySem.W.findIn K (.ref A) "__class__" = some (some (.builtin "object.__class__"))
  mr : PySem.W.mroIn K A (.type "object") = some true
  sp : PySem.W.specialIn K (.builtin "object.__class__") "__get__" = some (some (.builtin "getset_descriptor.__get__"))
  tk : PySem.W.takesIn K (.builtin "object.__class__") = some true
  vE : PySem.W.kitOne K (.ref A) (.type "ValueError") = some true
theorem Er.exc {K : PySem.W.Frag} {mg : Str → Option Value} {x : Str} {A : Addr} (T : Er K mg x A) : ExcC K A :=
  ⟨T.ga, T.gt, T.bC, T.hd, T.cl, T.sp, T.tk, T.mr⟩

/-! ### the cells of the script -/
def spCell (K : PySem.W.Frag) : Sp := fun vs H Q _ => ∃ (l : Addr) (ns : List Int) (j : Nat), vs = [.ref l, .int (j : Int)] ∧
  SqL K H l (ns.map V.int) ∧ RetV (.int (ns.getD j 0)) H Q
theorem spv_cell {K : PySem.W.Frag} {H : Hp} {l : Addr} {ns : List Int} {j : Nat} {k : Int} (h : SqL K H l (ns.map V.int)) (e : k = (j : Int)) :
    SpV (spCell K) ([.ref l, .int k] ++ []) H (.int (ns.getD j 0)) := fun H1 e1 Q q E => ⟨l, ns, j, by rw [e]; rfl, ex_l e1 h, q⟩
theorem spv_cellI {K : PySem.W.Frag} {H : Hp} {l : Addr} {ns : List Int} {k : Int} (h : SqL K H l (ns.map V.int)) (h0 : 0 ≤ k) :
    SpV (spCell K) ([.ref l, .int k] ++ []) H (.int (ns.getD k.toNat 0)) := spv_cell h (by omega)
theorem atI_map {ns : List Int} {j : Nat} (h : j < ns.length) : atI (ns.map V.int) (j : Int) = some (.int (ns.getD j 0)) := by
  refine atI_nat ?_
  rw [List.getElem?_map, List.getElem?_eq_getElem h, List.getD_eq_getElem?_getD, List.getElem?_eq_getElem h]
  rfl
theorem atI_lastmap {ns : List Int} (h : 0 < ns.length) : atI (ns.map V.int) (-1) = some (.int (ns.getD (ns.length - 1) 0)) := by
  obtain ⟨xs, x, rfl⟩ : ∃ xs x, ns = xs ++ [x] := by
    have hne : ns ≠ [] := fun z => by rw [z] at h; exact absurd h (by simp)
    exact ⟨ns.dropLast, ns.getLast hne, (List.dropLast_concat_getLast hne).symm⟩
  rw [List.map_append, List.map_singleton, atI_last]
  simp [List.getD_eq_getElem?_getD]

/-! ### rows as lists -/
structure RowL (cs : List Int) : Prop where
  pos : 0 < cs.length
  len : cs.length ≤ 12
  one : cs.getD 0 0 = 1
  up : ∀ k, k + 1 < cs.length → cs.getD k 0 < cs.getD (k + 1) 0
  most : ∀ k, k < cs.length → cs.getD k 0 ≤ 10 ^ 60
theorem RowL.row1 : RowL [1] := ⟨by decide, by decide, rfl, fun k h => by simp at h, fun k h => by
  have e : k = 0 := by simp at h; omega
  subst e; decide⟩
theorem getD_snoc_lt {cs : List Int} {c : Int} {k : Nat} (h : k < cs.length) : (cs ++ [c]).getD k 0 = cs.getD k 0 := by
  rw [List.getD_eq_getElem?_getD, List.getD_eq_getElem?_getD, List.getElem?_append_left h]
theorem getD_snoc {cs : List Int} {c : Int} : (cs ++ [c]).getD cs.length 0 = c := by
  simp [List.getD_eq_getElem?_getD]
theorem RowL.snoc {cs : List Int} {c : Int} (h : RowL cs) (hl : cs.length < 12) (h1 : cs.getD (cs.length - 1) 0 < c) (h2 : c ≤ 10 ^ 60) : RowL (cs ++ [c]) := by
  have hp := h.pos
  refine ⟨by rw [List.length_append]; omega, by rw [List.length_append]; exact hl, ?_, fun k hk => ?_, fun k hk => ?_⟩
  · rw [getD_snoc_lt hp]; exact h.one
  · rw [List.length_append, List.length_singleton] at hk
    rw [getD_snoc_lt (by omega)]
    by_cases e : k + 1 = cs.length
    · rw [e, getD_snoc, show k = cs.length - 1 by omega]; exact h1
    · rw [getD_snoc_lt (by omega)]; exact h.up k (by omega)
  · rw [List.length_append, List.length_singleton] at hk
    by_cases e : k = cs.length
    · rw [e, getD_snoc]; exact h2
    · rw [getD_snoc_lt (by omega)]; exact h.most k (by omega)
theorem RowL.lt {cs : List Int} (h : RowL cs) {i j : Nat} (hij : i < j) (hj : j < cs.length) : cs.getD i 0 < cs.getD j 0 := by
  induction j with
  | zero => omega
  | succ j ih =>
    have h1 := h.up j hj
    by_cases e : i = j
    · subst e; exact h1
    · have := ih (by omega) (by omega); omega
theorem RowL.ge1 {cs : List Int} (h : RowL cs) {i : Nat} (hi : i < cs.length) : 1 ≤ cs.getD i 0 := by
  by_cases e : i = 0
  · subst e; rw [h.one]; decide
  · have := h.lt (show 0 < i by omega) hi
    rw [h.one] at this; omega

/-! ### sizes of numbers -/
theorem p60 : (10 : Int) ^ 60 < 2 ^ 200 := by decide +kernel
theorem natAbs_lt {x : Int} {b : Nat} (h0 : 0 ≤ x) (h : x < 2 ^ b) : x.natAbs < 2 ^ b := by
  have : (x.natAbs : Int) < ((2 ^ b : Nat) : Int) := by
    rw [Int.natCast_pow]
    have e : (x.natAbs : Int) = x := by omega
    rw [e]; exact h
  omega
theorem mul_ok {x y : Int} (hx : 0 ≤ x) (hx2 : x < 2 ^ 500) (hy : 0 ≤ y) (hy2 : y < 2 ^ 500) : CMulW x y :=
  wide_mul (natAbs_lt hx hx2) (natAbs_lt hy hy2) (by decide) (by decide) (by decide)
theorem p500 {x : Int} (h : x ≤ 10 ^ 60) : x < 2 ^ 500 := Int.lt_of_le_of_lt h (by decide +kernel)
theorem small500 {x : Int} (h : x ≤ 10 ^ 40) : x < 2 ^ 500 := Int.lt_of_le_of_lt h (by decide +kernel)

end My

namespace My
open PySem PySem.Spec PyProof.Rows L2 Evl

section
variable {K : PySem.W.Frag} {σ : L2.St} {H : Hp} {ta tb te tc : TE} {D : Ends} {tu tz : TS}

/-! ### lists put together -/
theorem el_catLL {xs ys : List V} (ha : EvL ta σ H xs) (hb : EvL tb σ H ys) (hz : xs.length + ys.length ≤ 100000) :
    EvL (tOp rCat ta tb) σ H (xs ++ ys) := fun H1 e Q q =>
  ha H1 e _ fun p H2 hp e2 h2 => hb H2 (e.trans e2) _ fun p3 H3 hp3 e3 h3 =>
    ⟨p, p3, xs, ys, rfl, rfl, e3 p _ h2, h3, sz_of hz, fun l hl => q l _ (fresh_back (e2.trans e3) hl) ((e2.trans e3).trans (Ex.new hl)) upd_same⟩
theorem el_catRL {l : Addr} {xs ys : List V} (ha : Ev ta σ H (.ref l)) (hl : H l = some (.lst xs)) (hb : EvL tb σ H ys)
    (hz : xs.length + ys.length ≤ 100000) : EvL (tOp rCat ta tb) σ H (xs ++ ys) := fun H1 e Q q =>
  ha H1 e _ fun H2 e2 => hb H2 (e.trans e2) _ fun p3 H3 hp3 e3 h3 =>
    ⟨l, p3, xs, ys, rfl, rfl, (e2.trans e3) l _ (e l _ hl), h3, sz_of hz, fun n hn => q n _ (fresh_back (e2.trans e3) hn) ((e2.trans e3).trans (Ex.new hn)) upd_same⟩
theorem el_catLR {l : Addr} {xs ys : List V} (ha : EvL ta σ H xs) (hb : Ev tb σ H (.ref l)) (hl : H l = some (.lst ys))
    (hz : xs.length + ys.length ≤ 100000) : EvL (tOp rCat ta tb) σ H (xs ++ ys) := fun H1 e Q q =>
  ha H1 e _ fun p H2 hp e2 h2 => hb H2 (e.trans e2) _ fun H3 e3 =>
    ⟨p, l, xs, ys, rfl, rfl, e3 p _ h2, (e2.trans e3) l _ (e l _ hl), sz_of hz, fun n hn => q n _ (fresh_back (e2.trans e3) hn) ((e2.trans e3).trans (Ex.new hn)) upd_same⟩

/-! ### two lists of ints compared -/
theorem dp_ints {H : Hp} : ∀ ns : List Int, DpAll K H (ns.map V.int) (ns.map PyData.int)
  | [] => .nil
  | n :: ns => .cons (.int n) (dp_ints ns)
theorem rv_eqD {a b : Addr} {xs ys : List Int} (hx : SqL K H a (xs.map V.int)) (hy : SqL K H b (ys.map V.int)) :
    RV (rEqD K) (.ref a) (.ref b) H (.bl (decide (xs = ys))) := fun H1 e Q q =>
  ⟨.list (xs.map .int), .list (ys.map .int), .lst (ex_l e hx) (dp_ints xs), .lst (ex_l e hy) (dp_ints ys), PySem.W.shaped_ints xs, PySem.W.shaped_ints ys, by
    rw [show PyData.eqv (.list (xs.map .int)) (.list (ys.map .int)) = decide (xs = ys) from PySem.W.ked_eqvAll xs ys]
    exact q H1 (Ex.refl H1)⟩
theorem rv_neD {a b : Addr} {xs ys : List Int} (hx : SqL K H a (xs.map V.int)) (hy : SqL K H b (ys.map V.int)) :
    RV (rNeD K) (.ref a) (.ref b) H (.bl (!decide (xs = ys))) := fun H1 e Q q =>
  ⟨.list (xs.map .int), .list (ys.map .int), .lst (ex_l e hx) (dp_ints xs), .lst (ex_l e hy) (dp_ints ys), PySem.W.shaped_ints xs, PySem.W.shaped_ints ys, by
    rw [show PyData.eqv (.list (xs.map .int)) (.list (ys.map .int)) = decide (xs = ys) from PySem.W.ked_eqvAll xs ys]
    exact q H1 (Ex.refl H1)⟩

/-! ### calls of built-ins -/
theorem kit_ii : kitB "int" "int" = some true := by decide +kernel
theorem kit_ib : kitB "int" "bool" = some false := by decide +kernel
theorem kit_ll : kitB "list" "list" = some true := by decide +kernel
theorem kit_tt : kitB "tuple" "tuple" = some true := by decide +kernel
theorem kit_ss : kitB "str" "str" = some true := by decide +kernel
theorem kit_nt : kitB "NoneType" "tuple" = some false := by decide +kernel
theorem ev_isi {x : V} {n T : String} {b : Bool} (h : Ev ta σ H x) (hc : Ev tc σ H (.ty n)) (hT : ∀ H1, Ex H H1 → TyX K H1 x (.type T)) (k : kitB T n = some b) :
    Ev (tCB (rIsi K) (tCons ta (tCons tc tNil))) σ H (.bl b) := fun H1 e Q q =>
  h H1 e _ fun H2 e2 => hc H2 (e.trans e2) _ fun H3 e3 => ⟨x, .ty n, _, _, b, rfl, .ty n, hT H3 ((e.trans e2).trans e3), kit_ty k, q H3 (e2.trans e3)⟩
theorem ev_isi_ii {i : Int} (h : Ev ta σ H (.int i)) (hc : Ev tc σ H (.ty "int")) : Ev (tCB (rIsi K) (tCons ta (tCons tc tNil))) σ H (.bl true) := ev_isi h hc (fun _ _ => .base (.int i)) kit_ii
theorem ev_isi_ib {i : Int} (h : Ev ta σ H (.int i)) (hc : Ev tc σ H (.ty "bool")) : Ev (tCB (rIsi K) (tCons ta (tCons tc tNil))) σ H (.bl false) := ev_isi h hc (fun _ _ => .base (.int i)) kit_ib
theorem ev_isi_ll {a : Addr} {xs : List V} (h : Ev ta σ H (.ref a)) (ha : H a = some (.lst xs)) (hc : Ev tc σ H (.ty "list")) : Ev (tCB (rIsi K) (tCons ta (tCons tc tNil))) σ H (.bl true) :=
  ev_isi h hc (fun _ e => .base (.lst (e _ _ ha))) kit_ll
theorem ev_isi_tt {a : Addr} {xs : List V} (h : Ev ta σ H (.ref a)) (ha : H a = some (.tup xs)) (hc : Ev tc σ H (.ty "tuple")) : Ev (tCB (rIsi K) (tCons ta (tCons tc tNil))) σ H (.bl true) :=
  ev_isi h hc (fun _ e => .base (.tup (e _ _ ha))) kit_tt
theorem ev_sum {a : Addr} {ns : List Int} (h : Ev ta σ H (.ref a)) (hs : SqL K H a (ns.map V.int)) : Ev (tCB (rSum K) (tCons ta tNil)) σ H (.int ns.sum) := fun H1 e Q q =>
  h H1 e _ fun H2 e2 => ⟨a, ns, rfl, ex_l (e.trans e2) hs, q H2 e2⟩
theorem ev_countB {bs : List Bool} {k : Bool} (h : EvL ta σ H (bs.map V.bl)) (hk : Ev tc σ H (.bl k)) :
    Ev (tBM K "list" (rCntB K) ta (tCons tc tNil)) σ H (.int (bs.count k : Nat)) := fun H1 e Q q =>
  h H1 e _ fun p H2 hp e2 h2 => ⟨Or.inl ⟨rfl, _, sq_of h2⟩, hk H2 (e.trans e2) _ fun H3 e3 => ⟨p, bs, k, rfl, rfl, sq_of (e3 p _ h2), q H3 (e2.trans e3)⟩⟩

/-! ### a loop over zip of two lists of one length -/
theorem q_zip {tA : TA} {a b : Addr} {xs ys : List V} {j1 j2 : Nat} (h : EvA tA σ H [.ref a, .ref b]) (hx : SqL K H a xs) (hy : SqL K H b ys)
    (hl : xs.length = ys.length) (Pv : Nat → L2.St → Hp → Prop) (h0 : ∀ H1, Ex H H1 → Pv 0 σ H1) (hk : ∀ i σ' H', Pv i σ' H' → Ex H H')
    (hs : ∀ (i : Nat) x y σ' H' H2, xs[i]? = some x → ys[i]? = some y → Pv i σ' H' → Ex H' H2 →
      tu { D with nx := Pv (i + 1), ct := Pv (i + 1), bk := tz D } ((σ'.set j1 (some x)).set j2 (some y)) H2)
    (hd : ∀ σ' H', Pv xs.length σ' H' → tz D σ' H') :
    tSeq (tFor (iZip K tA) (gTup K 2 (gCons (gName j1) (gCons (gName j2) gNil))) tu) tz D σ H :=
  h H (Ex.refl H) _ fun H1 e1 => ⟨a, b, xs, ys, rfl, ex_l e1 hx, ex_l e1 hy,
    RZ.for_zipL (D := { D with nx := tz D }) hl Pv (h0 H1 e1) (fun i σ' H' p => ⟨ex_l (hk i σ' H' p) hx, ex_l (hk i σ' H' p) hy⟩)
      (fun i x y T σ' H' hxi hyi p hT => ⟨T, [x, y], rfl, Or.inl (Or.inl upd_same), rfl, x, [y], rfl, y, [], rfl, rfl,
        hs i x y σ' H' _ hxi hyi p (Ex.new hT)⟩) hd⟩
end

/-! ### what is known where a reading stands -/
theorem pss_know {X : Cx} {b : List Stmt} {t : TS} {C : Prop} (h : C → PSs X b t) : PSs X b (fun D σ H => C ∧ t D σ H) :=
  ⟨fun pins s σ H D I q => (h q.1).run pins s σ H D I q.2⟩
theorem roomH_mark {k : Nat} {A : Around} {v : Option Value} (r : Room k A) : L2H.RoomH k (A.mark v) := ⟨r.dp, r.un⟩
theorem hot_mark {A : Around} {a : Addr} {oe : Obj} {c : Value} {d : Option Addr} (hz : L2N.Zn c d oe) (hf : ∃ vs, oe.data = .fields vs) :
    L2H.Hot1 (A.mark (some (.ref a))) (a, oe) := by
  obtain ⟨vs, hv⟩ := hf
  exact ⟨rfl, vs, hv, hz.2.2 vs hv⟩
/-- an error of the class at A is what a clause over the own class at B names -/
theorem Er.names {K : PySem.W.Frag} {mg : Str → Option Value} {x : Str} {B : Addr} (T : Er K mg x B) {c : Value} {b : Bool} (h : PySem.W.subIn K c (.ref B) = some b) :
    PySem.W.exmOne K c (.ref B) = some b := PySem.W.exm_ref T.bC T.hd T.tC h

/-! ### the kinds of the handled error -/
def spKinds (a : Addr) : Sp := fun vs H Q _ => vs = [.ref a] ∧ RetV (.int 1) H Q
/-- isinstance of the handled error against an own class -/
theorem ev_isE {K : PySem.W.Frag} {σ : L2.St} {H : Hp} {ta tc : TE} {a A B : Addr} {b : Bool} (h : Ev ta σ H (.ref a)) (hc : Ev tc σ H (.ref B))
    (k : PySem.W.kitOne K (.ref A) (.ref B) = some b) : Ev (tCB (rIsE K A a) (tCons ta (tCons tc tNil))) σ H (.bl b) := fun H1 e Q q =>
  h H1 e _ fun H2 e2 => hc H2 (e.trans e2) _ fun H3 e3 => ⟨.ref B, .ref B, b, rfl, fun u r => r, k, q H3 (e2.trans e3)⟩
theorem ev_isET {K : PySem.W.Frag} {σ : L2.St} {H : Hp} {ta tc : TE} {a A : Addr} {n : String} {b : Bool} (h : Ev ta σ H (.ref a)) (hc : Ev tc σ H (.ty n))
    (k : PySem.W.kitOne K (.ref A) (.type n) = some b) : Ev (tCB (rIsE K A a) (tCons ta (tCons tc tNil))) σ H (.bl b) := fun H1 e Q q =>
  h H1 e _ fun H2 e2 => hc H2 (e.trans e2) _ fun H3 e3 => ⟨.ty n, .type n, b, rfl, fun u r => r, k, q H3 (e2.trans e3)⟩

end My

set_option maxHeartbeats 1000000

namespace Coin

/-! Rows are functions from places to coins, the first n places count; ways likewise. -/

/-- the worth of a way over the first n coins -/
def wsum (c v : Nat → Int) : Nat → Int
  | 0 => 0
  | n + 1 => wsum c v n + c n * v n

/-- how many pieces it has there -/
def psum (v : Nat → Int) : Nat → Int
  | 0 => 0
  | n + 1 => psum v n + v n

/-- greatest first over the first n coins -/
def gr (c : Nat → Int) : Nat → Int → Nat → Int
  | 0, _, _ => 0
  | n + 1, a, k => if k = n then a / c n else gr c n (a % c n) k

/-- a row of n coins -/
structure Row (c : Nat → Int) (n : Nat) : Prop where
  pos : 0 < n
  one : c 0 = 1
  up : ∀ k, k + 1 < n → c k < c (k + 1)

theorem Row.lt {c n} (h : Row c n) : ∀ {i j : Nat}, i < j → j < n → c i < c j := by
  intro i j hij hj
  induction j with
  | zero => omega
  | succ j ih =>
    have h1 := h.up j hj
    by_cases e : i = j
    · subst e; exact h1
    · have := ih (by omega) (by omega); omega

theorem Row.le {c n} (h : Row c n) {i j : Nat} (hij : i ≤ j) (hj : j < n) : c i ≤ c j := by
  by_cases e : i = j
  · subst e; omega
  · have := h.lt (show i < j by omega) hj; omega

theorem Row.ge1 {c n} (h : Row c n) {i : Nat} (hi : i < n) : 1 ≤ c i := by
  have := h.le (Nat.zero_le i) hi
  rw [h.one] at this; exact this

theorem Row.sub {c n} (h : Row c n) {m : Nat} (hm : 0 < m) (hmn : m ≤ n) : Row c m :=
  ⟨hm, h.one, fun k hk => h.up k (by omega)⟩

/-- a way: none below nought -/
def Way (v : Nat → Int) (n : Nat) : Prop := ∀ k, k < n → 0 ≤ v k

theorem wsum_congr {c v u : Nat → Int} : ∀ {n : Nat}, (∀ k, k < n → v k = u k) → wsum c v n = wsum c u n
  | 0, _ => rfl
  | n + 1, h => by
    simp only [wsum]
    rw [wsum_congr (n := n) (fun k hk => h k (by omega)), h n (by omega)]

theorem psum_congr {v u : Nat → Int} : ∀ {n : Nat}, (∀ k, k < n → v k = u k) → psum v n = psum u n
  | 0, _ => rfl
  | n + 1, h => by
    simp only [psum]
    rw [psum_congr (n := n) (fun k hk => h k (by omega)), h n (by omega)]

theorem gr_top {c : Nat → Int} {n : Nat} {a : Int} : gr c (n + 1) a n = a / c n := by simp [gr]

theorem gr_low {c : Nat → Int} {n : Nat} {a : Int} {k : Nat} (h : k < n) : gr c (n + 1) a k = gr c n (a % c n) k := by
  simp only [gr]; rw [if_neg (by omega)]

theorem wsum_gr_succ {c : Nat → Int} {n : Nat} {a : Int} :
    wsum c (gr c (n + 1) a) (n + 1) = wsum c (gr c n (a % c n)) n + c n * (a / c n) := by
  simp only [wsum]
  rw [gr_top, wsum_congr (u := gr c n (a % c n)) (fun k hk => gr_low hk)]

theorem psum_gr_succ {c : Nat → Int} {n : Nat} {a : Int} :
    psum (gr c (n + 1) a) (n + 1) = psum (gr c n (a % c n)) n + a / c n := by
  simp only [psum]
  rw [gr_top, psum_congr (u := gr c n (a % c n)) (fun k hk => gr_low hk)]

/-- greatest first is a way -/
theorem gr_way {c : Nat → Int} : ∀ {n : Nat} {a : Int}, (∀ k, k < n → 1 ≤ c k) → 0 ≤ a → Way (gr c n a) n
  | 0, _, _, _ => fun k hk => by omega
  | n + 1, a, hc, ha => fun k hk => by
    have hcn := hc n (by omega)
    by_cases e : k = n
    · subst e; rw [gr_top]; exact Int.ediv_nonneg ha (by omega)
    · rw [gr_low (by omega)]
      exact gr_way (fun k hk => hc k (by omega)) (Int.emod_nonneg _ (by omega)) k (by omega)

/-- its worth is the amount -/
theorem gr_worth {c : Nat → Int} : ∀ {n : Nat} {a : Int}, Row c n → 0 ≤ a → wsum c (gr c n a) n = a
  | 0, _, h, _ => absurd h.pos (by omega)
  | 1, a, h, ha => by
    rw [wsum_gr_succ]; simp only [wsum]; rw [h.one]; omega
  | n + 2, a, h, ha => by
    rw [wsum_gr_succ, gr_worth (h.sub (by omega) (by omega)) (Int.emod_nonneg _ (by have := h.ge1 (i := n + 1) (by omega); omega))]
    have := Int.emod_add_mul_ediv a (c (n + 1))
    omega

/-- what stands below a place in a way that greatest first makes is worth less than its coin -/
theorem wsum_nonneg {c v : Nat → Int} : ∀ {n : Nat}, (∀ k, k < n → 1 ≤ c k) → Way v n → 0 ≤ wsum c v n
  | 0, _, _ => by simp [wsum]
  | n + 1, hc, hv => by
    simp only [wsum]
    have h1 := wsum_nonneg (n := n) (fun k hk => hc k (by omega)) (fun k hk => hv k (by omega))
    have h2 := Int.mul_nonneg (show 0 ≤ c n from by have := hc n (by omega); omega) (hv n (by omega))
    omega

theorem psum_nonneg {v : Nat → Int} : ∀ {n : Nat}, Way v n → 0 ≤ psum v n
  | 0, _ => by simp [psum]
  | n + 1, hv => by
    simp only [psum]
    have h1 := psum_nonneg (n := n) (fun k hk => hv k (by omega))
    have h2 := hv n (by omega)
    omega

/-- a way is greedy: below each coin what is left is worth less than it -/
def Gd (c v : Nat → Int) (n : Nat) : Prop := ∀ k, k < n → wsum c v k < c k

/-- a greedy way is the one that greatest first makes -/
theorem gr_of_Gd {c v : Nat → Int} : ∀ {n : Nat}, (∀ k, k < n → 1 ≤ c k) → Way v n → Gd c v n →
    ∀ k, k < n → gr c n (wsum c v n) k = v k
  | 0, _, _, _ => fun k hk => by omega
  | n + 1, hc, hv, hg => fun k hk => by
    have hcn := hc n (by omega)
    have hlt := hg n (by omega)
    have h0 := wsum_nonneg (n := n) (fun k hk => hc k (by omega)) (fun k hk => hv k (by omega))
    have e1 : (wsum c v n + c n * v n) / c n = v n := by
      rw [Int.add_mul_ediv_left _ _ (by omega), Int.ediv_eq_zero_of_lt h0 hlt]; omega
    have e2 : (wsum c v n + c n * v n) % c n = wsum c v n := by
      rw [Int.add_mul_emod_self_left, Int.emod_eq_of_lt h0 hlt]
    simp only [wsum]
    by_cases e : k = n
    · subst e; rw [gr_top, e1]
    · rw [gr_low (by omega), e2]
      exact gr_of_Gd (fun k hk => hc k (by omega)) (fun k hk => hv k (by omega)) (fun k hk => hg k (by omega)) k (by omega)

/-- and greatest first makes a greedy way -/
theorem Gd_gr {c : Nat → Int} : ∀ {n : Nat} {a : Int}, Row c n → 0 ≤ a → Gd c (gr c n a) n
  | 0, _, h, _ => absurd h.pos (by omega)
  | 1, a, h, ha => fun k hk => by
    have e : k = 0 := by omega
    subst e; simp only [wsum]; rw [h.one]; omega
  | n + 2, a, h, ha => fun k hk => by
    have hcn := h.ge1 (i := n + 1) (by omega)
    have hr : Row c (n + 1) := h.sub (by omega) (by omega)
    have h0 : 0 ≤ a % c (n + 1) := Int.emod_nonneg _ (by omega)
    have e : ∀ m, m ≤ n + 1 → wsum c (gr c (n + 2) a) m = wsum c (gr c (n + 1) (a % c (n + 1))) m := fun m hm =>
      wsum_congr (fun k hk => gr_low (by omega))
    rw [e k (by omega)]
    by_cases ek : k = n + 1
    · subst ek; rw [gr_worth hr h0]; exact Int.emod_lt_of_pos _ (by omega)
    · exact Gd_gr hr h0 k (by omega)

end Coin


namespace Coin

/-- d pieces more of the coin at i -/
def add (v : Nat → Int) (i : Nat) (d : Int) : Nat → Int := fun k => if k = i then v k + d else v k

theorem wsum_add_out {c v : Nat → Int} {i : Nat} {d : Int} {n : Nat} (h : n ≤ i) : wsum c (add v i d) n = wsum c v n :=
  wsum_congr fun k hk => by simp only [add]; rw [if_neg (by omega)]

theorem psum_add_out {v : Nat → Int} {i : Nat} {d : Int} {n : Nat} (h : n ≤ i) : psum (add v i d) n = psum v n :=
  psum_congr fun k hk => by simp only [add]; rw [if_neg (by omega)]

theorem wsum_add {c v : Nat → Int} {i : Nat} {d : Int} : ∀ {n : Nat}, i < n → wsum c (add v i d) n = wsum c v n + c i * d
  | 0, h => by omega
  | n + 1, h => by
    simp only [wsum]
    by_cases e : i = n
    · subst e
      rw [wsum_add_out (Nat.le_refl _)]
      simp only [add, if_true, Int.mul_add]; omega
    · rw [wsum_add (n := n) (by omega)]
      simp only [add]; rw [if_neg (by omega)]; omega

theorem psum_add {v : Nat → Int} {i : Nat} {d : Int} : ∀ {n : Nat}, i < n → psum (add v i d) n = psum v n + d
  | 0, h => by omega
  | n + 1, h => by
    simp only [psum]
    by_cases e : i = n
    · subst e
      rw [psum_add_out (Nat.le_refl _)]
      simp only [add, if_true]; omega
    · rw [psum_add (n := n) (by omega)]
      simp only [add]; rw [if_neg (by omega)]; omega

theorem add_at {v : Nat → Int} {i : Nat} {d : Int} : add v i d i = v i + d := by simp [add]
theorem add_ne {v : Nat → Int} {i k : Nat} {d : Int} (h : k ≠ i) : add v i d k = v k := by simp only [add]; rw [if_neg h]

/-- a way's one piece is worth no more than the way -/
theorem coin_le {c v : Nat → Int} : ∀ {n : Nat} {k : Nat}, (∀ k, k < n → 1 ≤ c k) → Way v n → k < n → 1 ≤ v k →
    c k ≤ wsum c v n
  | 0, _, _, _, h, _ => by omega
  | n + 1, k, hc, hv, hk, h1 => by
    simp only [wsum]
    have hcn := hc n (by omega)
    by_cases e : k = n
    · subst e
      have h0 := wsum_nonneg (n := k) (fun k hk => hc k (by omega)) (fun k hk => hv k (by omega))
      have : c k * 1 ≤ c k * v k := Int.mul_le_mul_of_nonneg_left h1 (by omega)
      omega
    · have := coin_le (n := n) (k := k) (fun k hk => hc k (by omega)) (fun k hk => hv k (by omega)) (by omega) h1
      have h2 := Int.mul_nonneg (show 0 ≤ c n by omega) (hv n (by omega))
      omega

/-- a way of some worth has a piece -/
theorem has_piece {c v : Nat → Int} : ∀ {n : Nat}, Way v n → 0 < wsum c v n → ∃ k, k < n ∧ 1 ≤ v k
  | 0, _, h => by simp [wsum] at h
  | n + 1, hv, h => by
    by_cases e : 1 ≤ v n
    · exact ⟨n, by omega, e⟩
    · have h0 := hv n (by omega)
      have e0 : v n = 0 := by omega
      simp only [wsum, e0, Int.mul_zero, Int.add_zero] at h
      obtain ⟨k, hk, hk1⟩ := has_piece (n := n) (fun k hk => hv k (by omega)) h
      exact ⟨k, by omega, hk1⟩

theorem wsum_zero_above {c v : Nat → Int} {m : Nat} : ∀ {n : Nat}, m ≤ n → (∀ k, m ≤ k → k < n → v k = 0) →
    wsum c v n = wsum c v m
  | 0, h, _ => by rw [show m = 0 by omega]
  | n + 1, h, hz => by
    by_cases e : m = n + 1
    · rw [e]
    · simp only [wsum]
      rw [hz n (by omega) (by omega), wsum_zero_above (n := n) (by omega) (fun k h1 h2 => hz k h1 (by omega))]
      simp

theorem psum_zero {v : Nat → Int} : ∀ {n : Nat}, (∀ k, k < n → v k = 0) → psum v n = 0
  | 0, _ => rfl
  | n + 1, h => by
    simp only [psum]; rw [h n (by omega), psum_zero (n := n) (fun k hk => h k (by omega))]; rfl

theorem gr_zero {c : Nat → Int} : ∀ {n : Nat} {k : Nat}, gr c n 0 k = 0
  | 0, _ => rfl
  | n + 1, k => by
    simp only [gr]
    rw [Int.zero_ediv, Int.zero_emod, gr_zero]; simp

/-- an amount is wrong: some way of it has fewer pieces than greatest first makes -/
def Wrong (c : Nat → Int) (n : Nat) (a : Int) : Prop :=
  0 ≤ a ∧ ∃ v, Way v n ∧ wsum c v n = a ∧ psum v n < psum (gr c n a) n

/-- the trial of two places -/
def tri (c : Nat → Int) (n high low : Nat) : Nat → Int := fun k =>
  if k < low then 0 else if k = low then gr c n (c high - 1) k + 1 else gr c n (c high - 1) k

/-- of the places that serve, one with the least number, and the last such -/
theorem last_least (P : Nat → Prop) (f : Nat → Int) : ∀ (m : Nat), (∃ k, k < m ∧ P k) →
    ∃ i, i < m ∧ P i ∧ (∀ k, k < m → P k → f i ≤ f k) ∧ ∀ k, i < k → k < m → P k → f i < f k
  | 0, ⟨_, h, _⟩ => by omega
  | m + 1, ⟨k0, hk0, hp0⟩ => by
    by_cases hm : P m
    · by_cases hex : ∃ k, k < m ∧ P k
      · obtain ⟨i, hi, hpi, h1, h2⟩ := last_least P f m hex
        by_cases hlt : f i < f m
        · refine ⟨i, by omega, hpi, fun k hk hp => ?_, fun k hik hk hp => ?_⟩
          · by_cases e : k = m
            · subst e; omega
            · exact h1 k (by omega) hp
          · by_cases e : k = m
            · subst e; omega
            · exact h2 k hik (by omega) hp
        · refine ⟨m, by omega, hm, fun k hk hp => ?_, fun k hik hk hp => by omega⟩
          by_cases e : k = m
          · subst e; omega
          · have := h1 k (by omega) hp; omega
      · refine ⟨m, by omega, hm, fun k hk hp => ?_, fun k hik hk hp => by omega⟩
        by_cases e : k = m
        · subst e; omega
        · exact absurd ⟨k, by omega, hp⟩ hex
    · have hex : ∃ k, k < m ∧ P k := ⟨k0, by
        by_cases e : k0 = m
        · subst e; exact absurd hp0 hm
        · omega, hp0⟩
      obtain ⟨i, hi, hpi, h1, h2⟩ := last_least P f m hex
      refine ⟨i, by omega, hpi, fun k hk hp => ?_, fun k hik hk hp => ?_⟩
      · by_cases e : k = m
        · subst e; exact absurd hp hm
        · exact h1 k (by omega) hp
      · by_cases e : k = m
        · subst e; exact absurd hp hm
        · exact h2 k hik (by omega) hp

/-- the least place with a piece -/
theorem first_piece (P : Nat → Prop) : ∀ (m : Nat), P m → ∃ j, j ≤ m ∧ P j ∧ ∀ k, k < j → ¬ P k
  | m, hm => by
    induction m using Nat.strongRecOn with
    | ind m ih =>
      by_cases h : ∃ k, k < m ∧ P k
      · obtain ⟨k, hk, hp⟩ := h
        obtain ⟨j, hj, hpj, hn⟩ := ih k hk hp
        exact ⟨j, by omega, hpj, hn⟩
      · exact ⟨m, Nat.le_refl _, hm, fun k hk hp => h ⟨k, hk, hp⟩⟩

/-- The least wrong amount is the worth of a trial with as few pieces as any way of it. -/
theorem pearson {c : Nat → Int} {n : Nat} {w : Int} (hr : Row c n) (hw : Wrong c n w)
    (hl : ∀ a, a < w → ¬ Wrong c n a) :
    ∃ high low, low < high ∧ high < n ∧ wsum c (tri c n high low) n = w ∧ Way (tri c n high low) n ∧
      ∀ v, Way v n → wsum c v n = w → psum (tri c n high low) n ≤ psum v n := by
  have hc : ∀ k, k < n → 1 ≤ c k := fun k hk => hr.ge1 hk
  obtain ⟨hw0, v0, hv0, hs0, hp0⟩ := hw
  have hopt : ∀ a, a < w → ∀ v, Way v n → wsum c v n = a → psum (gr c n a) n ≤ psum v n := by
    intro a ha v hv hs
    have h0 : 0 ≤ a := by rw [← hs]; exact wsum_nonneg hc hv
    by_cases h : psum v n < psum (gr c n a) n
    · exact absurd ⟨h0, v, hv, hs, h⟩ (hl a ha)
    · omega
  have hwpos : 0 < w := by
    by_cases e : w = 0
    · subst e
      rw [psum_zero (fun k _ => gr_zero)] at hp0
      have := psum_nonneg hv0; omega
    · omega
  let f : Nat → Int := fun k => 1 + psum (gr c n (w - c k)) n
  -- a way with a piece of the coin at k
  have hA : ∀ v, Way v n → wsum c v n = w → ∀ k, k < n → 1 ≤ v k → c k ≤ w ∧ f k ≤ psum v n := by
    intro v hv hs k hk h1
    have hle := coin_le hc hv hk h1
    have hway : Way (add v k (-1)) n := fun m hm => by
      by_cases e : m = k
      · subst e; rw [add_at]; omega
      · rw [add_ne e]; exact hv m hm
    have hsum : wsum c (add v k (-1)) n = w - c k := by rw [wsum_add hk, hs, Int.mul_neg, Int.mul_one]; omega
    have hck := hc k hk
    have := hopt (w - c k) (by omega) _ hway hsum
    rw [psum_add hk] at this
    exact ⟨by omega, by show 1 + psum (gr c n (w - c k)) n ≤ _; omega⟩
  obtain ⟨k0, hk0, hk1⟩ := has_piece hv0 (by omega : 0 < wsum c v0 n)
  obtain ⟨i, hi, hci, hmin, hlast⟩ := last_least (fun k => c k ≤ w) f n ⟨k0, hk0, (hA v0 hv0 hs0 k0 hk0 hk1).1⟩
  let G := gr c n (w - c i)
  let M := add G i 1
  have hG : Way G n := gr_way hc (by omega)
  have hGs : wsum c G n = w - c i := gr_worth hr (by omega)
  have hM : Way M n := fun m hm => by
    by_cases e : m = i
    · rw [e]; show 0 ≤ add G i 1 i; rw [add_at]; have := hG i hi; omega
    · show 0 ≤ add G i 1 m; rw [add_ne e]; exact hG m hm
  have hMs : wsum c M n = w := by show wsum c (add G i 1) n = w; rw [wsum_add hi, hGs]; omega
  have hMp : psum M n = f i := by show psum (add G i 1) n = 1 + psum G n; rw [psum_add hi]; omega
  have hMin : ∀ v, Way v n → wsum c v n = w → psum M n ≤ psum v n := by
    intro v hv hs
    obtain ⟨k, hk, h1⟩ := has_piece hv (by omega : 0 < wsum c v n)
    have h2 := hA v hv hs k hk h1
    have h3 := hmin k hk h2.1
    omega
  have hMtop : ∀ k, i < k → k < n → M k = 0 := by
    intro k hik hk
    by_cases h1 : 1 ≤ M k
    · have h2 := hA M hM hMs k hk h1
      have h3 := hlast k hik hk h2.1
      omega
    · have := hM k hk; omega
  have hMi : 1 ≤ M i := by show 1 ≤ add G i 1 i; rw [add_at]; have := hG i hi; omega
  have hMG : ∀ k, k ≤ i → wsum c M k = wsum c G k := fun k hk => wsum_add_out hk
  have hGd : Gd c G n := Gd_gr hr (by omega)
  have hMabove : ∀ k, i < k → k ≤ n → wsum c M k = w := by
    intro k hik hk
    have := wsum_zero_above (c := c) (v := M) (m := k) (n := n) hk (fun m h1 h2 => hMtop m (by omega) h2)
    omega
  -- the coin ahead
  have hB : i + 1 < n ∧ c (i + 1) ≤ w := by
    by_cases hlt : i + 1 < n ∧ c (i + 1) ≤ w
    · exact hlt
    · exfalso
      have hgd : Gd c M n := by
        intro k hk
        by_cases hki : k ≤ i
        · rw [hMG k hki]; exact hGd k hk
        · rw [hMabove k (by omega) (by omega)]
          have := hr.le (show i + 1 ≤ k by omega) hk
          have : ¬ c (i + 1) ≤ w := fun h => hlt ⟨by omega, h⟩
          omega
      have e := gr_of_Gd hc hM hgd
      rw [hMs] at e
      rw [psum_congr e, hMp] at hp0
      have := hMin v0 hv0 hs0
      omega
  obtain ⟨hin, hcw⟩ := hB
  obtain ⟨j, hji, hMj, hMlow⟩ := first_piece (fun k => 1 ≤ M k) i hMi
  have hjn : j < n := by omega
  have hMz : ∀ k, k < j → M k = 0 := fun k hk => by
    have := hMlow k hk; have := hM k (by omega); omega
  have hcj := hc j hjn
  have hAj := hA M hM hMs j hjn hMj
  -- less one piece of the last coin it is below the coin ahead
  have hB' : w - c j < c (i + 1) := by
    by_cases hlt : w - c j < c (i + 1)
    · exact hlt
    · exfalso
      let T := gr c n (w - c j)
      have hT : Way T n := gr_way hc (by omega)
      have hTs : wsum c T n = w - c j := gr_worth hr (by omega)
      have hTd : Gd c T n := Gd_gr hr (by omega)
      have hex : ∃ k, i < k ∧ k < n ∧ 1 ≤ T k := by
        by_cases hz : ∃ k, i < k ∧ k < n ∧ 1 ≤ T k
        · exact hz
        · exfalso
          have := wsum_zero_above (c := c) (v := T) (m := i + 1) (n := n) (by omega) (fun m h1 h2 => by
            have h3 := hT m h2
            by_cases h4 : 1 ≤ T m
            · exact absurd ⟨m, by omega, h2, h4⟩ hz
            · omega)
          have := hTd (i + 1) hin
          omega
      obtain ⟨k, hik, hk, h1⟩ := hex
      have hU : Way (add T j 1) n := fun m hm => by
        have := hT m hm
        by_cases e : m = j
        · subst e; rw [add_at]; omega
        · rw [add_ne e]; exact this
      have hUs : wsum c (add T j 1) n = w := by rw [wsum_add hjn, hTs]; omega
      have hUp : psum (add T j 1) n = f j := by rw [psum_add hjn]; show psum T n + 1 = 1 + psum T n; omega
      have h2 := hA _ hU hUs k hk (by rw [add_ne (by omega)]; exact h1)
      have h3 := hlast k hik hk h2.1
      omega
  -- what greatest first makes of one less than the coin ahead
  let x := c (i + 1) - 1
  let r := x - (w - c j)
  have hr0 : 0 ≤ r := by show 0 ≤ c (i + 1) - 1 - (w - c j); omega
  have hrj : r < c j := by show c (i + 1) - 1 - (w - c j) < c j; omega
  let L := gr c j r
  let U : Nat → Int := fun k => if k < j then L k else if k = j then M j - 1 else M k
  have hLs : wsum c L j = r ∧ Gd c L j := by
    by_cases e : j = 0
    · have h1 : c j = 1 := by rw [e]; exact hr.one
      have : r = 0 := by omega
      rw [this]
      refine ⟨?_, fun k hk => by omega⟩
      rw [e]; rfl
    · have hrow : Row c j := hr.sub (by omega) (by omega)
      exact ⟨gr_worth hrow hr0, Gd_gr hrow hr0⟩
  have hLw : Way L j := gr_way (fun k hk => hc k (by omega)) hr0
  have hUlow : ∀ k, k ≤ j → wsum c U k = wsum c L k := fun k hk => wsum_congr fun m hm => by
    show (if m < j then L m else _) = L m
    rw [if_pos (by omega)]
  have hMlow0 : ∀ k, k ≤ j → wsum c M k = 0 := fun k hk => by
    rw [wsum_zero_above (m := 0) (by omega) (fun m _ h => hMz m (by omega))]; rfl
  have hUhigh : ∀ k, j < k → wsum c U k = r + wsum c M k - c j := by
    intro k
    induction k with
    | zero => intro h; omega
    | succ k ih =>
      intro h
      simp only [wsum]
      by_cases e : k = j
      · rw [e, hUlow j (by omega), hLs.1, hMlow0 j (by omega)]
        have : U j = M j - 1 := by
          show (if j < j then L j else if j = j then M j - 1 else M j) = _
          rw [if_neg (by omega), if_pos rfl]
        rw [this, Int.mul_sub, Int.mul_one]; omega
      · rw [ih (by omega)]
        have : U k = M k := by
          show (if k < j then L k else if k = j then M j - 1 else M k) = _
          rw [if_neg (by omega), if_neg e]
        rw [this]; omega
  have hUw : Way U n := fun k hk => by
    show 0 ≤ (if k < j then L k else if k = j then M j - 1 else M k)
    by_cases h1 : k < j
    · rw [if_pos h1]; exact hLw k h1
    · rw [if_neg h1]
      by_cases h2 : k = j
      · rw [if_pos h2]; omega
      · rw [if_neg h2]; exact hM k hk
  have hUs : wsum c U n = x := by
    rw [hUhigh n hjn, hMs]; show c (i + 1) - 1 - (w - c j) + w - c j = c (i + 1) - 1; omega
  have hUd : Gd c U n := by
    intro k hk
    by_cases h1 : k < j
    · rw [hUlow k (by omega)]; exact hLs.2 k h1
    · by_cases h2 : k = j
      · rw [h2, hUlow j (by omega), hLs.1]; exact hrj
      · rw [hUhigh k (by omega)]
        by_cases h3 : k ≤ i
        · rw [hMG k h3]; have := hGd k hk; omega
        · rw [hMabove k (by omega) (by omega)]
          have := hr.le (show i + 1 ≤ k by omega) hk
          show c (i + 1) - 1 - (w - c j) + w - c j < c k
          omega
  have hgr : ∀ k, k < n → gr c n x k = U k := by
    have := gr_of_Gd hc hUw hUd
    rw [hUs] at this; exact this
  have htri : ∀ k, k < n → tri c n (i + 1) j k = M k := by
    intro k hk
    show (if k < j then 0 else if k = j then gr c n x k + 1 else gr c n x k) = M k
    rw [hgr k hk]
    show (if k < j then 0 else if k = j then (if k < j then L k else if k = j then M j - 1 else M k) + 1
      else (if k < j then L k else if k = j then M j - 1 else M k)) = M k
    by_cases h1 : k < j
    · rw [if_pos h1, hMz k h1]
    · by_cases h2 : k = j
      · simp only [h2, Nat.lt_irrefl, if_true, if_false]; omega
      · simp only [h1, h2, if_false]
  refine ⟨i + 1, j, by omega, hin, ?_, ?_, ?_⟩
  · rw [wsum_congr htri, hMs]
  · intro k hk; rw [htri k hk]; exact hM k hk
  · intro v hv hs; rw [psum_congr htri]; exact hMin v hv hs

end Coin


namespace Coin

def nil : Nat → Int := fun _ => 0

theorem wsum_nil {c : Nat → Int} : ∀ {n : Nat}, wsum c nil n = 0
  | 0 => rfl
  | n + 1 => by simp only [wsum, nil, Int.mul_zero, Int.add_zero]; exact wsum_nil

theorem psum_nil : ∀ {n : Nat}, psum nil n = 0
  | 0 => rfl
  | n + 1 => by simp only [psum, nil, Int.add_zero]; exact psum_nil

theorem way_nil {n : Nat} : Way nil n := fun _ _ => Int.le_refl 0

theorem way_add {v : Nat → Int} {n i : Nat} (h : Way v n) : Way (add v i 1) n := fun m hm => by
  have := h m hm
  by_cases e : m = i
  · subst e; rw [add_at]; omega
  · rw [add_ne e]; exact this

theorem zero_of_psum {v : Nat → Int} : ∀ {n : Nat}, Way v n → psum v n = 0 → ∀ k, k < n → v k = 0
  | 0, _, _ => fun k hk => by omega
  | n + 1, hv, hp => fun k hk => by
    simp only [psum] at hp
    have h1 := psum_nonneg (v := v) (n := n) (fun k hk => hv k (by omega))
    have h2 := hv n (by omega)
    by_cases e : k = n
    · subst e; omega
    · exact zero_of_psum (n := n) (fun k hk => hv k (by omega)) (by omega) k (by omega)

theorem wsum_all_zero {c v : Nat → Int} {n : Nat} (h : ∀ k, k < n → v k = 0) : wsum c v n = 0 := by
  rw [wsum_congr (u := nil) h, wsum_nil]

/-- a way of one piece is worth a coin -/
theorem one_piece {c v : Nat → Int} {n : Nat} (hv : Way v n) (hp : psum v n = 1) : ∃ k, k < n ∧ wsum c v n = c k := by
  have hex : ∃ k, k < n ∧ 1 ≤ v k := by
    by_cases h : ∃ k, k < n ∧ 1 ≤ v k
    · exact h
    · exfalso
      have := psum_zero (v := v) (n := n) (fun k hk => by
        have := hv k hk
        by_cases h1 : 1 ≤ v k
        · exact absurd ⟨k, hk, h1⟩ h
        · omega)
      omega
  obtain ⟨k, hk, h1⟩ := hex
  have hway : Way (add v k (-1)) n := fun m hm => by
    by_cases e : m = k
    · subst e; rw [add_at]; omega
    · rw [add_ne e]; exact hv m hm
  have h2 : psum (add v k (-1)) n = 0 := by rw [psum_add hk]; omega
  have h3 : wsum c (add v k (-1)) n = 0 := wsum_all_zero (zero_of_psum hway h2)
  rw [wsum_add hk, Int.mul_neg, Int.mul_one] at h3
  exact ⟨k, hk, by omega⟩

/-- a way that greedy agrees with has as many pieces -/
theorem psum_gr {c v : Nat → Int} {n : Nat} {a : Int} (hc : ∀ k, k < n → 1 ≤ c k) (hv : Way v n) (hg : Gd c v n)
    (hs : wsum c v n = a) : psum (gr c n a) n = psum v n := by
  subst hs; exact psum_congr (gr_of_Gd hc hv hg)

/-- no amount below the third coin and 2 is wrong -/
theorem wrong_low {c : Nat → Int} {n : Nat} {w : Int} (hr : Row c n) (hw : Wrong c n w) : 2 < n ∧ c 2 + 1 < w := by
  have hc : ∀ k, k < n → 1 ≤ c k := fun k hk => hr.ge1 hk
  obtain ⟨hw0, v, hv, hs, hp⟩ := hw
  by_cases h1 : n = 1
  · exfalso
    subst h1
    simp only [psum, wsum, hr.one] at hs hp
    rw [gr_top, hr.one] at hp
    omega
  have hn1 : 1 < n := by have := hr.pos; omega
  have hc1 : 1 < c 1 := by have := hr.up 0 (by omega); rw [hr.one] at this; exact this
  have hwpos : 0 < w := by
    by_cases e : w = 0
    · subst e
      rw [psum_zero (fun k _ => gr_zero)] at hp
      have := psum_nonneg hv; omega
    · omega
  have hpv : 1 ≤ psum v n := by
    have h0 := psum_nonneg hv
    by_cases e : psum v n = 0
    · have := wsum_all_zero (c := c) (zero_of_psum hv e); omega
    · omega
  by_cases hlow : ∀ k, 2 ≤ k → k < n → w < c k
  · -- two coins alone
    exfalso
    let u : Nat → Int := fun k => if k = 0 then w % c 1 else if k = 1 then w / c 1 else 0
    have hm0 := Int.emod_nonneg w (show c 1 ≠ 0 by omega)
    have hm1 := Int.emod_lt_of_pos w (show 0 < c 1 by omega)
    have hd0 := Int.ediv_nonneg hw0 (show 0 ≤ c 1 by omega)
    have hdm := Int.emod_add_mul_ediv w (c 1)
    have hu : Way u n := fun k hk => by
      show 0 ≤ (if k = 0 then w % c 1 else if k = 1 then w / c 1 else 0)
      by_cases e0 : k = 0
      · rw [if_pos e0]; exact hm0
      · rw [if_neg e0]
        by_cases e1 : k = 1
        · rw [if_pos e1]; exact hd0
        · rw [if_neg e1]; omega
    have hu2 : wsum c u 2 = w := by
      show 0 + c 0 * (w % c 1) + c 1 * (w / c 1) = w
      rw [hr.one]; omega
    have hua : ∀ k, 2 ≤ k → k ≤ n → wsum c u k = w := fun k h2 hk => by
      rw [wsum_zero_above (m := 2) h2 (fun m h1 _ => by
        show (if m = 0 then w % c 1 else if m = 1 then w / c 1 else 0) = 0
        rw [if_neg (by omega), if_neg (by omega)]), hu2]
    have hug : Gd c u n := fun k hk => by
      by_cases e0 : k = 0
      · subst e0; simp only [wsum]; rw [hr.one]; omega
      · by_cases e1 : k = 1
        · subst e1
          show 0 + c 0 * (w % c 1) < c 1
          rw [hr.one]; omega
        · rw [hua k (by omega) (by omega)]; exact hlow k (by omega) hk
    have hup : psum u n = w % c 1 + w / c 1 := by
      have e : ∀ k, 2 ≤ k → psum u k = w % c 1 + w / c 1 := by
        intro k
        induction k with
        | zero => intro h; omega
        | succ k ih =>
          intro h
          by_cases e : k = 1
          · subst e
            show 0 + w % c 1 + w / c 1 = w % c 1 + w / c 1
            omega
          · simp only [psum]; rw [ih (by omega)]
            show w % c 1 + w / c 1 + (if k = 0 then w % c 1 else if k = 1 then w / c 1 else 0) = _
            rw [if_neg (by omega), if_neg e]; omega
      exact e n (by omega)
    rw [psum_gr hc hu hug (hua n (by omega) (Nat.le_refl _)), hup] at hp
    have hvz : ∀ k, 2 ≤ k → k < n → v k = 0 := fun k h2 hk => by
      have := hv k hk
      by_cases h3 : 1 ≤ v k
      · have := coin_le hc hv hk h3; have := hlow k h2 hk; omega
      · omega
    have hvs : wsum c v 2 = w := by rw [← wsum_zero_above (n := n) (by omega) hvz]; exact hs
    have hvp : psum v n = v 0 + v 1 := by
      have e : ∀ k, 2 ≤ k → k ≤ n → psum v k = v 0 + v 1 := by
        intro k
        induction k with
        | zero => intro h; omega
        | succ k ih =>
          intro h hk
          by_cases e : k = 1
          · subst e
            show 0 + v 0 + v 1 = v 0 + v 1
            omega
          · simp only [psum]; rw [ih (by omega) (by omega), hvz k (by omega) (by omega)]; omega
      exact e n (by omega) (Nat.le_refl _)
    have hvs' : v 0 + c 1 * v 1 = w := by
      have : 0 + c 0 * v 0 + c 1 * v 1 = w := hvs
      rw [hr.one] at this; omega
    rw [hvp] at hp
    have h0 := hv 0 (by omega)
    have hge : v 1 ≤ w / c 1 := by
      rw [Int.le_ediv_iff_mul_le (by omega), Int.mul_comm]; omega
    have hmul := Int.mul_nonneg (show 0 ≤ c 1 - 1 by omega) (show 0 ≤ w / c 1 - v 1 by omega)
    rw [Int.sub_mul, Int.mul_sub, Int.one_mul] at hmul
    omega
  · have hn2 : 2 < n := by
      by_cases e : 2 < n
      · exact e
      · exact absurd (fun k h2 hk => by omega) hlow
    refine ⟨hn2, ?_⟩
    have h12 := hr.lt (show 1 < 2 by omega) hn2
    have hw2 : c 2 ≤ w := by
      by_cases e : c 2 ≤ w
      · exact e
      · exact absurd (fun k h2 hk => by have := hr.le h2 hk; omega) hlow
    by_cases e2 : w = c 2
    · exfalso
      have hgd : Gd c (add nil 2 1) n := fun k hk => by
        by_cases hk2 : k ≤ 2
        · rw [wsum_add_out hk2, wsum_nil]; have := hc k hk; omega
        · rw [wsum_add (by omega), wsum_nil]; have := hr.lt (show 2 < k by omega) hk; omega
      have := psum_gr hc (way_add way_nil) hgd (a := w) (by rw [wsum_add hn2, wsum_nil]; omega)
      rw [this, psum_add hn2, psum_nil] at hp
      omega
    · by_cases e3 : w = c 2 + 1
      · exfalso
        by_cases h3 : 3 < n ∧ c 3 = c 2 + 1
        · obtain ⟨hn3, h3⟩ := h3
          have hgd : Gd c (add nil 3 1) n := fun k hk => by
            by_cases hk2 : k ≤ 3
            · rw [wsum_add_out hk2, wsum_nil]; have := hc k hk; omega
            · rw [wsum_add (by omega), wsum_nil]; have := hr.lt (show 3 < k by omega) hk; omega
          have := psum_gr hc (way_add way_nil) hgd (a := w) (by rw [wsum_add hn3, wsum_nil]; omega)
          rw [this, psum_add hn3, psum_nil] at hp
          omega
        · have hbig : ∀ k, 3 ≤ k → k < n → c 2 + 1 < c k := fun k h hk => by
            have h4 := hr.lt (show 2 < 3 by omega) (by omega : 3 < n)
            have h5 := hr.le h hk
            have : c 3 ≠ c 2 + 1 := fun e => h3 ⟨by omega, e⟩
            omega
          have hgd : Gd c (add (add nil 2 1) 0 1) n := fun k hk => by
            by_cases e0 : k = 0
            · subst e0; rw [wsum_add_out (Nat.le_refl _), wsum_add_out (by omega), wsum_nil]; have := hc 0 hk; omega
            · rw [wsum_add (by omega), hr.one]
              by_cases hk2 : k ≤ 2
              · rw [wsum_add_out hk2, wsum_nil]
                have := hr.le (show 1 ≤ k by omega) hk; omega
              · rw [wsum_add (by omega), wsum_nil]; have := hbig k (by omega) hk; omega
          have := psum_gr hc (way_add (way_add way_nil)) hgd (a := w) (by
            rw [wsum_add (by omega), wsum_add hn2, wsum_nil, hr.one]; omega)
          rw [this, psum_add (by omega), psum_add hn2, psum_nil] at hp
          have hv1 : psum v n = 1 := by omega
          obtain ⟨k, hk, he⟩ := one_piece (c := c) hv hv1
          rw [hs] at he
          by_cases hk3 : 3 ≤ k
          · have := hbig k hk3 hk; omega
          · have := hr.le (show k ≤ 2 by omega) hn2; omega
      · omega

theorem tri_worth_from {c : Nat → Int} {n high low : Nat} : ∀ {m : Nat}, low < m →
    wsum c (tri c n high low) m = wsum c (gr c n (c high - 1)) m - wsum c (gr c n (c high - 1)) low + c low
  | 0, h => by omega
  | m + 1, h => by
    simp only [wsum]
    by_cases e : low = m
    · subst e
      have h0 : wsum c (tri c n high low) low = 0 := wsum_all_zero fun k hk => by
        simp only [tri]; rw [if_pos hk]
      have h1 : tri c n high low low = gr c n (c high - 1) low + 1 := by
        simp only [tri, Nat.lt_irrefl, if_true, if_false]
      rw [h0, h1, Int.mul_add, Int.mul_one]; omega
    · rw [tri_worth_from (m := m) (by omega)]
      have h1 : tri c n high low m = gr c n (c high - 1) m := by
        simp only [tri]; rw [if_neg (by omega), if_neg (by omega)]
      rw [h1]; omega

/-- a trial's worth is below its two coins -/
theorem tri_high {c : Nat → Int} {n high low : Nat} (hr : Row c n) (hlh : low < high) (hh : high < n) :
    wsum c (tri c n high low) n < c high + c low := by
  have hx : 0 ≤ c high - 1 := by have := hr.ge1 hh; omega
  rw [tri_worth_from (by omega), gr_worth hr hx]
  have := wsum_nonneg (c := c) (v := gr c n (c high - 1)) (n := low) (fun k hk => hr.ge1 (by omega))
    (fun k hk => gr_way (fun k hk => hr.ge1 hk) hx k (by omega))
  omega

theorem tri_high' {c : Nat → Int} {n high low : Nat} (hr : Row c n) (hlh : low < high) (hh : high < n) :
    wsum c (tri c n high low) n < c (n - 1) + c (n - 2) := by
  have h1 := tri_high hr hlh hh
  have h2 := hr.le (show high ≤ n - 1 by omega) (by omega)
  have h3 := hr.le (show low ≤ n - 2 by omega) (by omega)
  omega

theorem tri_way {c : Nat → Int} {n high low : Nat} (hr : Row c n) (hh : high < n) : Way (tri c n high low) n := by
  have hx : 0 ≤ c high - 1 := by have := hr.ge1 hh; omega
  intro k hk
  have : 0 ≤ gr c n (c high - 1) k := gr_way (c := c) (fun k hk => hr.ge1 hk) hx k hk
  simp only [tri]
  by_cases h1 : k < low
  · rw [if_pos h1]; omega
  · rw [if_neg h1]
    by_cases h2 : k = low
    · rw [if_pos h2]; omega
    · rw [if_neg h2]; exact this

/-- a least wrong amount, if there is any -/
theorem least_wrong {c : Nat → Int} {n : Nat} {a : Int} (h : Wrong c n a) :
    ∃ w, w ≤ a ∧ Wrong c n w ∧ ∀ b, b < w → ¬ Wrong c n b := by
  obtain ⟨k, e⟩ : ∃ k : Nat, a = k := ⟨a.toNat, by have := h.1; omega⟩
  subst e
  obtain ⟨j, hj, hp, hn⟩ := first_piece (fun k => Wrong c n (k : Int)) k h
  refine ⟨j, by omega, hp, fun b hb hw => ?_⟩
  have h0 := hw.1
  exact hn b.toNat (by omega) (by rw [show ((b.toNat : Nat) : Int) = b by omega]; exact hw)

end Coin

namespace My
open PySem PySem.Spec PyProof.Rows L2 Evl

/-- as Fun.ok, for a def that may raise where nothing is handled -/
theorem okN {P : Program} {w : World} {K : PySem.W.Frag} {mg : Str → Option Value} {base : Heap} {x qual : Str} {st : Stmt} {f : Addr} {fd : FuncData} {N ps : List Str} {k : Nat} {sp : Sp}
    (F : Fun K x qual st f fd) (S : FnScope N ps (defScope st)) (len : ∀ vs H Q E, sp vs H Q E → vs.length = ps.length)
    (body : ∀ (cdv : Value) (A : Around) (outer : List Env) (s : Shared) (H : Hp) (vs : List V) (Q : VK) (E : XK),
      Room k (A.deeper (envOfC qual (defScope st) s.heap.objs.size f cdv)) → sp vs H Q E →
      ∃ t, PSs (cxOf (L2N.CX P w) P w K mg base N qual (defScope st) f cdv A outer s H E) (defBody st) t ∧
        t { nx := fun _ H' => Q .non H', rt := Q } (start N vs) H) : FnOk P w K mg base (L2N.CX P w) (k + 1) f fd ps sp := by
  obtain ⟨oc, od, kV, doc, pm, an, cdv, ct, osl, rfl, there, code⟩ := F.ex
  refine fn_of there code S len ?_
  intro A outer s H vs Q E room want
  exact body cdv A outer s H vs Q E room want

/-! ### lists as functions of their places -/
def gd (xs : List Int) : Nat → Int := fun k => xs.getD k 0
theorem int_at {xs : List Int} {i : Nat} {x : V} (h : (xs.map V.int)[i]? = some x) : ∃ (_ : i < xs.length), x = V.int (gd xs i) := by
  rw [List.getElem?_map] at h
  cases e : xs[i]? with
  | none => rw [e] at h; cases h
  | some z =>
    rw [e] at h
    obtain ⟨hi, ez⟩ := List.getElem?_eq_some_iff.mp e
    refine ⟨hi, ?_⟩
    have : V.int z = x := Option.some.inj h
    rw [← this]
    show V.int z = V.int (xs.getD i 0)
    rw [List.getD_eq_getElem?_getD, e]
    rfl
theorem gd_get {xs : List Int} {i : Nat} (h : i < xs.length) : xs[i]? = some (gd xs i) := by
  show xs[i]? = some (xs.getD i 0)
  rw [List.getD_eq_getElem?_getD, List.getElem?_eq_getElem h]
  rfl
theorem gd_mem {xs : List Int} {i : Nat} (h : i < xs.length) : gd xs i ∈ xs := List.mem_of_getElem? (gd_get h)
theorem mem_gd {xs : List Int} {x : Int} (h : x ∈ xs) : ∃ k, k < xs.length ∧ x = gd xs k := by
  obtain ⟨k, hk, e⟩ := List.mem_iff_getElem.mp h
  refine ⟨k, hk, ?_⟩
  have := gd_get hk
  rw [List.getElem?_eq_getElem hk] at this
  rw [← e]
  exact Option.some.inj this
theorem gd_at {xs : List Int} {j : Nat} (h : j < xs.length) : atI (xs.map V.int) (j : Int) = some (.int (gd xs j)) := atI_map h
theorem psum_cons {x : Int} {xs : List Int} : ∀ n, Coin.psum (gd (x :: xs)) (n + 1) = x + Coin.psum (gd xs) n
  | 0 => by show 0 + x = x + 0; omega
  | n + 1 => by
    have h := psum_cons (x := x) (xs := xs) n
    show Coin.psum (gd (x :: xs)) (n + 1) + gd xs n = x + (Coin.psum (gd xs) n + gd xs n)
    rw [h]; omega
theorem sum_gd : ∀ xs : List Int, xs.sum = Coin.psum (gd xs) xs.length
  | [] => rfl
  | x :: xs => by rw [List.sum_cons, sum_gd xs, List.length_cons, psum_cons]

/-! ### worth and pieces -/
def GoodWay (cs ws : List Int) : Prop := ws.length = cs.length ∧ ∀ x ∈ ws, 0 ≤ x
def spWorth (K : PySem.W.Frag) (A : Addr) : Sp := fun vs H Q E => ∃ (a b : Addr) (cs ws : List Int), vs = [.ref a, .ref b] ∧
  SqL K H a (cs.map V.int) ∧ SqL K H b (ws.map V.int) ∧ (∀ c ∈ cs, 0 ≤ c ∧ c ≤ 10 ^ 60) ∧ (∀ x ∈ ws, x ≤ 10 ^ 40) ∧
  (GoodWay cs ws → RetV (.int (Coin.wsum (gd cs) (gd ws) cs.length)) H Q) ∧ (¬ GoodWay cs ws → ∀ H', Ex H H' → E (.ref A) none H')
def spPieces (K : PySem.W.Frag) : Sp := fun vs H Q _ => ∃ (a : Addr) (ws : List Int), vs = [.ref a] ∧ SqL K H a (ws.map V.int) ∧
  RetV (.int (Coin.psum (gd ws) ws.length)) H Q
def spWhole : Sp := fun vs H Q _ => ∃ i : Int, vs = [.int i] ∧ RetV (.bl true) H Q

/-! ### the law's rows -/
def spRow (K : PySem.W.Frag) : Sp := fun vs H Q _ => ∃ (l : Addr) (ns : List Int), vs = [.ref l] ∧ SqL K H l (ns.map V.int) ∧
  ∀ cs, RowL cs → RetL (cs.map V.int) H Q

/-! ### slices of lists of ints -/
theorem cut_to {ws : List Int} {k : Nat} : cutV (ws.map V.int) none (some (k : Int)) = (ws.take k).map V.int := by
  unfold cutV
  rw [HT.sIx_none, HT.sIx_nat, List.length_map, List.drop_zero, Nat.sub_zero, ← List.map_take]
  congr 1
  by_cases h : k ≤ ws.length
  · rw [Nat.min_eq_left h]
  · rw [Nat.min_eq_right (by omega), List.take_of_length_le (show ws.length ≤ ws.length from Nat.le_refl _), List.take_of_length_le (show ws.length ≤ k by omega)]
theorem cut_from {ws : List Int} {k : Nat} : cutV (ws.map V.int) (some (k : Int)) none = (ws.drop k).map V.int := by
  unfold cutV
  rw [HT.sIx_none, HT.sIx_nat, List.length_map, ← List.map_drop, ← List.map_take]
  congr 1
  by_cases h : k ≤ ws.length
  · rw [Nat.min_eq_left h, List.take_of_length_le (by rw [List.length_drop]; omega)]
  · rw [Nat.min_eq_right (by omega), List.drop_of_length_le (Nat.le_refl _), List.drop_of_length_le (by omega)]
    simp
theorem cut_but1 {ws : List Int} : cutV (ws.map V.int) none (some (-1)) = ws.dropLast.map V.int := by
  unfold cutV
  rw [HT.sIx_none, List.length_map, List.drop_zero, Nat.sub_zero]
  have e : HT.sIx ws.length ws.length (some (-1)) = ws.length - 1 := by
    show (if (-1 : Int) < 0 then ((-1 : Int) + (ws.length : Int)).toNat else min (-1 : Int).toNat ws.length) = _
    rw [if_pos (by decide)]; omega
  rw [e, List.dropLast_eq_take, List.map_take]
theorem el_is {te : TE} {σ : L2.St} {H : Hp} {xs ys : List V} (h : EvL te σ H xs) (e : xs = ys) : EvL te σ H ys := e ▸ h
theorem et_yes {σ : L2.St} {H : Hp} : EvT tYes σ H true := fun H1 _ _ q => q H1 (Ex.refl H1)
theorem zc_know {cls : Value} {d : Option Addr} {A : Addr} {oe : Obj} (hz : L2N.Zn cls d oe) (hC : cls = .ref A ∧ d = none) : Zc (.ref A) none oe := by
  obtain ⟨rfl, rfl⟩ := hC
  exact hz.zc
/-- a def as the top's end shows it -/
structure Df (K : PySem.W.Frag) (mg : Str → Option Value) (x : Str) (st : Stmt) (f : Addr) (fd : FuncData) (ps : List Str) : Prop where
  F : Fun K x x st f fd
  g : mg x = some (.ref f)
  b : Binds K fd ps []
theorem Df.cl {P : Program} {w : World} {K : PySem.W.Frag} {mg : Str → Option Value} {base : Heap} {k : Nat} {x : Str} {st : Stmt} {f : Addr} {fd : FuncData} {ps : List Str} {sp : Sp}
    (D : Df K mg x st f fd ps) (G : FnOk P w K mg base CX0 k f fd ps sp) : Cl P w K mg base k x sp := ⟨f, fd, ps, G, D.g, D.F.kp, D.b⟩
theorem Df.cn {P : Program} {w : World} {K : PySem.W.Frag} {mg : Str → Option Value} {base : Heap} {k : Nat} {x : Str} {st : Stmt} {f : Addr} {fd : FuncData} {ps : List Str} {sp : Sp}
    (D : Df K mg x st f fd ps) (G : FnOk P w K mg base (L2N.CX P w) k f fd ps sp) : Cn P w K mg base k x sp := ⟨f, fd, ps, G, D.g, D.F.kp, D.b⟩

/-! ### ways, and lists that are none -/
def spWay (K : PySem.W.Frag) : Sp := fun vs H Q _ => ∃ (l : Addr) (ns : List Int) (n : Nat), vs = [.ref l, .int (n : Int)] ∧ SqL K H l (ns.map V.int) ∧ n ≤ 100 ∧
  ∀ ws : List Int, ws.length = n → (∀ x ∈ ws, 0 ≤ x ∧ x < 10 ^ 40) → RetL (ws.map V.int) H Q
def spNoWay : Sp := fun vs H Q _ => ∃ (a : Addr) (ws : List Int) (c : Int), vs = [.ref a, .int c] ∧ H a = some (.lst (ws.map V.int)) ∧ 0 < ws.length ∧ ws.length ≤ 100 ∧
  (∀ x ∈ ws, x ≤ 10 ^ 40) ∧
  ∀ us : List Int, us.length ≤ 101 → (us.length ≠ ws.length ∨ ∃ x ∈ us, x < 0) → (∀ x ∈ us, x ≤ 10 ^ 40) → RetL (us.map V.int) H Q

theorem call_isK {X : Cx} {K : PySem.W.Frag} {a D : Addr} {oe : Obj} (hK : X.K = K) (C : ExcC K D) (hz : Zc (.ref D) none oe) (hf : ∃ vs, oe.data = .fields vs)
    (hp : (a, oe) ∈ X.pn) : CallR X (.builtin "isinstance") (rIsE K D a) := by
  subst hK
  exact call_isP C hz hf hp
/-- try: f(..) except ..: Wf D is what is wished of what f raises -/
theorem q_try {sp : Sp} {ta : TA} {vs : List V} {σ : L2.St} {H : Hp} {D : Ends} {tz : TS} {Wf : Ends → WX} (h : EvA ta σ H vs)
    (k : ∀ H1, Ex H H1 → sp vs H1 (fun _ H2 => tz D σ H2) fun cls d H2 => Wf { D with nx := tz D } cls d σ H2) :
    tSeq (fun D σ H => tDrop (tCallS sp (WE (Wf D)) ta) D σ H) tz D σ H := h H (Ex.refl H) _ fun H1 e1 => k H1 e1
theorem spv_kinds {H : Hp} {a : Addr} : SpV (spKinds a) ([.ref a] ++ []) H (.int 1) := fun H1 _ Q q E => ⟨rfl, q⟩
/-- what is no way, with its row -/
def spRefused (K : PySem.W.Frag) : Sp := fun vs H Q _ => ∃ (a b : Addr) (cs ws : List Int), vs = [.ref a, .ref b] ∧ SqL K H a (cs.map V.int) ∧ SqL K H b (ws.map V.int) ∧
  (∀ c ∈ cs, 0 ≤ c ∧ c ≤ 10 ^ 60) ∧ (∀ x ∈ ws, x ≤ 10 ^ 40) ∧ ¬ GoodWay cs ws ∧ RetV (.bl true) H Q
theorem spv_refused {K : PySem.W.Frag} {H : Hp} {a b : Addr} {cs ws : List Int} (ha : SqL K H a (cs.map V.int)) (hb : SqL K H b (ws.map V.int)) (hc : ∀ c ∈ cs, 0 ≤ c ∧ c ≤ 10 ^ 60) (hw : ∀ x ∈ ws, x ≤ 10 ^ 40)
    (bad : ¬ GoodWay cs ws) : SpV (spRefused K) ([.ref a, .ref b] ++ []) H (.bl true) := fun H1 e Q q E => ⟨a, b, cs, ws, rfl, ex_l e ha, ex_l e hb, hc, hw, bad, q⟩
theorem spv_whole {H : Hp} {i : Int} : SpV spWhole ([.int i] ++ []) H (.bl true) := fun H1 e Q q E => ⟨i, rfl, q⟩
theorem el_listI {K : PySem.W.Frag} {σ : L2.St} {H : Hp} {ta : TE} {p : Addr} {xs : List V} (ha : Ev ta σ H (.ref p)) (h : SqL K H p xs) :
    EvL (tCB (rListS K) (tCons ta tNil)) σ H xs := el_list ha h

/-- x = f(..), f by its promise -/
theorem q_asgC {sp : Sp} {ta : TA} {vs : List V} {σ : L2.St} {H : Hp} {D : Ends} {tz : TS} {i : Nat} (h : EvA ta σ H vs)
    (k : ∀ H1, Ex H H1 → sp (vs ++ []) H1 (fun v H2 => tz D (σ.set i (some v)) H2) E0) :
    tSeq (tAsg (tCall sp [] E0 ta) (gName i)) tz D σ H := h H (Ex.refl H) _ fun H1 e1 => k H1 e1
theorem s_asgC {sp : Sp} {ta : TA} {vs : List V} {σ : L2.St} {H : Hp} {D : Ends} {i : Nat} (h : EvA ta σ H vs)
    (k : ∀ H1, Ex H H1 → sp (vs ++ []) H1 (fun v H2 => D.nx (σ.set i (some v)) H2) E0) :
    tAsg (tCall sp [] E0 ta) (gName i) D σ H := h H (Ex.refl H) _ fun H1 e1 => k H1 e1
/-- the law's promise -/
def spLaw (K : PySem.W.Frag) : Sp := fun vs H Q _ => ∃ (a : Addr) (ns : List Int), vs = [.ref a] ∧ SqL K H a (ns.map V.int) ∧ ns.length ≤ 63 ∧ ∀ H', Q (.bl true) H'
theorem RowL.bound {cs : List Int} (R : RowL cs) : ∀ c ∈ cs, 0 ≤ c ∧ c ≤ 10 ^ 60 := fun c hc => by
  obtain ⟨k, hk, rfl⟩ := mem_gd hc
  exact ⟨Int.le_trans (by decide) (R.ge1 hk), R.most k hk⟩
theorem spv_worth {K : PySem.W.Frag} {H : Hp} {A a b : Addr} {cs ws : List Int} (ha : SqL K H a (cs.map V.int)) (hb : SqL K H b (ws.map V.int)) (hc : ∀ c ∈ cs, 0 ≤ c ∧ c ≤ 10 ^ 60) (hw : ∀ x ∈ ws, x ≤ 10 ^ 40)
    (good : GoodWay cs ws) : SpV (spWorth K A) ([.ref a, .ref b] ++ []) H (.int (Coin.wsum (gd cs) (gd ws) cs.length)) := fun H1 e Q q E =>
  ⟨a, b, cs, ws, rfl, ex_l e ha, ex_l e hb, hc, hw, fun _ => q, fun n => absurd good n⟩
theorem spv_pieces {K : PySem.W.Frag} {H : Hp} {b : Addr} {ws : List Int} (hb : SqL K H b (ws.map V.int)) :
    SpV (spPieces K) ([.ref b] ++ []) H (.int (Coin.psum (gd ws) ws.length)) := fun H1 e Q q E => ⟨b, ws, rfl, ex_l e hb, q⟩
theorem ev_eqLists {K : PySem.W.Frag} {σ : L2.St} {H : Hp} {ta tb : TE} {a b : Addr} {xs : List Int} (h1 : Ev ta σ H (.ref a)) (h2 : Ev tb σ H (.ref b)) (ha : SqL K H a (xs.map V.int)) (hb : SqL K H b (xs.map V.int)) :
    Ev (tOp (rEqD K) ta tb) σ H (.bl true) := ev_is (ev_op h1 h2 (rv_eqD ha hb)) (by rw [decide_eq_true rfl])

end My

namespace Coin
/-- what is left of an amount behind the i greatest coins -/
def rest (c : Nat → Int) (n : Nat) (a : Int) : Nat → Int
  | 0 => a
  | i + 1 => rest c n a i % c (n - 1 - i)
theorem gr_rest {c : Nat → Int} {n : Nat} {a : Int} : ∀ {i k : Nat}, i ≤ n → k < n - i → gr c n a k = gr c (n - i) (rest c n a i) k
  | 0, _, _, _ => rfl
  | i + 1, k, hi, hk => by
    rw [gr_rest (i := i) (by omega) (by omega), show n - i = (n - (i + 1)) + 1 by omega, gr_low hk]
    show _ = gr c (n - (i + 1)) (rest c n a i % c (n - 1 - i)) k
    rw [show n - 1 - i = n - (i + 1) by omega]
theorem gr_at {c : Nat → Int} {n : Nat} {a : Int} {i : Nat} (hi : i < n) : gr c n a (n - 1 - i) = rest c n a i / c (n - 1 - i) := by
  rw [gr_rest (i := i) (by omega) (by omega), show n - i = (n - 1 - i) + 1 by omega, gr_top]
theorem rest_nonneg {c : Nat → Int} {n : Nat} {a : Int} (hc : ∀ k, k < n → 1 ≤ c k) (ha : 0 ≤ a) : ∀ {i : Nat}, i ≤ n → 0 ≤ rest c n a i
  | 0, _ => ha
  | i + 1, hi => Int.emod_nonneg _ (by have := hc (n - 1 - i) (by omega); omega)
theorem rest_le {c : Nat → Int} {n : Nat} {a : Int} (hc : ∀ k, k < n → 1 ≤ c k) (ha : 0 ≤ a) : ∀ {i : Nat}, i ≤ n → rest c n a i ≤ a
  | 0, _ => Int.le_refl a
  | i + 1, hi => by
    have h1 := rest_le hc ha (i := i) (by omega)
    have h2 := rest_nonneg hc ha (i := i) (by omega)
    have h3 := hc (n - 1 - i) (by omega)
    have h4 := Int.emod_add_mul_ediv (rest c n a i) (c (n - 1 - i))
    have h5 := Int.mul_nonneg (show 0 ≤ c (n - 1 - i) by omega) (Int.ediv_nonneg h2 (show 0 ≤ c (n - 1 - i) by omega))
    show rest c n a i % c (n - 1 - i) ≤ a
    omega
theorem gr_le {c : Nat → Int} {n : Nat} {a : Int} (hc : ∀ k, k < n → 1 ≤ c k) (ha : 0 ≤ a) {k : Nat} (hk : k < n) : gr c n a k ≤ a := by
  obtain ⟨i, rfl, hi⟩ : ∃ i, k = n - 1 - i ∧ i < n := ⟨n - 1 - k, by omega, by omega⟩
  rw [gr_at hi]
  have h1 := rest_nonneg hc ha (i := i) (by omega)
  have h2 := rest_le hc ha (i := i) (by omega)
  have h3 := hc (n - 1 - i) (by omega)
  have := Int.ediv_le_self (c (n - 1 - i)) h1
  omega
end Coin

namespace My
open PySem PySem.Spec PyProof.Rows L2 Evl

theorem RowL.row {cs : List Int} (R : RowL cs) : Coin.Row (gd cs) cs.length := ⟨R.pos, R.one, R.up⟩
/-- a function's first n values -/
def tab (n : Nat) (f : Nat → Int) : List Int := (List.range n).map f
theorem tab_len {n : Nat} {f : Nat → Int} : (tab n f).length = n := by unfold tab; rw [List.length_map, List.length_range]
theorem gd_tab {n : Nat} {f : Nat → Int} {k : Nat} (h : k < n) : gd (tab n f) k = f k := by
  show (tab n f).getD k 0 = f k
  unfold tab
  rw [List.getD_eq_getElem?_getD, List.getElem?_map, List.getElem?_range h]
  rfl
theorem mem_tab {n : Nat} {f : Nat → Int} {x : Int} (h : x ∈ tab n f) : ∃ k, k < n ∧ x = f k := by
  obtain ⟨k, hk, e⟩ := mem_gd h
  rw [tab_len] at hk
  exact ⟨k, hk, by rw [e, gd_tab hk]⟩
theorem tab_ext {n : Nat} {f g : Nat → Int} (h : ∀ k, k < n → f k = g k) : tab n f = tab n g :=
  List.map_congr_left fun k hk => h k (List.mem_range.mp hk)
theorem eq_tab {xs : List Int} : xs = tab xs.length (gd xs) := by
  refine List.ext_getElem? fun i => ?_
  unfold tab
  rw [List.getElem?_map]
  by_cases h : i < xs.length
  · rw [gd_get h, List.getElem?_range h]; rfl
  · rw [List.getElem?_eq_none (by omega), List.getElem?_eq_none (by rw [List.length_range]; omega)]; rfl
theorem tab_set {n : Nat} {f : Nat → Int} {j : Nat} {v : Int} : (tab n f).set j v = tab n (fun k => if k = j then v else f k) := by
  refine List.ext_getElem? fun i => ?_
  rw [List.getElem?_set]
  unfold tab
  rw [List.getElem?_map, List.getElem?_map, List.length_map, List.length_range]
  by_cases h : i < n
  · rw [List.getElem?_range h]
    by_cases e : j = i
    · subst e; rw [if_pos rfl, if_pos h]; simp
    · rw [if_neg e]; show some (f i) = some (if i = j then v else f i); rw [if_neg (fun z => e z.symm)]
  · rw [List.getElem?_eq_none (by rw [List.length_range]; omega)]
    by_cases e : j = i
    · subst e; rw [if_pos rfl, if_neg h]; rfl
    · rw [if_neg e]; rfl
theorem map_set {xs : List Int} {j : Nat} {v : Int} : (xs.map V.int).set j (.int v) = (xs.set j v).map V.int := (List.map_set ..).symm

theorem flat_rep {α : Type} {x : α} : ∀ {n : Nat}, (List.replicate n [x]).flatten = List.replicate n x
  | 0 => rfl
  | n + 1 => by rw [List.replicate_succ, List.flatten_cons, flat_rep, List.replicate_succ]; rfl
section
variable {K : PySem.W.Frag} {σ : L2.St} {H : Hp} {ta tb te : TE} {D : Ends} {tu tz : TS}
/-- [x] * n -/
theorem el_rep {x : V} {n : Nat} (ha : EvL ta σ H [x]) (hb : Ev tb σ H (.int (n : Int))) (hn : n ≤ 100000) :
    EvL (tOp rRep ta tb) σ H (List.replicate n x) := fun H1 e Q q =>
  ha H1 e _ fun p H2 hp e2 h2 => hb H2 (e.trans e2) _ fun H3 e3 =>
    ⟨p, (n : Int), [x], rfl, rfl, e3 p _ h2, by omega, by omega, by rw [Int.toNat_natCast]; exact sz_of (by simp; omega), fun l hl =>
      q l _ (fresh_back (e2.trans e3) hl) ((e2.trans e3).trans (Ex.new hl)) (by
        rw [upd_same, Int.toNat_natCast]
        congr 1
        rw [flat_rep])⟩
/-- for k in range(n - 1, -1, -1) -/
theorem q_forDown {tA : TA} {j : Nat} {n : Nat} (h : EvA tA σ H [.int ((n : Int) - 1), .int (-1), .int (-1)]) (hn : n ≤ 100000) (Pv : Nat → L2.St → Hp → Prop) (h0 : ∀ H1, Ex H H1 → Pv 0 σ H1)
    (hs : ∀ (i : Nat) σ' H', i < n → Pv i σ' H' → tu { D with nx := Pv (i + 1), ct := Pv (i + 1), bk := tz D } (σ'.set j (some (.int ((n - 1 - i : Nat) : Int)))) H')
    (hd : ∀ σ' H', Pv n σ' H' → tz D σ' H') : tSeq (tFor (iRng3 tA) (gName j) tu) tz D σ H :=
  h H (Ex.refl H) _ fun H1 e => ⟨(n : Int) - 1, -1, -1, n, rfl, by
      have r := RgC.neg (i := (n : Int) - 1) (j := -1) (by omega) (by omega) (by decide) (by decide)
      have e : ((n : Int) - 1 - -1).toNat = n := by omega
      rw [e] at r; exact r,
    for_rangeC (D := { D with nx := tz D }) Pv (h0 H1 e) (fun i σ' H' hi p => by
      have e0 : (n : Int) - 1 + (i : Int) * -1 = ((n - 1 - i : Nat) : Int) := by omega
      show tu { D with nx := Pv (i + 1), ct := Pv (i + 1), bk := tz D } (σ'.set j (some (.int ((n : Int) - 1 + (i : Int) * -1)))) H'
      rw [e0]
      exact hs i σ' H' hi p) hd⟩
end

/-! ### the first way -/
theorem p80 : (10 : Int) ^ 80 < 2 ^ 500 := by decide +kernel
/-- what greatest first makes, as a list -/
def grL (cs : List Int) (a : Int) : List Int := tab cs.length (Coin.gr (gd cs) cs.length a)
def spFirst (K : PySem.W.Frag) (A : Addr) : Sp := fun vs H Q E => ∃ (a : Addr) (cs : List Int) (x : Int), vs = [.ref a, .int x] ∧ SqL K H a (cs.map V.int) ∧ RowL cs ∧
  (0 ≤ x ∧ x ≤ 10 ^ 80 → RetL ((grL cs x).map V.int) H Q) ∧ (¬ (0 ≤ x ∧ x ≤ 10 ^ 80) → ∀ H', Ex H H' → E (.ref A) none H')
def spAmount (K : PySem.W.Frag) : Sp := fun vs H Q _ => ∃ (a : Addr) (cs : List Int) (w c : Int), vs = [.ref a, .int w, .int c] ∧ SqL K H a (cs.map V.int) ∧ RowL cs ∧
  ∀ x, 0 ≤ x → x ≤ 10 ^ 80 → RetV (.int x) H Q
def spNoAmount : Sp := fun vs H Q _ => ∃ (c : Int), vs = [.int c] ∧ ∀ x, ¬ (0 ≤ x ∧ x ≤ 10 ^ 80) → RetV (.int x) H Q
def spRefusedA (K : PySem.W.Frag) : Sp := fun vs H Q _ => ∃ (a : Addr) (cs : List Int) (x : Int), vs = [.ref a, .int x] ∧ SqL K H a (cs.map V.int) ∧ RowL cs ∧ ¬ (0 ≤ x ∧ x ≤ 10 ^ 80) ∧ RetV (.bl true) H Q
theorem spv_refusedA {K : PySem.W.Frag} {H : Hp} {a : Addr} {cs : List Int} {x : Int} (ha : SqL K H a (cs.map V.int)) (R : RowL cs) (bad : ¬ (0 ≤ x ∧ x ≤ 10 ^ 80)) :
    SpV (spRefusedA K) ([.ref a, .int x] ++ []) H (.bl true) := fun H1 e Q q E => ⟨a, cs, x, rfl, ex_l e ha, R, bad, q⟩
/-- what the law asks of a first way -/
def spFirstOk (K : PySem.W.Frag) : Sp := fun vs H Q _ => ∃ (a b : Addr) (cs : List Int) (x : Int), vs = [.ref a, .ref b, .int x] ∧ SqL K H a (cs.map V.int) ∧ H b = some (.lst ((grL cs x).map V.int)) ∧ RowL cs ∧ 0 ≤ x ∧ x ≤ 10 ^ 80 ∧
  RetV (.bl true) H Q
theorem ev_call3 {σ : L2.St} {H : Hp} {ta tb tc : TE} {sp : Sp} {x z v : V} {xs : List V} (h1 : Ev ta σ H x) (h2 : EvL tb σ H xs) (h3 : Ev tc σ H z)
    (hs : ∀ p H1, H1 p = some (.lst xs) → Ex H H1 → SpV sp ([x, .ref p, z] ++ []) H1 v) : Ev (tCall sp [] E0 (tCons ta (tCons tb (tCons tc tNil)))) σ H v := fun H1 e Q q =>
  h1 H1 e _ fun H2 e2 => h2 H2 (e.trans e2) _ fun p H3 hp e3 hh => h3 H3 ((e.trans e2).trans e3) _ fun H4 e4 =>
    hs p H4 (e4 _ _ hh) (((e.trans e2).trans e3).trans e4) H4 (Ex.refl H4) Q (fun H5 e5 => q H5 (((e2.trans e3).trans e4).trans e5)) E0
theorem spl_first {K : PySem.W.Frag} {H : Hp} {A a : Addr} {cs : List Int} {x : Int} (ha : SqL K H a (cs.map V.int)) (R : RowL cs) (h0 : 0 ≤ x) (h1 : x ≤ 10 ^ 80) :
    SpL (spFirst K A) ([.ref a, .int x] ++ []) H ((grL cs x).map V.int) := fun H1 e Q q E => ⟨a, cs, x, rfl, ex_l e ha, R, fun _ => q, fun n => absurd ⟨h0, h1⟩ n⟩
theorem div_ok {x y : Int} (h : 0 < y) (h2 : y < 2 ^ 500) : CDivW x y := wide_div h (natAbs_lt (by omega) h2) (by decide) (by decide)

end My

namespace My
open PySem PySem.Spec PyProof.Rows L2 Evl

/-! ### lists that are rows, or none -/
def RowP (L : List Int) : Prop := 1 ≤ L.length ∧ L.length ≤ 12 ∧ gd L 0 = 1 ∧ gd L (L.length - 1) ≤ 10 ^ 60 ∧ ∀ k, k + 1 < L.length → gd L k < gd L (k + 1)
theorem RowL.p {L : List Int} (R : RowL L) : RowP L := ⟨R.pos, R.len, R.one, R.most _ (by have := R.pos; omega), R.up⟩
theorem RowP.row {L : List Int} (h : RowP L) : RowL L := by
  obtain ⟨h1, h2, h3, h4, h5⟩ := h
  refine ⟨h1, h2, h3, h5, fun k hk => ?_⟩
  have up : ∀ m, k + m < L.length → L.getD k 0 ≤ L.getD (k + m) 0 := by
    intro m
    induction m with
    | zero => intro _; exact Int.le_refl _
    | succ m ih =>
      intro hm
      have a := ih (by omega)
      have b : L.getD (k + m) 0 < L.getD (k + m + 1) 0 := h5 (k + m) (by omega)
      show L.getD k 0 ≤ L.getD (k + m + 1) 0
      omega
  have a := up (L.length - 1 - k) (by omega)
  rw [show k + (L.length - 1 - k) = L.length - 1 by omega] at a
  have b : L.getD (L.length - 1) 0 ≤ 10 ^ 60 := h4
  omega
def spGoodRow (K : PySem.W.Frag) (A : Addr) : Sp := fun vs H Q E => ∃ (a : Addr) (L : List Int), vs = [.ref a] ∧ SqL K H a (L.map V.int) ∧ L.length ≤ 1000 ∧
  (RowP L → RetL (L.map V.int) H Q) ∧ (¬ RowP L → ∀ H', Ex H H' → E (.ref A) none H')
def spGood (K : PySem.W.Frag) : Sp := fun vs H Q _ => ∃ (a : Addr) (L : List Int), vs = [.ref a] ∧ SqL K H a (L.map V.int) ∧ L.length ≤ 1000 ∧
  (RowP L → RetV (.bl true) H Q) ∧ (¬ RowP L → RetV (.bl false) H Q)
/-- a list, refused or not: k what comes where it is a row -/
def spRefusedR (K : PySem.W.Frag) : Sp := fun vs H Q _ => ∃ (a : Addr) (L : List Int), vs = [.ref a] ∧ SqL K H a (L.map V.int) ∧ L.length ≤ 1000 ∧
  (RowP L → RetV (.bl false) H Q) ∧ (¬ RowP L → RetV (.bl true) H Q)
def spOther (K : PySem.W.Frag) : Sp := fun vs H Q _ => ∃ (a : Addr) (cs : List Int) (w c : Int), vs = [.ref a, .int w, .int c] ∧ H a = some (.lst (cs.map V.int)) ∧ RowL cs ∧
  ∀ (us : List Int) (p : Addr) (H2 : Hp), us.length ≤ 100 → Ex H H2 → H2 p = some (.lst (us.map V.int)) → Q (.ref p) H2
def spLonger (K : PySem.W.Frag) : Sp := fun vs H Q _ => ∃ (a : Addr) (cs : List Int) (n : Nat), vs = [.ref a, .int (n : Int)] ∧ SqL K H a (cs.map V.int) ∧ RowL cs ∧ n ≤ 50 ∧
  ∀ (us : List Int) (p : Addr) (H2 : Hp), us.length ≤ 100 → H p = none → Ex H H2 → H2 p = some (.lst (us.map V.int)) → Q (.ref p) H2
/-- return f(..), f by its promise -/
theorem s_retC {sp : Sp} {ta : TA} {vs : List V} {σ : L2.St} {H : Hp} {D : Ends} (h : EvA ta σ H vs)
    (k : ∀ H1, Ex H H1 → sp (vs ++ []) H1 (fun v H2 => D.rt v H2) E0) : tRet (tCall sp [] E0 ta) D σ H := h H (Ex.refl H) _ fun H1 e1 => k H1 e1
theorem spv_good {K : PySem.W.Frag} {H : Hp} {a : Addr} {L : List Int} {b : Bool} (ha : SqL K H a (L.map V.int)) (hl : L.length ≤ 1000) (yes : RowP L → b = true) (no : ¬ RowP L → b = false) :
    SpV (spGood K) ([.ref a] ++ []) H (.bl b) := fun H1 e Q q E => ⟨a, L, rfl, ex_l e ha, hl, fun g => by rw [← yes g]; exact q, fun n => by rw [← no n]; exact q⟩
theorem spv_refusedR {K : PySem.W.Frag} {H : Hp} {a : Addr} {L : List Int} {b : Bool} (ha : SqL K H a (L.map V.int)) (hl : L.length ≤ 1000) (yes : RowP L → b = false) (no : ¬ RowP L → b = true) :
    SpV (spRefusedR K) ([.ref a] ++ []) H (.bl b) := fun H1 e Q q E => ⟨a, L, rfl, ex_l e ha, hl, fun g => by rw [← yes g]; exact q, fun n => by rw [← no n]; exact q⟩
theorem spl_goodrow {K : PySem.W.Frag} {H : Hp} {A a : Addr} {L : List Int} (ha : SqL K H a (L.map V.int)) (hl : L.length ≤ 1000) (g : RowP L) :
    SpL (spGoodRow K A) ([.ref a] ++ []) H (L.map V.int) := fun H1 e Q q E => ⟨a, L, rfl, ex_l e ha, hl, fun _ => q, fun n => absurd g n⟩
end My

namespace My
open PySem PySem.Spec PyProof.Rows L2 Evl

/-! ### a call that may raise, the error let through -/
theorem pe_cr {X : Cx} {k : Nat} {x : Str} {sp : Sp} {E : XK} {p pos : Pos} {e : Expr} {es : List Expr} {t : TA} (c : Cn X.prog X.w X.K X.mg X.base k x sp) (hr : Room k X.A) (hx : Passes (L2N.CX X.prog X.w) X E) (hg : Gl X x) (ha : PA X (e :: es) t)
    (hdb : (x == ("__debug__" : Str)) = false := by decide) (he : starEach (e :: es) X.env = (false, eval e X.env) :: starEach es X.env := by rfl)
    (hpl : (backTo pos (starEach es X.env)).any (·.1) = false := by rfl) : PE X (.Call (.Name x p) (e :: es) [] pos) (tCall sp [] E t) := by
  obtain ⟨f, fd, ps, F, hm, kp, b⟩ := c.ex
  exact pe_call F hr hg hm kp b .nil hx ha hdb he hpl
section
variable {σ : L2.St} {H : Hp} {ta : TA} {vs : List V} {sp : Sp} {E : XK} {D : Ends} {tz : TS}
theorem q_dropC (h : EvA ta σ H vs) (k : ∀ H1, Ex H H1 → sp (vs ++ []) H1 (fun _ H2 => tz D σ H2) E) : tSeq (tDrop (tCall sp [] E ta)) tz D σ H := h H (Ex.refl H) _ fun H1 e1 => k H1 e1
theorem s_retE (h : EvA ta σ H vs) (k : ∀ H1, Ex H H1 → sp (vs ++ []) H1 (fun v H2 => D.rt v H2) E) : tRet (tCall sp [] E ta) D σ H := h H (Ex.refl H) _ fun H1 e1 => k H1 e1
end
def spCheck (A : Addr) : Sp := fun vs H Q E => ∃ x : Int, vs = [.int x] ∧ (0 ≤ x ∧ x ≤ 10 ^ 80 → RetV .non H Q) ∧ (¬ (0 ≤ x ∧ x ≤ 10 ^ 80) → ∀ H', Ex H H' → E (.ref A) none H')
end My

namespace My
open PySem PySem.Spec PyProof.Rows L2 Evl
def top (i : Nat) : Stmt := PySem.Challenge.pw_coinjudge_k02_the_first_way.main.body.getD i (.Pass ⟨0, 0, 0, 0⟩)
local macro_rules | `(tactic| walk_at "sq") => `(tactic| first | assumption | (refine ex_l ?_ (by assumption); first | assumption | exact Ex.trans (by assumption) (by assumption)))
local macro_rules | `(tactic| walk_at "side") => `(tactic| first | assumption | decide | exact ⟨by decide, by decide⟩ | exact ⟨by decide, by decide, by decide⟩ | omega)
local macro_rules | `(tactic| walk_at "rv") => `(tactic| first | ((with_reducible show RV (rI0 _) _ _ _ _); exact rv_I0) | ((with_reducible show RV (rI _ _) _ _ _ _); exact rv_I (by walk_at "side")) | ((with_reducible show RV (rIxL _) _ _ _ _); exact rv_ixL (by walk_at "sq") (by assumption)) | ((with_reducible show RV rEq _ _ _ _); exact rv_eq rfl) | ((with_reducible show RV rNe _ _ _ _); exact rv_ne rfl))
local macro_rules | `(tactic| walk_at "ev") => `(tactic| first | ((with_reducible show Ev (tC _) _ _ _); exact ev_c) | ((with_reducible show Ev (tVar _) _ _ _); exact ev_var rfl) | ((with_reducible show Ev (tOp _ _ _) _ _ _); exact ev_op (by walk_at "ev") (by walk_at "ev") (by walk_at "rv")) | ((with_reducible show Ev (tUn _ _) _ _ _); exact ev_un (by walk_at "ev") ru_neg) | ((with_reducible show Ev (tCall _ _ _ _) _ _ _); exact ev_call (by walk_at "ea") (by walk_at "sp")) | ((with_reducible show Ev (tNotV _) _ _ _); exact ev_notV (by walk_at "ev")) | ((with_reducible show Ev (tAndV _ _) _ _ _); exact ev_andV (by walk_at "ev") (fun _ => by walk_at "ev")) | ((with_reducible show Ev (tOrV _ _) _ _ _); exact ev_orV (by walk_at "ev") (fun _ => by walk_at "ev")) | ((with_reducible show Ev (tCB _ _) _ _ _); walk_at "cb"))
local macro_rules | `(tactic| walk_at "cb") => `(tactic| first | exact ev_len (by walk_at "ev") (by walk_at "sq"))
local macro_rules | `(tactic| walk_at "ea") => `(tactic| first | ((with_reducible show EvA tNil _ _ _); exact ea_nil) | exact ea_cons (by walk_at "ev") (by walk_at "ea"))
local macro_rules | `(tactic| walk_at "et") => `(tactic| first | ((with_reducible show EvT (tTest _) _ _ _); exact et_test (by walk_at "ev")) | ((with_reducible show EvT (tB _) _ _ _); exact et_B (by walk_at "ev")) | ((with_reducible show EvT (tNot _) _ _ _); exact et_not (by walk_at "et")) | ((with_reducible show EvT (tAnd _ _) _ _ _); exact et_and (by walk_at "et") (fun _ => by walk_at "et")) | ((with_reducible show EvT (tOr _ _) _ _ _); exact et_or (by walk_at "et") (fun _ => by walk_at "et")))
local macro_rules | `(tactic| walk_at "sp") => `(tactic| first | exact spv_cellI (by walk_at "sq") (by omega))
section
variable {P : Program} {w : World} {K : PySem.W.Frag} {mg : Str → Option Value} {base : Heap}
abbrev s_check_amount : Stmt := top 9
abbrev N_check_amount : List Str := ["amount"]
theorem sc_check_amount : FnScope N_check_amount ["amount"] (defScope s_check_amount) := ⟨rfl, rfl, rfl, by decide +kernel, rfl, by decide +kernel, by decide +kernel⟩
theorem ok_check_amount {A : Addr} {f : Addr} {fd : FuncData} {tk_MOST : Tok} (F : Fun K "check_amount" "check_amount" s_check_amount f fd)
    (c_MOST_AMOUNT : mg "MOST_AMOUNT" = some (.int (10 ^ 80) tk_MOST)) (T_NoAmount : Er K mg "NoAmount" A) :
    FnOk P w K mg base (L2N.CX P w) 1 f fd ["amount"] (spCheck A) := by
  refine okN F sc_check_amount (fun vs H Q E h => ?_) (fun cdv A1 outer s H vs Q E hr h => ?_)
  · obtain ⟨x, rfl, _⟩ := h
    rfl
  · obtain ⟨x, rfl, good, bad⟩ := h
    refine ⟨_, (pss_one (ps_if (PW.pt (pw_or (pt_cmpR op_lt (pv 0) pe_int (nomark _)) (pw_or1 (pt_cmpR op_gt (pv 0) (pe_glob (v := .int (10 ^ 80)) rfl c_MOST_AMOUNT ⟨_, rfl⟩) (nomark _))))) (pss_one (L2N.ps_raise rfl (L2N.takes_of rfl rfl rfl rfl) (L2N.pmk_own PySem.F.excBase_ValueError T_NoAmount.xC T_NoAmount.gC T_NoAmount.kC (raises_own T_NoAmount.bC T_NoAmount.tC) rfl))) pss_nil)), ?_⟩
    refine s_when (b := decide (x < 0) || decide (10 ^ 80 < x)) (by walk_at "et") (fun hb H1 e1 => ?_) (fun hb H1 e1 => ?_)
    · refine bad (fun g => ?_) H1 e1
      rw [Bool.or_eq_true] at hb
      rcases hb with h | h
      · have := of_decide_eq_true h; omega
      · have := of_decide_eq_true h; omega
    · rw [Bool.or_eq_false_iff] at hb
      have h0 := of_decide_eq_false hb.1
      have h1 := of_decide_eq_false hb.2
      exact good ⟨by omega, by omega⟩ H1 e1
abbrev s_first_way : Stmt := top 10
abbrev N_first_way : List Str := ["coins", "amount", "way", "due", "at"]
theorem sc_first_way : FnScope N_first_way ["coins", "amount"] (defScope s_first_way) := ⟨rfl, rfl, rfl, by decide +kernel, rfl, by decide +kernel, by decide +kernel⟩
theorem ok_first_way {A : Addr} {f : Addr} {fd : FuncData} (F : Fun K "first_way" "first_way" s_first_way f fd) (m_len : mg "len" = none) (m_range : mg "range" = none)
    (C_check_amount : Cn P w K mg base 1 "check_amount" (spCheck A)) :
    FnOk P w K mg base (L2N.CX P w) 2 f fd ["coins", "amount"] (spFirst K A) := by
  refine okN F sc_first_way (fun vs H Q E h => ?_) (fun cdv A1 outer s H vs Q E hr h => ?_)
  · obtain ⟨a, cs, x, rfl, _⟩ := h
    rfl
  · obtain ⟨a, cs, x, rfl, ha, R, good, bad⟩ := h
    refine ⟨_, (pss_cons (ps_expr (pe_cr C_check_amount (hr.mono (by decide)) (L2N.passes_call (L2N.takes_of rfl rfl rfl rfl) (fun _ _ _ _ h => h)) (by rfl) (pa_cons (pv 1) pa_nil)))
      (pss_cons (ps_set (i := 2) sc_first_way.nd rfl (.inl rfl) (pe_op op_rep (pe_lst (pa_cons pe_int pa_nil)) (pe_callB call_len_seq (by rfl) m_len PySem.boot_len (pa_cons (pv 0) pa_nil))))
      (pss_cons (ps_set (i := 3) sc_first_way.nd rfl (.inl rfl) (pv 1))
      (pss_cons (ps_for (passes_of rfl) rfl (pi_range3 rfl m_range (pa_cons (pe_op op_sub (pe_callB call_len_seq (by rfl) m_len PySem.boot_len (pa_cons (pv 0) pa_nil)) pe_int) (pa_cons (pe_un un_neg pe_int) (pa_cons (pe_un un_neg pe_int) pa_nil)))) (pg_name (i := 4) sc_first_way.nd rfl (.inl rfl)) (pss_cons (ps_asg (pe_op op_fdivW (pv 3) (pe_ix ix_list (pv 0) (pv 4) (fun _ _ => rfl))) (pg_sub (pv 2) (pv 4) set_list))
      (pss_one (ps_set (i := 3) sc_first_way.nd rfl (.inl rfl) (pe_op op_sub (pv 3) (pe_op op_mulW (pe_ix ix_list (pv 2) (pv 4) (fun _ _ => rfl)) (pe_ix ix_list (pv 0) (pv 4) (fun _ _ => rfl))))))))
      (pss_one (ps_ret (pv 2))))))), ?_⟩
    refine q_dropC (by walk_at "ea") fun H0 e0 => ⟨x, rfl, fun gx H1 e1' => ?_, fun g H' e' => bad g H' (e0.trans e')⟩
    have e1 := e0.trans e1'
    · obtain ⟨h0, h1⟩ := gx
      have hx0 : 0 ≤ x := by omega
      have hc := fun k (hk : k < cs.length) => R.ge1 (i := k) hk
      have ha1 := ex_l e1 ha
      have hR := R.len
      have hR0 := R.pos
      refine q_asgL (el_rep (n := cs.length) (el_lst (by walk_at "ea") (by simp)) (ev_is (ev_len (ev_var rfl) ha1) (by rw [List.length_map])) (by omega)) fun r H2 hr0 e2 h2 => ?_
      have e02 := e1.trans e2
      have ha2 := ex_l e2 ha1
      refine q_asg (by walk_at "ev") fun H3 e3 => ?_
      refine q_forDown (n := cs.length) (ea_cons (ev_is (ev_op (ev_len (ev_var rfl) (ex_l e3 ha2)) ev_c rv_I0) (by rw [List.length_map])) (by walk_at "ea")) (by omega)
        (fun i σ H' => ∃ v4, σ = [some (.ref a), some (.int x), some (.ref r), some (.int (Coin.rest (gd cs) cs.length x i)), v4] ∧ Ex H1 H' ∧
          H' r = some (.lst ((tab cs.length fun k => if cs.length - i ≤ k then Coin.gr (gd cs) cs.length x k else 0).map V.int)))
        (fun H4 e4 => ⟨none, rfl, (e2.trans e3).trans e4, ?_⟩) ?_ ?_
      · rw [(e3.trans e4) _ _ h2]
        congr 2
        refine List.ext_getElem? fun i => ?_
        rw [List.getElem?_map]
        unfold tab
        rw [List.getElem?_map]
        by_cases h : i < cs.length
        · rw [List.getElem?_range h, List.getElem?_replicate, if_pos h]
          show some (V.int 0) = some (V.int (if cs.length - 0 ≤ i then _ else 0))
          rw [if_neg (by omega)]
        · rw [List.getElem?_eq_none (by rw [List.length_replicate]; omega), List.getElem?_eq_none (by rw [List.length_range]; omega)]; rfl
      · rintro i σ H' hi ⟨v4, rfl, e4, h4⟩
        have haa := ex_l e4 ha1
        have hj : cs.length - 1 - i < cs.length := by omega
        have at1 := gd_at hj
        have c1 := hc _ hj
        have c2 := R.most _ hj
        have r0 := Coin.rest_nonneg (n := cs.length) hc hx0 (i := i) (by omega)
        have r1 := Coin.rest_le (n := cs.length) hc hx0 (i := i) (by omega)
        have d1 : CDivW (Coin.rest (gd cs) cs.length x i) (gd cs (cs.length - 1 - i)) := div_ok (by show 0 < gd cs (cs.length - 1 - i); exact c1) (p500 c2)
        refine q_setL (v := .int (Coin.gr (gd cs) cs.length x (cs.length - 1 - i))) h4 (ev_is (by walk_at "ev") (by rw [Coin.gr_at hi])) (by walk_at "ev") (by walk_at "ev") (by rw [List.length_map, tab_len]; exact hj) fun H5 e5 => ?_
        rw [map_set, tab_set]
        have h5 := upd_same (H := H5) (a := r) (o := HO.lst ((tab cs.length (fun k => if k = cs.length - 1 - i then Coin.gr (gd cs) cs.length x (cs.length - 1 - i) else if cs.length - i ≤ k then Coin.gr (gd cs) cs.length x k else 0)).map V.int))
        have e15 : Ex H1 (upd H5 r (HO.lst ((tab cs.length (fun k => if k = cs.length - 1 - i then Coin.gr (gd cs) cs.length x (cs.length - 1 - i) else if cs.length - i ≤ k then Coin.gr (gd cs) cs.length x k else 0)).map V.int))) := Ex.mut (e4.trans e5) hr0
        have hr5 : SqL K (upd H5 r (HO.lst ((tab cs.length (fun k => if k = cs.length - 1 - i then Coin.gr (gd cs) cs.length x (cs.length - 1 - i) else if cs.length - i ≤ k then Coin.gr (gd cs) cs.length x k else 0)).map V.int))) r _ := sq_of h5
        have ha5 := ex_l e15 ha1
        have at2 := gd_at (xs := tab cs.length (fun k => if k = cs.length - 1 - i then Coin.gr (gd cs) cs.length x (cs.length - 1 - i) else if cs.length - i ≤ k then Coin.gr (gd cs) cs.length x k else 0)) (j := cs.length - 1 - i) (by rw [tab_len]; exact hj)
        rw [gd_tab hj, if_pos rfl] at at2
        have g0 := Coin.gr_way (n := cs.length) hc hx0 _ hj
        have g1 := Coin.gr_le (n := cs.length) hc hx0 hj
        have m1 : CMulW (Coin.gr (gd cs) cs.length x (cs.length - 1 - i)) (gd cs (cs.length - 1 - i)) := mul_ok g0 (Int.lt_of_le_of_lt (Int.le_trans g1 (by omega)) p80) (Int.le_trans (by decide) c1) (p500 c2)
        refine s_asg (by walk_at "ev") fun H6 e6 => ?_
        refine ⟨some (.int ((cs.length - 1 - i : Nat) : Int)), ?_, e15.trans e6, ?_⟩
        · have e : Coin.rest (gd cs) cs.length x (i + 1) = Coin.rest (gd cs) cs.length x i - Coin.gr (gd cs) cs.length x (cs.length - 1 - i) * gd cs (cs.length - 1 - i) := by
            show Coin.rest (gd cs) cs.length x i % gd cs (cs.length - 1 - i) = _
            rw [Coin.gr_at hi, Int.mul_comm]
            have := Int.emod_add_mul_ediv (Coin.rest (gd cs) cs.length x i) (gd cs (cs.length - 1 - i))
            omega
          rw [e]; rfl
        · rw [e6 _ _ h5]
          congr 3
          refine tab_ext fun k hk => ?_
          by_cases e : k = cs.length - 1 - i
          · rw [if_pos e, if_pos (by omega), e]
          · rw [if_neg e]
            by_cases e2 : cs.length - i ≤ k
            · rw [if_pos e2, if_pos (by omega)]
            · rw [if_neg e2, if_neg (by omega)]
      · rintro σ H' ⟨v4, rfl, e4, h4⟩
        have e : (tab cs.length fun k => if cs.length - cs.length ≤ k then Coin.gr (gd cs) cs.length x k else 0) = grL cs x := tab_ext fun k _ => by rw [if_pos (by omega)]
        rw [e] at h4
        exact s_ret (by walk_at "ev") fun H5 e5 => good ⟨hx0, by omega⟩ r H5 (fresh_back e1 hr0) ((e1.trans e4).trans e5) (e5 _ _ h4)
abbrev s_law_whole : Stmt := top 12
abbrev N_law_whole : List Str := ["_law_found"]
theorem sc_law_whole : FnScope N_law_whole ["_law_found"] (defScope s_law_whole) := ⟨rfl, rfl, rfl, by decide +kernel, rfl, by decide +kernel, by decide +kernel⟩
theorem ok_law_whole {f : Addr} {fd : FuncData} (F : Fun K "_law_whole" "_law_whole" s_law_whole f fd) (m_isinstance : mg "isinstance" = none) (m_int : mg "int" = none) (m_bool : mg "bool" = none) :
    FnOk P w K mg base CX0 1 f fd ["_law_found"] spWhole := by
  refine F.ok sc_law_whole (fun vs H Q E h => ?_) (fun cdv A1 outer s H vs Q E hr h => ?_)
  · obtain ⟨i, rfl, _⟩ := h
    rfl
  · obtain ⟨i, rfl, q⟩ := h
    refine ⟨_, (pss_one (ps_ret (pe_and (pe_callB call_isi (by rfl) m_isinstance (by decide +kernel) (pa_cons (pv 0) (pa_cons (pe_bltn (v := .ty "int") (by rfl) m_int (by decide +kernel) rfl) pa_nil))) (pe_one (pe_not (pe_callB call_isi (by rfl) m_isinstance (by decide +kernel) (pa_cons (pv 0) (pa_cons (pe_bltn (v := .ty "bool") (by rfl) m_bool (by decide +kernel) rfl) pa_nil)))))))), ?_⟩
    exact s_ret (ev_andV (ev_isi_ii (ev_var rfl) ev_c) (fun _ => ev_notV (ev_isi_ib (ev_var rfl) ev_c))) q
abbrev s_law_cell_at : Stmt := top 13
abbrev N_law_cell_at : List Str := ["_law_script", "_law_k"]
theorem sc_law_cell_at : FnScope N_law_cell_at ["_law_script", "_law_k"] (defScope s_law_cell_at) := ⟨rfl, rfl, rfl, by decide +kernel, rfl, by decide +kernel, by decide +kernel⟩
theorem ok_law_cell_at {f : Addr} {fd : FuncData} (F : Fun K "_law_cell_at" "_law_cell_at" s_law_cell_at f fd) (m_len : mg "len" = none) :
    FnOk P w K mg base CX0 1 f fd ["_law_script", "_law_k"] (spCell K) := by
  refine F.ok sc_law_cell_at (fun vs H Q E h => ?_) (fun cdv A outer s H vs Q E hr h => ?_)
  · obtain ⟨l, ns, j, rfl, _⟩ := h
    rfl
  · obtain ⟨l, ns, j, rfl, hs, q⟩ := h
    refine ⟨_, (pss_cons (ps_if (pt_cmpR op_lt (pv 1) (pe_callB call_len_seq (by rfl) m_len PySem.boot_len (pa_cons (pv 0) pa_nil)) (nomark _)) (pss_one (ps_ret (pe_ix ix_list (pv 0) (pv 1) (fun _ _ => rfl)))) pss_nil)
      (pss_one (ps_ret pe_int))), ?_⟩
    refine q_when (b := decide ((j : Int) < (ns.map V.int).length)) (by walk_at "et") (fun hb H1 e1 => ?_) (fun hb H1 e1 => ?_)
    · have hj : j < ns.length := by
        have := of_decide_eq_true hb
        rw [List.length_map] at this; omega
      have at_ := atI_map hj
      exact s_ret (by walk_at "ev") fun H2 e2 => q H2 (e1.trans e2)
    · have hj : ¬ j < ns.length := fun h => by
        have := of_decide_eq_false hb
        rw [List.length_map] at this; omega
      have e0 : ns.getD j 0 = 0 := by rw [List.getD_eq_getElem?_getD, List.getElem?_eq_none (by omega)]; rfl
      rw [e0] at q
      exact s_ret (by walk_at "ev") fun H2 e2 => q H2 (e1.trans e2)
abbrev s_law_row_by : Stmt := top 14
abbrev N_law_row_by : List Str := ["_law_script", "_law_row", "_law_k", "_law_cell", "_law_more", "_law_last", "_law_coin", "_law_part"]
theorem sc_law_row_by : FnScope N_law_row_by ["_law_script"] (defScope s_law_row_by) := ⟨rfl, rfl, rfl, by decide +kernel, rfl, by decide +kernel, by decide +kernel⟩
theorem ok_law_row_by {f : Addr} {fd : FuncData} (F : Fun K "_law_row_by" "_law_row_by" s_law_row_by f fd) (C_law_cell_at : Cl P w K mg base 1 "_law_cell_at" (spCell K))
    (m_len : mg "len" = none) (m_range : mg "range" = none) :
    FnOk P w K mg base CX0 2 f fd ["_law_script"] (spRow K) := by
  refine F.ok sc_law_row_by (fun vs H Q E h => ?_) (fun cdv A outer s H vs Q E hr h => ?_)
  · obtain ⟨l, ns, rfl, _⟩ := h
    rfl
  · obtain ⟨l, ns, rfl, hs, q⟩ := h
    refine ⟨_, (pss_cons (ps_set (i := 1) sc_law_row_by.nd rfl (.inl rfl) (pe_lst (pa_cons pe_int pa_nil)))
      (pss_cons (ps_for PassesOwn.never rfl (pi_range1 rfl m_range (pa_cons (pe_op op_mod (pe_cl C_law_cell_at (hr.mono (by decide)) (by rfl) (pa_cons (pv 0) (pa_cons pe_int pa_nil))) pe_int) pa_nil)) (pg_name (i := 2) sc_law_row_by.nd rfl (.inl rfl)) (pss_cons (ps_set (i := 3) sc_law_row_by.nd rfl (.inl rfl) (pe_cl C_law_cell_at (hr.mono (by decide)) (by rfl) (pa_cons (pv 0) (pa_cons (pe_op op_add pe_int (pv 2)) pa_nil))))
      (pss_cons (ps_set (i := 4) sc_law_row_by.nd rfl (.inl rfl) (pe_op op_fdiv (pv 3) pe_int))
      (pss_cons (ps_set (i := 5) sc_law_row_by.nd rfl (.inl rfl) (pe_ix ix_list (pv 1) (pe_un un_neg pe_int) (fun _ _ => rfl)))
      (pss_cons (ps_set (i := 6) sc_law_row_by.nd rfl (.inl rfl) (pe_op op_add (pe_op op_add (pv 5) pe_int) (pe_op op_mod (pv 4) pe_int)))
      (pss_cut (ps_if (pt_cmpR op_eq (pe_op op_mod (pv 3) pe_int) pe_int (nomark _)) (pss_one (ps_set (i := 6) sc_law_row_by.nd rfl (.inl rfl) (pe_op op_mulW (pv 5) (pe_op op_add pe_int (pe_op op_mod (pv 4) pe_int))))) pss_nil)
      (pss_cut (ps_if (pt_cmpR op_eq (pe_op op_mod (pv 3) pe_int) pe_int (nomark _)) (pss_one (ps_set (i := 6) sc_law_row_by.nd rfl (.inl rfl) (pe_op op_sub (pe_op op_mulW (pv 5) (pe_op op_add pe_int (pe_op op_mod (pv 4) pe_int))) pe_int))) pss_nil)
      (pss_cut (ps_if (pt_cmpR op_eq (pe_op op_mod (pv 3) pe_int) pe_int (nomark _)) (pss_one (ps_set (i := 6) sc_law_row_by.nd rfl (.inl rfl) (pe_op op_add (pe_op op_add (pv 5) pe_int) (pe_op op_mod (pv 4) (pe_op op_mulW pe_int (pv 5)))))) pss_nil)
      (pss_cut (ps_if (pt_cmpR op_eq (pe_op op_mod (pv 3) pe_int) pe_int (nomark _)) (pss_one (ps_set (i := 6) sc_law_row_by.nd rfl (.inl rfl) (pe_op op_add (pe_op op_add (pe_op op_mulW (pv 5) (pe_op op_add pe_int (pe_op op_mod (pv 4) pe_int))) pe_int) (pe_op op_mod (pe_op op_fdiv (pv 4) pe_int) (pv 5))))) pss_nil)
      (pss_cut (ps_if (PW.pt (pw_and (pt_cmpR op_eq (pe_op op_mod (pv 3) pe_int) pe_int (nomark _)) (pw_and1 (pt_cmpR op_eq (pe_op op_mod (pv 4) pe_int) pe_int (nomark _))))) (pss_cons (ps_set (i := 7) sc_law_row_by.nd rfl (.inl rfl) (pe_op op_mulW (pe_op op_mod (pv 4) pe_int) (pe_op op_mod (pe_op op_fdiv (pv 4) pe_int) (pv 5))))
      (pss_one (ps_set (i := 6) sc_law_row_by.nd rfl (.inl rfl) (pe_op op_add (pe_op op_mulW (pv 5) (pe_op op_add pe_int (pe_op op_mod (pe_op op_fdiv (pv 4) pe_int) (pe_op op_add (pe_op op_pow pe_int pe_int) pe_int)))) (pv 7))))) pss_nil)
      (pss_one (ps_if (PW.pt (pw_and (pt_cmpR op_lt (pv 5) (pv 6) (nomark _)) (pw_and1 (pt_cmpR op_le (pv 6) (pe_op op_pow pe_int pe_int) (nomark _))))) (pss_one (ps_expr (pe_bm PySem.F.plainAttrs_list PySem.F.slot_list_append PySem.F.type_list_append mt_append (pv 1) (pa_cons (pv 6) pa_nil)))) pss_nil))))))))))))
      (pss_one (ps_ret (pv 1))))), ?_⟩
    refine q_asgL (el_lst (by walk_at "ea") (by decide)) fun r H1 hr0 e1 h1 => ?_
    have hk : 0 ≤ ns.getD 0 0 % 12 ∧ ns.getD 0 0 % 12 < 12 := ⟨Int.emod_nonneg _ (by decide), Int.emod_lt_of_pos _ (by decide)⟩
    refine q_forR1 (n := ns.getD 0 0 % 12) (by walk_at "ea") ⟨hk.1, by omega⟩
      (fun i σ H2 => ∃ (cs : List Int) (v2 v3 v4 v5 v6 v7 : Option V), σ = [some (.ref l), some (.ref r), v2, v3, v4, v5, v6, v7] ∧ RowL cs ∧ cs.length ≤ i + 1 ∧ Ex H H2 ∧
        H2 r = some (.lst (cs.map V.int)))
      (fun H2 e2 => ⟨[1], none, none, none, none, none, none, rfl, RowL.row1, by decide, e1.trans e2, e2 _ _ h1⟩) ?_ ?_
    · rintro i σ H2 hi ⟨cs, v2, v3, v4, v5, v6, v7, rfl, R, hlen, e2, h2⟩
      have hS : SqL K H2 l (ns.map V.int) := ex_l e2 hs
      have hl := atI_lastmap R.pos
      have R0 := R.pos
      refine q_asg (by walk_at "ev") fun H3 e3 => ?_
      generalize ns.getD (2 + (i : Int)).toNat 0 = cell
      refine q_asg (by walk_at "ev") fun H4 e4 => ?_
      generalize cell / 6 = more
      have h4 := e4 _ _ (e3 _ _ h2)
      have hr4 : SqL K H4 r (cs.map V.int) := sq_of h4
      refine q_asg (by walk_at "ev") fun H5 e5 => ?_
      have hlast1 : 1 ≤ cs.getD (cs.length - 1) 0 := R.ge1 (by omega)
      have hlast2 : cs.getD (cs.length - 1) 0 ≤ 10 ^ 60 := R.most _ (by omega)
      have app := fun c => R.snoc (c := c)
      generalize cs.getD (cs.length - 1) 0 = last at *
      have b500 := p500 hlast2
      have m1 : CMulW last (2 + more % 5) := mul_ok (by omega) b500 (by omega) (small500 (by omega))
      have m2 : CMulW 3 last := mul_ok (by omega) (small500 (by decide)) (by omega) b500
      have m3 : CMulW last (2 + more % 3) := mul_ok (by omega) b500 (by omega) (small500 (by omega))
      have n1 := Int.emod_nonneg (more / 7) (show last ≠ 0 by omega)
      have n2 := Int.emod_lt_of_pos (more / 7) (show 0 < last by omega)
      have m4 : CMulW (more % 2) (more / 7 % last) := mul_ok (by omega) (small500 (by omega)) (by omega) (p500 (by omega))
      have n3 := Int.emod_nonneg (more / 3) (show (10 ^ (15 : Int).toNat + 37 : Int) ≠ 0 by decide)
      have n4 := Int.emod_lt_of_pos (more / 3) (show 0 < (10 ^ (15 : Int).toNat + 37 : Int) by decide)
      have m5 : CMulW last (2 + more / 3 % (10 ^ (15 : Int).toNat + 37)) := mul_ok (by omega) b500 (by omega) (small500 (Int.le_trans (show _ ≤ 2 + (10 ^ (15 : Int).toNat + 37 : Int) by omega) (by decide)))
      have s3 : 0 < 3 * last := by omega
      have s1 : 0 < last := by omega
      refine q_asg (by walk_at "ev") fun H6 e6 => ?_
      have e26 := ((e3.trans e4).trans e5).trans e6
      have E6 : ∀ {H'}, Ex H6 H' → Ex H H' := fun e => (e2.trans e26).trans e
      have G6 : ∀ {H'}, Ex H6 H' → H' r = some (.lst (cs.map V.int)) := fun e => e _ _ (e26 _ _ h2)
      let M : Nat → L2.St → Hp → Prop := fun _ σ' H' => ∃ (c : Int) (v : Option V), σ' = [some (.ref l), some (.ref r), some (.int (i : Int)), some (.int cell), some (.int more), some (.int last), some (.int c), v] ∧ Ex H6 H'
      refine q_cut (M := M 1) (s_when (by walk_at "et") (fun _ H3 e3 => s_asg (by walk_at "ev") fun H4 e4 => ⟨_, _, rfl, e3.trans e4⟩) (fun _ H3 e3 => ⟨_, _, rfl, e3⟩)) ?_
      clear v6; rintro σ' H7 ⟨c1, v71, rfl, e7⟩
      refine q_cut (M := M 2) (s_when (by walk_at "et") (fun _ H3 e3 => s_asg (by walk_at "ev") fun H4 e4 => ⟨_, _, rfl, (e7.trans e3).trans e4⟩) (fun _ H3 e3 => ⟨_, _, rfl, e7.trans e3⟩)) ?_
      clear e7; rintro σ' H7 ⟨c2, v72, rfl, e7⟩
      refine q_cut (M := M 3) (s_when (by walk_at "et") (fun _ H3 e3 => s_asg (by walk_at "ev") fun H4 e4 => ⟨_, _, rfl, (e7.trans e3).trans e4⟩) (fun _ H3 e3 => ⟨_, _, rfl, e7.trans e3⟩)) ?_
      clear e7; rintro σ' H7 ⟨c3, v73, rfl, e7⟩
      refine q_cut (M := M 4) (s_when (by walk_at "et") (fun _ H3 e3 => s_asg (by walk_at "ev") fun H4 e4 => ⟨_, _, rfl, (e7.trans e3).trans e4⟩) (fun _ H3 e3 => ⟨_, _, rfl, e7.trans e3⟩)) ?_
      clear e7; rintro σ' H7 ⟨c4, v74, rfl, e7⟩
      refine q_cut (M := M 5) (s_when (by walk_at "et") (fun _ H3 e3 => q_asg (by walk_at "ev") fun H4 e4 => s_asg (by walk_at "ev") fun H5 e5 => ⟨_, _, rfl, ((e7.trans e3).trans e4).trans e5⟩) (fun _ H3 e3 => ⟨_, _, rfl, e7.trans e3⟩)) ?_
      clear e7; rintro σ' H7 ⟨c5, v75, rfl, e7⟩
      refine s_when (b := decide (last < c5) && decide (c5 ≤ 10 ^ (60 : Int).toNat)) (by walk_at "et") (fun hb H8 e8 => ?_) (fun hb H8 e8 => ?_)
      · rw [Bool.and_eq_true] at hb
        have hb1 := of_decide_eq_true hb.1
        have hb2 := of_decide_eq_true hb.2
        refine s_app (G6 (e7.trans e8)) (by walk_at "ev") (by walk_at "ev") (by rw [List.length_map]; omega) fun H9 e9 => ?_
        refine ⟨cs ++ [c5], _, _, _, _, _, _, rfl, app c5 (by omega) hb1 hb2, by rw [List.length_append]; simp; omega, Ex.mut (E6 ((e7.trans e8).trans e9)) hr0, ?_⟩
        rw [upd_same, List.map_append]; rfl
      · exact ⟨cs, _, _, _, _, _, _, rfl, R, by omega, E6 (e7.trans e8), G6 (e7.trans e8)⟩
    · rintro σ H2 ⟨cs, v2, v3, v4, v5, v6, v7, rfl, R, hlen, e2, h2⟩
      exact s_ret (by walk_at "ev") fun H3 e3 => q cs R r H3 hr0 (e2.trans e3) (e3 _ _ h2)
abbrev s_law_kinds : Stmt := top 18
abbrev N_law_kinds : List Str := ["_law_e", "_law_some"]
theorem sc_law_kinds : FnScope N_law_kinds ["_law_e"] (defScope s_law_kinds) := ⟨rfl, rfl, rfl, by decide +kernel, rfl, by decide +kernel, by decide +kernel⟩
/-- the kinds of an error of the class at A: k tells which of the five it is -/
theorem ok_law_kinds {A A_NoRow A_NoWay A_NoAmount A_TooGreat A_NoText : Addr} {b1 b2 b3 b4 b5 : Bool} {f : Addr} {fd : FuncData} {x : Str} (F : Fun K "_law_kinds" "_law_kinds" s_law_kinds f fd)
    (m_isinstance : mg "isinstance" = none) (T : Er K mg x A)
    (g_NoRow : mg "NoRow" = some (.ref A_NoRow)) (g_NoWay : mg "NoWay" = some (.ref A_NoWay)) (g_NoAmount : mg "NoAmount" = some (.ref A_NoAmount)) (g_TooGreat : mg "TooGreat" = some (.ref A_TooGreat)) (g_NoText : mg "NoText" = some (.ref A_NoText))
    (k1 : PySem.W.kitOne K (.ref A) (.ref A_NoRow) = some b1) (k2 : PySem.W.kitOne K (.ref A) (.ref A_NoWay) = some b2) (k3 : PySem.W.kitOne K (.ref A) (.ref A_NoAmount) = some b3)
    (k4 : PySem.W.kitOne K (.ref A) (.ref A_TooGreat) = some b4) (k5 : PySem.W.kitOne K (.ref A) (.ref A_NoText) = some b5) (one : [b1, b2, b3, b4, b5].count true = 1)
    {a : Addr} {oe : Obj} (hz : Zc (.ref A) none oe) (hf : ∃ vs, oe.data = .fields vs) :
    HotRun P w K mg base 1 f fd ["_law_e"] (a, oe) (spKinds a) := by
  refine hot_of F sc_law_kinds (fun cdv A1 outer s H vs Q hot hr h => ?_)
  obtain ⟨rfl, q⟩ := h
  refine ⟨_, (pss_cons (ps_set (i := 1) sc_law_kinds.nd rfl (.inl rfl) (pe_lst (pa_cons (pe_callB (call_isP T.exc hz hf List.mem_cons_self) (by rfl) m_isinstance (by decide +kernel) (pa_cons (pv 0) (pa_cons (pe_glob (v := .ref A_NoRow) rfl g_NoRow rfl) pa_nil))) (pa_cons (pe_callB (call_isP T.exc hz hf List.mem_cons_self) (by rfl) m_isinstance (by decide +kernel) (pa_cons (pv 0) (pa_cons (pe_glob (v := .ref A_NoWay) rfl g_NoWay rfl) pa_nil))) (pa_cons (pe_callB (call_isP T.exc hz hf List.mem_cons_self) (by rfl) m_isinstance (by decide +kernel) (pa_cons (pv 0) (pa_cons (pe_glob (v := .ref A_NoAmount) rfl g_NoAmount rfl) pa_nil))) (pa_cons (pe_callB (call_isP T.exc hz hf List.mem_cons_self) (by rfl) m_isinstance (by decide +kernel) (pa_cons (pv 0) (pa_cons (pe_glob (v := .ref A_TooGreat) rfl g_TooGreat rfl) pa_nil))) pa_nil))))))
      (pss_one (ps_ret (pe_bm PySem.F.plainAttrs_list PySem.F.slot_list_count PySem.F.type_list_count mt_countB (pe_op op_cat (pv 1) (pe_lst (pa_cons (pe_callB (call_isP T.exc hz hf List.mem_cons_self) (by rfl) m_isinstance (by decide +kernel) (pa_cons (pv 0) (pa_cons (pe_glob (v := .ref A_NoText) rfl g_NoText rfl) pa_nil))) pa_nil))) (pa_cons pe_bl pa_nil))))), ?_⟩
  refine q_asgL (xs := [.bl b1, .bl b2, .bl b3, .bl b4]) (el_lst (ea_cons (ev_isE (ev_var rfl) ev_c k1) (ea_cons (ev_isE (ev_var rfl) ev_c k2) (ea_cons (ev_isE (ev_var rfl) ev_c k3) (ea_cons (ev_isE (ev_var rfl) ev_c k4) ea_nil)))) (by simp)) fun r H1 hr0 e1 h1 => ?_
  refine s_ret (ev_countB (bs := [b1, b2, b3, b4, b5]) (k := true) (el_catRL (xs := [.bl b1, .bl b2, .bl b3, .bl b4]) (ys := [.bl b5]) (ev_var rfl) h1 (el_lst (ea_cons (ev_isE (ev_var rfl) ev_c k5) ea_nil) (by simp)) (by simp)) ev_c) fun H2 e2 => ?_
  rw [one]
  exact q H2 (e1.trans e2)
abbrev s_law_amount_by : Stmt := top 15
abbrev N_law_amount_by : List Str := ["_law_row", "_law_way", "_law_cell", "_law_coin", "_law_times"]
theorem sc_law_amount_by : FnScope N_law_amount_by ["_law_row", "_law_way", "_law_cell"] (defScope s_law_amount_by) := ⟨rfl, rfl, rfl, by decide +kernel, rfl, by decide +kernel, by decide +kernel⟩
theorem ok_law_amount_by {f : Addr} {fd : FuncData} (F : Fun K "_law_amount_by" "_law_amount_by" s_law_amount_by f fd) (m_len : mg "len" = none) (m_max : mg "max" = none) :
    FnOk P w K mg base CX0 1 f fd ["_law_row", "_law_way", "_law_cell"] (spAmount K) := by
  refine F.ok sc_law_amount_by (fun vs H Q E h => ?_) (fun cdv A1 outer s H vs Q E hr h => ?_)
  · obtain ⟨a, cs, y, c, rfl, _⟩ := h
    rfl
  · obtain ⟨a, cs, y, c, rfl, ha, R, q⟩ := h
    refine ⟨_, (pss_cons (ps_set (i := 3) sc_law_amount_by.nd rfl (.inl rfl) (pe_ix ix_list (pv 0) (pe_op op_mod (pv 2) (pe_callB call_len_seq (by rfl) m_len PySem.boot_len (pa_cons (pv 0) pa_nil))) (fun _ _ => rfl)))
      (pss_cons (ps_set (i := 4) sc_law_amount_by.nd rfl (.inl rfl) (pe_op op_mod (pe_op op_fdivW (pv 2) (pe_callB call_len_seq (by rfl) m_len PySem.boot_len (pa_cons (pv 0) pa_nil))) pe_int))
      (pss_cons (ps_if (pt_cmpR op_eq (pv 1) pe_int (nomark _)) (pss_one (ps_ret (pe_op op_mulW (pv 3) (pv 4)))) pss_nil)
      (pss_cons (ps_if (pt_cmpR op_eq (pv 1) pe_int (nomark _)) (pss_one (ps_ret (pe_callB (call_max2 rfl) (by rfl) m_max (by decide +kernel) (pa_cons pe_int (pa_cons (pe_op op_sub (pe_op op_mulW (pv 3) (pv 4)) pe_int) pa_nil))))) pss_nil)
      (pss_cons (ps_if (pt_cmpR op_eq (pv 1) pe_int (nomark _)) (pss_one (ps_ret (pe_op op_mod (pv 2) (pe_op op_add (pe_op op_mulW (pe_op op_pow pe_int pe_int) (pe_op op_pow pe_int pe_int)) pe_int)))) pss_nil)
      (pss_cons (ps_if (pt_cmpR op_eq (pv 1) pe_int (nomark _)) (pss_one (ps_ret (pe_op op_sub (pe_op op_mulW (pe_op op_pow pe_int pe_int) (pe_op op_pow pe_int pe_int)) (pe_op op_mod (pv 2) pe_int)))) pss_nil)
      (pss_one (ps_ret (pe_op op_mod (pv 2) pe_int))))))))), ?_⟩
    have p0 := R.pos
    have pl : (0 : Int) < ((cs.map V.int).length : Int) := by rw [List.length_map]; omega
    have z0 := Int.emod_nonneg c (show ((cs.map V.int).length : Int) ≠ 0 by omega)
    have z1 := Int.emod_lt_of_pos c pl
    obtain ⟨k, hk⟩ : ∃ k : Nat, c % ((cs.map V.int).length : Int) = (k : Int) := ⟨_, (Int.toNat_of_nonneg z0).symm⟩
    have hkl : k < cs.length := by rw [List.length_map] at z1 hk; omega
    have at1 := gd_at hkl
    rw [← hk] at at1
    have d1 : CDivW c ((cs.map V.int).length : Int) := div_ok pl (small500 (by rw [List.length_map]; have := R.len; exact Int.le_trans (show (cs.length : Int) ≤ 12 by omega) (by decide)))
    refine q_asg (by walk_at "ev") fun H1 e1 => ?_
    refine q_asg (by walk_at "ev") fun H2 e2 => ?_
    have e02 := e1.trans e2
    have c1 := R.ge1 hkl
    have c2 := R.most _ hkl
    have c1' : 1 ≤ gd cs k := c1
    have c2' : gd cs k ≤ 10 ^ 60 := c2
    have t0 : 0 ≤ c / ((cs.map V.int).length : Int) % 21 := Int.emod_nonneg _ (by decide)
    have t1 : c / ((cs.map V.int).length : Int) % 21 < 21 := Int.emod_lt_of_pos _ (by decide)
    generalize c / ((cs.map V.int).length : Int) % 21 = times at *
    have m1 : CMulW (gd cs k) times := mul_ok (by omega) (p500 c2') t0 (small500 (Int.le_trans (show times ≤ 21 by omega) (by decide)))
    have m2 : CMulW ((10 : Int) ^ (40 : Int).toNat) ((10 : Int) ^ (40 : Int).toNat) := mul_ok (by decide) (small500 (by decide)) (by decide) (small500 (by decide))
    have k0 : 0 ≤ gd cs k * times := Int.mul_nonneg (by omega) t0
    have k1 : gd cs k * times ≤ 10 ^ 80 := Int.le_trans (Int.mul_le_mul c2' (show times ≤ 21 by omega) t0 (by decide)) (by decide)
    have back : ∀ {H'}, Ex H2 H' → ∀ x, 0 ≤ x → x ≤ 10 ^ 80 → ∀ H'', Ex H' H'' → Q (.int x) H'' := fun e x h0 h1 H'' e' => q x h0 h1 H'' ((e02.trans e).trans e')
    refine q_when (by walk_at "et") (fun _ H3 e3 => s_ret (by walk_at "ev") (back e3 _ k0 k1)) (fun _ H3 e3 => ?_)
    refine q_when (by walk_at "et") (fun _ H4 e4 => s_ret (ev_max2 (i := 0) (j := gd cs k * times - 1) ev_c (by walk_at "ev")) (back (e3.trans e4) _ ?_ ?_)) (fun _ H4 e4 => ?_)
    · split <;> omega
    · split <;> omega
    have z80 : (10 : Int) ^ (40 : Int).toNat * (10 : Int) ^ (40 : Int).toNat = 10 ^ 80 := by decide
    have pp : 0 < (10 : Int) ^ (40 : Int).toNat * (10 : Int) ^ (40 : Int).toNat + 1 := by decide
    refine q_when (by walk_at "et") (fun _ H5 e5 => s_ret (by walk_at "ev") (back ((e3.trans e4).trans e5) _ (Int.emod_nonneg _ (by decide)) ?_)) (fun _ H5 e5 => ?_)
    · have := Int.emod_lt_of_pos c pp
      rw [z80] at this ⊢
      omega
    refine q_when (by walk_at "et") (fun _ H6 e6 => s_ret (by walk_at "ev") (back (((e3.trans e4).trans e5).trans e6) _ ?_ ?_)) (fun _ H6 e6 => ?_)
    · rw [z80]
      have : c % 100 < 100 := Int.emod_lt_of_pos _ (by decide)
      have : (100 : Int) ≤ 10 ^ 80 := by decide
      omega
    · rw [z80]
      have : 0 ≤ c % 100 := Int.emod_nonneg _ (by decide)
      omega
    refine s_ret (by walk_at "ev") (back (((e3.trans e4).trans e5).trans e6) _ (Int.emod_nonneg _ (by decide)) ?_)
    have : c % 100 < 100 := Int.emod_lt_of_pos _ (by decide)
    have : (100 : Int) ≤ 10 ^ 80 := by decide
    omega
abbrev s_law_no_amount : Stmt := top 16
abbrev N_law_no_amount : List Str := ["_law_cell"]
theorem sc_law_no_amount : FnScope N_law_no_amount ["_law_cell"] (defScope s_law_no_amount) := ⟨rfl, rfl, rfl, by decide +kernel, rfl, by decide +kernel, by decide +kernel⟩
theorem ok_law_no_amount {f : Addr} {fd : FuncData} (F : Fun K "_law_no_amount" "_law_no_amount" s_law_no_amount f fd) :
    FnOk P w K mg base CX0 1 f fd ["_law_cell"] spNoAmount := by
  refine F.ok sc_law_no_amount (fun vs H Q E h => ?_) (fun cdv A1 outer s H vs Q E hr h => ?_)
  · obtain ⟨c, rfl, _⟩ := h
    rfl
  · obtain ⟨c, rfl, q⟩ := h
    refine ⟨_, (pss_cons (ps_if (pt_cmpR op_eq (pe_op op_mod (pv 0) pe_int) pe_int (nomark _)) (pss_one (ps_ret (pe_op op_sub (pe_un un_neg pe_int) (pe_op op_mod (pe_op op_fdiv (pv 0) pe_int) (pe_op op_pow pe_int pe_int))))) pss_nil)
      (pss_one (ps_ret (pe_op op_add (pe_op op_add (pe_op op_mulW (pe_op op_pow pe_int pe_int) (pe_op op_pow pe_int pe_int)) pe_int) (pe_op op_mod (pe_op op_fdiv (pv 0) pe_int) (pe_op op_pow pe_int pe_int)))))), ?_⟩
    have z80 : (10 : Int) ^ (40 : Int).toNat * (10 : Int) ^ (40 : Int).toNat = 10 ^ 80 := by decide
    have m2 : CMulW ((10 : Int) ^ (40 : Int).toNat) ((10 : Int) ^ (40 : Int).toNat) := mul_ok (by decide) (small500 (by decide)) (by decide) (small500 (by decide))
    have t0 : 0 ≤ c / 2 % (10 ^ (20 : Int).toNat) := Int.emod_nonneg _ (by decide)
    refine q_when (by walk_at "et") (fun _ H1 e1 => s_ret (by walk_at "ev") (fun H2 e2 => q _ ?_ H2 (e1.trans e2))) (fun _ H1 e1 => s_ret (by walk_at "ev") (fun H2 e2 => q _ ?_ H2 (e1.trans e2)))
    · omega
    · rw [z80]; omega
abbrev s_law_first : Stmt := top 20
abbrev N_law_first : List Str := ["_law_row", "_law_found", "_law_amount", "_law_total", "_law_k"]
theorem sc_law_first : FnScope N_law_first ["_law_row", "_law_found", "_law_amount"] (defScope s_law_first) := ⟨rfl, rfl, rfl, by decide +kernel, rfl, by decide +kernel, by decide +kernel⟩
theorem ok_law_first {f : Addr} {fd : FuncData} (F : Fun K "_law_first" "_law_first" s_law_first f fd) (m_len : mg "len" = none) (m_range : mg "range" = none) (m_isinstance : mg "isinstance" = none) (m_list : mg "list" = none)
    (C_law_whole : Cl P w K mg base 1 "_law_whole" spWhole) :
    FnOk P w K mg base CX0 2 f fd ["_law_row", "_law_found", "_law_amount"] (spFirstOk K) := by
  refine F.ok sc_law_first (fun vs H Q E h => ?_) (fun cdv A1 outer s H vs Q E hr h => ?_)
  · obtain ⟨a, b, cs, x, rfl, _⟩ := h
    rfl
  · obtain ⟨a, b, cs, x, rfl, ha, hb, R, hx0, hx1, q⟩ := h
    refine ⟨_, (pss_cons (ps_if (PW.pt (pw_or (pt_not (pt_val (pe_callB call_isi (by rfl) m_isinstance (by decide +kernel) (pa_cons (pv 1) (pa_cons (pe_bltn (v := .ty "list") (by rfl) m_list (by decide +kernel) rfl) pa_nil))))) (pw_or1 (pt_cmpR op_ne (pe_callB call_len_seq (by rfl) m_len PySem.boot_len (pa_cons (pv 1) pa_nil)) (pe_callB call_len_seq (by rfl) m_len PySem.boot_len (pa_cons (pv 0) pa_nil)) (nomark _))))) (pss_one (ps_ret pe_bl)) pss_nil)
      (pss_cons (ps_set (i := 3) sc_law_first.nd rfl (.inl rfl) pe_int)
      (pss_cons (ps_for PassesOwn.never rfl (pi_range1 rfl m_range (pa_cons (pe_callB call_len_seq (by rfl) m_len PySem.boot_len (pa_cons (pv 0) pa_nil)) pa_nil)) (pg_name (i := 4) sc_law_first.nd rfl (.inl rfl)) (pss_cons (ps_if (PW.pt (pw_or (pt_not (pt_val (pe_cl C_law_whole (hr.mono (by decide)) (by rfl) (pa_cons (pe_ix ix_list (pv 1) (pv 4) (fun _ _ => rfl)) pa_nil)))) (pw_or (pt_cmpR op_lt (pe_ix ix_list (pv 1) (pv 4) (fun _ _ => rfl)) pe_int (nomark _)) (pw_or1 (pt_cmpR op_ge (pv 3) (pe_ix ix_list (pv 0) (pv 4) (fun _ _ => rfl)) (nomark _)))))) (pss_one (ps_ret pe_bl)) pss_nil)
      (pss_one (ps_set (i := 3) sc_law_first.nd rfl (.inl rfl) (pe_op op_add (pv 3) (pe_op op_mulW (pe_ix ix_list (pv 0) (pv 4) (fun _ _ => rfl)) (pe_ix ix_list (pv 1) (pv 4) (fun _ _ => rfl))))))))
      (pss_one (ps_ret (pe_cmpR op_eq (pv 3) (pv 2) (nomark _))))))), ?_⟩
    have hbs : SqL K H b ((grL cs x).map V.int) := sq_of hb
    have len : (grL cs x).length = cs.length := tab_len
    have hc : ∀ k, k < cs.length → 1 ≤ gd cs k := fun k hk => R.ge1 (i := k) hk
    refine q_when (b := false) (et_is (et_or (et_not (et_B (ev_isi_ll (ev_var rfl) hb ev_c))) (fun _ => et_test (ev_op (ev_len (ev_var rfl) hbs) (ev_len (ev_var rfl) ha) (rv_ne rfl)))) ?_) (fun h => nomatch h) (fun _ H1 e1 => ?_)
    · rw [List.length_map, List.length_map, len]; simp
    refine q_asg ev_c fun H2 e2 => ?_
    have e02 := e1.trans e2
    have ha2 := ex_l e02 ha
    have hb2 := ex_l e02 hbs
    refine q_forR1 (n := ((cs.map V.int).length : Int)) (by walk_at "ea") ⟨by omega, by rw [List.length_map]; have := R.len; omega⟩
      (fun i σ H' => ∃ v4, σ = [some (.ref a), some (.ref b), some (.int x), some (.int (Coin.wsum (gd cs) (Coin.gr (gd cs) cs.length x) i)), v4] ∧ Ex H2 H')
      (fun H3 e3 => ⟨none, rfl, e3⟩) ?_ ?_
    · rintro i σ H' hi ⟨v4, rfl, e3⟩
      have hi1 : i < cs.length := by rw [List.length_map] at hi; omega
      have ha3 := ex_l e3 ha2
      have hb3 := ex_l e3 hb2
      have at1 := gd_at hi1
      have at2 := gd_at (xs := grL cs x) (j := i) (by rw [len]; exact hi1)
      rw [show gd (grL cs x) i = Coin.gr (gd cs) cs.length x i from gd_tab hi1] at at2
      have g0 := Coin.gr_way (n := cs.length) hc hx0 _ hi1
      have g1 := Coin.gr_le (n := cs.length) hc hx0 hi1
      have gl := Coin.Gd_gr R.row hx0 i hi1
      have m1 : CMulW (gd cs i) (Coin.gr (gd cs) cs.length x i) := mul_ok (Int.le_trans (by decide) (hc i hi1)) (p500 (R.most i hi1)) g0 (Int.lt_of_le_of_lt (Int.le_trans g1 hx1) p80)
      refine q_when (b := false) (et_is (et_or (et_not (et_B (ev_call (ea_cons (by walk_at "ev") ea_nil) spv_whole))) (fun _ => et_or (et_test (by walk_at "ev")) (fun _ => et_test (by walk_at "ev")))) ?_) (fun h => nomatch h) (fun _ H4 e4 => ?_)
      · rw [decide_eq_false (show ¬ Coin.gr (gd cs) cs.length x i < 0 by omega), decide_eq_false (show ¬ gd cs i ≤ Coin.wsum (gd cs) (Coin.gr (gd cs) cs.length x) i by omega)]; rfl
      have ha4 := ex_l e4 ha3
      have hb4 := ex_l e4 hb3
      refine s_asg (by walk_at "ev") fun H5 e5 => ?_
      exact ⟨_, rfl, (e3.trans e4).trans e5⟩
    · rintro σ H' ⟨v4, rfl, e3⟩
      rw [List.length_map, Int.toNat_natCast, Coin.gr_worth R.row hx0]
      exact s_ret (ev_is (ev_op (ev_var rfl) (ev_var rfl) (rv_eq rfl)) (by rw [decide_eq_true rfl])) fun H4 e4 => q H4 ((e02.trans e3).trans e4)
abbrev s_law_refused : Stmt := top 17
abbrev N_law_refused : List Str := ["_law_row", "_law_amount"]
theorem sc_law_refused : FnScope N_law_refused ["_law_row", "_law_amount"] (defScope s_law_refused) := ⟨rfl, rfl, rfl, by decide +kernel, rfl, by decide +kernel, by decide +kernel⟩
theorem ok_law_refused {A_NoAmount : Addr} {f : Addr} {fd : FuncData} (F : Fun K "_law_refused" "_law_refused" s_law_refused f fd) (C_first_way : Cn P w K mg base 2 "first_way" (spFirst K A_NoAmount))
    (T_NoAmount : Er K mg "NoAmount" A_NoAmount) (g_NoAmount : mg "NoAmount" = some (.ref A_NoAmount)) (self : PySem.W.subIn K (.ref A_NoAmount) (.ref A_NoAmount) = some true) :
    FnOk P w K mg base CX0 3 f fd ["_law_row", "_law_amount"] (spRefusedA K) := by
  refine F.ok sc_law_refused (fun vs H Q E h => ?_) (fun cdv A1 outer s H vs Q E hr h => ?_)
  · obtain ⟨a, cs, x, rfl, _⟩ := h
    rfl
  · obtain ⟨a, cs, x, rfl, ha, R, bad, q⟩ := h
    refine ⟨_, (pss_cons (L2N.ps_try_many rfl rfl takes0N (fun W pn xe tk _ => (pss_one (ps_expr (pe_ct C_first_way (hr.mono (by decide)) tk (by rfl) (pa_cons (pv 0) (pa_cons (pv 1) pa_nil)))))) (L2N.HdsOk.cons ⟨rfl, by decide, Or.inl g_NoAmount⟩ (fun a oe cls d pn hz hf => (pss_one (ps_ret pe_bl))) L2N.HdsOk.nil))
      (pss_one (ps_ret pe_bl))), ?_⟩
    have ea : EvA (tCons (tVar 0) (tCons (tVar 1) tNil)) [some (.ref a), some (.int x)] H [.ref a, .int x] := by walk_at "ea"
    refine q_try ea fun H1 e1 => ?_
    exact ⟨a, cs, x, rfl, ex_l e1 ha, R, fun g => absurd g bad, fun _ H2 e2 => ⟨true, T_NoAmount.names self, fun _ _ _ => q H2 (e1.trans e2), fun h => nomatch h⟩⟩
abbrev s_law_refused_by_any : Stmt := top 19
abbrev N_law_refused_by_any : List Str := ["_law_row", "_law_amount", "_law_e"]
theorem sc_law_refused_by_any : FnScope N_law_refused_by_any ["_law_row", "_law_amount"] (defScope s_law_refused_by_any) := ⟨rfl, rfl, rfl, by decide +kernel, rfl, by decide +kernel, by decide +kernel⟩
theorem ok_law_refused_by_any {A A_CoinError : Addr} {f fk : Addr} {fd fdk : FuncData} (F : Fun K "_law_refused_by_any" "_law_refused_by_any" s_law_refused_by_any f fd) (C_first_way : Cn P w K mg base 2 "first_way" (spFirst K A))
    (T : Er K mg "NoAmount" A) (T_CoinError : Er K mg "CoinError" A_CoinError) (g_CoinError : mg "CoinError" = some (.ref A_CoinError)) (under : PySem.W.subIn K (.ref A) (.ref A_CoinError) = some true)
    (m_isinstance : mg "isinstance" = none) (m_ValueError : mg "ValueError" = none)
    (D_law_kinds : Df K mg "_law_kinds" s_law_kinds fk fdk ["_law_e"])
    (GK : ∀ {a : Addr} {oe : Obj}, Zc (.ref A) none oe → (∃ vs, oe.data = .fields vs) → HotRun P w K mg base 1 fk fdk ["_law_e"] (a, oe) (spKinds a)) :
    FnOk P w K mg base CX0 3 f fd ["_law_row", "_law_amount"] (spRefusedA K) := by
  refine F.ok sc_law_refused_by_any (fun vs H Q E h => ?_) (fun cdv A1 outer s H vs Q E hr h => ?_)
  · obtain ⟨a, cs, x, rfl, _⟩ := h
    rfl
  · obtain ⟨a, cs, x, rfl, ha, R, bad, q⟩ := h
    refine ⟨_, (pss_cons (L2N.ps_try_as (i := 2) rfl rfl sc_law_refused_by_any.nd rfl rfl ⟨rfl, by decide, Or.inl g_CoinError⟩ takes0N (fun W pn xe tk _ => (pss_one (ps_expr (pe_ct C_first_way (hr.mono (by decide)) tk (by rfl) (pa_cons (pv 0) (pa_cons (pv 1) pa_nil)))))) (fun a oe cls d pn hz hf => pss_know (C := cls = .ref A ∧ d = none) (fun hC => (pss_one (ps_ret (pe_and (pe_callB (call_isK rfl T.exc (zc_know hz hC) hf List.mem_cons_self) (by rfl) m_isinstance (by decide +kernel) (pa_cons (pv 2) (pa_cons (pe_bltn (v := .ty "ValueError") (by rfl) m_ValueError (by decide +kernel) rfl) pa_nil))) (pe_one (pe_cmpR op_eq (pe_hot (GK (zc_know hz hC) hf) (roomH_mark (hr.mono (by decide))) (hot_mark hz hf) List.mem_cons_self (by rfl) D_law_kinds.g D_law_kinds.F.kp D_law_kinds.b (fun _ _ _ h => by rw [h.1]; rfl) (pa_cons (pv 2) pa_nil)) pe_int (nomark _)))))))))
      (pss_one (ps_ret pe_bl))), ?_⟩
    have ea : EvA (tCons (tVar 0) (tCons (tVar 1) tNil)) [some (.ref a), some (.int x), none] H [.ref a, .int x] := by walk_at "ea"
    refine q_try ea fun H1 e1 => ?_
    refine ⟨a, cs, x, rfl, ex_l e1 ha, R, fun g => absurd g bad, fun _ H2 e2 => ⟨true, T_CoinError.names under, fun _ y _ => ⟨⟨rfl, rfl⟩, ?_⟩, fun h => nomatch h⟩⟩
    exact s_ret (ev_is (ev_andV (b := true) (ev_isET (ev_var rfl) ev_c T.vE) (fun _ => ev_is (ev_op (ev_call (ea_cons (ev_var rfl) ea_nil) spv_kinds) ev_c (rv_eq rfl)) (by decide))) rfl) fun H3 e3 => q H3 ((e1.trans e2).trans e3)
abbrev s_law : Stmt := top 21
abbrev N_law : List Str := ["_law_script", "_law_row", "_law_way", "_law_cell", "_law_coins", "_law_amount", "_law_good"]
theorem sc_law : FnScope N_law ["_law_script"] (defScope s_law) := ⟨rfl, rfl, rfl, by decide +kernel, rfl, by decide +kernel, by decide +kernel⟩
theorem ok_law {A : Addr} {f : Addr} {fd : FuncData} (F : Fun K "law" "law" s_law f fd) (m_len : mg "len" = none) (m_range : mg "range" = none) (m_list : mg "list" = none)
    (C_law_cell_at : Cl P w K mg base 1 "_law_cell_at" (spCell K)) (C_law_row_by : Cl P w K mg base 2 "_law_row_by" (spRow K)) (C_law_amount_by : Cl P w K mg base 1 "_law_amount_by" (spAmount K))
    (C_law_no_amount : Cl P w K mg base 1 "_law_no_amount" spNoAmount) (C_law_refused : Cl P w K mg base 3 "_law_refused" (spRefusedA K)) (C_law_refused_by_any : Cl P w K mg base 3 "_law_refused_by_any" (spRefusedA K))
    (C_first_way : Cn P w K mg base 2 "first_way" (spFirst K A)) (C_law_first : Cl P w K mg base 2 "_law_first" (spFirstOk K)) :
    FnOk P w K mg base CX0 4 f fd ["_law_script"] (spLaw K) := by
  refine F.ok sc_law (fun vs H Q E h => ?_) (fun cdv A1 outer s H vs Q E hr h => ?_)
  · obtain ⟨a, ns, rfl, _⟩ := h
    rfl
  · obtain ⟨a, ns, rfl, hs, hlen, q⟩ := h
    refine ⟨_, (pss_cons (ps_set (i := 1) sc_law.nd rfl (.inl rfl) (pe_cl C_law_row_by (hr.mono (by decide)) (by rfl) (pa_cons (pv 0) pa_nil)))
      (pss_cons (ps_set (i := 2) sc_law.nd rfl (.inl rfl) (pe_op op_mod (pe_cl C_law_cell_at (hr.mono (by decide)) (by rfl) (pa_cons (pv 0) (pa_cons pe_int pa_nil))) pe_int))
      (pss_cons (ps_set (i := 3) sc_law.nd rfl (.inl rfl) (pe_cl C_law_cell_at (hr.mono (by decide)) (by rfl) (pa_cons (pv 0) (pa_cons pe_int pa_nil))))
      (pss_cons (ps_set (i := 4) sc_law.nd rfl (.inl rfl) (pe_callTy call_list_of (by rfl) m_list (by decide +kernel) (pa_cons (pv 1) pa_nil)))
      (pss_cons (ps_if (pt_cmpR op_eq (pv 2) pe_int (nomark _)) (pss_cons (ps_set (i := 5) sc_law.nd rfl (.inl rfl) (pe_cl C_law_no_amount (hr.mono (by decide)) (by rfl) (pa_cons (pv 3) pa_nil)))
      (pss_cons (ps_set (i := 6) sc_law.nd rfl (.inl rfl) (pe_and (pe_cl C_law_refused (hr.mono (by decide)) (by rfl) (pa_cons (pv 4) (pa_cons (pv 5) pa_nil))) (pe_one (pe_cl C_law_refused_by_any (hr.mono (by decide)) (by rfl) (pa_cons (pv 4) (pa_cons (pv 5) pa_nil))))))
      (pss_one (ps_ret (pe_and (pv 6) (pe_one (pe_cmpR (op_eqD hr.units) (pv 4) (pv 1) (nomark _)))))))) pss_nil)
      (pss_cons (ps_set (i := 5) sc_law.nd rfl (.inl rfl) (pe_cl C_law_amount_by (hr.mono (by decide)) (by rfl) (pa_cons (pv 1) (pa_cons (pv 2) (pa_cons (pv 3) pa_nil)))))
      (pss_one (ps_ret (pe_and (pe_cl C_law_first (hr.mono (by decide)) (by rfl) (pa_cons (pv 1) (pa_cons (pe_cn C_first_way (hr.mono (by decide)) (by rfl) (pa_cons (pv 4) (pa_cons (pv 5) pa_nil))) (pa_cons (pv 5) pa_nil)))) (pe_one (pe_cmpR (op_eqD hr.units) (pv 4) (pv 1) (nomark _)))))))))))), ?_⟩
    refine q_asgC (by walk_at "ea") fun H1 e1 => ⟨a, ns, rfl, ex_l e1 hs, fun cs R r H2 hr0 e2 h2 => ?_⟩
    have e02 := e1.trans e2
    have hr2 : SqL K H2 r (cs.map V.int) := sq_of h2
    have hs2 := ex_l e02 hs
    refine q_asg (by walk_at "ev") fun H3 e3 => ?_
    generalize ns.getD (1 : Int).toNat 0 % 6 = way
    have hs3 := ex_l e3 hs2
    refine q_asg (by walk_at "ev") fun H4 e4 => ?_
    generalize ns.getD (13 : Int).toNat 0 = cell
    have hr4 := ex_l (e3.trans e4) hr2
    refine q_asgL (el_listI (ev_var rfl) hr4) fun c H5 hc0 e5 h5 => ?_
    have hr5 := ex_l e5 hr4
    have hc5 : SqL K H5 c (cs.map V.int) := sq_of h5
    refine q_when (by walk_at "et") (fun _ H6 e6 => ?_) (fun _ H6 e6 => ?_)
    · refine q_asgC (by walk_at "ea") fun H7 e7 => ⟨cell, rfl, fun x bad H8 e8 => ?_⟩
      have e58 := (e6.trans e7).trans e8
      have hc8 := ex_l e58 hc5
      have hr8 := ex_l e58 hr5
      refine q_asg (ev_andV (ev_call (by walk_at "ea") (spv_refusedA hc8 R bad)) (fun _ => ev_call (by walk_at "ea") (spv_refusedA hc8 R bad))) fun H9 e9 => ?_
      exact s_ret (ev_is (ev_andV (ev_var rfl) (fun _ => ev_eqLists (ev_var rfl) (ev_var rfl) (ex_l e9 hc8) (ex_l e9 hr8))) rfl) fun H11 _ => q H11
    · have hr6 := ex_l e6 hr5
      refine q_asgC (by walk_at "ea") fun H7 e7 => ⟨r, cs, way, cell, rfl, ex_l e7 hr6, R, fun x h0 h1 H8 e8 => ?_⟩
      have e58 := (e6.trans e7).trans e8
      have hc8 := ex_l e58 hc5
      have hr8 := ex_l e58 hr5
      refine s_ret (ev_is (ev_andV (ev_call3 (v := .bl true) (ev_var rfl) (el_call (by walk_at "ea") (spl_first hc8 R h0 h1)) (ev_var rfl) (fun p H9 hp e9 H10 e10 Q' q' E' => ⟨r, p, cs, x, rfl, ex_l (e9.trans e10) hr8, e10 _ _ hp, R, h0, h1, q'⟩))
        (fun _ => ev_eqLists (ev_var rfl) (ev_var rfl) hc8 hr8)) rfl) fun H11 _ => q H11
end
theorem all_mk {l : PySem.W.OpenLaw} {w : World} {K : PySem.W.Frag} {h : Heap} {mg : Str → Option Value} {fa : Addr}
    {f_check_amount : Addr} {od_check_amount an_check_amount : Option Addr} {sl_check_amount : Array (Option Value)} {oc_check_amount kV_check_amount dc_check_amount pm_check_amount cd_check_amount ct_check_amount : Value}
    {f_first_way : Addr} {od_first_way an_first_way : Option Addr} {sl_first_way : Array (Option Value)} {oc_first_way kV_first_way dc_first_way pm_first_way cd_first_way ct_first_way : Value}
    {f_law_whole : Addr} {od_law_whole an_law_whole : Option Addr} {sl_law_whole : Array (Option Value)} {oc_law_whole kV_law_whole dc_law_whole pm_law_whole cd_law_whole ct_law_whole : Value}
    {f_law_cell_at : Addr} {od_law_cell_at an_law_cell_at : Option Addr} {sl_law_cell_at : Array (Option Value)} {oc_law_cell_at kV_law_cell_at dc_law_cell_at pm_law_cell_at cd_law_cell_at ct_law_cell_at : Value}
    {f_law_row_by : Addr} {od_law_row_by an_law_row_by : Option Addr} {sl_law_row_by : Array (Option Value)} {oc_law_row_by kV_law_row_by dc_law_row_by pm_law_row_by cd_law_row_by ct_law_row_by : Value}
    {f_law_kinds : Addr} {od_law_kinds an_law_kinds : Option Addr} {sl_law_kinds : Array (Option Value)} {oc_law_kinds kV_law_kinds dc_law_kinds pm_law_kinds cd_law_kinds ct_law_kinds : Value}
    {f_law_amount_by : Addr} {od_law_amount_by an_law_amount_by : Option Addr} {sl_law_amount_by : Array (Option Value)} {oc_law_amount_by kV_law_amount_by dc_law_amount_by pm_law_amount_by cd_law_amount_by ct_law_amount_by : Value}
    {f_law_no_amount : Addr} {od_law_no_amount an_law_no_amount : Option Addr} {sl_law_no_amount : Array (Option Value)} {oc_law_no_amount kV_law_no_amount dc_law_no_amount pm_law_no_amount cd_law_no_amount ct_law_no_amount : Value}
    {f_law_first : Addr} {od_law_first an_law_first : Option Addr} {sl_law_first : Array (Option Value)} {oc_law_first kV_law_first dc_law_first pm_law_first cd_law_first ct_law_first : Value}
    {f_law_refused : Addr} {od_law_refused an_law_refused : Option Addr} {sl_law_refused : Array (Option Value)} {oc_law_refused kV_law_refused dc_law_refused pm_law_refused cd_law_refused ct_law_refused : Value}
    {f_law_refused_by_any : Addr} {od_law_refused_by_any an_law_refused_by_any : Option Addr} {sl_law_refused_by_any : Array (Option Value)} {oc_law_refused_by_any kV_law_refused_by_any dc_law_refused_by_any pm_law_refused_by_any cd_law_refused_by_any ct_law_refused_by_any : Value}
    {f_law : Addr} {od_law an_law : Option Addr} {sl_law : Array (Option Value)} {oc_law kV_law dc_law pm_law cd_law ct_law : Value}
    {A_NoAmount : Addr}
    {A_CoinError : Addr}
    {A_NoRow : Addr}
    {A_NoWay : Addr}
    {A_TooGreat : Addr}
    {A_NoText : Addr}
    {tk_MOST_AMOUNT : Tok}
    (X : K.In h) (G : h.Ns mainGlobals mg) (hfa : mg "law" = some (.ref fa))
    (a_check_amount : PySem.W.nsIn K mainGlobals "check_amount" = some (some (.ref f_check_amount)))
    (l_check_amount : K.lookup f_check_amount = some ⟨oc_check_amount, od_check_amount, .func (PySem.W.fnOf "check_amount" "check_amount" (defArgs s_check_amount) (defBody s_check_amount) (defScope s_check_amount) .none kV_check_amount dc_check_amount pm_check_amount an_check_amount cd_check_amount ct_check_amount), sl_check_amount⟩)
    (c_check_amount : PySem.W.codeIn K cd_check_amount "check_amount" = true)
    (k_check_amount : PySem.W.keepIn K (.ref f_check_amount) = true)
    (a_first_way : PySem.W.nsIn K mainGlobals "first_way" = some (some (.ref f_first_way)))
    (l_first_way : K.lookup f_first_way = some ⟨oc_first_way, od_first_way, .func (PySem.W.fnOf "first_way" "first_way" (defArgs s_first_way) (defBody s_first_way) (defScope s_first_way) .none kV_first_way dc_first_way pm_first_way an_first_way cd_first_way ct_first_way), sl_first_way⟩)
    (c_first_way : PySem.W.codeIn K cd_first_way "first_way" = true)
    (k_first_way : PySem.W.keepIn K (.ref f_first_way) = true)
    (a_law_whole : PySem.W.nsIn K mainGlobals "_law_whole" = some (some (.ref f_law_whole)))
    (l_law_whole : K.lookup f_law_whole = some ⟨oc_law_whole, od_law_whole, .func (PySem.W.fnOf "_law_whole" "_law_whole" (defArgs s_law_whole) (defBody s_law_whole) (defScope s_law_whole) .none kV_law_whole dc_law_whole pm_law_whole an_law_whole cd_law_whole ct_law_whole), sl_law_whole⟩)
    (c_law_whole : PySem.W.codeIn K cd_law_whole "_law_whole" = true)
    (k_law_whole : PySem.W.keepIn K (.ref f_law_whole) = true)
    (a_law_cell_at : PySem.W.nsIn K mainGlobals "_law_cell_at" = some (some (.ref f_law_cell_at)))
    (l_law_cell_at : K.lookup f_law_cell_at = some ⟨oc_law_cell_at, od_law_cell_at, .func (PySem.W.fnOf "_law_cell_at" "_law_cell_at" (defArgs s_law_cell_at) (defBody s_law_cell_at) (defScope s_law_cell_at) .none kV_law_cell_at dc_law_cell_at pm_law_cell_at an_law_cell_at cd_law_cell_at ct_law_cell_at), sl_law_cell_at⟩)
    (c_law_cell_at : PySem.W.codeIn K cd_law_cell_at "_law_cell_at" = true)
    (k_law_cell_at : PySem.W.keepIn K (.ref f_law_cell_at) = true)
    (a_law_row_by : PySem.W.nsIn K mainGlobals "_law_row_by" = some (some (.ref f_law_row_by)))
    (l_law_row_by : K.lookup f_law_row_by = some ⟨oc_law_row_by, od_law_row_by, .func (PySem.W.fnOf "_law_row_by" "_law_row_by" (defArgs s_law_row_by) (defBody s_law_row_by) (defScope s_law_row_by) .none kV_law_row_by dc_law_row_by pm_law_row_by an_law_row_by cd_law_row_by ct_law_row_by), sl_law_row_by⟩)
    (c_law_row_by : PySem.W.codeIn K cd_law_row_by "_law_row_by" = true)
    (k_law_row_by : PySem.W.keepIn K (.ref f_law_row_by) = true)
    (a_law_kinds : PySem.W.nsIn K mainGlobals "_law_kinds" = some (some (.ref f_law_kinds)))
    (l_law_kinds : K.lookup f_law_kinds = some ⟨oc_law_kinds, od_law_kinds, .func (PySem.W.fnOf "_law_kinds" "_law_kinds" (defArgs s_law_kinds) (defBody s_law_kinds) (defScope s_law_kinds) .none kV_law_kinds dc_law_kinds pm_law_kinds an_law_kinds cd_law_kinds ct_law_kinds), sl_law_kinds⟩)
    (c_law_kinds : PySem.W.codeIn K cd_law_kinds "_law_kinds" = true)
    (k_law_kinds : PySem.W.keepIn K (.ref f_law_kinds) = true)
    (a_law_amount_by : PySem.W.nsIn K mainGlobals "_law_amount_by" = some (some (.ref f_law_amount_by)))
    (l_law_amount_by : K.lookup f_law_amount_by = some ⟨oc_law_amount_by, od_law_amount_by, .func (PySem.W.fnOf "_law_amount_by" "_law_amount_by" (defArgs s_law_amount_by) (defBody s_law_amount_by) (defScope s_law_amount_by) .none kV_law_amount_by dc_law_amount_by pm_law_amount_by an_law_amount_by cd_law_amount_by ct_law_amount_by), sl_law_amount_by⟩)
    (c_law_amount_by : PySem.W.codeIn K cd_law_amount_by "_law_amount_by" = true)
    (k_law_amount_by : PySem.W.keepIn K (.ref f_law_amount_by) = true)
    (a_law_no_amount : PySem.W.nsIn K mainGlobals "_law_no_amount" = some (some (.ref f_law_no_amount)))
    (l_law_no_amount : K.lookup f_law_no_amount = some ⟨oc_law_no_amount, od_law_no_amount, .func (PySem.W.fnOf "_law_no_amount" "_law_no_amount" (defArgs s_law_no_amount) (defBody s_law_no_amount) (defScope s_law_no_amount) .none kV_law_no_amount dc_law_no_amount pm_law_no_amount an_law_no_amount cd_law_no_amount ct_law_no_amount), sl_law_no_amount⟩)
    (c_law_no_amount : PySem.W.codeIn K cd_law_no_amount "_law_no_amount" = true)
    (k_law_no_amount : PySem.W.keepIn K (.ref f_law_no_amount) = true)
    (a_law_first : PySem.W.nsIn K mainGlobals "_law_first" = some (some (.ref f_law_first)))
    (l_law_first : K.lookup f_law_first = some ⟨oc_law_first, od_law_first, .func (PySem.W.fnOf "_law_first" "_law_first" (defArgs s_law_first) (defBody s_law_first) (defScope s_law_first) .none kV_law_first dc_law_first pm_law_first an_law_first cd_law_first ct_law_first), sl_law_first⟩)
    (c_law_first : PySem.W.codeIn K cd_law_first "_law_first" = true)
    (k_law_first : PySem.W.keepIn K (.ref f_law_first) = true)
    (a_law_refused : PySem.W.nsIn K mainGlobals "_law_refused" = some (some (.ref f_law_refused)))
    (l_law_refused : K.lookup f_law_refused = some ⟨oc_law_refused, od_law_refused, .func (PySem.W.fnOf "_law_refused" "_law_refused" (defArgs s_law_refused) (defBody s_law_refused) (defScope s_law_refused) .none kV_law_refused dc_law_refused pm_law_refused an_law_refused cd_law_refused ct_law_refused), sl_law_refused⟩)
    (c_law_refused : PySem.W.codeIn K cd_law_refused "_law_refused" = true)
    (k_law_refused : PySem.W.keepIn K (.ref f_law_refused) = true)
    (a_law_refused_by_any : PySem.W.nsIn K mainGlobals "_law_refused_by_any" = some (some (.ref f_law_refused_by_any)))
    (l_law_refused_by_any : K.lookup f_law_refused_by_any = some ⟨oc_law_refused_by_any, od_law_refused_by_any, .func (PySem.W.fnOf "_law_refused_by_any" "_law_refused_by_any" (defArgs s_law_refused_by_any) (defBody s_law_refused_by_any) (defScope s_law_refused_by_any) .none kV_law_refused_by_any dc_law_refused_by_any pm_law_refused_by_any an_law_refused_by_any cd_law_refused_by_any ct_law_refused_by_any), sl_law_refused_by_any⟩)
    (c_law_refused_by_any : PySem.W.codeIn K cd_law_refused_by_any "_law_refused_by_any" = true)
    (k_law_refused_by_any : PySem.W.keepIn K (.ref f_law_refused_by_any) = true)
    (a_law : PySem.W.nsIn K mainGlobals "law" = some (some (.ref f_law)))
    (l_law : K.lookup f_law = some ⟨oc_law, od_law, .func (PySem.W.fnOf "law" "law" (defArgs s_law) (defBody s_law) (defScope s_law) .none kV_law dc_law pm_law an_law cd_law ct_law), sl_law⟩)
    (c_law : PySem.W.codeIn K cd_law "law" = true)
    (k_law : PySem.W.keepIn K (.ref f_law) = true)
    (z_len : PySem.W.nsIn K mainGlobals "len" = some none)
    (z_range : PySem.W.nsIn K mainGlobals "range" = some none)
    (z_isinstance : PySem.W.nsIn K mainGlobals "isinstance" = some none)
    (z_int : PySem.W.nsIn K mainGlobals "int" = some none)
    (z_bool : PySem.W.nsIn K mainGlobals "bool" = some none)
    (z_max : PySem.W.nsIn K mainGlobals "max" = some none)
    (z_list : PySem.W.nsIn K mainGlobals "list" = some none)
    (z_ValueError : PySem.W.nsIn K mainGlobals "ValueError" = some none)
    (n_NoAmount : PySem.W.nsIn K mainGlobals "NoAmount" = some (some (.ref A_NoAmount)))
    (n_CoinError : PySem.W.nsIn K mainGlobals "CoinError" = some (some (.ref A_CoinError)))
    (n_NoRow : PySem.W.nsIn K mainGlobals "NoRow" = some (some (.ref A_NoRow)))
    (n_NoWay : PySem.W.nsIn K mainGlobals "NoWay" = some (some (.ref A_NoWay)))
    (n_TooGreat : PySem.W.nsIn K mainGlobals "TooGreat" = some (some (.ref A_TooGreat)))
    (n_NoText : PySem.W.nsIn K mainGlobals "NoText" = some (some (.ref A_NoText)))
    (xC_NoAmount : PySem.W.excIn K A_NoAmount [.type "ValueError", .type "Exception", .type "BaseException", .type "object"] "ValueError.__new__" = true)
    (kC_NoAmount : PySem.W.keepIn K (.ref A_NoAmount) = true)
    (bC_NoAmount : PySem.W.subIn K (.ref A_NoAmount) (.type "BaseException") = some true)
    (tC_NoAmount : PySem.W.typeIn K (.ref A_NoAmount) = some (.type "type"))
    (hd_NoAmount : PySem.W.hasDictIn K A_NoAmount = true)
    (ga_NoAmount : PySem.W.findIn K (.ref A_NoAmount) "__getattribute__" = some (some (.builtin "BaseException.__getattribute__")))
    (gt_NoAmount : PySem.W.findIn K (.ref A_NoAmount) "__getattr__" = some none)
    (cl_NoAmount : PySem.W.findIn K (.ref A_NoAmount) "__class__" = some (some (.builtin "object.__class__")))
    (mr_NoAmount : PySem.W.mroIn K A_NoAmount (.type "object") = some true)
    (vE_NoAmount : PySem.W.kitOne K (.ref A_NoAmount) (.type "ValueError") = some true)
    (xC_CoinError : PySem.W.excIn K A_CoinError [.type "ValueError", .type "Exception", .type "BaseException", .type "object"] "ValueError.__new__" = true)
    (kC_CoinError : PySem.W.keepIn K (.ref A_CoinError) = true)
    (bC_CoinError : PySem.W.subIn K (.ref A_CoinError) (.type "BaseException") = some true)
    (tC_CoinError : PySem.W.typeIn K (.ref A_CoinError) = some (.type "type"))
    (hd_CoinError : PySem.W.hasDictIn K A_CoinError = true)
    (ga_CoinError : PySem.W.findIn K (.ref A_CoinError) "__getattribute__" = some (some (.builtin "BaseException.__getattribute__")))
    (gt_CoinError : PySem.W.findIn K (.ref A_CoinError) "__getattr__" = some none)
    (cl_CoinError : PySem.W.findIn K (.ref A_CoinError) "__class__" = some (some (.builtin "object.__class__")))
    (mr_CoinError : PySem.W.mroIn K A_CoinError (.type "object") = some true)
    (vE_CoinError : PySem.W.kitOne K (.ref A_CoinError) (.type "ValueError") = some true)
    (spG : PySem.W.specialIn K (.builtin "object.__class__") "__get__" = some (some (.builtin "getset_descriptor.__get__")))
    (tkG : PySem.W.takesIn K (.builtin "object.__class__") = some true)
    (v_MOST_AMOUNT : PySem.W.nsIn K mainGlobals "MOST_AMOUNT" = some (some (.int (10 ^ 80) tk_MOST_AMOUNT)))
    (self_1 : PySem.W.subIn K (.ref A_NoAmount) (.ref A_NoAmount) = some true)
    (under_1 : PySem.W.subIn K (.ref A_NoAmount) (.ref A_CoinError) = some true)
    (q_NoAmount_NoRow : PySem.W.kitOne K (.ref A_NoAmount) (.ref A_NoRow) = some false)
    (q_NoAmount_NoWay : PySem.W.kitOne K (.ref A_NoAmount) (.ref A_NoWay) = some false)
    (q_NoAmount_NoAmount : PySem.W.kitOne K (.ref A_NoAmount) (.ref A_NoAmount) = some true)
    (q_NoAmount_TooGreat : PySem.W.kitOne K (.ref A_NoAmount) (.ref A_TooGreat) = some false)
    (q_NoAmount_NoText : PySem.W.kitOne K (.ref A_NoAmount) (.ref A_NoText) = some false) :
    ∃ fd : FuncData, (∀ (s : Shared) (v : Value), BindsTo s fd ⟨[v], []⟩ [("_law_script", v)]) ∧
      ∀ base : Heap, K.In base → base.Ns mainGlobals mg → FnOk l.prog w K mg base CX0 4 fa fd ["_law_script"] (spLaw K) := by
  have same := hfa.symm.trans (PySem.W.mg_of X G a_law)
  cases same
  have D_check_amount : Df K mg "check_amount" s_check_amount f_check_amount _ ["amount"] := ⟨fun_mk (st := s_check_amount) l_check_amount c_check_amount k_check_amount, PySem.W.mg_of X G a_check_amount, (fun_mk (st := s_check_amount) l_check_amount c_check_amount k_check_amount).binds fun _ _ _ _ _ _ us hl => match us, hl with | [_], _ => rfl⟩
  have D_first_way : Df K mg "first_way" s_first_way f_first_way _ ["coins", "amount"] := ⟨fun_mk (st := s_first_way) l_first_way c_first_way k_first_way, PySem.W.mg_of X G a_first_way, (fun_mk (st := s_first_way) l_first_way c_first_way k_first_way).binds fun _ _ _ _ _ _ us hl => match us, hl with | [_, _], _ => rfl⟩
  have D_law_whole : Df K mg "_law_whole" s_law_whole f_law_whole _ ["_law_found"] := ⟨fun_mk (st := s_law_whole) l_law_whole c_law_whole k_law_whole, PySem.W.mg_of X G a_law_whole, (fun_mk (st := s_law_whole) l_law_whole c_law_whole k_law_whole).binds fun _ _ _ _ _ _ us hl => match us, hl with | [_], _ => rfl⟩
  have D_law_cell_at : Df K mg "_law_cell_at" s_law_cell_at f_law_cell_at _ ["_law_script", "_law_k"] := ⟨fun_mk (st := s_law_cell_at) l_law_cell_at c_law_cell_at k_law_cell_at, PySem.W.mg_of X G a_law_cell_at, (fun_mk (st := s_law_cell_at) l_law_cell_at c_law_cell_at k_law_cell_at).binds fun _ _ _ _ _ _ us hl => match us, hl with | [_, _], _ => rfl⟩
  have D_law_row_by : Df K mg "_law_row_by" s_law_row_by f_law_row_by _ ["_law_script"] := ⟨fun_mk (st := s_law_row_by) l_law_row_by c_law_row_by k_law_row_by, PySem.W.mg_of X G a_law_row_by, (fun_mk (st := s_law_row_by) l_law_row_by c_law_row_by k_law_row_by).binds fun _ _ _ _ _ _ us hl => match us, hl with | [_], _ => rfl⟩
  have D_law_kinds : Df K mg "_law_kinds" s_law_kinds f_law_kinds _ ["_law_e"] := ⟨fun_mk (st := s_law_kinds) l_law_kinds c_law_kinds k_law_kinds, PySem.W.mg_of X G a_law_kinds, (fun_mk (st := s_law_kinds) l_law_kinds c_law_kinds k_law_kinds).binds fun _ _ _ _ _ _ us hl => match us, hl with | [_], _ => rfl⟩
  have D_law_amount_by : Df K mg "_law_amount_by" s_law_amount_by f_law_amount_by _ ["_law_row", "_law_way", "_law_cell"] := ⟨fun_mk (st := s_law_amount_by) l_law_amount_by c_law_amount_by k_law_amount_by, PySem.W.mg_of X G a_law_amount_by, (fun_mk (st := s_law_amount_by) l_law_amount_by c_law_amount_by k_law_amount_by).binds fun _ _ _ _ _ _ us hl => match us, hl with | [_, _, _], _ => rfl⟩
  have D_law_no_amount : Df K mg "_law_no_amount" s_law_no_amount f_law_no_amount _ ["_law_cell"] := ⟨fun_mk (st := s_law_no_amount) l_law_no_amount c_law_no_amount k_law_no_amount, PySem.W.mg_of X G a_law_no_amount, (fun_mk (st := s_law_no_amount) l_law_no_amount c_law_no_amount k_law_no_amount).binds fun _ _ _ _ _ _ us hl => match us, hl with | [_], _ => rfl⟩
  have D_law_first : Df K mg "_law_first" s_law_first f_law_first _ ["_law_row", "_law_found", "_law_amount"] := ⟨fun_mk (st := s_law_first) l_law_first c_law_first k_law_first, PySem.W.mg_of X G a_law_first, (fun_mk (st := s_law_first) l_law_first c_law_first k_law_first).binds fun _ _ _ _ _ _ us hl => match us, hl with | [_, _, _], _ => rfl⟩
  have D_law_refused : Df K mg "_law_refused" s_law_refused f_law_refused _ ["_law_row", "_law_amount"] := ⟨fun_mk (st := s_law_refused) l_law_refused c_law_refused k_law_refused, PySem.W.mg_of X G a_law_refused, (fun_mk (st := s_law_refused) l_law_refused c_law_refused k_law_refused).binds fun _ _ _ _ _ _ us hl => match us, hl with | [_, _], _ => rfl⟩
  have D_law_refused_by_any : Df K mg "_law_refused_by_any" s_law_refused_by_any f_law_refused_by_any _ ["_law_row", "_law_amount"] := ⟨fun_mk (st := s_law_refused_by_any) l_law_refused_by_any c_law_refused_by_any k_law_refused_by_any, PySem.W.mg_of X G a_law_refused_by_any, (fun_mk (st := s_law_refused_by_any) l_law_refused_by_any c_law_refused_by_any k_law_refused_by_any).binds fun _ _ _ _ _ _ us hl => match us, hl with | [_, _], _ => rfl⟩
  have D_law : Df K mg "law" s_law _ _ ["_law_script"] := ⟨fun_mk (st := s_law) l_law c_law k_law, PySem.W.mg_of X G a_law, (fun_mk (st := s_law) l_law c_law k_law).binds fun _ _ _ _ _ _ us hl => match us, hl with | [_], _ => rfl⟩
  have m_len := PySem.W.mg_none_of X G z_len
  have m_range := PySem.W.mg_none_of X G z_range
  have m_isinstance := PySem.W.mg_none_of X G z_isinstance
  have m_int := PySem.W.mg_none_of X G z_int
  have m_bool := PySem.W.mg_none_of X G z_bool
  have m_max := PySem.W.mg_none_of X G z_max
  have m_list := PySem.W.mg_none_of X G z_list
  have m_ValueError := PySem.W.mg_none_of X G z_ValueError
  have g_NoAmount := PySem.W.mg_of X G n_NoAmount
  have g_CoinError := PySem.W.mg_of X G n_CoinError
  have g_NoRow := PySem.W.mg_of X G n_NoRow
  have g_NoWay := PySem.W.mg_of X G n_NoWay
  have g_TooGreat := PySem.W.mg_of X G n_TooGreat
  have g_NoText := PySem.W.mg_of X G n_NoText
  have T_NoAmount : Er K mg "NoAmount" A_NoAmount := ⟨g_NoAmount, xC_NoAmount, kC_NoAmount, bC_NoAmount, tC_NoAmount, hd_NoAmount, ga_NoAmount, gt_NoAmount, cl_NoAmount, mr_NoAmount, spG, tkG, vE_NoAmount⟩
  have T_CoinError : Er K mg "CoinError" A_CoinError := ⟨g_CoinError, xC_CoinError, kC_CoinError, bC_CoinError, tC_CoinError, hd_CoinError, ga_CoinError, gt_CoinError, cl_CoinError, mr_CoinError, spG, tkG, vE_CoinError⟩
  have w_MOST_AMOUNT := PySem.W.mg_of X G v_MOST_AMOUNT
  refine ⟨PySem.W.fnOf "law" "law" (defArgs s_law) (defBody s_law) (defScope s_law) .none kV_law dc_law pm_law an_law cd_law ct_law, fun s v => .of_eq rfl, fun base _ _ => ?_⟩
  have C_check_amount := D_check_amount.cn (ok_check_amount (P := l.prog) (w := w) (base := base) D_check_amount.F w_MOST_AMOUNT T_NoAmount)
  have C_first_way := D_first_way.cn (ok_first_way (P := l.prog) (w := w) (base := base) D_first_way.F m_len m_range C_check_amount)
  have C_law_whole := D_law_whole.cl (ok_law_whole (P := l.prog) (w := w) (base := base) D_law_whole.F m_isinstance m_int m_bool)
  have C_law_cell_at := D_law_cell_at.cl (ok_law_cell_at (P := l.prog) (w := w) (base := base) D_law_cell_at.F m_len)
  have C_law_row_by := D_law_row_by.cl (ok_law_row_by (P := l.prog) (w := w) (base := base) D_law_row_by.F C_law_cell_at m_len m_range)
  have C_law_amount_by := D_law_amount_by.cl (ok_law_amount_by (P := l.prog) (w := w) (base := base) D_law_amount_by.F m_len m_max)
  have C_law_no_amount := D_law_no_amount.cl (ok_law_no_amount (P := l.prog) (w := w) (base := base) D_law_no_amount.F )
  have C_law_first := D_law_first.cl (ok_law_first (P := l.prog) (w := w) (base := base) D_law_first.F m_len m_range m_isinstance m_list C_law_whole)
  have C_law_refused := D_law_refused.cl (ok_law_refused (P := l.prog) (w := w) (base := base) D_law_refused.F C_first_way T_NoAmount g_NoAmount self_1)
  have C_law_refused_by_any := D_law_refused_by_any.cl (ok_law_refused_by_any (P := l.prog) (w := w) (base := base) D_law_refused_by_any.F C_first_way T_NoAmount T_CoinError g_CoinError under_1 m_isinstance m_ValueError D_law_kinds (fun hz hf => ok_law_kinds D_law_kinds.F m_isinstance T_NoAmount g_NoRow g_NoWay g_NoAmount g_TooGreat g_NoText q_NoAmount_NoRow q_NoAmount_NoWay q_NoAmount_NoAmount q_NoAmount_TooGreat q_NoAmount_NoText rfl hz hf))
  exact ok_law D_law.F m_len m_range m_list C_law_cell_at C_law_row_by C_law_amount_by C_law_no_amount C_law_refused C_law_refused_by_any C_first_way C_law_first
end My
open PySem PySem.W PyProof.Rows
set_option maxRecDepth 100000 in
set_option maxHeartbeats 0 in
theorem PySem.Challenge.cw_coinjudge_k02_the_first_way_holds : PySem.Challenge.rw_coinjudge_k02_the_first_way.Holds := by
  w_on; o_law; k_head; (case hw => w_witness2)
  k_fill
  refine L2.walk_of (l := PySem.Challenge.rw_coinjudge_k02_the_first_way) (n := 63) (k := 4) (x := "_law_script") (CX := fun _ => L2.CX0) (sp := fun w => My.spLaw _) rfl (by decide) rfl ⟨rfl, by decide, by decide⟩ (fun w h Y => PySem.W.kIn_of Y) ?F (fun _ _ a ns hl _ hS => ⟨a, ns, rfl, hS, hl, fun _ => rfl⟩) (fun _ _ _ _ _ h => h)
  case F =>
    intro w mg fa h KX G hmg
    refine' My.all_mk KX G hmg ?a_check_amount ?l_check_amount ?c_check_amount ?k_check_amount ?a_first_way ?l_first_way ?c_first_way ?k_first_way ?a_law_whole ?l_law_whole ?c_law_whole ?k_law_whole ?a_law_cell_at ?l_law_cell_at ?c_law_cell_at ?k_law_cell_at ?a_law_row_by ?l_law_row_by ?c_law_row_by ?k_law_row_by ?a_law_kinds ?l_law_kinds ?c_law_kinds ?k_law_kinds ?a_law_amount_by ?l_law_amount_by ?c_law_amount_by ?k_law_amount_by ?a_law_no_amount ?l_law_no_amount ?c_law_no_amount ?k_law_no_amount ?a_law_first ?l_law_first ?c_law_first ?k_law_first ?a_law_refused ?l_law_refused ?c_law_refused ?k_law_refused ?a_law_refused_by_any ?l_law_refused_by_any ?c_law_refused_by_any ?k_law_refused_by_any ?a_law ?l_law ?c_law ?k_law ?z_len ?z_range ?z_isinstance ?z_int ?z_bool ?z_max ?z_list ?z_ValueError ?n_NoAmount ?n_CoinError ?n_NoRow ?n_NoWay ?n_TooGreat ?n_NoText ?xC_NoAmount ?kC_NoAmount ?bC_NoAmount ?tC_NoAmount ?hd_NoAmount ?ga_NoAmount ?gt_NoAmount ?cl_NoAmount ?mr_NoAmount ?vE_NoAmount ?xC_CoinError ?kC_CoinError ?bC_CoinError ?tC_CoinError ?hd_CoinError ?ga_CoinError ?gt_CoinError ?cl_CoinError ?mr_CoinError ?vE_CoinError ?spG ?tkG ?v_MOST_AMOUNT ?self_1 ?under_1 ?q_NoAmount_NoRow ?q_NoAmount_NoWay ?q_NoAmount_NoAmount ?q_NoAmount_TooGreat ?q_NoAmount_NoText
    (case a_check_amount => k_is); (case l_check_amount => k_is); (case c_check_amount => k_is); (case k_check_amount => k_is)
    (case a_first_way => k_is); (case l_first_way => k_is); (case c_first_way => k_is); (case k_first_way => k_is)
    (case a_law_whole => k_is); (case l_law_whole => k_is); (case c_law_whole => k_is); (case k_law_whole => k_is)
    (case a_law_cell_at => k_is); (case l_law_cell_at => k_is); (case c_law_cell_at => k_is); (case k_law_cell_at => k_is)
    (case a_law_row_by => k_is); (case l_law_row_by => k_is); (case c_law_row_by => k_is); (case k_law_row_by => k_is)
    (case a_law_kinds => k_is); (case l_law_kinds => k_is); (case c_law_kinds => k_is); (case k_law_kinds => k_is)
    (case a_law_amount_by => k_is); (case l_law_amount_by => k_is); (case c_law_amount_by => k_is); (case k_law_amount_by => k_is)
    (case a_law_no_amount => k_is); (case l_law_no_amount => k_is); (case c_law_no_amount => k_is); (case k_law_no_amount => k_is)
    (case a_law_first => k_is); (case l_law_first => k_is); (case c_law_first => k_is); (case k_law_first => k_is)
    (case a_law_refused => k_is); (case l_law_refused => k_is); (case c_law_refused => k_is); (case k_law_refused => k_is)
    (case a_law_refused_by_any => k_is); (case l_law_refused_by_any => k_is); (case c_law_refused_by_any => k_is); (case k_law_refused_by_any => k_is)
    (case a_law => k_is); (case l_law => k_is); (case c_law => k_is); (case k_law => k_is)
    (case z_len => k_is); (case z_range => k_is); (case z_isinstance => k_is); (case z_int => k_is)
    (case z_bool => k_is); (case z_max => k_is); (case z_list => k_is); (case z_ValueError => k_is)
    (case n_NoAmount => k_is); (case n_CoinError => k_is); (case n_NoRow => k_is); (case n_NoWay => k_is)
    (case n_TooGreat => k_is); (case n_NoText => k_is); (case xC_NoAmount => k_exc); (case kC_NoAmount => k_is)
    (case bC_NoAmount => k_is); (case tC_NoAmount => k_is); (case hd_NoAmount => k_is); (case ga_NoAmount => k_is)
    (case gt_NoAmount => k_is); (case cl_NoAmount => k_is); (case mr_NoAmount => k_is); (case vE_NoAmount => first | rfl | k_is)
    (case xC_CoinError => k_exc); (case kC_CoinError => k_is); (case bC_CoinError => k_is); (case tC_CoinError => k_is)
    (case hd_CoinError => k_is); (case ga_CoinError => k_is); (case gt_CoinError => k_is); (case cl_CoinError => k_is)
    (case mr_CoinError => k_is); (case vE_CoinError => first | rfl | k_is); (case spG => k_is); (case tkG => k_is)
    (case v_MOST_AMOUNT => k_is); (case self_1 => first | rfl | k_is); (case under_1 => first | rfl | k_is); (case q_NoAmount_NoRow => first | rfl | k_is)
    (case q_NoAmount_NoWay => first | rfl | k_is); (case q_NoAmount_NoAmount => first | rfl | k_is); (case q_NoAmount_TooGreat => first | rfl | k_is); (case q_NoAmount_NoText => first | rfl | k_is)
