import PyProof.Rows.All
import Wide.All
import OpenK.AllK
import Wide.FinOn
import HandS.ForMost
import HandS.ForExc
import HandS.CallSlots
import HandS.ExcCtx
import HandS.IsInst
import HandS.Defaults
import HandS.TupAny
import HandS.TupMul
import HandS.Wide
import HandS.Conv
import HandS.Flow
import HandS.Codes
import HandS.Zip
import PySem.Challenge.RW_stillends_k05_whole_places
import HandS.Iter
import KE.GoesEnum
import KE.GoesMore
import HandS.DictComp
import HandS.SetBool
import HandS.SetTxt0
import HandS.SortInts
import PyProof.Rows.SortStr
import HandS.Lambda
import HandS.SortKw
import KE.SortKeyHeap
import HandS.Words
import KE.OsSortAny
import KE.KDictSum
import HandS.Walk
import PyProof.StrBlock2
import HandS.Deep
import HandS.TupLen
import HandS.EndTab
set_option Elab.async false
set_option linter.all false
set_option maxRecDepth 100000
set_option maxHeartbeats 2000000
namespace PySem
namespace NUsX
open PySem.W PySem.Calls PyProof.Rows PySem.HandSPX
def iA (p1 p2 : Pos) : Arguments := { posonlyargs := [], args := [{ arg := "self", annotation := none, pos := p1 }, { arg := "word", annotation := none, pos := p2 }], vararg := none, kwonlyargs := [], kw_defaults := [], kwarg := none, defaults := [] }
def iB (q1 q2 q3 q4 : Pos) : List Stmt := [.Assign [.Attribute (.Name "self" q1) "word" q2] (.Name "word" q3) q4]
def iS : Scope := { kind := .function, names := [(PySem.Str.ofString "self", .local), (PySem.Str.ofString "word", .local)], isGenerator := false, isCoroutine := false, more := [] }
structure NUsTxt (K : Frag) (mg : Str → Option Value) (C fI : Addr) : Prop where
  gC : mg "NotUsable" = some (.ref C)
  cls : ∃ nm q N bs bm sn sub ab col dd k0 k1 k2 k3 k5, K.lookup C = some (excClassObj nm q C N bs bm true sn sub ab col dd k0 k1 k2 k3 k5 "ValueError.__new__") ∧ refsVE bm = true
  sa : findIn K (.ref C) "__setattr__" = some (some (.builtin "object.__setattr__"))
  ga : findIn K (.ref C) "__getattribute__" = some (some (.builtin "BaseException.__getattribute__"))
  gg : findIn K (.ref C) "__getattr__" = some none
  noN : findIn K (.ref C) "word" = some none
  iC : findIn K (.ref C) "__init__" = some (some (.ref fI))
  tC : typeIn K (.ref fI) = some (.type "function")
  kC : keepIn K (.ref C) = true
  exC : subIn K (.ref C) (.type "BaseException") = some true
  tyC : typeIn K (.ref C) = some (.type "type")
  hdC : hasDictIn K C = true
  te : exmOne K (.ref C) (.ref C) = some true
  fn : ∃ (oc : Value) (od : Option Addr) (doc pm : Value) (an : Option Addr) (cdv ct : Value) (osl : Array (Option Value)) (p1 p2 q1 q2 q3 q4 : Pos),
    K.lookup fI = some ⟨oc, od, .func (fnOf "__init__" "NotUsable.__init__" (iA p1 p2) (iB q1 q2 q3 q4) iS .none .none doc pm an cdv ct), osl⟩ ∧ codeIn K cdv "NotUsable.__init__" = true
theorem one_size (v : Value) : [v].length ≤ sizeLine := by
  rw [sizeLine_eq]
  exact (by decide : 1 ≤ 16777216)
theorem kept_but {K : Frag} {h h' : Heap} {x : Addr} (X : K.In h) (hx : K.lookup x = none) (k : ∀ b o, b ≠ x → h.get? b = some o → h'.get? b = some o) : K.In h' := fun a o e =>
  k a o (fun z => by rw [z, hx] at e; cases e) (X a o e)
theorem ldC {M : Model} {s : Shared} {name : Str} {scope : Scope} {L a : Addr} {cd : Value} {m : Str → Option Value} {x : Str} {pos : Pos} {v : Value} {Q : Value → Shared → Prop} {A : Around} {E : Value → Shared → Prop} (hn : s.heap.Ns L m) (hv : m x = some v) (h : Q v s)
    (hk : scope.kind = .function := by rfl) (hl : (envOfC name scope L a cd).kindOf x = some .local := by rfl) (hd : (x == ("__debug__" : Str)) = false := by decide) :
    wpAny M A (eval (.Name x pos) (envOfC name scope L a cd)) Q E s := wpAny_Name (wpAny_loadName_local hk hl hn hv h) hd
structure InitEnd (h h' : Heap) (x C dx t1 : Addr) (v : Value) : Prop where
  keep : ∀ b o, b ≠ x → h.get? b = some o → h'.get? b = some o
  obj : h'.get? x = some { cls := .ref C, dict := some dx, data := .fields #[.ref t1, .none, .none, .none, .bool false, .none] }
  dbig : h.objs.size ≤ dx
  dne : dx ≠ x
  ns : h'.Ns1 dx (fun y => if y = "word" then some v else none)
structure OwnMade (h h' : Heap) (e C d : Addr) (v : Value) : Prop where
  keep : ∀ b o, h.get? b = some o → h'.get? b = some o
  new : h.objs.size ≤ e
  obj : ∃ oe vs, h'.get? e = some oe ∧ oe.cls = .ref C ∧ oe.dict = some d ∧ oe.data = .fields vs ∧ vs[1]? = some .none ∧ vs[2]? = some .none
  dbig : h.objs.size ≤ d
  dne : d ≠ e
  ns : h'.Ns1 d (fun y => if y = "word" then some v else none)
section
variable {prog : Program} {w : World} {A : Around} {E : Value → Shared → Prop} {R : Result → Shared → Prop} {s : Shared} {K : Frag} {mg : Str → Option Value} {C fI : Addr}
theorem nus_init (T : NUsTxt K mg C fI) {x t0 : Addr} {v : Value} (X : K.In s.heap) (hlim : s.heap.NoLimit) (hx : s.heap.get? x = some (excO C t0)) (hnx : K.lookup x = none) (hroom : A.depth < recursionLimit)
    (hq : ∀ h' tk dx, InitEnd s.heap h' x C dx t0 v → R (.ok (.ret .none)) { s with heap := h', toks := tk }) :
    codeAny (model prog w) A (.call (.ref fI) ⟨[.ref x, v], []⟩) R s := by
  obtain ⟨oc, od, doc, pm, an, cdv, ct, osl, p1, p2, q1, q2, q3, q4, ho, hcd⟩ := T.fn
  obtain ⟨nm, q, N, bs, bm, sn, sub, ab, col, dd, k0, k1, k2, k3, k5, hC, hbm⟩ := T.cls
  have hcl : clsIn K C = some { name := nm, bases := bs, mro := .ref C :: bm, ns := N, qualname := q, hasDict := true, slotNames := sn, subclasses := sub, abstract := ab, collection := col, hasDel := false } := by unfold clsIn; rw [hC] <;> rfl
  refine Att.call_fn (binds := [("self", .ref x), ("word", v)]) X hlim ho hcd hroom (BindsTo.of_eq (by first | rfl | with_unfolding_all rfl)) (by first | rfl | decide | with_unfolding_all rfl) (fun s₁ IC => ?_) rfl rfl rfl
  obtain ⟨h₁, tk₁, rfl⟩ := IC.toInCall.same
  have k : ∀ b o, s.heap.get? b = some o → h₁.get? b = some o := IC.toInCall.keep
  have hn := IC.toInCall.ns
  have hxL : s.heap.objs.size ≠ x := Nat.ne_of_gt (Heap.lt_size hx)
  have X₁ : K.In h₁ := X.keeps k
  have hx₁ := k _ _ hx
  show wpAny _ _ (execs _ _) _ _ _
  refine wpAny_execs_cons (plainObj_wpAny_Assign_Attribute ?_)
  refine ldC (v := v) hn (by first | rfl | with_unfolding_all rfl | kernel_rfl) (ldC (v := .ref x) hn (by first | rfl | with_unfolding_all rfl | kernel_rfl) ?_)
  refine set_plain X₁ (ox := excO C t0) (od := none) ⟨hx₁, rfl, rfl, trivial⟩ T.sa ?_
  refine exc_osa X₁ hx₁ hcl (show refsVE (.ref C :: bm) = true from hbm) rfl T.noN (fun h₃ tk₃ dx k₃ dn dne hx₃ hn₃ => ?_)
  show wpAny _ _ (execs _ _) _ _ _
  have z : s.heap.objs.size < h₁.objs.size := hn.lt
  exact wpAny_execs_nil (hq h₃ tk₃ dx ⟨fun b o hb e => k₃ b o hb (k b o e), hx₃, Nat.le_of_lt (Nat.lt_of_lt_of_le z dn), dne, hn₃⟩)
theorem nus_made (T : NUsTxt K mg C fI) {v : Value} (X : K.In s.heap) (hlim : s.heap.NoLimit) (hroom : A.depth + 1 < recursionLimit)
    (hq : ∀ h' tk e d, OwnMade s.heap h' e C d v → R (.ok (.ret (.ref e))) { s with heap := h', toks := tk }) :
    codeAny (model prog w) A (.call (.ref C) ⟨[v], []⟩) R s := by
  obtain ⟨nm, q, N, bs, bm, sn, sub, ab, col, dd, k0, k1, k2, k3, k5, hC, hbm⟩ := T.cls
  obtain ⟨hp, g, dr, tk, os⟩ := s
  have k : ∀ b o, hp.get? b = some o → ((hp.push (kdv_tup [v])).push (excO C hp.objs.size)).get? b = some o := fun b o e => Heap.get?_push_of_some _ (Heap.get?_push_of_some _ e)
  have hget : ((hp.push (kdv_tup [v])).push (excO C hp.objs.size)).get? (hp.objs.size + 1) = some (excO C hp.objs.size) := by heap_get
  have hnx : K.lookup (hp.objs.size + 1) = none := by
    cases e : K.lookup (hp.objs.size + 1) with
    | none => rfl
    | some o =>
      have z : hp.get? (hp.objs.size + 1) = some o := X _ _ e
      exact absurd (Nat.lt_of_succ_lt (Heap.lt_size z)) (Nat.lt_irrefl _)
  refine call_own F.excBase_ValueError (fun X => refsVE_contains X bm hbm) (X _ _ hC) (looks_findIn X T.iC) (fun self => bind_fn X self T.tC) (one_size v) ?_
  refine nus_init (s := ⟨(hp.push (kdv_tup [v])).push (excO C hp.objs.size), g, dr, tk, os⟩) T (X.keeps k) (hlim.keeps k) hget hnx ?_ fun h' tk' dx ⟨k', hx, dn, dne, hns⟩ => ?_
  · show A.depth + 1 < recursionLimit
    exact hroom
  · have old : ∀ b o, hp.get? b = some o → h'.get? b = some o := fun b o e => k' b o (Nat.ne_of_lt (Nat.lt_succ_of_lt (Heap.lt_size e))) (k b o e)
    have z : hp.objs.size + 1 + 1 ≤ dx := by
      first
        | (simpa only [Heap.size_push] using dn)
        | exact dn
        | (have q := dn; rw [Heap.size_push, Heap.size_push] at q; exact q)
    exact ⟨rfl, hq h' tk' (hp.objs.size + 1) dx ⟨old, Nat.le_succ _, ⟨_, _, hx, rfl, rfl, rfl, rfl, rfl⟩, Nat.le_trans (Nat.le_trans (Nat.le_succ _) (Nat.le_succ _)) z, dne, hns⟩⟩
end
end NUsX
end PySem
namespace L2
open PySem PySem.Spec PyProof.Rows
theorem relO_nus {v : V} {v' : Value} (r : RelV v v') (f : Str) : RelO (List.lookup f [(("word" : Str), v)]) (if f = "word" then some v' else none) := by
  by_cases hw : f = "word"
  · subst hw
    rw [if_pos rfl]
    have q : List.lookup ("word" : Str) [(("word" : Str), v)] = some v := by simp [List.lookup]
    rw [q]
    exact r
  · rw [if_neg hw]
    have qw : (f == ("word" : Str)) = false := by simpa using hw
    have q2 : List.lookup f [(("word" : Str), v)] = none := by simp [List.lookup, qw]
    rw [q2]
    trivial
section
variable {X : Cx} {C fI : Addr}
def tMkNus (C : Addr) (ta : TA) : St → Hp → XK → Prop := fun σ H Q => ta σ H fun vs H1 => ∃ v, vs = [v] ∧ ∀ d, H1 d = none → Q (.ref C) (some d) (upd H1 d (.xd [(("word" : Str), v)]))
theorem pmk_nus {a : Expr} {ta : TA} {p pos : Pos} {k : Nat} (T : PySem.NUsX.NUsTxt X.K X.mg C fI) (hr : Room k X.A) (ha : PA X [a] ta) (hg : Gl X "NotUsable" := by rfl)
    (he : starEach (a :: []) X.env = (false, eval a X.env) :: starEach [] X.env := by rfl) (hpl : (backTo pos (starEach [] X.env)).any (·.1) = false := by rfl) :
    PMk X (.Call (.Name "NotUsable" p) [a] [] pos) (tMkNus C ta) := by
  intro pins s σ H Q I h
  refine wpAny_Call_Name_kw (ld_glob I hg T.gC ?_)
  refine PySem.W.callWith_K (h₀ := X.base) I.ok.mod.kin T.kC (thn (ha.run pos pins s σ H _ I h) fun us s1 hh => ?_) he hpl
  obtain ⟨vs, H1, I1, r1, v, ev, q1⟩ := hh
  subst ev
  refine ⟨I1.kIn, ?_⟩
  cases r1 with
  | cons rv rn =>
    rename_i v' us'
    cases rn
    show wpAny _ _ (call (.ref C) [v']) _ _ _
    have hlim := I1.nolimit
    obtain ⟨hp, g, dr, tk, os⟩ := s1
    refine wpAny_call (PySem.NUsX.nus_made T I1.kIn hlim (by have := hr.dp; omega) fun h' tk' e d M => ?_)
    show MkP X pins σ Q (.ref e) ⟨h', g, dr, tk', os⟩
    obtain ⟨oe, fv, hoe, hc, hd, hdat, h1, h2⟩ := M.obj
    have hns := M.ns
    obtain ⟨G', g1, g2⟩ := restrict h' fun b => decide (b ≠ e)
    have gk : ∀ b, b ≠ e → G'.get? b = h'.get? b := fun b hb => g1 b (decide_eq_true hb)
    have ge : G'.get? e = none := g2 e (by simp)
    have old : ∀ b o, hp.get? b = some o → G'.get? b = some o := fun b o q => (gk b (Nat.ne_of_lt (Nat.lt_of_lt_of_le (Heap.lt_size q) M.new))).trans (M.keep b o q)
    have ob : ObjOk X.prog X.w (upd H1 d (.xd [(("word" : Str), v)])) G' d (.xd [(("word" : Str), v)]) :=
      ⟨_, hns.at (fun o q => (gk d M.dne).trans q), fun f => relO_nus rv f⟩
    have J : Inv X pins σ (upd H1 d (.xd [(("word" : Str), v)])) ⟨G', g, dr, tk', os⟩ := I1.laid (t' := tk') old M.dbig ob
    refine ⟨e, oe, fv, ⟨G', g, dr, tk', os⟩, _, .ref C, some d, rfl, J, fun b o q => ?_, ge, hoe, ⟨hc, hd⟩, hdat, h1, ?_, rfl, I1.bare, raises_own T.exC T.tyC, q1 d (I1.hok.fresh M.dbig)⟩
    · by_cases hb : b = e
      · have q' : G'.get? b = some o := q
        rw [hb, ge] at q'; cases q'
      · exact (gk b hb).symm.trans q
    · rw [upd_ne (Ne.symm M.dne)]
      exact I1.hok.fresh M.new
def tRaiseNus (C : Addr) (W : WX) (ta : TA) : TS := fun _ σ H => tMkNus C ta σ H fun cls d H' => W cls d σ H'
theorem ps_raiseNus {a : Expr} {ta : TA} {W : WX} {p pos pos2 : Pos} {k : Nat} (hc : X.calm = true) (T : PySem.NUsX.NUsTxt X.K X.mg C fI) (hr : Room k X.A) (tk : Takes X W) (ha : PA X [a] ta) (hg : Gl X "NotUsable" := by rfl)
    (he : starEach (a :: []) X.env = (false, eval a X.env) :: starEach [] X.env := by rfl) (hpl : (backTo pos (starEach [] X.env)).any (·.1) = false := by rfl) :
    PS X (.Raise (some (.Call (.Name "NotUsable" p) [a] [] pos)) none pos2) (tRaiseNus C W ta) := ps_raise hc tk (pmk_nus T hr ha hg he hpl)
theorem pmkN_nus {a : Expr} {ta : TA} {p pos : Pos} {k : Nat} (T : PySem.NUsX.NUsTxt X.K X.mg C fI) (hr : Room k X.A) (ha : PA X [a] ta) (hg : Gl X "NotUsable" := by rfl)
    (he : starEach (a :: []) X.env = (false, eval a X.env) :: starEach [] X.env := by rfl) (hpl : (backTo pos (starEach [] X.env)).any (·.1) = false := by rfl) :
    L2N.PMk X (.Call (.Name "NotUsable" p) [a] [] pos) (tMkNus C ta) := by
  intro pins s σ H Q I h
  refine wpAny_Call_Name_kw (ld_glob I hg T.gC ?_)
  refine PySem.W.callWith_K (h₀ := X.base) I.ok.mod.kin T.kC (thn (ha.run pos pins s σ H _ I h) fun us s1 hh => ?_) he hpl
  obtain ⟨vs, H1, I1, r1, v, ev, q1⟩ := hh
  subst ev
  refine ⟨I1.kIn, ?_⟩
  cases r1 with
  | cons rv rn =>
    rename_i v' us'
    cases rn
    show wpAny _ _ (call (.ref C) [v']) _ _ _
    have hlim := I1.nolimit
    obtain ⟨hp, g, dr, tk, os⟩ := s1
    refine wpAny_call (PySem.NUsX.nus_made T I1.kIn hlim (by have := hr.dp; omega) fun h' tk' e d M => ?_)
    show L2N.MkP X pins σ Q (.ref e) ⟨h', g, dr, tk', os⟩
    obtain ⟨oe, fv, hoe, hc, hd, hdat, h1, h2⟩ := M.obj
    have hns := M.ns
    obtain ⟨G', g1, g2⟩ := restrict h' fun b => decide (b ≠ e)
    have gk : ∀ b, b ≠ e → G'.get? b = h'.get? b := fun b hb => g1 b (decide_eq_true hb)
    have ge : G'.get? e = none := g2 e (by simp)
    have old : ∀ b o, hp.get? b = some o → G'.get? b = some o := fun b o q => (gk b (Nat.ne_of_lt (Nat.lt_of_lt_of_le (Heap.lt_size q) M.new))).trans (M.keep b o q)
    have ob : ObjOk X.prog X.w (upd H1 d (.xd [(("word" : Str), v)])) G' d (.xd [(("word" : Str), v)]) :=
      ⟨_, hns.at (fun o q => (gk d M.dne).trans q), fun f => relO_nus rv f⟩
    have J : Inv X pins σ (upd H1 d (.xd [(("word" : Str), v)])) ⟨G', g, dr, tk', os⟩ := I1.laid (t' := tk') old M.dbig ob
    refine ⟨e, oe, fv, ⟨G', g, dr, tk', os⟩, _, .ref C, some d, rfl, J, fun b o q => ?_, ge, hoe, ⟨hc, hd, fun vs e => by rw [hdat] at e; cases e; exact h2⟩, hdat, h1, ?_, rfl, I1.bare, raises_own T.exC T.tyC, q1 d (I1.hok.fresh M.dbig)⟩
    · by_cases hb : b = e
      · have q' : G'.get? b = some o := q
        rw [hb, ge] at q'; cases q'
      · exact (gk b hb).symm.trans q
    · rw [upd_ne (Ne.symm M.dne)]
      exact I1.hok.fresh M.new
theorem psN_raiseNus {a : Expr} {ta : TA} {W : WX} {p pos pos2 : Pos} {k : Nat} (hc : X.calm = true) (T : PySem.NUsX.NUsTxt X.K X.mg C fI) (hr : Room k X.A) (tk : L2N.Takes X W) (ha : PA X [a] ta) (hg : Gl X "NotUsable" := by rfl)
    (he : starEach (a :: []) X.env = (false, eval a X.env) :: starEach [] X.env := by rfl) (hpl : (backTo pos (starEach [] X.env)).any (·.1) = false := by rfl) :
    PS X (.Raise (some (.Call (.Name "NotUsable" p) [a] [] pos)) none pos2) (tRaiseNus C W ta) := L2N.ps_raise hc tk (pmkN_nus T hr ha hg he hpl)
def tByNus (C : Addr) (a : Addr) (cls : Value) (d : Option Addr) (te : TE) : TE := fun σ H Q => te σ H fun x H1 => x = .ref a ∧ cls = .ref C ∧ ∃ (dd : Addr) (v : V), d = some dd ∧ H1 dd = some (.xd [(("word" : Str), v)]) ∧ Q v H1
theorem pe_byNus {a : Addr} {oe : Obj} {cls : Value} {d : Option Addr} {pn : List (Addr × Obj)} {e : Expr} {te : TE} {pos : Pos} (T : PySem.NUsX.NUsTxt X.K X.mg C fI) (hz : Zc cls d oe) (hf : ∃ vs, oe.data = .fields vs) (he : PE (X.suite a ((a, oe) :: pn)) e te)
    (hb : attributeBase e "word" X.env (eval e X.env) = eval e X.env := by rfl) :
    PE (X.suite a ((a, oe) :: pn)) (.Attribute e "word" pos) (tByNus C a cls d te) := by
  refine ⟨fun pins s σ H Q I h => ?_⟩
  refine attr_of hb (thn (he.run pins s σ H _ I h) fun u s1 hh => ?_)
  obtain ⟨x, H1, I1, rx, ex, ec, dd, v, ed, ea, q⟩ := hh
  subst ex
  obtain rfl : u = Value.ref a := rx
  subst ec
  subst ed
  obtain ⟨ha, _⟩ := I1.pin (a, oe) (List.mem_append_left _ List.mem_cons_self)
  obtain ⟨vs, hd⟩ := hf
  have hx : ObjOk X.prog X.w H1 s1.heap dd (.xd [(("word" : Str), v)]) := I1.hok dd _ ea
  obtain ⟨mA, hns, hr⟩ := hx
  obtain ⟨od, ho, hl⟩ := lookIn_ns hns
  have l : List.lookup ("word" : Str) [(("word" : Str), v)] = some v := by simp [List.lookup]
  obtain ⟨u, hu, ru⟩ := RelO.some_of (v := v) (o := mA "word") (by rw [← l]; exact hr "word")
  have J : PySem.W.InstAt s1.heap a oe C (some od) := ⟨ha, hz.1, by unfold PySem.W.notCls; rw [hd] <;> rfl, by rw [hz.2]; exact ho⟩
  exact HandSPX.exc_get I1.kIn J T.ga T.gg T.exC (PySem.W.findObj_own T.hdC T.noN rfl (by rw [hl, hu])) (handed_of ru) ⟨v, H1, I1.tok _, ru, q⟩
end
end L2
set_option Elab.async false
set_option linter.all false
set_option maxRecDepth 100000
set_option maxHeartbeats 2000000
namespace Ver
open PySem PySem.Spec PyProof.Rows L2

def kindOfD : PyData → String
  | .none => "NoneType"
  | .bool _ => "bool"
  | .int _ => "int"
  | .str _ => "str"
  | .list _ => "list"
  | .tuple _ => "tuple"
  | .dict _ => "dict"
theorem tyx_of {K : PySem.W.Frag} {H : Hp} {x : V} {d : PyData} (h : Dp K H x d) : TyX K H x (.type (kindOfD d)) := by
  cases h with
  | non => exact .base .non
  | bl b => exact .base (.bl b)
  | int i => exact .base (.int i)
  | str s => exact .base (.str s)
  | lst hs _ =>
    rcases hs with (hs | ⟨o, hs⟩) | ⟨o, its, n, hk, hc, _⟩
    · exact .base (.lst hs)
    · exact .base (.frz hs)
    · exact .kList hk hc
  | tup hs _ =>
    rcases hs with (hs | ⟨o, hs⟩) | ⟨o, its, n, hk, hc, _⟩
    · exact .base (.tup hs)
    · exact .fTuple hs
    · exact .kTuple hk hc
def isaK (n k : String) : Bool := k == n || (n == "int" && k == "bool")
abbrev isaD (n : String) (d : PyData) : Bool := isaK n (kindOfD d)
def kinds7 : List String := ["NoneType", "bool", "int", "str", "list", "tuple", "dict"]
def asked5 : List String := ["int", "bool", "str", "tuple", "list"]
theorem kind_in (d : PyData) : kindOfD d ∈ kinds7 := by cases d <;> simp [kindOfD, kinds7]
theorem kit_all : kinds7.all (fun k => asked5.all fun n => kitB k n == some (isaK n k)) = true := by decide +kernel
theorem kit_asked {K : PySem.W.Frag} {n : String} (h : n ∈ asked5) (d : PyData) : PySem.W.kitOne K (.type (kindOfD d)) (.type n) = some (isaD n d) := by
  have h1 := List.all_eq_true.mp kit_all _ (kind_in d)
  exact kit_ty (eq_of_beq (List.all_eq_true.mp h1 _ h))
def rIsiD (K : PySem.W.Frag) (n : String) : List V → Hp → VK → Prop := fun vs H Q => ∃ x d, vs = [x, .ty n] ∧ Dp K H x d ∧ Q (.bl (isaD n d)) H
section
variable {X : Cx}
theorem cr_isiD {n : String} (hn : n ∈ asked5) : CallR X (.builtin "isinstance") (rIsiD X.K n) := by
  intro pins s σ H xs us Q I r h
  obtain ⟨x, d, rfl, hd, q⟩ := h
  exact call_isi pins s σ H _ us Q I r ⟨x, .ty n, _, _, _, rfl, .ty n, tyx_of hd, kit_asked hn d, q⟩

def tCallKw (sp : Sp) (n : Nat) (gV : List V → List V) (E : L2.St → XK) (tk : TA) : TE := fun σ H Q => tk σ H fun zs H1 => zs.length = n ∧ sp (gV zs) H1 Q (E σ)
variable {CX : CXT} {k : Nat} {f : Addr} {fd : FuncData} {ps ks : List Str} {sp : Sp} {E : L2.St → XK} {x : Str} {p pos : Pos} {kws : List Keyword} {tk : TA} {g : List Value → List Value} {gV : List V → List V}
theorem pe_callKw (F : FnOk X.prog X.w X.K X.mg X.base CX k f fd ps sp) (hr : Room k X.A) (hg : Gl X x) (hm : X.mg x = some (.ref f)) (hk : PySem.W.keepIn X.K (.ref f) = true)
    (hb : KBn X.K fd ps 0 ks (fun _ ws => g ws) (fun _ zs => gV zs)) (hx : ∀ σ, PassesAt CX X σ (E σ)) (hkw : PK X kws tk)
    (hall : (backToKw pos (keywordEach kws X.env)).all (·.1.isSome) = true := by rfl) (hks : (backToKw pos (keywordEach kws X.env)).filterMap (·.1) = ks := by rfl) (hdb : (x == ("__debug__" : Str)) = false := by decide)
    (hpl : ((backTo pos (starEach [] X.env)).any (·.1) || (backToKw pos (keywordEach kws X.env)).any (·.1.isNone)) = false := by rfl) :
    PE X (.Call (.Name x p) [] kws pos) (tCallKw sp ks.length gV E tk) := by
  refine ⟨fun pins s σ H Q I h => ?_⟩
  refine wpAny_Call_Name_kw (ld_glob I hg hm ?_ hdb)
  refine PySem.W.callWith_KW0 (h₀ := X.base) I.ok.mod.kin hk hall ?_ hpl
  refine thn (hkw.run pos pins s σ H _ I h) fun ws s2 ⟨zs, H2, I2, rz, hl, q⟩ => ⟨I2.kIn, ?_⟩
  rw [hks]
  have r2 : Vals (gV zs) (g ws) := hb.rel (vs := []) (us := []) .nil rz
  have hto : BindsTo s2 fd ⟨[], ks.zip ws⟩ (ps.zip (g ws)) := hb.to s2 [] ws I2.kIn rfl (rz.length.symm.trans hl)
  show wpAny _ _ (call (.ref f) [] (ks.zip ws)) _ _ _
  refine wpAny_call (codeAny_mono (F.run X.A X.stack s2 H2 ⟨[], ks.zip ws⟩ (g ws) (gV zs) Q (E σ) hr I2.env0 hto r2 q) fun r s' hq => ?_)
  cases r with
  | error e => exact hx σ pins H2 s2 e s' I2 hq
  | ok fl =>
    cases fl with
    | ret u => exact I2.after hq
    | next => exact False.elim hq
    | brk => exact False.elim hq
    | cont => exact False.elim hq

theorem tuple_mul1 (l : Addr) (items : Array Value) (n : Nat) (dd : Option Addr) (sl : Array (Option Value)) (u : Tok) :
    Meets (Builtin.«tuple.__mul__» ⟨[.ref l, .int 1 u], []⟩) (fun _ R s => s.heap.get? l = some { cls := .type "tuple", dict := dd, data := .seq items n, slots := sl } ∧ R (.ok (.ret (Value.ref l))) s) :=
  .of_wp fun prog w A R s h => by
    obtain ⟨hp, g, d, tk, os⟩ := s
    obtain ⟨hl, h⟩ := h
    have f1 := AutoSeq1.idx_int
    wp_walk using wpAny_loadPart' hl
    exact ⟨_, rfl, h⟩
def rRepA (K : PySem.W.Frag) : R2 := fun x y H Q => ∃ l k xs, x = .ref l ∧ y = .int k ∧ SqT K H l xs ∧ xs ≠ [] ∧ 1 ≤ k ∧ k ≤ 1000 ∧ xs.length ≤ 1000 ∧
  (k = 1 → Q (.ref l) H) ∧ (k ≠ 1 → ∀ p, H p = none → Q (.ref p) (upd H p (.tup (List.replicate k.toNat xs).flatten)))
theorem op_repA : OpR X (binaryOp .Mult) (rRepA X.K) := by
  intro pins s σ H x y v u Q I rx ry h
  obtain ⟨l, k, xs, rfl, rfl, hT, hne, h1, h2, hz, q1, q2⟩ := h
  by_cases h3 : k = 1
  · subst h3
    cases rx
    obtain ⟨t, rfl⟩ := ry
    obtain ⟨its, r, ⟨⟨cls, dd, data, sl⟩, ho, hc, n, hd⟩, hs⟩ := I.tuple hT
    simp only at hc hd
    subst hc hd
    exact wpAny_binaryOp_repeat_ref (T := "tuple") (U := "int") (by decide) ⟨_, ho, rfl⟩ (fun s' => typeIs_int s' 1 t) noFill_tuple_mul F.fills_int_mul F.slot_int_rmul repeat_tuple F.slot_int_index.lookup
      (call_meets F.slot_int_rmul (typeIs_int s 1 t) F.entry_int_rmul (F.args_int_rmul_2 _ _) (int_rmul_tuple 1 t l its.toArray n dd sl)
        ⟨ho, rfl, ⟨_, ho, rfl⟩, call_meets F.slot_tuple_mul ⟨_, ho, rfl⟩ F.entry_tuple_mul (F.args_tuple_mul_2 _ _) (tuple_mul1 l its.toArray n dd sl t) ⟨ho, .ref l, H, I, rfl, q1 rfl⟩⟩)
  · exact op_repT pins s σ H _ _ v u Q I rx ry ⟨l, k, xs, rfl, rfl, hT, hne, by omega, h2, hz, q2 h3⟩
end

theorem seqT_grow {K : PySem.W.Frag} {H H' : Hp} {a : Addr} {xs : List V} (e : Same H H') (h : SqT K H a xs) : SqT K H' a xs := by
  rcases h with (h | ⟨o, h⟩) | h
  · exact .inl (.inl (e _ _ h))
  · exact .inl (.inr ⟨o, e _ _ h⟩)
  · exact .inr h
mutual
theorem dp_grow {K : PySem.W.Frag} {H H' : Hp} (e : Same H H') : ∀ {d : PyData} {v : V}, Dp K H v d → Dp K H' v d
  | .none, _, h => by cases h; exact .non
  | .bool b, _, h => by cases h; exact .bl b
  | .int i, _, h => by cases h; exact .int i
  | .str x, _, h => by cases h; exact .str x
  | .list ds, _, h => by
    cases h with
    | lst hs ha => exact .lst (e.seq hs) (dpAll_grow e ha)
  | .tuple ds, _, h => by
    cases h with
    | tup hs ha => exact .tup (seqT_grow e hs) (dpAll_grow e ha)
  | .dict _, _, h => by cases h
theorem dpAll_grow {K : PySem.W.Frag} {H H' : Hp} (e : Same H H') : ∀ {ds : List PyData} {vs : List V}, DpAll K H vs ds → DpAll K H' vs ds
  | [], _, h => by cases h; exact .nil
  | d :: ds, _, h => by
    cases h with
    | cons h1 h2 => exact .cons (dp_grow e h1) (dpAll_grow e h2)
end
theorem same_new {H : Hp} {p : Addr} {o : HO} (h : H p = none) : Same H (upd H p o) := fun b x e => by
  rw [upd_ne (ne_of_none e h)]
  exact e
end Ver
set_option Elab.async false
set_option linter.all false
set_option maxRecDepth 100000
set_option maxHeartbeats 2000000
namespace Ver
open PySem PySem.Spec PyProof.Rows L2
theorem wipe_one (σ : L2.St) (i : Nat) (v : Option V) : wipe ((wipe σ [i]).set i v) [i] = wipe σ [i] := by
  show (((σ.set i none).set i v).set i none) = σ.set i none
  rw [List.set_set, List.set_set]
def Turned (D : Addr) (S : List V → Hp → Prop) (n : Nat) : VK := fun y H4 => ∃ acc, H4 D = some (.lst acc) ∧ acc.length < sizeLine ∧ ∃ acc2, acc2.length = n + 1 ∧ S acc2 (upd H4 D (.lst (acc ++ [y]))) ∧ (upd H4 D (.lst (acc ++ [y]))) D = some (.lst acc2)
theorem turned {D : Addr} {S : List V → Hp → Prop} {acc : List V} {y : V} {H4 : Hp} (hD : H4 D = some (.lst acc)) (hz : acc.length < sizeLine) (s : S (acc ++ [y]) (upd H4 D (.lst (acc ++ [y])))) : Turned D S acc.length y H4 :=
  ⟨acc, hD, hz, acc ++ [y], by rw [List.length_append]; rfl, s, upd_same⟩
section
variable {K : PySem.W.Frag} {a : Addr} {xs : List V} {i : Nat} {te : TE} {σ : L2.St} {H1 : Hp} {D : Addr} {Qd : Hp → Prop}
theorem comp_tup (S : List V → Hp → Prop) (h0 : S [] (upd H1 D (.lst []))) (hl : ∀ acc H, S acc H → SqT K H a xs)
    (hs : ∀ acc x H, xs[acc.length]? = some x → S acc H → H D = some (.lst acc) → te ((wipe σ [i]).set i (some x)) H (Turned D S acc.length))
    (hd : ∀ acc H, acc.length = xs.length → S acc H → H D = some (.lst acc) → Qd H) :
    ∃ W : Nat → Nat → Hp → Prop, (∃ m, W 0 m (upd H1 D (.lst []))) ∧ ∀ j m H, W j m H →
      ((Itt K a).stop j H ∧ Qd H) ∨ ((Itt K a).go j H ∧ ∃ Nx : Hp → Prop, (∀ H', Nx H' → ∃ m', m' < m ∧ W (j + 1) m' H') ∧ ∀ x H', (Itt K a).yld j H x H' → gName i x (wipe σ [i]) H' fun σ2 H2 => wipe σ2 [i] = wipe σ [i] ∧ tYes σ2 H2 fun b H3 =>
        if b = true then te σ2 H3 fun y H4 => ∃ acc, H4 D = some (.lst acc) ∧ acc.length < sizeLine ∧ Nx (upd H4 D (.lst (acc ++ [y]))) else Nx H3) := by
  refine lc_tup (K := K) (a := a) (xs := xs) (fun n H => ∃ acc, acc.length = n ∧ S acc H ∧ H D = some (.lst acc)) ⟨[], rfl, h0, upd_same⟩ (fun n H _ ⟨acc, _, h, _⟩ => hl acc H h) (fun n x H e ⟨acc, hn, h, hD⟩ => ?_) (fun H ⟨acc, hn, h, hD⟩ => hd acc H hn h hD)
  subst hn
  refine ⟨wipe_one σ i _, ?_⟩
  unfold tYes
  dsimp only
  rw [if_pos rfl]
  exact hs acc x H e h hD
theorem comp_list (S : List V → Hp → Prop) (h0 : S [] (upd H1 D (.lst []))) (hl : ∀ acc H, S acc H → SqL K H a xs)
    (hs : ∀ acc x H, xs[acc.length]? = some x → S acc H → H D = some (.lst acc) → te ((wipe σ [i]).set i (some x)) H (Turned D S acc.length))
    (hd : ∀ acc H, acc.length = xs.length → S acc H → H D = some (.lst acc) → Qd H) :
    ∃ W : Nat → Nat → Hp → Prop, (∃ m, W 0 m (upd H1 D (.lst []))) ∧ ∀ j m H, W j m H →
      ((Itl K a).stop j H ∧ Qd H) ∨ ((Itl K a).go j H ∧ ∃ Nx : Hp → Prop, (∀ H', Nx H' → ∃ m', m' < m ∧ W (j + 1) m' H') ∧ ∀ x H', (Itl K a).yld j H x H' → gName i x (wipe σ [i]) H' fun σ2 H2 => wipe σ2 [i] = wipe σ [i] ∧ tYes σ2 H2 fun b H3 =>
        if b = true then te σ2 H3 fun y H4 => ∃ acc, H4 D = some (.lst acc) ∧ acc.length < sizeLine ∧ Nx (upd H4 D (.lst (acc ++ [y]))) else Nx H3) := by
  refine lc_list (K := K) (a := a) (xs := xs) (fun n H => ∃ acc, acc.length = n ∧ S acc H ∧ H D = some (.lst acc)) ⟨[], rfl, h0, upd_same⟩ (fun n H _ ⟨acc, _, h, _⟩ => hl acc H h) (fun n x H e ⟨acc, hn, h, hD⟩ => ?_) (fun H ⟨acc, hn, h, hD⟩ => hd acc H hn h hD)
  subst hn
  refine ⟨wipe_one σ i _, ?_⟩
  unfold tYes
  dsimp only
  rw [if_pos rfl]
  exact hs acc x H e h hD
theorem comp_range {n : Nat} (S : List V → Hp → Prop) (h0 : S [] (upd H1 D (.lst [])))
    (hs : ∀ acc H, acc.length < n → S acc H → H D = some (.lst acc) → te ((wipe σ [i]).set i (some (.int (acc.length : Int)))) H (Turned D S acc.length))
    (hd : ∀ acc H, acc.length = n → S acc H → H D = some (.lst acc) → Qd H) :
    ∃ W : Nat → Nat → Hp → Prop, (∃ m, W 0 m (upd H1 D (.lst []))) ∧ ∀ j m H, W j m H →
      ((Itr 0 n).stop j H ∧ Qd H) ∨ ((Itr 0 n).go j H ∧ ∃ Nx : Hp → Prop, (∀ H', Nx H' → ∃ m', m' < m ∧ W (j + 1) m' H') ∧ ∀ x H', (Itr 0 n).yld j H x H' → gName i x (wipe σ [i]) H' fun σ2 H2 => wipe σ2 [i] = wipe σ [i] ∧ tYes σ2 H2 fun b H3 =>
        if b = true then te σ2 H3 fun y H4 => ∃ acc, H4 D = some (.lst acc) ∧ acc.length < sizeLine ∧ Nx (upd H4 D (.lst (acc ++ [y]))) else Nx H3) := by
  refine lc_range (lo := 0) (n := n) (fun k H => ∃ acc, acc.length = k ∧ S acc H ∧ H D = some (.lst acc)) ⟨[], rfl, h0, upd_same⟩ (fun k H lt ⟨acc, hn, h, hD⟩ => ?_) (fun H ⟨acc, hn, h, hD⟩ => hd acc H hn h hD)
  subst hn
  rw [Int.zero_add]
  refine ⟨wipe_one σ i _, ?_⟩
  unfold tYes
  dsimp only
  rw [if_pos rfl]
  exact hs acc H lt h hD
end
theorem for_range0 {n : Nat} {g : TG} {tb : TS} {D : Ends} {σ : L2.St} {H : Hp} (Pv : Nat → L2.St → Hp → Prop) (h0 : Pv 0 σ H)
    (hs : ∀ i σ H, i < n → Pv i σ H → g (.int (i : Int)) σ H fun σ2 H2 => tb { D with nx := Pv (i + 1), ct := Pv (i + 1), bk := D.nx } σ2 H2) (hd : ∀ σ H, Pv n σ H → D.nx σ H) :
    ∃ W : Nat → Nat → L2.St → Hp → Prop, (∃ m, W 0 m σ H) ∧ ∀ i m σ H, W i m σ H →
      ((Itr 0 n).stop i H ∧ D.nx σ H) ∨ ((Itr 0 n).go i H ∧ ∃ N : L2.St → Hp → Prop, (∀ σ' H', N σ' H' → ∃ m', m' < m ∧ W (i + 1) m' σ' H') ∧ ∀ x H', (Itr 0 n).yld i H x H' → g x σ H' fun σ2 H2 => tb { D with nx := N, ct := N, bk := D.nx } σ2 H2) :=
  for_range (lo := 0) (n := n) Pv h0 (fun i σ H lt h => by rw [Int.zero_add]; exact hs i σ H lt h) hd
section
variable {X : Cx} {K : PySem.W.Frag}
def rLenQ (K : PySem.W.Frag) : List V → Hp → VK → Prop := fun xs H Q => ∃ p ys, xs = [.ref p] ∧ (SqL K H p ys ∨ SqT K H p ys) ∧ Q (.int ys.length) H
theorem cr_lenK (h : X.K = K) : CallR X (.builtin "len") (rLenQ K) := by
  subst h
  exact call_len_seq
theorem ix_tupK (h : X.K = K) : IxR X (rIxT K) := by
  subst h
  exact ix_tup
theorem ix_listK (h : X.K = K) : IxR X (rIxL K) := by
  subst h
  exact ix_list
end
section
variable {X : Cx} {K : PySem.W.Frag} {tg l : Expr} {tl : TE}
theorem pi_tupK (h : X.K = K) (hl : PE X l tl) : PI X tg l (iTup K tl) := by
  subst h
  exact pi_tup hl
theorem pi_listK (h : X.K = K) (hl : PE X l tl) : PI X tg l (iList K tl) := by
  subst h
  exact pi_list hl
theorem cr_minK (h : X.K = K) (hc : X.calm = true) : CallR X (.builtin "min") (rMin K) := by
  subst h
  exact cr_min hc
end
def lcScope : Expr → Scope
  | .ListComp _ _ sc _ => sc
  | _ => { kind := .function, names := [], isGenerator := false, isCoroutine := false }
def asgVal : Stmt → Expr
  | .Assign _ e _ => e
  | _ => .Constant .none 0 ⟨0, 0, 0, 0⟩
def SameBut1 (p : Addr) (H H' : Hp) : Prop := ∀ b o, b ≠ p → H b = some o → H' b = some o
theorem small {n : Nat} (h : n ≤ 100000) : n < sizeLine := Nat.lt_of_le_of_lt h (by decide)
theorem small' {n : Nat} (h : n ≤ 100000) : n ≤ sizeLine := Nat.le_of_lt (small h)
theorem dpAll_len {K : PySem.W.Frag} {H : Hp} : ∀ {vs : List V} {ds : List PyData}, DpAll K H vs ds → vs.length = ds.length
  | _, [], h => by cases h; rfl
  | _, d :: ds, h => by
    cases h with
    | cons _ t => rw [List.length_cons, List.length_cons, dpAll_len t]
theorem dpAll_get {K : PySem.W.Frag} {H : Hp} : ∀ {vs : List V} {ds : List PyData} {i : Nat} {v : V}, DpAll K H vs ds → vs[i]? = some v → ∃ d, ds[i]? = some d ∧ Dp K H v d
  | _, [], i, v, h, e => by cases h; simp at e
  | _, d :: ds, 0, v, h, e => by
    cases h with
    | cons h1 _ =>
      have e' := Option.some.inj e
      subst e'
      exact ⟨d, rfl, h1⟩
  | _, d :: ds, i + 1, v, h, e => by
    cases h with
    | cons _ t => exact dpAll_get (i := i) t e
theorem dpAll_get' {K : PySem.W.Frag} {H : Hp} : ∀ {vs : List V} {ds : List PyData} {i : Nat} {d : PyData}, DpAll K H vs ds → ds[i]? = some d → ∃ v, vs[i]? = some v ∧ Dp K H v d
  | _, [], i, d, h, e => by cases h; simp at e
  | _, d :: ds, 0, d', h, e => by
    cases h with
    | cons h1 _ =>
      have e' := Option.some.inj e
      subst e'
      exact ⟨_, rfl, h1⟩
  | _, d :: ds, i + 1, d', h, e => by
    cases h with
    | cons _ t => exact dpAll_get' (i := i) t e
theorem dpAll_ints {K : PySem.W.Frag} {H : Hp} : ∀ (ns : List Int), DpAll K H (ns.map V.int) (ns.map PyData.int)
  | [] => .nil
  | n :: ns => .cons (.int n) (dpAll_ints ns)
theorem isa_int (d : PyData) : isaD "int" d = match d with | .int _ => true | .bool _ => true | _ => false := by cases d <;> rfl
theorem isa_bool (d : PyData) : isaD "bool" d = match d with | .bool _ => true | _ => false := by cases d <;> rfl
theorem isa_str (d : PyData) : isaD "str" d = match d with | .str _ => true | _ => false := by cases d <;> rfl
theorem isa_tuple (d : PyData) : isaD "tuple" d = match d with | .tuple _ => true | _ => false := by cases d <;> rfl
theorem isa_list (d : PyData) : isaD "list" d = match d with | .list _ => true | _ => false := by cases d <;> rfl
end Ver
set_option Elab.async false
set_option linter.all false
set_option maxRecDepth 100000
set_option maxHeartbeats 2000000
namespace K5
open PySem PySem.Spec PyProof.Rows L2 Ver
def topS (i : Nat) : Stmt := PySem.Challenge.pw_stillends_k05_whole_places.main.body.getD i (.Pass ⟨0, 0, 0, 0⟩)
abbrev s_is_int : Stmt := topS 5
theorem sc_is_int : FnScope ["thing"] ["thing"] (defScope s_is_int) := ⟨rfl, rfl, rfl, by decide +kernel, rfl, by decide +kernel, by decide +kernel⟩
abbrev s_is_number : Stmt := topS 6
theorem sc_is_number : FnScope ["thing"] ["thing"] (defScope s_is_number) := ⟨rfl, rfl, rfl, by decide +kernel, rfl, by decide +kernel, by decide +kernel⟩
abbrev s_is_below : Stmt := topS 9
theorem sc_is_below : FnScope ["thing", "bound"] ["thing", "bound"] (defScope s_is_below) := ⟨rfl, rfl, rfl, by decide +kernel, rfl, by decide +kernel, by decide +kernel⟩
abbrev s_are_below : Stmt := topS 10
theorem sc_are_below : FnScope ["thing", "bound", "part"] ["thing", "bound"] (defScope s_are_below) := ⟨rfl, rfl, rfl, by decide +kernel, rfl, by decide +kernel, by decide +kernel⟩
abbrev s_ask_row : Stmt := topS 11
theorem sc_ask_row : FnScope ["tokens", "row"] ["tokens", "row"] (defScope s_ask_row) := ⟨rfl, rfl, rfl, by decide +kernel, rfl, by decide +kernel, by decide +kernel⟩
abbrev s_state_after : Stmt := topS 13
theorem sc_state_after : FnScope ["book", "row", "table", "state", "token"] ["book", "row"] (defScope s_state_after) := ⟨rfl, rfl, rfl, by decide +kernel, rfl, by decide +kernel, by decide +kernel⟩
abbrev s_joined : Stmt := topS 15
theorem sc_joined : FnScope ["tokens", "row", "token"] ["tokens", "row"] (defScope s_joined) := ⟨rfl, rfl, rfl, by decide +kernel, rfl, by decide +kernel, by decide +kernel⟩
abbrev s_by_length : Stmt := topS 17
theorem sc_by_length : FnScope ["things"] ["things"] (defScope s_by_length) := ⟨rfl, rfl, rfl, by decide +kernel, rfl, by decide +kernel, by decide +kernel⟩
abbrev s_inner_texts : Stmt := topS 19
theorem sc_inner_texts : FnScope ["tokens", "found", "token", "k"] ["tokens"] (defScope s_inner_texts) := ⟨rfl, rfl, rfl, by decide +kernel, rfl, by decide +kernel, by decide +kernel⟩
abbrev s_token_numbers : Stmt := topS 20
theorem sc_token_numbers : FnScope ["tokens", "k", "token"] ["tokens"] (defScope s_token_numbers) := ⟨rfl, rfl, rfl, by decide +kernel, rfl, by decide +kernel, by decide +kernel⟩
abbrev s_spelled_on : Stmt := topS 21
theorem sc_spelled_on : FnScope ["tokens", "text", "inner", "numbers", "found", "ways", "token", "k"] ["tokens"] (defScope s_spelled_on) := ⟨rfl, rfl, rfl, by decide +kernel, rfl, by decide +kernel, by decide +kernel⟩
abbrev s_speller : Stmt := topS 23
theorem sc_speller : FnScope ["tokens", "book", "begun", "mode", "known", "places", "numbers", "finals", "arcs", "here", "k", "place", "letter", "there", "token"] ["tokens", "book", "begun", "mode"] (defScope s_speller) := ⟨rfl, rfl, rfl, by decide +kernel, rfl, by decide +kernel, by decide +kernel⟩
abbrev s__places_and_arcs : Stmt := topS 24
theorem sc__places_and_arcs : FnScope ["tokens", "book", "begun", "mode", "ways", "start", "known", "due", "place", "arcs", "arc", "there"] ["tokens", "book", "begun", "mode"] (defScope s__places_and_arcs) := ⟨rfl, rfl, rfl, by decide +kernel, rfl, by decide +kernel, by decide +kernel⟩
abbrev s__arcs_from : Stmt := topS 25
theorem sc__arcs_from : FnScope ["place", "ways", "table", "begun", "mode", "passed", "state", "written", "after", "arcs", "letter", "inner", "token"] ["place", "ways", "table", "begun", "mode"] (defScope s__arcs_from) := ⟨rfl, rfl, rfl, by decide +kernel, rfl, by decide +kernel, by decide +kernel⟩
abbrev s__is_final : Stmt := topS 26
theorem sc__is_final : FnScope ["place", "book", "begun", "passed", "state", "written"] ["place", "book", "begun"] (defScope s__is_final) := ⟨rfl, rfl, rfl, by decide +kernel, rfl, by decide +kernel, by decide +kernel⟩
abbrev s_place_behind : Stmt := topS 27
theorem sc_place_behind : FnScope ["tokens", "book", "begun", "mode", "row"] ["tokens", "book", "begun", "mode", "row"] (defScope s_place_behind) := ⟨rfl, rfl, rfl, by decide +kernel, rfl, by decide +kernel, by decide +kernel⟩
abbrev s_border_behind : Stmt := topS 28
theorem sc_border_behind : FnScope ["tokens", "book", "begun", "mode", "row", "state", "text", "passed"] ["tokens", "book", "begun", "mode", "row"] (defScope s_border_behind) := ⟨rfl, rfl, rfl, by decide +kernel, rfl, by decide +kernel, by decide +kernel⟩
abbrev s_priced : Stmt := topS 29
theorem sc_priced : FnScope ["tokens", "book", "begun", "mode", "places", "_", "arcs", "costs", "here", "letter", "there", "token"] ["tokens", "book", "begun", "mode"] (defScope s_priced) := ⟨rfl, rfl, rfl, by decide +kernel, rfl, by decide +kernel, by decide +kernel⟩
abbrev s__law_pool : Stmt := topS 31
theorem sc__law_pool : FnScope ["script", "room", "pool", "cell", "number", "turned"] ["script"] (defScope s__law_pool) := ⟨rfl, rfl, rfl, by decide +kernel, rfl, by decide +kernel, by decide +kernel⟩
abbrev s__law_pick : Stmt := topS 32
theorem sc__law_pick : FnScope ["pool", "many", "number"] ["pool", "many"] (defScope s__law_pick) := ⟨rfl, rfl, rfl, by decide +kernel, rfl, by decide +kernel, by decide +kernel⟩
abbrev s__law_same : Stmt := topS 33
theorem sc__law_same : FnScope ["told", "due", "one", "two"] ["told", "due"] (defScope s__law_same) := ⟨rfl, rfl, rfl, by decide +kernel, rfl, by decide +kernel, by decide +kernel⟩
abbrev s__law_rows : Stmt := topS 34
theorem sc__law_rows : FnScope ["m", "most", "rows", "last", "n", "longer", "row", "t"] ["m", "most"] (defScope s__law_rows) := ⟨rfl, rfl, rfl, by decide +kernel, rfl, by decide +kernel, by decide +kernel⟩
abbrev s__law_drawn_tokens : Stmt := topS 35
theorem sc__law_drawn_tokens : FnScope ["pool", "signs", "most", "row", "k", "text", "n"] ["pool", "signs"] (defScope s__law_drawn_tokens) := ⟨rfl, rfl, rfl, by decide +kernel, rfl, by decide +kernel, by decide +kernel⟩
abbrev s__law_drawn_book : Stmt := topS 36
theorem sc__law_drawn_book : FnScope ["pool", "tokens", "m", "count", "s", "finals", "table", "state", "t"] ["pool", "tokens"] (defScope s__law_drawn_book) := ⟨rfl, rfl, rfl, by decide +kernel, rfl, by decide +kernel, by decide +kernel⟩
abbrev s__law_drawn_begun : Stmt := topS 37
theorem sc__law_drawn_begun : FnScope ["pool", "tokens", "signs", "kind", "text", "k"] ["pool", "tokens", "signs"] (defScope s__law_drawn_begun) := ⟨rfl, rfl, rfl, by decide +kernel, rfl, by decide +kernel, by decide +kernel⟩
abbrev s__law_arcs : Stmt := topS 38
theorem sc__law_arcs : FnScope ["task", "place", "tokens", "book", "begun", "mode", "i", "b", "u", "size", "arcs", "t", "token", "letter", "state"] ["task", "place"] (defScope s__law_arcs) := ⟨rfl, rfl, rfl, by decide +kernel, rfl, by decide +kernel, by decide +kernel⟩
abbrev s__law_due : Stmt := topS 39
theorem sc__law_due : FnScope ["task", "tokens", "book", "begun", "mode", "known", "last", "turn", "fresh", "place", "letter", "other", "token", "rows", "places", "numbers", "ends", "k", "finals", "arcs", "row", "state"] ["task"] (defScope s__law_due) := ⟨rfl, rfl, rfl, by decide +kernel, rfl, by decide +kernel, by decide +kernel⟩
abbrev s__law_place : Stmt := topS 40
theorem sc__law_place : FnScope ["task", "row", "tokens", "book", "begun", "mode", "state", "text", "t", "both", "k"] ["task", "row"] (defScope s__law_place) := ⟨rfl, rfl, rfl, by decide +kernel, rfl, by decide +kernel, by decide +kernel⟩
abbrev s__law_place_told : Stmt := topS 41
theorem sc__law_place_told : FnScope ["task", "row", "named", "tokens", "book", "begun", "mode", "e"] ["task", "row", "named"] (defScope s__law_place_told) := ⟨rfl, rfl, rfl, by decide +kernel, rfl, by decide +kernel, by decide +kernel⟩
abbrev s__law_speller_right : Stmt := topS 42
theorem sc__law_speller_right : FnScope ["task", "due", "tokens", "book", "begun", "mode", "prices", "machine", "arc"] ["task", "due"] (defScope s__law_speller_right) := ⟨rfl, rfl, rfl, by decide +kernel, rfl, by decide +kernel, by decide +kernel⟩
abbrev s__law_rows_right : Stmt := topS 43
theorem sc__law_rows_right : FnScope ["pool", "task", "m", "row", "some", "odd", "named", "k"] ["pool", "task"] (defScope s__law_rows_right) := ⟨rfl, rfl, rfl, by decide +kernel, rfl, by decide +kernel, by decide +kernel⟩
abbrev s_law : Stmt := topS 44
theorem sc_law : FnScope ["script", "pool", "signs", "tokens", "book", "begun", "other", "first", "due", "second"] ["script"] (defScope s_law) := ⟨rfl, rfl, rfl, by decide +kernel, rfl, by decide +kernel, by decide +kernel⟩
def kw_place_behind {α : Type} : List α → List α | [a, b, c, d, e] => [e, d, c, b, a] | _ => []
theorem kwr_place_behind {zs : List V} {ws : List Value} (r : Vals zs ws) : Vals (kw_place_behind zs) (kw_place_behind ws) := by
  rcases r with _ | ⟨h0, _ | ⟨h1, _ | ⟨h2, _ | ⟨h3, _ | ⟨h4, _ | ⟨hx, hy⟩⟩⟩⟩⟩⟩
  all_goals first | exact .nil | exact .cons h4 (.cons h3 (.cons h2 (.cons h1 (.cons h0 (.nil)))))
def kw_priced {α : Type} : List α → List α | [a, b, c, d] => [d, c, b, a] | _ => []
theorem kwr_priced {zs : List V} {ws : List Value} (r : Vals zs ws) : Vals (kw_priced zs) (kw_priced ws) := by
  rcases r with _ | ⟨h0, _ | ⟨h1, _ | ⟨h2, _ | ⟨h3, _ | ⟨hx, hy⟩⟩⟩⟩⟩
  all_goals first | exact .nil | exact .cons h3 (.cons h2 (.cons h1 (.cons h0 (.nil))))
def kw_speller {α : Type} : List α → List α | [a, b, c, d] => [d, c, b, a] | _ => []
theorem kwr_speller {zs : List V} {ws : List Value} (r : Vals zs ws) : Vals (kw_speller zs) (kw_speller ws) := by
  rcases r with _ | ⟨h0, _ | ⟨h1, _ | ⟨h2, _ | ⟨h3, _ | ⟨hx, hy⟩⟩⟩⟩⟩
  all_goals first | exact .nil | exact .cons h3 (.cons h2 (.cons h1 (.cons h0 (.nil))))
structure Tx (K : PySem.W.Frag) (mg : Str → Option Value) where
  f_is_int : Addr
  d_is_int : FuncData
  F_is_int : Fun K "is_int" "is_int" s_is_int f_is_int d_is_int
  g_is_int : mg "is_int" = some (.ref f_is_int)
  b_is_int : Binds K d_is_int ["thing"] []
  f_is_number : Addr
  d_is_number : FuncData
  F_is_number : Fun K "is_number" "is_number" s_is_number f_is_number d_is_number
  g_is_number : mg "is_number" = some (.ref f_is_number)
  b_is_number : Binds K d_is_number ["thing"] []
  f_is_below : Addr
  d_is_below : FuncData
  F_is_below : Fun K "is_below" "is_below" s_is_below f_is_below d_is_below
  g_is_below : mg "is_below" = some (.ref f_is_below)
  b_is_below : Binds K d_is_below ["thing", "bound"] []
  f_are_below : Addr
  d_are_below : FuncData
  F_are_below : Fun K "are_below" "are_below" s_are_below f_are_below d_are_below
  g_are_below : mg "are_below" = some (.ref f_are_below)
  b_are_below : Binds K d_are_below ["thing", "bound"] []
  f_ask_row : Addr
  d_ask_row : FuncData
  F_ask_row : Fun K "ask_row" "ask_row" s_ask_row f_ask_row d_ask_row
  g_ask_row : mg "ask_row" = some (.ref f_ask_row)
  b_ask_row : Binds K d_ask_row ["tokens", "row"] []
  f_state_after : Addr
  d_state_after : FuncData
  F_state_after : Fun K "state_after" "state_after" s_state_after f_state_after d_state_after
  g_state_after : mg "state_after" = some (.ref f_state_after)
  b_state_after : Binds K d_state_after ["book", "row"] []
  f_joined : Addr
  d_joined : FuncData
  F_joined : Fun K "joined" "joined" s_joined f_joined d_joined
  g_joined : mg "joined" = some (.ref f_joined)
  b_joined : Binds K d_joined ["tokens", "row"] []
  f_by_length : Addr
  d_by_length : FuncData
  F_by_length : Fun K "by_length" "by_length" s_by_length f_by_length d_by_length
  g_by_length : mg "by_length" = some (.ref f_by_length)
  b_by_length : Binds K d_by_length ["things"] []
  f_inner_texts : Addr
  d_inner_texts : FuncData
  F_inner_texts : Fun K "inner_texts" "inner_texts" s_inner_texts f_inner_texts d_inner_texts
  g_inner_texts : mg "inner_texts" = some (.ref f_inner_texts)
  b_inner_texts : Binds K d_inner_texts ["tokens"] []
  f_token_numbers : Addr
  d_token_numbers : FuncData
  F_token_numbers : Fun K "token_numbers" "token_numbers" s_token_numbers f_token_numbers d_token_numbers
  g_token_numbers : mg "token_numbers" = some (.ref f_token_numbers)
  b_token_numbers : Binds K d_token_numbers ["tokens"] []
  f_spelled_on : Addr
  d_spelled_on : FuncData
  F_spelled_on : Fun K "spelled_on" "spelled_on" s_spelled_on f_spelled_on d_spelled_on
  g_spelled_on : mg "spelled_on" = some (.ref f_spelled_on)
  b_spelled_on : Binds K d_spelled_on ["tokens"] []
  f_speller : Addr
  d_speller : FuncData
  F_speller : Fun K "speller" "speller" s_speller f_speller d_speller
  g_speller : mg "speller" = some (.ref f_speller)
  b_speller : Binds K d_speller ["tokens", "book", "begun", "mode"] []
  f__places_and_arcs : Addr
  d__places_and_arcs : FuncData
  F__places_and_arcs : Fun K "_places_and_arcs" "_places_and_arcs" s__places_and_arcs f__places_and_arcs d__places_and_arcs
  g__places_and_arcs : mg "_places_and_arcs" = some (.ref f__places_and_arcs)
  b__places_and_arcs : Binds K d__places_and_arcs ["tokens", "book", "begun", "mode"] []
  f__arcs_from : Addr
  d__arcs_from : FuncData
  F__arcs_from : Fun K "_arcs_from" "_arcs_from" s__arcs_from f__arcs_from d__arcs_from
  g__arcs_from : mg "_arcs_from" = some (.ref f__arcs_from)
  b__arcs_from : Binds K d__arcs_from ["place", "ways", "table", "begun", "mode"] []
  f__is_final : Addr
  d__is_final : FuncData
  F__is_final : Fun K "_is_final" "_is_final" s__is_final f__is_final d__is_final
  g__is_final : mg "_is_final" = some (.ref f__is_final)
  b__is_final : Binds K d__is_final ["place", "book", "begun"] []
  f_place_behind : Addr
  d_place_behind : FuncData
  F_place_behind : Fun K "place_behind" "place_behind" s_place_behind f_place_behind d_place_behind
  g_place_behind : mg "place_behind" = some (.ref f_place_behind)
  b_place_behind : Binds K d_place_behind ["tokens", "book", "begun", "mode", "row"] []
  f_border_behind : Addr
  d_border_behind : FuncData
  F_border_behind : Fun K "border_behind" "border_behind" s_border_behind f_border_behind d_border_behind
  g_border_behind : mg "border_behind" = some (.ref f_border_behind)
  b_border_behind : Binds K d_border_behind ["tokens", "book", "begun", "mode", "row"] []
  f_priced : Addr
  d_priced : FuncData
  F_priced : Fun K "priced" "priced" s_priced f_priced d_priced
  g_priced : mg "priced" = some (.ref f_priced)
  b_priced : Binds K d_priced ["tokens", "book", "begun", "mode"] []
  f__law_pool : Addr
  d__law_pool : FuncData
  F__law_pool : Fun K "_law_pool" "_law_pool" s__law_pool f__law_pool d__law_pool
  g__law_pool : mg "_law_pool" = some (.ref f__law_pool)
  b__law_pool : Binds K d__law_pool ["script"] []
  f__law_pick : Addr
  d__law_pick : FuncData
  F__law_pick : Fun K "_law_pick" "_law_pick" s__law_pick f__law_pick d__law_pick
  g__law_pick : mg "_law_pick" = some (.ref f__law_pick)
  b__law_pick : Binds K d__law_pick ["pool", "many"] []
  f__law_same : Addr
  d__law_same : FuncData
  F__law_same : Fun K "_law_same" "_law_same" s__law_same f__law_same d__law_same
  g__law_same : mg "_law_same" = some (.ref f__law_same)
  b__law_same : Binds K d__law_same ["told", "due"] []
  f__law_rows : Addr
  d__law_rows : FuncData
  F__law_rows : Fun K "_law_rows" "_law_rows" s__law_rows f__law_rows d__law_rows
  g__law_rows : mg "_law_rows" = some (.ref f__law_rows)
  b__law_rows : Binds K d__law_rows ["m", "most"] []
  f__law_drawn_tokens : Addr
  d__law_drawn_tokens : FuncData
  F__law_drawn_tokens : Fun K "_law_drawn_tokens" "_law_drawn_tokens" s__law_drawn_tokens f__law_drawn_tokens d__law_drawn_tokens
  g__law_drawn_tokens : mg "_law_drawn_tokens" = some (.ref f__law_drawn_tokens)
  b__law_drawn_tokens : Binds K d__law_drawn_tokens ["pool", "signs"] []
  f__law_drawn_book : Addr
  d__law_drawn_book : FuncData
  F__law_drawn_book : Fun K "_law_drawn_book" "_law_drawn_book" s__law_drawn_book f__law_drawn_book d__law_drawn_book
  g__law_drawn_book : mg "_law_drawn_book" = some (.ref f__law_drawn_book)
  b__law_drawn_book : Binds K d__law_drawn_book ["pool", "tokens"] []
  f__law_drawn_begun : Addr
  d__law_drawn_begun : FuncData
  F__law_drawn_begun : Fun K "_law_drawn_begun" "_law_drawn_begun" s__law_drawn_begun f__law_drawn_begun d__law_drawn_begun
  g__law_drawn_begun : mg "_law_drawn_begun" = some (.ref f__law_drawn_begun)
  b__law_drawn_begun : Binds K d__law_drawn_begun ["pool", "tokens", "signs"] []
  f__law_arcs : Addr
  d__law_arcs : FuncData
  F__law_arcs : Fun K "_law_arcs" "_law_arcs" s__law_arcs f__law_arcs d__law_arcs
  g__law_arcs : mg "_law_arcs" = some (.ref f__law_arcs)
  b__law_arcs : Binds K d__law_arcs ["task", "place"] []
  f__law_due : Addr
  d__law_due : FuncData
  F__law_due : Fun K "_law_due" "_law_due" s__law_due f__law_due d__law_due
  g__law_due : mg "_law_due" = some (.ref f__law_due)
  b__law_due : Binds K d__law_due ["task"] []
  f__law_place : Addr
  d__law_place : FuncData
  F__law_place : Fun K "_law_place" "_law_place" s__law_place f__law_place d__law_place
  g__law_place : mg "_law_place" = some (.ref f__law_place)
  b__law_place : Binds K d__law_place ["task", "row"] []
  f__law_place_told : Addr
  d__law_place_told : FuncData
  F__law_place_told : Fun K "_law_place_told" "_law_place_told" s__law_place_told f__law_place_told d__law_place_told
  g__law_place_told : mg "_law_place_told" = some (.ref f__law_place_told)
  b__law_place_told : Binds K d__law_place_told ["task", "row", "named"] []
  f__law_speller_right : Addr
  d__law_speller_right : FuncData
  F__law_speller_right : Fun K "_law_speller_right" "_law_speller_right" s__law_speller_right f__law_speller_right d__law_speller_right
  g__law_speller_right : mg "_law_speller_right" = some (.ref f__law_speller_right)
  b__law_speller_right : Binds K d__law_speller_right ["task", "due"] []
  f__law_rows_right : Addr
  d__law_rows_right : FuncData
  F__law_rows_right : Fun K "_law_rows_right" "_law_rows_right" s__law_rows_right f__law_rows_right d__law_rows_right
  g__law_rows_right : mg "_law_rows_right" = some (.ref f__law_rows_right)
  b__law_rows_right : Binds K d__law_rows_right ["pool", "task"] []
  f_law : Addr
  d_law : FuncData
  F_law : Fun K "law" "law" s_law f_law d_law
  g_law : mg "law" = some (.ref f_law)
  b_law : Binds K d_law ["script"] []
  k_place_behind : KBn K d_place_behind ["tokens", "book", "begun", "mode", "row"] 0 ["row", "mode", "begun", "book", "tokens"] (fun _ ws => kw_place_behind ws) (fun _ zs => kw_place_behind zs)
  k_priced : KBn K d_priced ["tokens", "book", "begun", "mode"] 0 ["mode", "begun", "book", "tokens"] (fun _ ws => kw_priced ws) (fun _ zs => kw_priced zs)
  k_speller : KBn K d_speller ["tokens", "book", "begun", "mode"] 0 ["mode", "begun", "book", "tokens"] (fun _ ws => kw_speller ws) (fun _ zs => kw_speller zs)
  c_ROW_LIMIT : ∃ t, mg "ROW_LIMIT" = some (.int (60) t)
  n_all : mg "all" = none
  n_bool : mg "bool" = none
  n_enumerate : mg "enumerate" = none
  n_int : mg "int" = none
  n_isinstance : mg "isinstance" = none
  n_len : mg "len" = none
  n_list : mg "list" = none
  n_max : mg "max" = none
  n_min : mg "min" = none
  n_range : mg "range" = none
  n_sorted : mg "sorted" = none
  n_str : mg "str" = none
  n_tuple : mg "tuple" = none
  n_zip : mg "zip" = none
  C_NotUsable : Addr
  I_NotUsable : Addr
  nus : PySem.NUsX.NUsTxt K mg C_NotUsable I_NotUsable
end K5
set_option Elab.async false
set_option linter.all false
set_option maxRecDepth 100000
set_option maxHeartbeats 2000000
namespace K5
open PySem PySem.Spec PyProof.Rows L2 Ver
section
variable {P : Program} {w : World} {K : PySem.W.Frag} {mg : Str → Option Value} {base : Heap}
def isIntD : PyData → Bool | .int _ => true | _ => false
def numD : PyData → Bool | .int i => decide (0 ≤ i) | _ => false
def belowD (b : Int) : PyData → Bool | .int i => decide (0 ≤ i) && decide (i < b) | _ => false
def allBelow (b : Int) : PyData → Bool | .tuple ds => ds.all (belowD b) | _ => false
def rowD (n : Nat) : PyData → Bool | .tuple ds => ds.all (belowD n) && decide (ds.length ≤ 60) | _ => false
def lenD : PyData → Nat | .tuple ds => ds.length | .list ds => ds.length | _ => 0
def shortD : PyData → Bool | .int i => decide (0 ≤ i) && decide (i ≤ 60) | _ => false
def Refuses (C : Addr) (E : XK) (H : Hp) (z : Str) : Prop := ∀ H' dd, Same H H' → H' dd = none → E (.ref C) (some dd) (upd H' dd (.xd [("word", .str z)]))

def sp_is_int (K : PySem.W.Frag) : Sp := fun vs H Q _ => ∃ x d, vs = [x] ∧ Dp K H x d ∧ Q (.bl (isIntD d)) H
theorem ok_is_int (T : Tx K mg) : FnOk P w K mg base CX0 1 T.f_is_int T.d_is_int ["thing"] (sp_is_int K) := by
  refine T.F_is_int.ok sc_is_int (fun vs H Q E h => ?_) (fun cdv A outer s H vs Q E hr h => ?_)
  · obtain ⟨x, d, rfl, _⟩ := h; rfl
  · obtain ⟨x, d, rfl, hd, q⟩ := h
    refine ⟨_, (pss_one (ps_ret (pe_and (pe_callB (cr_isiD (n := "int") (by decide)) (by rfl) T.n_isinstance (by decide +kernel) (pa_cons (pv 0) (pa_cons (pe_bltn (v := .ty "int") (by rfl) T.n_int (by decide +kernel) rfl) pa_nil))) (pe_one (pe_not (pe_callB (cr_isiD (n := "bool") (by decide)) (by rfl) T.n_isinstance (by decide +kernel) (pa_cons (pv 0) (pa_cons (pe_bltn (v := .ty "bool") (by rfl) T.n_bool (by decide +kernel) rfl) pa_nil)))))))), ?_⟩
    refine ⟨x, rfl, x, d, rfl, hd, _, rfl, ?_⟩
    rw [isa_int]
    cases d
    case int i => exact ⟨x, rfl, x, .int i, rfl, hd, _, rfl, q⟩
    case bool b => exact ⟨x, rfl, x, .bool b, rfl, hd, _, rfl, q⟩
    all_goals exact q

def sp_is_number (K : PySem.W.Frag) : Sp := fun vs H Q _ => ∃ x d, vs = [x] ∧ Dp K H x d ∧ Q (.bl (numD d)) H
theorem ok_is_number (T : Tx K mg) : FnOk P w K mg base CX0 2 T.f_is_number T.d_is_number ["thing"] (sp_is_number K) := by
  refine T.F_is_number.ok sc_is_number (fun vs H Q E h => ?_) (fun cdv A outer s H vs Q E hr h => ?_)
  · obtain ⟨x, d, rfl, _⟩ := h; rfl
  · obtain ⟨x, d, rfl, hd, q⟩ := h
    refine ⟨_, (pss_one (ps_ret (pe_and (pe_call (ok_is_int T) hr rfl T.g_is_int T.F_is_int.kp T.b_is_int .nil pass0 (pa_cons (pv 0) pa_nil)) (pe_one (pe_cmpR op_ge (pv 0) pe_int (nomark _)))))), ?_⟩
    refine ⟨x, rfl, x, d, rfl, hd, _, rfl, ?_⟩
    cases d
    case int i =>
      cases hd
      exact ⟨.int i, rfl, i, 0, rfl, rfl, q⟩
    all_goals exact q

def sp_is_below (K : PySem.W.Frag) : Sp := fun vs H Q _ => ∃ x d b, vs = [x, .int b] ∧ Dp K H x d ∧ Q (.bl (belowD b d)) H
theorem ok_is_below (T : Tx K mg) : FnOk P w K mg base CX0 3 T.f_is_below T.d_is_below ["thing", "bound"] (sp_is_below K) := by
  refine T.F_is_below.ok sc_is_below (fun vs H Q E h => ?_) (fun cdv A outer s H vs Q E hr h => ?_)
  · obtain ⟨x, d, b, rfl, _⟩ := h; rfl
  · obtain ⟨x, d, b, rfl, hd, q⟩ := h
    refine ⟨_, (pss_one (ps_ret (pe_and (pe_call (ok_is_number T) hr rfl T.g_is_number T.F_is_number.kp T.b_is_number .nil pass0 (pa_cons (pv 0) pa_nil)) (pe_one (pe_cmpR op_lt (pv 0) (pv 1) (nomark _)))))), ?_⟩
    refine ⟨x, rfl, x, d, rfl, hd, _, rfl, ?_⟩
    cases d
    case int i =>
      cases hd
      show if decide (0 ≤ i) = true then _ else _
      refine ite2 (fun e => ⟨.int i, rfl, .int b, rfl, i, b, rfl, rfl, ?_⟩) (fun e => ?_)
      · have q' : Q (.bl (decide (0 ≤ i) && decide (i < b))) H := q
        rw [e, Bool.true_and] at q'
        exact q'
      · have q' : Q (.bl (decide (0 ≤ i) && decide (i < b))) H := q
        rw [Bool.eq_false_iff.mpr e, Bool.false_and] at q'
        exact q'
    all_goals exact q

def sp_are_below (K : PySem.W.Frag) : Sp := fun vs H Q _ => ∃ x d b, vs = [x, .int b] ∧ Dp K H x d ∧ lenD d ≤ 1000 ∧ ∀ H', Same H H' → Q (.bl (allBelow b d)) H'
theorem ok_are_below (T : Tx K mg) : FnOk P w K mg base CX0 4 T.f_are_below T.d_are_below ["thing", "bound"] (sp_are_below K) := by
  refine T.F_are_below.ok sc_are_below (fun vs H Q E h => ?_) (fun cdv A outer s H vs Q E hr h => ?_)
  · obtain ⟨x, d, b, rfl, _⟩ := h; rfl
  · obtain ⟨x, d, b, rfl, hd, hz, q⟩ := h
    refine ⟨_, (pss_one (ps_ret (pe_and (pe_callB (cr_isiD (n := "tuple") (by decide)) (by rfl) T.n_isinstance (by decide +kernel) (pa_cons (pv 0) (pa_cons (pe_bltn (v := .ty "tuple") (by rfl) T.n_tuple (by decide +kernel) rfl) pa_nil))) (pe_one (pe_callB (cr_all rfl) (by rfl) T.n_all (by decide +kernel) (pa_cons (pe_lc (own := [("part", 2)]) (g := gName 2) (tt := tYes) (by rfl) sc_are_below.nd (pi_tup (pv 0)) (blkOk_by (N := ["thing", "bound", "part"]) (sc := defScope s_are_below) (by decide +kernel)) (fun _ _ _ _ _ => (pg_name (i := 2) sc_are_below.nd rfl (Or.inl rfl))) (fun _ _ _ _ _ => pts_nil) (fun _ _ _ _ _ => (pe_call (ok_is_below T) hr rfl T.g_is_below T.F_is_below.kp T.b_is_below .nil pass0 (pa_cons (pv 2) (pa_cons (pv 1) pa_nil))))) pa_nil)))))), ?_⟩
    refine ⟨x, rfl, x, d, rfl, hd, _, rfl, ?_⟩
    rw [isa_tuple]
    cases d
    case tuple ds =>
      obtain ⟨a, xs, rfl, hs, ha⟩ : ∃ a xs, x = .ref a ∧ SqT K H a xs ∧ DpAll K H xs ds := by
        cases hd with
        | tup hs ha => exact ⟨_, _, rfl, hs, ha⟩
      refine ⟨.ref a, rfl, a, rfl, ⟨_, hs⟩, fun D nD => ?_⟩
      have sm : Same H (upd H D (.lst [])) := same_new nD
      refine comp_tup (K := K) (a := a) (xs := xs) (i := 2) (fun acc H' => Same H H' ∧ acc = ((ds.take acc.length).map fun d => V.bl (belowD b d))) ⟨sm, rfl⟩ (fun acc H' h => seqT_grow h.1 hs) (fun acc y H' e h hD => ?_) (fun acc H' e h hD => ?_)
      · obtain ⟨d', e', hd'⟩ := dpAll_get ha e
        refine ⟨y, rfl, .int b, rfl, y, d', b, rfl, dp_grow h.1 hd', ?_⟩
        have lt : acc.length < xs.length := (List.getElem?_eq_some_iff.mp e).1
        refine turned hD (small (by have h1 := dpAll_len ha; have h2 : ds.length ≤ 1000 := hz; omega)) ⟨fun c o ec => ?_, ?_⟩
        · rw [upd_ne (ne_of_none ec nD)]
          exact h.1 c o ec
        · rw [List.length_append, List.length_singleton, List.take_add_one, e', List.map_append, ← h.2]
          rfl
      · refine ⟨D, (ds.map (belowD b)), rfl, .inl (.inl ?_), ?_⟩
        · rw [hD, h.2, e, dpAll_len ha, List.take_length, List.map_map]
          rfl
        · have e2 : (ds.map (belowD b)).all id = ds.all (belowD b) := by rw [List.all_map]; rfl
          rw [e2]
          exact q H' h.1
    all_goals exact q H (Same.refl H)

def sp_ask_row (K : PySem.W.Frag) (C : Addr) : Sp := fun vs H Q E => ∃ t ts x d, vs = [.ref t, x] ∧ SqT K H t ts ∧ Dp K H x d ∧ lenD d ≤ 1000 ∧ (rowD ts.length d = true → ∀ H', Same H H' → Q .non H') ∧ (rowD ts.length d = false → Refuses C E H "row")
theorem ok_ask_row (T : Tx K mg) : FnOk P w K mg base (L2.CX P w) 5 T.f_ask_row T.d_ask_row ["tokens", "row"] (sp_ask_row K T.C_NotUsable) := by
  refine T.F_ask_row.okX sc_ask_row (fun vs H Q E h => ?_) (fun cdv A outer s H vs Q E hr h => ?_)
  · obtain ⟨t, ts, x, d, rfl, _⟩ := h; rfl
  · obtain ⟨t, ts, x, d, rfl, hT, hd, hz, q1, q2⟩ := h
    refine ⟨_, (pss_one (ps_if (PW.pt (pw_or (pt_not (pt_val (pe_call (ok_are_below T) hr rfl T.g_are_below T.F_are_below.kp T.b_are_below .nil pass0 (pa_cons (pv 1) (pa_cons (pe_callB call_len_seq (by rfl) T.n_len (by decide +kernel) (pa_cons (pv 0) pa_nil)) pa_nil))))) (pw_or1 (pt_cmpR op_gt (pe_callB call_len_seq (by rfl) T.n_len (by decide +kernel) (pa_cons (pv 1) pa_nil)) (pe_glob (v := .int (60)) rfl T.c_ROW_LIMIT.choose_spec ⟨_, rfl⟩) (nomark _))))) (pss_one (ps_raiseNus rfl T.nus hr (takes_of rfl rfl rfl rfl) (pa_cons pe_str pa_nil))) pss_nil)), ?_⟩
    refine ⟨x, rfl, .ref t, rfl, t, ts, rfl, .inr hT, x, d, _, rfl, hd, hz, fun H' sm => ?_⟩
    refine ⟨_, rfl, ?_⟩
    have no : rowD ts.length d = false → ∀ H2, Same H H2 → ∀ dd, H2 dd = none → E (.ref T.C_NotUsable) (some dd) (upd H2 dd (.xd [("word", .str "row")])) := fun e H2 s2 dd n => q2 e H2 dd s2 n
    cases d
    case tuple ds =>
      obtain ⟨a, xs, rfl, hs, ha⟩ : ∃ a xs, x = .ref a ∧ SqT K H a xs ∧ DpAll K H xs ds := by
        cases hd with
        | tup hs ha => exact ⟨_, _, rfl, hs, ha⟩
      have el := dpAll_len ha
      show if (!(ds.all (belowD ts.length))) = true then _ else _
      cases e : ds.all (belowD ts.length) with
      | false =>
        have er : rowD ts.length (.tuple ds) = false := by show (ds.all (belowD ts.length) && _) = false; rw [e]; rfl
        exact ⟨_, rfl, fun dd n => no er H' sm dd n⟩
      | true =>
        refine ⟨.ref a, rfl, a, xs, rfl, .inr (seqT_grow sm hs), xs.length, 60, rfl, rfl, _, rfl, ?_⟩
        by_cases h60 : xs.length ≤ 60
        · have er : rowD ts.length (.tuple ds) = true := by show (ds.all (belowD ts.length) && decide (ds.length ≤ 60)) = true; rw [e, ← el, decide_eq_true h60]; rfl
          rw [decide_eq_false (by omega)]
          exact q1 er H' sm
        · have er : rowD ts.length (.tuple ds) = false := by show (ds.all (belowD ts.length) && decide (ds.length ≤ 60)) = false; rw [e, ← el, decide_eq_false h60]; rfl
          rw [decide_eq_true (by omega)]
          exact ⟨_, rfl, fun dd n => no er H' sm dd n⟩
    all_goals exact ⟨_, rfl, fun dd n => no rfl H' sm dd n⟩
end
end K5
set_option Elab.async false
set_option linter.all false
set_option maxRecDepth 100000
set_option maxHeartbeats 2000000
namespace K5
open PySem PySem.Spec PyProof.Rows L2 Ver
def okD : Nat → PyData → Prop
  | n + 1, .tuple ds => ds.length ≤ 10000000 ∧ ∀ e ∈ ds, okD n e
  | n + 1, .list ds => ds.length ≤ 10000000 ∧ ∀ e ∈ ds, okD n e
  | _, .none => True
  | _, .bool _ => True
  | _, .int _ => True
  | _, .str _ => True
  | _, _ => False
section
variable {P : Program} {w : World} {K : PySem.W.Frag} {mg : Str → Option Value} {base : Heap}
def sp__law_same (n : Nat) (K : PySem.W.Frag) : Sp := fun vs H Q _ => ∃ x y d, vs = [x, y] ∧ Dp K H x d ∧ Dp K H y d ∧ okD n d ∧ ∀ H', Same H H' → Q (.bl true) H'
theorem ok__law_same (T : Tx K mg) : ∀ n, FnOk P w K mg base CX0 (n + 1) T.f__law_same T.d__law_same ["told", "due"] (sp__law_same n K)
  | 0 => by
    refine T.F__law_same.ok sc__law_same (fun vs H Q E h => ?_) (fun cdv A outer s H vs Q E hr h => ?_)
    · obtain ⟨x, y, d, rfl, _⟩ := h; rfl
    obtain ⟨x, y, d, rfl, hx, hy, ho, q⟩ := h
    refine ⟨_, (pss_cons (ps_if (pt_cmpR op_isN (pv 1) pe_non (nomark _)) (pss_one (ps_ret (pe_cmpR op_isN (pv 0) pe_non (nomark _)))) pss_nil)
    (pss_cons (ps_if (pt_val (pe_callB (cr_isiD (n := "bool") (by decide)) (by rfl) T.n_isinstance (by decide +kernel) (pa_cons (pv 1) (pa_cons (pe_bltn (v := .ty "bool") (by rfl) T.n_bool (by decide +kernel) rfl) pa_nil)))) (pss_one (ps_ret (pe_and (pe_callB (cr_isiD (n := "bool") (by decide)) (by rfl) T.n_isinstance (by decide +kernel) (pa_cons (pv 0) (pa_cons (pe_bltn (v := .ty "bool") (by rfl) T.n_bool (by decide +kernel) rfl) pa_nil))) (pe_one (pe_cmpR op_eq (pv 0) (pv 1) (nomark _)))))) pss_nil)
    (pss_cons (ps_if (pt_val (pe_callB (cr_isiD (n := "int") (by decide)) (by rfl) T.n_isinstance (by decide +kernel) (pa_cons (pv 1) (pa_cons (pe_bltn (v := .ty "int") (by rfl) T.n_int (by decide +kernel) rfl) pa_nil)))) (pss_one (ps_ret (pe_and (pe_callB (cr_isiD (n := "int") (by decide)) (by rfl) T.n_isinstance (by decide +kernel) (pa_cons (pv 0) (pa_cons (pe_bltn (v := .ty "int") (by rfl) T.n_int (by decide +kernel) rfl) pa_nil))) (pe_and (pe_not (pe_callB (cr_isiD (n := "bool") (by decide)) (by rfl) T.n_isinstance (by decide +kernel) (pa_cons (pv 0) (pa_cons (pe_bltn (v := .ty "bool") (by rfl) T.n_bool (by decide +kernel) rfl) pa_nil)))) (pe_one (pe_cmpR op_eq (pv 0) (pv 1) (nomark _))))))) pss_nil)
    (pss_cons (ps_if (pt_val (pe_callB (cr_isiD (n := "str") (by decide)) (by rfl) T.n_isinstance (by decide +kernel) (pa_cons (pv 1) (pa_cons (pe_bltn (v := .ty "str") (by rfl) T.n_str (by decide +kernel) rfl) pa_nil)))) (pss_one (ps_ret (pe_and (pe_callB (cr_isiD (n := "str") (by decide)) (by rfl) T.n_isinstance (by decide +kernel) (pa_cons (pv 0) (pa_cons (pe_bltn (v := .ty "str") (by rfl) T.n_str (by decide +kernel) rfl) pa_nil))) (pe_one (pe_cmpR op_eq (pv 0) (pv 1) (nomark _)))))) pss_nil)
    (pss_cons (ps_if (pt_val (pe_callB (cr_isiD (n := "tuple") (by decide)) (by rfl) T.n_isinstance (by decide +kernel) (pa_cons (pv 1) (pa_cons (pe_bltn (v := .ty "tuple") (by rfl) T.n_tuple (by decide +kernel) rfl) pa_nil)))) (pss_one (ps_if (PW.pt (pw_or (pt_not (pt_val (pe_callB (cr_isiD (n := "tuple") (by decide)) (by rfl) T.n_isinstance (by decide +kernel) (pa_cons (pv 0) (pa_cons (pe_bltn (v := .ty "tuple") (by rfl) T.n_tuple (by decide +kernel) rfl) pa_nil))))) (pw_or1 (pt_cmpR op_ne (pe_callB call_len_seq (by rfl) T.n_len (by decide +kernel) (pa_cons (pv 0) pa_nil)) (pe_callB call_len_seq (by rfl) T.n_len (by decide +kernel) (pa_cons (pv 1) pa_nil)) (nomark _))))) (pss_one (ps_ret pe_bl)) pss_nil)) (pss_one (ps_if (PW.pt (pw_or (pt_not (pt_val (pe_callB (cr_isiD (n := "list") (by decide)) (by rfl) T.n_isinstance (by decide +kernel) (pa_cons (pv 0) (pa_cons (pe_bltn (v := .ty "list") (by rfl) T.n_list (by decide +kernel) rfl) pa_nil))))) (pw_or1 (pt_cmpR op_ne (pe_callB call_len_seq (by rfl) T.n_len (by decide +kernel) (pa_cons (pv 0) pa_nil)) (pe_callB call_len_seq (by rfl) T.n_len (by decide +kernel) (pa_cons (pv 1) pa_nil)) (nomark _))))) (pss_one (ps_ret pe_bl)) pss_nil)))
    (pss_cons ps_never
    (pss_one (ps_ret pe_bl)))))))), ?_⟩
    have q := q H (Same.refl H)
    refine ⟨y, rfl, rfl, _, rfl, ?_⟩
    cases d
    case none =>
      cases hx
      cases hy
      exact ⟨.non, rfl, rfl, q⟩
    case bool b =>
      cases hx
      cases hy
      refine ⟨.bl b, rfl, .bl b, .bool b, rfl, .bl b, _, rfl, ?_⟩
      refine ⟨.bl b, rfl, .bl b, .bool b, rfl, .bl b, _, rfl, ?_⟩
      refine ⟨.bl b, rfl, .bl b, rfl, rfl, ?_⟩
      rw [decide_eq_true rfl]
      exact q
    case int i =>
      cases hx
      cases hy
      refine ⟨.int i, rfl, .int i, .int i, rfl, .int i, _, rfl, ?_⟩
      refine ⟨.int i, rfl, .int i, .int i, rfl, .int i, _, rfl, ?_⟩
      refine ⟨.int i, rfl, .int i, .int i, rfl, .int i, _, rfl, ?_⟩
      refine ⟨.int i, rfl, .int i, .int i, rfl, .int i, _, rfl, _, rfl, ?_⟩
      refine ⟨.int i, rfl, .int i, rfl, rfl, ?_⟩
      rw [decide_eq_true rfl]
      exact q
    case str z =>
      cases hx
      cases hy
      refine ⟨.str z, rfl, .str z, .str z, rfl, .str z, _, rfl, ?_⟩
      refine ⟨.str z, rfl, .str z, .str z, rfl, .str z, _, rfl, ?_⟩
      refine ⟨.str z, rfl, .str z, .str z, rfl, .str z, _, rfl, ?_⟩
      refine ⟨.str z, rfl, .str z, .str z, rfl, .str z, _, rfl, ?_⟩
      refine ⟨.str z, rfl, .str z, rfl, rfl, ?_⟩
      rw [decide_eq_true rfl]
      exact q
    all_goals exact ho.elim
  | n + 1 => by
    have IH := ok__law_same T n
    refine T.F__law_same.ok sc__law_same (fun vs H Q E h => ?_) (fun cdv A outer s H vs Q E hr h => ?_)
    · obtain ⟨x, y, d, rfl, _⟩ := h; rfl
    obtain ⟨x, y, d, rfl, hx, hy, ho, q⟩ := h
    refine ⟨_, (pss_cons (ps_if (pt_cmpR op_isN (pv 1) pe_non (nomark _)) (pss_one (ps_ret (pe_cmpR op_isN (pv 0) pe_non (nomark _)))) pss_nil)
    (pss_cons (ps_if (pt_val (pe_callB (cr_isiD (n := "bool") (by decide)) (by rfl) T.n_isinstance (by decide +kernel) (pa_cons (pv 1) (pa_cons (pe_bltn (v := .ty "bool") (by rfl) T.n_bool (by decide +kernel) rfl) pa_nil)))) (pss_one (ps_ret (pe_and (pe_callB (cr_isiD (n := "bool") (by decide)) (by rfl) T.n_isinstance (by decide +kernel) (pa_cons (pv 0) (pa_cons (pe_bltn (v := .ty "bool") (by rfl) T.n_bool (by decide +kernel) rfl) pa_nil))) (pe_one (pe_cmpR op_eq (pv 0) (pv 1) (nomark _)))))) pss_nil)
    (pss_cons (ps_if (pt_val (pe_callB (cr_isiD (n := "int") (by decide)) (by rfl) T.n_isinstance (by decide +kernel) (pa_cons (pv 1) (pa_cons (pe_bltn (v := .ty "int") (by rfl) T.n_int (by decide +kernel) rfl) pa_nil)))) (pss_one (ps_ret (pe_and (pe_callB (cr_isiD (n := "int") (by decide)) (by rfl) T.n_isinstance (by decide +kernel) (pa_cons (pv 0) (pa_cons (pe_bltn (v := .ty "int") (by rfl) T.n_int (by decide +kernel) rfl) pa_nil))) (pe_and (pe_not (pe_callB (cr_isiD (n := "bool") (by decide)) (by rfl) T.n_isinstance (by decide +kernel) (pa_cons (pv 0) (pa_cons (pe_bltn (v := .ty "bool") (by rfl) T.n_bool (by decide +kernel) rfl) pa_nil)))) (pe_one (pe_cmpR op_eq (pv 0) (pv 1) (nomark _))))))) pss_nil)
    (pss_cons (ps_if (pt_val (pe_callB (cr_isiD (n := "str") (by decide)) (by rfl) T.n_isinstance (by decide +kernel) (pa_cons (pv 1) (pa_cons (pe_bltn (v := .ty "str") (by rfl) T.n_str (by decide +kernel) rfl) pa_nil)))) (pss_one (ps_ret (pe_and (pe_callB (cr_isiD (n := "str") (by decide)) (by rfl) T.n_isinstance (by decide +kernel) (pa_cons (pv 0) (pa_cons (pe_bltn (v := .ty "str") (by rfl) T.n_str (by decide +kernel) rfl) pa_nil))) (pe_one (pe_cmpR op_eq (pv 0) (pv 1) (nomark _)))))) pss_nil)
    (pss_cons (ps_if (pt_val (pe_callB (cr_isiD (n := "tuple") (by decide)) (by rfl) T.n_isinstance (by decide +kernel) (pa_cons (pv 1) (pa_cons (pe_bltn (v := .ty "tuple") (by rfl) T.n_tuple (by decide +kernel) rfl) pa_nil)))) (pss_one (ps_if (PW.pt (pw_or (pt_not (pt_val (pe_callB (cr_isiD (n := "tuple") (by decide)) (by rfl) T.n_isinstance (by decide +kernel) (pa_cons (pv 0) (pa_cons (pe_bltn (v := .ty "tuple") (by rfl) T.n_tuple (by decide +kernel) rfl) pa_nil))))) (pw_or1 (pt_cmpR op_ne (pe_callB call_len_seq (by rfl) T.n_len (by decide +kernel) (pa_cons (pv 0) pa_nil)) (pe_callB call_len_seq (by rfl) T.n_len (by decide +kernel) (pa_cons (pv 1) pa_nil)) (nomark _))))) (pss_one (ps_ret pe_bl)) pss_nil)) (pss_one (ps_if (PW.pt (pw_or (pt_not (pt_val (pe_callB (cr_isiD (n := "list") (by decide)) (by rfl) T.n_isinstance (by decide +kernel) (pa_cons (pv 0) (pa_cons (pe_bltn (v := .ty "list") (by rfl) T.n_list (by decide +kernel) rfl) pa_nil))))) (pw_or1 (pt_cmpR op_ne (pe_callB call_len_seq (by rfl) T.n_len (by decide +kernel) (pa_cons (pv 0) pa_nil)) (pe_callB call_len_seq (by rfl) T.n_len (by decide +kernel) (pa_cons (pv 1) pa_nil)) (nomark _))))) (pss_one (ps_ret pe_bl)) pss_nil)))
    (pss_cons (ps_for PassesOwn.never rfl (RZ.pi_zipA (by rfl) T.n_zip (pa_cons (pv 0) (pa_cons (pv 1) pa_nil))) (pg_tup (by rfl) (pgs_cons (pg_name (i := 2) sc__law_same.nd rfl (Or.inl rfl)) (pgs_cons (pg_name (i := 3) sc__law_same.nd rfl (Or.inl rfl)) pgs_nil)))
    (pss_one (ps_if (pt_not (pt_val (pe_call IH hr rfl T.g__law_same T.F__law_same.kp T.b__law_same .nil pass0 (pa_cons (pv 2) (pa_cons (pv 3) pa_nil))))) (pss_one (ps_ret pe_bl)) pss_nil)))
    (pss_one (ps_ret pe_bl)))))))), ?_⟩
    have q0 := q H (Same.refl H)
    refine ⟨y, rfl, rfl, _, rfl, ?_⟩
    cases d
    case none =>
      cases hx
      cases hy
      exact ⟨.non, rfl, rfl, q0⟩
    case bool b =>
      cases hx
      cases hy
      refine ⟨.bl b, rfl, .bl b, .bool b, rfl, .bl b, _, rfl, ?_⟩
      refine ⟨.bl b, rfl, .bl b, .bool b, rfl, .bl b, _, rfl, ?_⟩
      refine ⟨.bl b, rfl, .bl b, rfl, rfl, ?_⟩
      rw [decide_eq_true rfl]
      exact q0
    case int i =>
      cases hx
      cases hy
      refine ⟨.int i, rfl, .int i, .int i, rfl, .int i, _, rfl, ?_⟩
      refine ⟨.int i, rfl, .int i, .int i, rfl, .int i, _, rfl, ?_⟩
      refine ⟨.int i, rfl, .int i, .int i, rfl, .int i, _, rfl, ?_⟩
      refine ⟨.int i, rfl, .int i, .int i, rfl, .int i, _, rfl, _, rfl, ?_⟩
      refine ⟨.int i, rfl, .int i, rfl, rfl, ?_⟩
      rw [decide_eq_true rfl]
      exact q0
    case str z =>
      cases hx
      cases hy
      refine ⟨.str z, rfl, .str z, .str z, rfl, .str z, _, rfl, ?_⟩
      refine ⟨.str z, rfl, .str z, .str z, rfl, .str z, _, rfl, ?_⟩
      refine ⟨.str z, rfl, .str z, .str z, rfl, .str z, _, rfl, ?_⟩
      refine ⟨.str z, rfl, .str z, .str z, rfl, .str z, _, rfl, ?_⟩
      refine ⟨.str z, rfl, .str z, rfl, rfl, ?_⟩
      rw [decide_eq_true rfl]
      exact q0
    case tuple ds =>
      obtain ⟨a, xs, rfl, hs, ha⟩ : ∃ a xs, x = .ref a ∧ SqT K H a xs ∧ DpAll K H xs ds := by
        cases hx with
        | tup hs ha => exact ⟨_, _, rfl, hs, ha⟩
      obtain ⟨b, ys, rfl, hs2, ha2⟩ : ∃ b ys, y = .ref b ∧ SqT K H b ys ∧ DpAll K H ys ds := by
        cases hy with
        | tup hs ha => exact ⟨_, _, rfl, hs, ha⟩
      obtain ⟨hl, hds⟩ := ho
      have el : xs.length = ys.length := (dpAll_len ha).trans (dpAll_len ha2).symm
      have hx' : Dp K H (.ref a) (.tuple ds) := .tup hs ha
      have hy' : Dp K H (.ref b) (.tuple ds) := .tup hs2 ha2
      refine ⟨.ref b, rfl, .ref b, _, rfl, hy', _, rfl, ?_⟩
      refine ⟨.ref b, rfl, .ref b, _, rfl, hy', _, rfl, ?_⟩
      refine ⟨.ref b, rfl, .ref b, _, rfl, hy', _, rfl, ?_⟩
      refine ⟨.ref b, rfl, .ref b, _, rfl, hy', _, rfl, ?_⟩
      refine ⟨.ref a, rfl, .ref a, _, rfl, hx', _, rfl, ?_⟩
      refine ⟨.ref a, rfl, a, xs, rfl, .inr hs, .ref b, rfl, b, ys, rfl, .inr hs2, rfl, _, rfl, ?_⟩
      rw [decide_eq_true (show V.int (xs.length : Int) = V.int (ys.length : Int) by rw [el])]
      refine ⟨.ref a, rfl, .ref b, rfl, a, b, xs, ys, rfl, .inr ⟨hs, hs2, ?_⟩⟩
      refine RZ.for_zipT (K := K) (a := a) (b := b) (xs := xs) (ys := ys) el (fun i σ H' => Same H H' ∧ ∃ y2 y3, σ = [some (.ref a), some (.ref b), y2, y3]) ⟨Same.refl H, none, none, rfl⟩ (fun i σ H' h => ⟨seqT_grow h.1 hs, seqT_grow h.1 hs2⟩)
        (fun i u v Tp σ H' eu ev h nT => ?_) (fun σ H' h => q H' h.1)
      obtain ⟨sm, y2, y3, rfl⟩ := h
      refine ⟨Tp, [u, v], rfl, .inl (.inl upd_same), rfl, u, [v], rfl, v, [], rfl, rfl, ?_⟩
      have sT := same_new (o := .tup [u, v]) nT
      obtain ⟨e, ee, hu⟩ := dpAll_get ha eu
      obtain ⟨e', ee', hv⟩ := dpAll_get ha2 ev
      have eq : e = e' := Option.some.inj (ee.symm.trans ee')
      subst eq
      refine ⟨u, rfl, v, rfl, u, v, e, rfl, dp_grow (sm.trans sT) hu, dp_grow (sm.trans sT) hv, hds e (List.mem_of_getElem? ee), fun H2 s2 => ?_⟩
      exact ⟨_, rfl, (sm.trans sT).trans s2, some u, some v, rfl⟩
    case list ds =>
      obtain ⟨a, xs, rfl, hs, ha⟩ : ∃ a xs, x = .ref a ∧ SqL K H a xs ∧ DpAll K H xs ds := by
        cases hx with
        | lst hs ha => exact ⟨_, _, rfl, hs, ha⟩
      obtain ⟨b, ys, rfl, hs2, ha2⟩ : ∃ b ys, y = .ref b ∧ SqL K H b ys ∧ DpAll K H ys ds := by
        cases hy with
        | lst hs ha => exact ⟨_, _, rfl, hs, ha⟩
      obtain ⟨hl, hds⟩ := ho
      have el : xs.length = ys.length := (dpAll_len ha).trans (dpAll_len ha2).symm
      have hx' : Dp K H (.ref a) (.list ds) := .lst hs ha
      have hy' : Dp K H (.ref b) (.list ds) := .lst hs2 ha2
      refine ⟨.ref b, rfl, .ref b, _, rfl, hy', _, rfl, ?_⟩
      refine ⟨.ref b, rfl, .ref b, _, rfl, hy', _, rfl, ?_⟩
      refine ⟨.ref b, rfl, .ref b, _, rfl, hy', _, rfl, ?_⟩
      refine ⟨.ref b, rfl, .ref b, _, rfl, hy', _, rfl, ?_⟩
      refine ⟨.ref a, rfl, .ref a, _, rfl, hx', _, rfl, ?_⟩
      refine ⟨.ref a, rfl, a, xs, rfl, .inl hs, .ref b, rfl, b, ys, rfl, .inl hs2, rfl, _, rfl, ?_⟩
      rw [decide_eq_true (show V.int (xs.length : Int) = V.int (ys.length : Int) by rw [el])]
      refine ⟨.ref a, rfl, .ref b, rfl, a, b, xs, ys, rfl, .inl ⟨hs, hs2, ?_⟩⟩
      refine RZ.for_zipL (K := K) (a := a) (b := b) (xs := xs) (ys := ys) el (fun i σ H' => Same H H' ∧ ∃ y2 y3, σ = [some (.ref a), some (.ref b), y2, y3]) ⟨Same.refl H, none, none, rfl⟩ (fun i σ H' h => ⟨Same.seq h.1 hs, Same.seq h.1 hs2⟩)
        (fun i u v Tp σ H' eu ev h nT => ?_) (fun σ H' h => q H' h.1)
      obtain ⟨sm, y2, y3, rfl⟩ := h
      refine ⟨Tp, [u, v], rfl, .inl (.inl upd_same), rfl, u, [v], rfl, v, [], rfl, rfl, ?_⟩
      have sT := same_new (o := .tup [u, v]) nT
      obtain ⟨e, ee, hu⟩ := dpAll_get ha eu
      obtain ⟨e', ee', hv⟩ := dpAll_get ha2 ev
      have eq : e = e' := Option.some.inj (ee.symm.trans ee')
      subst eq
      refine ⟨u, rfl, v, rfl, u, v, e, rfl, dp_grow (sm.trans sT) hu, dp_grow (sm.trans sT) hv, hds e (List.mem_of_getElem? ee), fun H2 s2 => ?_⟩
      exact ⟨_, rfl, (sm.trans sT).trans s2, some u, some v, rfl⟩
    all_goals exact ho.elim
end
end K5
set_option Elab.async false
set_option linter.all false
set_option maxRecDepth 100000
set_option maxHeartbeats 2000000
namespace K5
open PySem PySem.Spec PyProof.Rows L2 Ver
section
variable {P : Program} {w : World} {K : PySem.W.Frag} {mg : Str → Option Value} {base : Heap}
def Pool (H : Hp) (p : Addr) : Prop := ∃ ns : List Int, ns ≠ [] ∧ ns.length ≤ 1000 ∧ H p = some (.lst (ns.map V.int))
def Drawn (p : Addr) (H H' : Hp) : Prop := (∀ b o, b ≠ p → H b = some o → H' b = some o) ∧ Pool H' p
theorem Drawn.refl {p : Addr} {H : Hp} (h : Pool H p) : Drawn p H H := ⟨fun _ _ _ e => e, h⟩
theorem Drawn.trans {p : Addr} {H H1 H2 : Hp} (a : Drawn p H H1) (b : Drawn p H1 H2) : Drawn p H H2 := ⟨fun c o h e => b.1 c o h (a.1 c o h e), b.2⟩
theorem Drawn.same {p : Addr} {H H1 H2 : Hp} (a : Drawn p H H1) (b : Same H1 H2) : Drawn p H H2 := ⟨fun c o h e => b c o (a.1 c o h e), by
  obtain ⟨ns, h1, h2, h3⟩ := a.2
  exact ⟨ns, h1, h2, b _ _ h3⟩⟩
theorem Drawn.at {p L : Addr} {H H1 : Hp} {o : HO} (a : Drawn p H H1) (nL : H L = none) (pL : p ≠ L) : Drawn p H (upd H1 L o) := ⟨fun b x h e => by
  rw [upd_ne (ne_of_none e nL)]
  exact a.1 b x h e, by
  obtain ⟨ns, h1, h2, h3⟩ := a.2
  exact ⟨ns, h1, h2, by rw [upd_ne pL]; exact h3⟩⟩
theorem Pool.same {p : Addr} {H H1 : Hp} (a : Pool H p) (b : Same H H1) : Pool H1 p := ((Drawn.refl a).same b).2
theorem set_ne {α : Type} {l : List α} {i : Nat} {x : α} (h : l ≠ []) : l.set i x ≠ [] := fun z => by
  have := congrArg List.length z
  rw [List.length_set] at this
  exact h (List.eq_nil_of_length_eq_zero this)
theorem atI_zero {xs : List V} {x : V} (h : xs[0]? = some x) : atI xs 0 = some x := atI_nat (j := 0) h
def sp__law_pick (K : PySem.W.Frag) : Sp := fun vs H Q _ => ∃ p m, vs = [.ref p, .int m] ∧ Pool H p ∧ 1 ≤ m ∧ m ≤ 1000000000 ∧ ∀ r H', 0 ≤ r → r < m → Drawn p H H' → (∀ b, H b = none → H' b = none) → Q (.int r) H'
theorem ok__law_pick (T : Tx K mg) : FnOk P w K mg base CX0 1 T.f__law_pick T.d__law_pick ["pool", "many"] (sp__law_pick K) := by
  refine T.F__law_pick.ok sc__law_pick (fun vs H Q E h => ?_) (fun cdv A outer s H vs Q E hr h => ?_)
  · obtain ⟨p, m, rfl, _⟩ := h; rfl
  · obtain ⟨p, m, rfl, ⟨ns, ne, hl, hp⟩, m0, m1, q⟩ := h
    refine ⟨_, (C8.pss_cut (ps_if (PW.pt (pw_and (pt_cmpR op_gt (pe_callB call_len_seq (by rfl) T.n_len (by decide +kernel) (pa_cons (pv 0) pa_nil)) pe_int (nomark _)) (pw_and1 (pt_cmpR op_eq (pe_ix ix_list (pv 0) (pe_un un_neg pe_int) (fun _ _ => rfl)) pe_int (nomark _))))) (pss_one (ps_expr (pe_bm0 PySem.F.plainAttrs_list PySem.F.slot_list_pop PySem.F.type_list_pop mt_pop (pv 0)))) pss_nil)
    (pss_cons (ps_if (pt_cmpR op_gt (pe_callB call_len_seq (by rfl) T.n_len (by decide +kernel) (pa_cons (pv 0) pa_nil)) pe_int (nomark _)) (pss_cons (ps_set (i := 2) sc__law_pick.nd rfl (Or.inl rfl) (pe_callTy call_int1 (by rfl) T.n_int (by decide +kernel) (pa_cons (pe_ix ix_list (pv 0) (pe_un un_neg pe_int) (fun _ _ => rfl)) pa_nil)))
    (pss_cons (ps_asg (pe_op op_fdivN (pv 2) (pv 1)) (pg_sub (pv 0) (pe_un un_neg pe_int) set_list))
    (pss_one (ps_ret (pe_op op_modN (pv 2) (pv 1)))))) pss_nil)
    (pss_cons (ps_asg (pe_op op_modN (pe_callTy call_int1 (by rfl) T.n_int (by decide +kernel) (pa_cons (pe_op op_mul (pe_ix ix_list (pv 0) pe_int (fun _ _ => rfl)) pe_int) pa_nil)) pe_int) (pg_sub (pv 0) pe_int set_list))
    (pss_one (ps_ret (pe_op op_modN (pe_callTy call_int1 (by rfl) T.n_int (by decide +kernel) (pa_cons (pe_op op_fdivN (pe_ix ix_list (pv 0) pe_int (fun _ _ => rfl)) pe_int) pa_nil)) (pv 1))))))), ?_⟩
    have fm : ∀ i : Int, 0 ≤ i.fmod m ∧ i.fmod m < m := fun i => ⟨Int.fmod_nonneg_of_pos _ (by omega), Int.fmod_lt_of_pos _ (by omega)⟩
    refine ⟨fun σ' H' => σ' = [some (.ref p), some (.int m), none] ∧ (∀ b, H b = none → H' b = none) ∧ (∀ b o, b ≠ p → H b = some o → H' b = some o) ∧ Pool H' p, ?_, fun σ' H1 h => ?_⟩
    · have stay : ([some (.ref p), some (.int m), none] : L2.St) = [some (.ref p), some (.int m), none] ∧ (∀ b, H b = none → H b = none) ∧ (∀ b o, b ≠ p → H b = some o → H b = some o) ∧ Pool H p := ⟨rfl, fun _ e => e, fun _ _ _ e => e, ⟨ns, ne, hl, hp⟩⟩
      refine ⟨.ref p, rfl, p, _, rfl, .inl (.inl (.inl hp)), _, _, rfl, rfl, _, rfl, ite2 (fun z => ?_) (fun z => stay)⟩
      have z1 := of_decide_eq_true z
      rw [List.length_map] at z1
      have e3 : ns = ns.dropLast ++ [ns.getLast ne] := (List.dropLast_concat_getLast ne).symm
      have el : atI (ns.map V.int) (-1) = some (.int (ns.getLast ne)) := by
        rw [show ns.map V.int = ns.dropLast.map V.int ++ [.int (ns.getLast ne)] by rw [← List.map_singleton, ← List.map_append, ← e3]]
        exact atI_last _ _
      refine ⟨.ref p, rfl, _, rfl, p, _, -1, _, rfl, rfl, .inl (.inl hp), el, rfl, _, rfl, ite2 (fun z2 => ?_) (fun z2 => stay)⟩
      refine ⟨.ref p, rfl, .inl ⟨rfl, _, .inl (.inl hp)⟩, p, _, .int (ns.getLast ne), rfl, rfl, hp, ?_, ?_⟩
      · rw [List.length_map, List.getElem?_map, ← List.getLast?_eq_getElem?, List.getLast?_eq_getLast ne]
        rfl
      · refine ⟨rfl, fun b e => ?_, fun b o hb e => ?_, ns.dropLast, ?_, ?_, ?_⟩
        · by_cases hb : b = p
          · rw [hb, hp] at e; cases e
          · rw [upd_ne hb]; exact e
        · rw [upd_ne hb]; exact e
        · intro z3
          have := congrArg List.length z3
          rw [List.length_dropLast, List.length_nil] at this
          omega
        · rw [List.length_dropLast]; omega
        · rw [upd_same, List.map_dropLast]
    · obtain ⟨rfl, hf, hk, ns, ne, hl, hp⟩ := h
      have back : ∀ {H2 : Hp} {ns2 : List Int}, ns2 ≠ [] → ns2.length ≤ 1000 → H2 = upd H1 p (.lst (ns2.map V.int)) → Drawn p H H2 ∧ ∀ b, H b = none → H2 b = none := fun {H2 ns2} n2 l2 e2 => by
        subst e2
        refine ⟨⟨fun b o hb e => ?_, ns2, n2, l2, upd_same⟩, fun b e => ?_⟩
        · rw [upd_ne hb]; exact hk b o hb e
        · have e1 := hf b e
          by_cases hb : b = p
          · rw [hb, hp] at e1; cases e1
          · rw [upd_ne hb]; exact e1
      refine ⟨.ref p, rfl, p, _, rfl, .inl (.inl (.inl hp)), _, _, rfl, rfl, _, rfl, ite2 (fun z => ?_) (fun z => ?_)⟩
      · have z1 := of_decide_eq_true z
        rw [List.length_map] at z1
        have e3 : ns = ns.dropLast ++ [ns.getLast ne] := (List.dropLast_concat_getLast ne).symm
        have el : atI (ns.map V.int) (-1) = some (.int (ns.getLast ne)) := by
          rw [show ns.map V.int = ns.dropLast.map V.int ++ [.int (ns.getLast ne)] by rw [← List.map_singleton, ← List.map_append, ← e3]]
          exact atI_last _ _
        have ix : ixN (ns.map V.int).length (-1) = some (ns.length - 1) := by
          unfold ixN
          rw [if_neg (by omega), if_pos (by rw [List.length_map]; omega), List.length_map]
          congr 1
          omega
        refine ⟨.ref p, rfl, _, rfl, p, _, -1, _, rfl, rfl, .inl (.inl hp), el, .inl ⟨_, rfl, ?_⟩⟩
        refine ⟨.int (ns.getLast ne), rfl, .int m, rfl, _, m, rfl, rfl, ⟨by omega, by omega⟩, ?_⟩
        refine ⟨.ref p, rfl, 1, rfl, p, _, -1, _, rfl, rfl, hp, ix, ?_⟩
        refine ⟨.int (ns.getLast ne), rfl, .int m, rfl, _, m, rfl, rfl, by omega, ?_⟩
        obtain ⟨f1, f2⟩ := fm (ns.getLast ne)
        obtain ⟨b1, b2⟩ := back (H2 := upd H1 p (.lst ((ns.map V.int).set (ns.length - 1) (.int ((ns.getLast ne).fdiv m))))) (ns2 := ns.set (ns.length - 1) ((ns.getLast ne).fdiv m)) (set_ne ne) (by rw [List.length_set]; exact hl) (by rw [List.map_set])
        exact q _ _ f1 f2 b1 b2
      · have e0 : ∃ x, ns[0]? = some x := by
          cases ns with
          | nil => exact absurd rfl ne
          | cons x r => exact ⟨x, rfl⟩
        obtain ⟨x0, ex0⟩ := e0
        have ex1 : (ns.map V.int)[0]? = some (.int x0) := by rw [List.getElem?_map, ex0]; rfl
        have pos : 0 < (ns.map V.int).length := by
          rw [List.length_map]
          cases ns with
          | nil => exact absurd rfl ne
          | cons x r => simp
        have ix : ixN (ns.map V.int).length 0 = some 0 := by
          unfold ixN
          rw [if_pos (by omega), if_pos (by omega)]
          rfl
        refine ⟨.ref p, rfl, p, _, 0, _, rfl, rfl, .inl (.inl hp), atI_zero ex1, _, _, rfl, rfl, .inr ⟨by omega, by omega⟩, .inl ⟨_, rfl, _, _, rfl, rfl, by omega, ?_⟩⟩
        have es : (ns.map V.int).set 0 (.int ((x0 * 30269).fmod 2305843009213693951)) = (ns.set 0 ((x0 * 30269).fmod 2305843009213693951)).map V.int := (List.map_set ..).symm
        have ex2 : ((ns.map V.int).set 0 (.int ((x0 * 30269).fmod 2305843009213693951)))[0]? = some (.int ((x0 * 30269).fmod 2305843009213693951)) := List.getElem?_set_self pos
        refine ⟨.ref p, rfl, p, _, 0, 0, rfl, rfl, hp, ix, ?_⟩
        refine ⟨.ref p, rfl, p, _, 0, _, rfl, rfl, .inl (.inl upd_same), atI_zero ex2, _, _, rfl, rfl, ⟨by omega, by omega⟩, .inl ⟨_, rfl, .int m, rfl, _, m, rfl, rfl, by omega, ?_⟩⟩
        obtain ⟨b1, b2⟩ := back (H2 := upd H1 p (.lst ((ns.map V.int).set 0 (.int ((x0 * 30269).fmod 2305843009213693951))))) (ns2 := ns.set 0 ((x0 * 30269).fmod 2305843009213693951)) (set_ne ne) (by rw [List.length_set]; exact hl) (by rw [es])
        obtain ⟨f1, f2⟩ := fm (((x0 * 30269).fmod 2305843009213693951).fdiv 98317)
        exact q _ _ f1 f2 b1 b2
end
end K5
set_option Elab.async false
set_option linter.all false
set_option maxRecDepth 100000
set_option maxHeartbeats 2000000
namespace K5
open PySem PySem.Spec PyProof.Rows L2 Ver
theorem seqT_drawn {K : PySem.W.Frag} {H H' : Hp} {p b : Addr} {xs : List V} (hp : Pool H p) (d : Drawn p H H') (h : SqT K H b xs) : SqT K H' b xs := by
  obtain ⟨ns, _, _, e⟩ := hp
  rcases h with (h | ⟨o, h⟩) | h
  · exact .inl (.inl (d.1 b _ (ne_of h e (by intro z; cases z)) h))
  · exact .inl (.inr ⟨o, d.1 b _ (ne_of h e (by intro z; cases z)) h⟩)
  · exact .inr h
theorem lst_drawn {H H' : Hp} {p b : Addr} {xs : List V} (d : Drawn p H H') (hb : b ≠ p) (h : H b = some (.lst xs)) : H' b = some (.lst xs) := d.1 b _ hb h
theorem Pool.ne_none {H : Hp} {p b : Addr} (hp : Pool H p) (h : H b = none) : p ≠ b := by
  obtain ⟨ns, _, _, e⟩ := hp
  exact ne_of_none e h
section
variable {P : Program} {w : World} {K : PySem.W.Frag} {mg : Str → Option Value} {base : Heap}
def sp__law_pool (K : PySem.W.Frag) : Sp := fun vs H Q _ => ∃ (a : Addr) (ns : List Int), vs = [.ref a] ∧ SqL K H a (ns.map V.int) ∧ ns.length ≤ 63 ∧ ∀ p H', Same H H' → Pool H' p → Q (.ref p) H'
theorem ok__law_pool (T : Tx K mg) : FnOk P w K mg base CX0 1 T.f__law_pool T.d__law_pool ["script"] (sp__law_pool K) := by
  refine T.F__law_pool.ok sc__law_pool (fun vs H Q E h => ?_) (fun cdv A outer s H vs Q E hr h => ?_)
  · obtain ⟨a, ns, rfl, _⟩ := h; rfl
  · obtain ⟨a, ns, rfl, hs, hz, q⟩ := h
    refine ⟨_, (pss_cons (ps_set (i := 1) sc__law_pool.nd rfl (Or.inl rfl) (pe_op op_mulW (pe_op op_mulW (pe_op op_mulW (pe_op op_pow pe_int pe_int) (pe_op op_pow pe_int pe_int)) (pe_op op_pow pe_int pe_int)) (pe_op op_pow pe_int pe_int)))
    (pss_cons (ps_set (i := 2) sc__law_pool.nd rfl (Or.inl rfl) (pe_lst (pa_cons pe_int pa_nil)))
    (pss_cons (ps_for PassesOwn.never rfl (pi_list (pv 0)) (pg_name (i := 3) sc__law_pool.nd rfl (Or.inl rfl))
    (pss_cons (ps_set (i := 4) sc__law_pool.nd rfl (Or.inl rfl) (pe_callTy call_int1 (by rfl) T.n_int (by decide +kernel) (pa_cons (pv 3) pa_nil)))
    (C8.pss_cut (ps_set (i := 5) sc__law_pool.nd rfl (Or.inl rfl) (pe_ifExp (pt_cmpR op_ge (pv 4) pe_int (nomark _)) (pv 4) (pe_op op_sub pe_int (pe_op op_mul pe_int (pv 4)))))
    (pss_cons (ps_asg (pe_op op_modN (pe_callTy call_int1 (by rfl) T.n_int (by decide +kernel) (pa_cons (pe_op op_add (pe_op op_add (pe_op op_mul (pe_ix ix_list (pv 2) pe_int (fun _ _ => rfl)) pe_int) (pe_op op_mul (pv 5) pe_int)) pe_int) pa_nil)) pe_int) (pg_sub (pv 2) pe_int set_list))
    (pss_one (ps_if (pt_cmpR op_ge (pv 5) (pe_op op_pow pe_int pe_int) (nomark _)) (pss_one (ps_expr (pe_bm PySem.F.plainAttrs_list PySem.F.slot_list_append PySem.F.type_list_append mt_append (pv 2) (pa_cons (pe_op op_modN (pe_callTy call_int1 (by rfl) T.n_int (by decide +kernel) (pa_cons (pv 5) pa_nil)) (pv 1)) pa_nil)))) pss_nil))))))
    (pss_one (ps_ret (pv 2)))))), ?_⟩
    refine ⟨_, _, rfl, rfl, ⟨by decide, by decide, by decide⟩, _, _, rfl, rfl, ⟨by decide, by decide, by decide⟩, _, _, rfl, rfl, by unfold CMulW; decide +kernel, ?_⟩
    refine ⟨_, _, rfl, rfl, ⟨by decide, by decide, by decide⟩, _, _, rfl, rfl, by unfold CMulW; decide +kernel, ?_⟩
    refine ⟨_, _, rfl, rfl, ⟨by decide, by decide, by decide⟩, _, _, rfl, rfl, by unfold CMulW; decide +kernel, ?_⟩
    refine ⟨small' (by simp), fun p np => ?_⟩
    refine ⟨.ref a, rfl, a, rfl, ⟨_, (same_new np).seq hs⟩, ?_⟩
    refine for_list (K := K) (a := a) (xs := ns.map V.int) (fun i σ H' => ∃ room y3 y4 y5 ms, σ = [some (.ref a), some (.int room), some (.ref p), y3, y4, y5] ∧ room ≠ 0 ∧ (∀ b o, H b = some o → H' b = some o) ∧ ms ≠ [] ∧ ms.length ≤ 1 + i ∧ H' p = some (.lst (List.map V.int ms)))
      ⟨_, none, none, none, [0], rfl, by decide +kernel, same_new np, by simp, by simp, upd_same⟩ (fun i σ H' _ h => ?_) (fun i x σ H' ex h => ?_) (fun σ H' h => ?_)
    · obtain ⟨_, _, _, _, _, _, _, sm, _⟩ := h
      exact Same.seq sm hs
    · obtain ⟨room, y3, y4, y5, ms, rfl, r0, sm, mn, ml, hp⟩ := h
      have lt : i < ns.length := by
        have := (List.getElem?_eq_some_iff.mp ex).1
        rw [List.length_map] at this
        exact this
      rw [List.getElem?_map] at ex
      obtain ⟨c, rfl⟩ : ∃ c, x = V.int c := by
        cases e : ns[i]? with
        | none => rw [e] at ex; cases ex
        | some c => rw [e] at ex; exact ⟨c, (Option.some.inj ex).symm⟩
      refine ⟨.int c, rfl, .inl ⟨c, rfl, ?_⟩⟩
      refine ⟨fun σ2 H2 => H2 = H' ∧ ∃ tn, σ2 = [some (.ref a), some (.int room), some (.ref p), some (.int c), some (.int c), some (.int tn)], ?_, fun σ2 H2 h2 => ?_⟩
      · refine ⟨.int c, rfl, c, 0, rfl, rfl, _, rfl, ite2 (fun z => ?_) (fun z => ?_)⟩
        · exact ⟨.int c, rfl, rfl, c, rfl⟩
        · exact ⟨.int c, rfl, _, _, rfl, rfl, .inl ⟨by omega, by omega⟩, _, _, rfl, rfl, rfl, _, rfl⟩
      obtain ⟨rfl, tn, rfl⟩ := h2
      obtain ⟨x0, ex0⟩ : ∃ x, ms[0]? = some x := by
        cases ms with
        | nil => exact absurd rfl mn
        | cons x r => exact ⟨x, rfl⟩
      have ex1 : (ms.map V.int)[0]? = some (.int x0) := by rw [List.getElem?_map, ex0]; rfl
      have pos : 0 < (ms.map V.int).length := by
        rw [List.length_map]
        cases ms with
        | nil => exact absurd rfl mn
        | cons x r => simp
      have ix : ixN (ms.map V.int).length 0 = some 0 := by
        unfold ixN
        rw [if_pos (by omega), if_pos (by omega)]
        rfl
      have npH : H p = none := np
      refine ⟨.ref p, rfl, p, _, 0, _, rfl, rfl, .inl (.inl hp), atI_zero ex1, _, _, rfl, rfl, .inr ⟨by omega, by omega⟩, .int tn, rfl, _, _, rfl, rfl, .inr ⟨by omega, by omega⟩, _, _, rfl, rfl, _, _, rfl, rfl, .inl ⟨_, rfl, _, _, rfl, rfl, by omega, ?_⟩⟩
      refine ⟨.ref p, rfl, p, _, 0, 0, rfl, rfl, hp, ix, ?_⟩
      refine ⟨.int tn, rfl, _, _, rfl, rfl, ⟨by decide, by decide, by decide⟩, tn, _, rfl, rfl, _, rfl, ite2 (fun z => ?_) (fun z => ?_)⟩
      · refine ⟨.ref p, rfl, .inl ⟨rfl, _, .inl (.inl upd_same)⟩, .int tn, rfl, .inl ⟨tn, rfl, .int room, rfl, tn, room, rfl, rfl, r0, ?_⟩⟩
        refine ⟨p, _, _, rfl, rfl, upd_same, small (by rw [List.length_set, List.length_map]; omega), ?_⟩
        refine ⟨room, some (.int c), some (.int c), some (.int tn), ms.set 0 ((x0 * 8675309 + tn * 67867 + 6143).fmod 2305843009213693951) ++ [tn.fmod room], rfl, r0, fun b o e => ?_, by simp, ?_, ?_⟩
        · have hb : b ≠ p := ne_of_none e npH
          rw [upd_ne hb, upd_ne hb]
          exact sm b o e
        · rw [List.length_append, List.length_set, List.length_singleton]; omega
        · rw [upd_same, List.map_append, List.map_set]
          rfl
      · refine ⟨room, some (.int c), some (.int c), some (.int tn), ms.set 0 ((x0 * 8675309 + tn * 67867 + 6143).fmod 2305843009213693951), rfl, r0, fun b o e => ?_, set_ne mn, ?_, ?_⟩
        · rw [upd_ne (ne_of_none e npH)]
          exact sm b o e
        · rw [List.length_set]; omega
        · rw [upd_same, List.map_set]
    · obtain ⟨room, y3, y4, y5, ms, rfl, r0, sm, mn, ml, hp⟩ := h
      rw [List.length_map] at ml
      exact ⟨.ref p, rfl, q p H' sm ⟨ms, mn, by omega, hp⟩⟩
end
end K5
set_option Elab.async false
set_option linter.all false
set_option maxRecDepth 100000
set_option maxHeartbeats 4000000
namespace PySem
open Sem (wp)
open AutoSeq1 (wpAny_loadPart')
theorem meets_enum_new1 {v : Value} {o : Obj} {H : Heap → Prop} (B : Begins v o H) :
    Meets (Builtin.«enumerate.__new__» ⟨[.type "enumerate", v], []⟩) (fun _ R s => H s.heap ∧
      R (.ok (.ret (.ref (s.heap.push o).objs.size))) { s with heap := (s.heap.push o).push { cls := .type "enumerate", data := .fields #[.none, .bool false, .ref s.heap.objs.size, rawInt 0, .none, .none] } }) :=
  .of_wp fun prog w A R s h => by
    obtain ⟨hp, g, d, tk, os⟩ := s; obtain ⟨h1, h⟩ := h
    have hsub := sub_enumerate
    have q1 : ∀ {A' : Around} {E : Value → Shared → Prop} {Q : Value → Shared → Prop}, Q (.ref hp.objs.size) ⟨hp.push o, g, d, tk, os⟩ → wpAny (model prog w) A' (pyIter v) Q E ⟨hp, g, d, tk, os⟩ :=
      fun q => B.iter prog w _ _ ⟨hp, g, d, tk, os⟩ _ h1 q
    wp_walk using q1
    refine wpAny_stack_any fun st => wpAny_pure ?_
    split
    · rename_i c _ _ _ _ _
      cases (c == Value.type "enumerate")
      · wp_walk using q1
        exact ⟨_, rfl, h⟩
      · wp_walk using q1
        exact ⟨_, rfl, h⟩
    · wp_walk using q1
      exact ⟨_, rfl, h⟩
theorem enum_begins1 {prog : Program} {w : World} {A : Around} {E : Value → Shared → Prop} {s : Shared} {v : Value} {o : Obj} {H : Heap → Prop} {Q : Value → Shared → Prop} (B : Begins v o H) (h1 : H s.heap)
    (h : ∀ h', IsEnum h' (s.heap.objs.size + 1) s.heap.objs.size 0 .none → h'.get? s.heap.objs.size = some o → h'.objs.size = s.heap.objs.size + 2 →
      (∀ b o, s.heap.get? b = some o → h'.get? b = some o) → Q (.ref (s.heap.objs.size + 1)) { s with heap := h' }) :
    wpAny (model prog w) A (call (.type "enumerate") [v]) Q E s := by
  refine callType_new F.called_enumerate (by decide) (F.typeCall_enumerate_1 _) (F.newCall_enumerate_1 _) (fun obj => F.args_object_init_2 obj _) F.entry_enumerate_new
    (meets_enum_new1 B) ⟨h1, ?_⟩
  have hz : (s.heap.push o).objs.size = s.heap.objs.size + 1 := Heap.size_push ..
  show _ ∧ _
  rw [hz]
  have he : IsEnum ((s.heap.push o).push { cls := .type "enumerate", data := .fields #[.none, .bool false, .ref s.heap.objs.size, rawInt 0, .none, .none] }) (s.heap.objs.size + 1) s.heap.objs.size 0 .none := by
    have := Heap.get?_push_size (s.heap.push o) (o := { cls := .type "enumerate", data := .fields #[.none, .bool false, .ref s.heap.objs.size, rawInt 0, .none, .none] }) rfl
    rw [hz] at this; exact this
  refine ⟨⟨_, he, rfl⟩, h _ he (Heap.get?_push_of_some _ (Heap.get?_push_size _ B.free)) (by rw [Heap.size_push, hz]) fun b o x => Heap.get?_push_of_some _ (Heap.get?_push_of_some _ x)⟩
end PySem
namespace Ver
open PySem PySem.Spec PyProof.Rows L2
def Itet (K : PySem.W.Frag) (a : Addr) : It :=
  ⟨fun i H => ∃ (xs : List V) (x : V), SqT K H a xs ∧ xs[i]? = some x, fun i H v H' => ∃ T x, v = .ref T ∧ H T = none ∧ H' = upd H T (.tup [.int (i : Nat), x]) ∧ ∀ xs, SqT K H a xs → xs[i]? = some x, fun i H => ∃ xs : List V, SqT K H a xs ∧ xs.length ≤ i⟩
theorem turn_enumT {P : Program} {w : World} {K : PySem.W.Frag} {elts : List Expr} {kk : Nat} {tpos : Pos} (a e it : Addr) :
    Turn P w K (.Tuple elts kk tpos) (Itet K a) [e, it] e (fun i h => (∃ old, IsEnum h e it ((i : Nat) : Int) old) ∧ h.IsTupleIter it a i ∧ e ≠ it) where
  mem := by simp
  obj := fun i h st b hb => by
    obtain ⟨⟨old, he⟩, ⟨o, ho, hc, hd⟩, _⟩ := st
    have e' : b = e ∨ b = it := by simpa using hb
    rcases e' with z | z
    · rw [z]; exact ⟨_, he, fun v q => nomatch q⟩
    · rw [z]; exact ⟨o, ho, fun v q => by rw [hd] at q; cases q⟩
  keep := fun i h h' st k => let ⟨⟨old, he⟩, hi, hne⟩ := st; ⟨⟨old, k e (by simp) _ he⟩, hi.at fun o q => k it (by simp) o q, hne⟩
  item := by
    intro X hP hw hK hc i pins s σ H E I hf st hg
    subst hP hw hK
    obtain ⟨⟨old, he⟩, hit, hne⟩ := st
    obtain ⟨xs, x, hq, hx⟩ := hg
    obtain ⟨its, rv, p, hz⟩ := I.tuple hq
    obtain ⟨u, hu, ru⟩ := rv.get hx
    have hel : e < s.heap.objs.size := Heap.lt_size he
    have hil : it < s.heap.objs.size := by obtain ⟨_, q, _⟩ := hit; exact Heap.lt_size q
    have nea : e ≠ a := fun z => by
      obtain ⟨o, ho, hc, _⟩ := p
      rw [← z, he] at ho
      cases ho
      injection hc with hc
      exact absurd hc (by decide)
    have nia : a ≠ it := fun z => by
      obtain ⟨o, ho, hc, _⟩ := p
      obtain ⟨o', ho', hc', _⟩ := hit
      rw [z, ho'] at ho
      cases ho
      rw [hc'] at hc
      injection hc with hc
      exact absurd hc (by decide)
    have hi : i < its.toArray.size := by
      have := (List.getElem?_eq_some_iff.mp hu).1
      simpa using this
    refine wpAny_pyNext_enum_itemD (Draws.tuple (A := X.A.in1) (I.ok.hd hc) it a nia its.toArray) he ⟨hit, p⟩ hi hne (by simp [hne, nea]) fun x' h' tk hx' ho hst' hT hsz hk => ?_
    obtain rfl : u = x' := by
      have z : its.toArray[i]? = some x' := hx'
      have z2 : its[i]? = some x' := by simpa using z
      rw [hu] at z2
      exact Option.some.inj z2
    refine ⟨_, rfl, wpAny_letOwnedTupleGo_enum (s := { s with heap := h', toks := tk + 1 }) ho fun h'' he' sb => ?_⟩
    have hT2 : h''.get? s.heap.objs.size = some { cls := .type "tuple", data := .seq #[.int i tk, u] } := (sb.2 _ (Nat.ne_of_gt hel)).trans hT
    have new : ObjOk X.prog X.w (upd H s.heap.objs.size (.tup [.int (i : Nat), x])) h'' s.heap.objs.size (.tup [.int (i : Nat), x]) :=
      ⟨by show 2 ≤ sizeLine; decide, [.int i tk, u], .cons ⟨_, rfl⟩ (.cons ru .nil), ⟨_, hT2, rfl, _, rfl⟩⟩
    have I1 : Inv X pins σ (upd H s.heap.objs.size (.tup [.int (i : Nat), x])) { s with heap := h'', toks := tk + 1 } :=
      I.turnedNew (ch := [e, it]) (fun b ob hb q => (sb.2 b (fun z => hb (by simp [z]))).trans (hk b ob (fun z => hb (by simp [z])) (fun z => hb (by simp [z])) q)) hf (Nat.le_refl _) new
    refine ⟨.ref s.heap.objs.size, _, I1, rfl, ⟨_, x, rfl, I.hok.fresh (Nat.le_refl _), rfl, fun ys hy => by rw [I.tuple_inj hy hq]; exact hx⟩, ⟨⟨u, ?_⟩, hst'.1.at fun o q => (sb.2 it (Ne.symm hne)).trans q, hne⟩, fun b hb => ?_⟩
    · have e1 : ((i + 1 : Nat) : Int) = (i : Int) + 1 := by omega
      rw [e1]; exact he'
    · have hb' : b < s.heap.objs.size := by
        have e' : b = e ∨ b = it := by simpa using hb
        rcases e' with z | z
        · rw [z]; exact hel
        · rw [z]; exact hil
      rw [upd_ne (Nat.ne_of_lt hb')]
      exact (hf b hb).1
  done := by
    intro X hP hw hK hc i pins s σ H E I hf st hg
    subst hP hw hK
    obtain ⟨⟨old, he⟩, hit, hne⟩ := st
    obtain ⟨xs, hq, hx⟩ := hg
    obtain ⟨its, rv, p, hz⟩ := I.tuple hq
    obtain ⟨f0, f1, f2, f3, f4, f5⟩ := hf it (by simp)
    have hl := rv.length
    have hT : s.TypeIs (.ref e) "enumerate" := ⟨_, he, rfl⟩
    unfold pyNext
    refine wpAny_bind (wpAny_attempt (wpAny_callSpecial?_slot (name := Str.ofString "__next__") hT F.slot_enumerate_next
      (wpAny_call_entry F.slot_enumerate_next hT F.entry_enumerate_next ?_ (F.args_enumerate_next_1 _))))
    show wpAny _ _ (field (.ref e) 2 >>= _) _ _ _
    refine wpAny_bind (wpAny_field he rfl (x := .ref it) rfl ?_)
    refine wpAny_bind (wpAny_nextOf_tuple_end (I.ok.hd hc) hit p (by simp; omega) fun h' x he' hx' => ?_)
    obtain ⟨o, ho, hc⟩ := hx'
    refine wpAny_bind (wpAny_isInstance (T := "StopIteration") (b := true) ⟨o, ho, hc⟩ isSubtype_stop ?_)
    exact wpAny_pure ⟨rfl, I.turned (t' := s.toks) (fun b o hb q => he' b o hb q) f0 f1 f3 f4 f5⟩
  self := fun A i s Q E st h => let ⟨⟨_, he⟩, _⟩ := st; wpAny_pyIter_enum he h
def iEnumT (K : PySem.W.Frag) (ta : TA) : TI := fun σ H R => ta σ H fun vs H1 => ∃ a xs, vs = [.ref a] ∧ SqT K H1 a xs ∧ R (Itet K a) H1
theorem pi_enumT {X : Cx} {e : Expr} {ta : TA} {p pos tpos : Pos} {elts : List Expr} {kk : Nat} (hg : Gl X "enumerate") (hm : X.mg "enumerate" = none) (ha : PA X [e] ta) (hs : starEach [e] X.env = [(false, eval e X.env)] := by rfl) :
    PI X (.Tuple elts kk tpos) (.Call (.Name "enumerate" p) [e] [] pos) (iEnumT X.K ta) := by
  refine ⟨fun pins s σ H R I h => ?_⟩
  refine Call_ (ld_blt I hg hm boot_enumerate (PyProof.Rows.callWith_type1 (thn (ha.run pos pins s σ H _ I h) fun us s1 ⟨vs, H1, I1, r1, q1⟩ => ?_) hs rfl))
  obtain ⟨a, xs, ex, hq, q⟩ := q1
  subst ex
  cases r1 with
  | cons r rr =>
    cases rr
    cases r
    obtain ⟨its, rv, p', hz⟩ := I1.tuple hq
    refine enum_begins1 (begins_tuple a its.toArray) p' fun h' he hio hsz hk => wpAny_pyIter_enum he ?_
    have I2 : Inv X pins σ H1 { s1 with heap := h' } := I1.kept (t' := s1.toks) hk
    refine ⟨s1.heap.objs.size + 1, [s1.heap.objs.size + 1, s1.heap.objs.size], _, _, H1, rfl, I2, turn_enumT a (s1.heap.objs.size + 1) s1.heap.objs.size, ⟨⟨.none, he⟩, ⟨_, hio, rfl, rfl⟩, Nat.succ_ne_self _⟩, fun b hb => ?_, q⟩
    have e' : b = s1.heap.objs.size + 1 ∨ b = s1.heap.objs.size := by simpa using hb
    have hle : s1.heap.objs.size ≤ b := by
      rcases e' with z | z
      · rw [z]; exact Nat.le_add_right _ _
      · rw [z]; exact Nat.le_refl _
    exact I1.fpOk hle (I1.hok.fresh hle)
end Ver
namespace Ver
open PySem PySem.Spec PyProof.Rows L2
theorem dc_enumT {K : PySem.W.Frag} {a : Addr} {xs : List V} {g : TG} {tt : TT} {tk tv : TE} {vs : List Nat} {σ : L2.St} {H1 : Hp} {D : Addr} {Qd : Hp → Prop} (Pv : Nat → Hp → Prop) (h0 : Pv 0 (upd H1 D (.dK []))) (hl : ∀ i H, i ≤ xs.length → Pv i H → SqT K H a xs)
    (hs : ∀ i x H T, xs[i]? = some x → Pv i H → H T = none → g (.ref T) (wipe σ vs) (upd H T (.tup [.int (i : Nat), x])) fun σ2 H2 => wipe σ2 vs = wipe σ vs ∧ tt σ2 H2 fun b H3 =>
      if b = true then tk σ2 H3 fun y H4 => tv σ2 H4 fun z H5 => ∃ kvs k, y = kV k ∧ H5 D = some (.dK kvs) ∧ kvs.length < sizeLine ∧ Pv (i + 1) (upd H5 D (.dK (putK kvs k z))) else Pv (i + 1) H3) (hd : ∀ H, Pv xs.length H → Qd H) :
    ∃ W : Nat → Nat → Hp → Prop, (∃ m, W 0 m (upd H1 D (.dK []))) ∧ ∀ i m H, W i m H →
      ((Itet K a).stop i H ∧ Qd H) ∨ ((Itet K a).go i H ∧ ∃ Nx : Hp → Prop, (∀ H', Nx H' → ∃ m', m' < m ∧ W (i + 1) m' H') ∧ ∀ x H', (Itet K a).yld i H x H' → g x (wipe σ vs) H' fun σ2 H2 => wipe σ2 vs = wipe σ vs ∧ tt σ2 H2 fun b H3 =>
        if b = true then tk σ2 H3 fun y H4 => tv σ2 H4 fun z H5 => ∃ kvs k, y = kV k ∧ H5 D = some (.dK kvs) ∧ kvs.length < sizeLine ∧ Nx (upd H5 D (.dK (putK kvs k z))) else Nx H3) := by
  refine ⟨fun i m H => m = xs.length - i ∧ i ≤ xs.length ∧ Pv i H, ⟨xs.length, by simp, Nat.zero_le _, h0⟩, ?_⟩
  rintro i m H ⟨rfl, hi, p⟩
  have q := hl i H hi p
  by_cases hlt : i < xs.length
  · refine .inr ⟨⟨xs, xs[i], q, by simp [hlt]⟩, Pv (i + 1), fun H' p' => ⟨xs.length - (i + 1), by omega, rfl, hlt, p'⟩, fun v H' y => ?_⟩
    obtain ⟨T, x, rfl, nT, rfl, f⟩ := y
    exact hs i x H T (f xs q) p nT
  · have e : i = xs.length := by omega
    subst e
    exact .inl ⟨⟨xs, q, Nat.le_refl _⟩, hd H p⟩
theorem pg_tupK {X : Cx} {K : PySem.W.Frag} {es : List Expr} {k : Nat} {pos : Pos} {t : TGs} {n : Nat} (hK : X.K = K) (hc : X.calm = true) (hn : (assignEach es X.env).length = n) (hst : (assignEach es X.env).findIdx? (·.1) = none) (h : PGs X es t) : PG X (.Tuple es k pos) (gTup K n t) := by
  subst hK
  exact pg_tup hc h hn hst
def rTupK (K : PySem.W.Frag) : List V → Hp → VK → Prop := fun xs H Q => ∃ p ys, xs = [V.ref p] ∧ ((SqL K H p ys ∧ ∀ l, H l = none → Q (.ref l) (upd H l (.tup ys))) ∨ (SqT K H p ys ∧ Q (.ref p) H))
theorem call_tupK {X : Cx} {K : PySem.W.Frag} (h : X.K = K) : CallR X (.type "tuple") (rTupK K) := by
  subst h
  exact call_tuple_of
theorem yes_on {σ : L2.St} {H : Hp} {A B : Hp → Prop} (h : A H) : tYes σ H fun b H3 => if b = true then A H3 else B H3 := by
  show (if true = true then A H else B H)
  rw [if_pos rfl]
  exact h
end Ver
set_option Elab.async false
set_option linter.all false
set_option maxRecDepth 100000
set_option maxHeartbeats 2000000
namespace Ver
open PySem PySem.Spec PyProof.Rows L2
theorem comp_str {x : Str} {te : TE} {σ : L2.St} {H1 : Hp} {D : Addr} {i : Nat} {Qd : Hp → Prop} (S : List V → Hp → Prop) (h0 : S [] (upd H1 D (.lst [])))
    (hs : ∀ acc c H, x.cps[acc.length]? = some c → S acc H → H D = some (.lst acc) → te ((wipe σ [i]).set i (some (.str ⟨#[c]⟩))) H (Turned D S acc.length))
    (hd : ∀ acc H, acc.length = x.length → S acc H → H D = some (.lst acc) → Qd H) :
    ∃ W : Nat → Nat → Hp → Prop, (∃ m, W 0 m (upd H1 D (.lst []))) ∧ ∀ j m H, W j m H →
      ((Its x).stop j H ∧ Qd H) ∨ ((Its x).go j H ∧ ∃ Nx : Hp → Prop, (∀ H', Nx H' → ∃ m', m' < m ∧ W (j + 1) m' H') ∧ ∀ y H', (Its x).yld j H y H' → gName i y (wipe σ [i]) H' fun σ2 H2 => wipe σ2 [i] = wipe σ [i] ∧ tYes σ2 H2 fun b H3 =>
        if b = true then te σ2 H3 fun y H4 => ∃ acc, H4 D = some (.lst acc) ∧ acc.length < sizeLine ∧ Nx (upd H4 D (.lst (acc ++ [y]))) else Nx H3) := by
  refine ⟨fun j m H => m = x.length - j ∧ j ≤ x.length ∧ ∃ acc, acc.length = j ∧ S acc H ∧ H D = some (.lst acc), ⟨x.length, by simp, Nat.zero_le _, [], rfl, h0, upd_same⟩, ?_⟩
  rintro j m H ⟨rfl, hj, acc, hn, h, hD⟩
  by_cases hlt : j < x.length
  · refine .inr ⟨hlt, fun H => ∃ acc, acc.length = j + 1 ∧ S acc H ∧ H D = some (.lst acc), fun H' p' => ⟨x.length - (j + 1), by omega, rfl, hlt, p'⟩, fun y H' hy => ?_⟩
    obtain ⟨e, c, ec, ev⟩ := hy
    subst e ev hn
    refine ⟨wipe_one σ i _, ?_⟩
    unfold tYes
    dsimp only
    rw [if_pos rfl]
    exact hs acc c _ ec h hD
  · exact .inl ⟨Nat.le_of_not_lt hlt, hd acc H (by omega) h hD⟩
theorem for_str {x : Str} {g : TG} {tb : TS} {D : Ends} {σ : L2.St} {H : Hp} (Pv : Nat → L2.St → Hp → Prop) (h0 : Pv 0 σ H)
    (hs : ∀ i c σ H, x.cps[i]? = some c → Pv i σ H → g (.str ⟨#[c]⟩) σ H fun σ2 H2 => tb { D with nx := Pv (i + 1), ct := Pv (i + 1), bk := D.nx } σ2 H2) (hd : ∀ σ H, Pv x.length σ H → D.nx σ H) :
    ∃ W : Nat → Nat → L2.St → Hp → Prop, (∃ m, W 0 m σ H) ∧ ∀ i m σ H, W i m σ H →
      ((Its x).stop i H ∧ D.nx σ H) ∨ ((Its x).go i H ∧ ∃ N : L2.St → Hp → Prop, (∀ σ' H', N σ' H' → ∃ m', m' < m ∧ W (i + 1) m' σ' H') ∧ ∀ y H', (Its x).yld i H y H' → g y σ H' fun σ2 H2 => tb { D with nx := N, ct := N, bk := D.nx } σ2 H2) := by
  refine ⟨fun i m σ H => m = x.length - i ∧ i ≤ x.length ∧ Pv i σ H, ⟨x.length, by simp, Nat.zero_le _, h0⟩, ?_⟩
  rintro i m σ H ⟨rfl, hi, p⟩
  by_cases hlt : i < x.length
  · refine .inr ⟨hlt, Pv (i + 1), fun σ' H' p' => ⟨x.length - (i + 1), by omega, rfl, hlt, p'⟩, fun y H' hy => ?_⟩
    obtain ⟨e, c, ec, ev⟩ := hy
    subst e ev
    exact hs i c σ _ ec p
  · have e : i = x.length := by omega
    subst e
    exact .inl ⟨Nat.le_refl _, hd σ H p⟩
end Ver
set_option Elab.async false
set_option linter.all false
set_option maxRecDepth 100000
set_option maxHeartbeats 2000000
namespace K5
open PySem PySem.Spec PyProof.Rows L2 Ver
def tabN (ts : List Str) : Nat → List (L2.Key × V)
  | 0 => []
  | n + 1 => match ts[n]? with | some z => putK (tabN ts n) (.inr z) (.int (n : Int)) | none => tabN ts n
def numAt (ts : List Str) (z : Str) : Nat → Int
  | 0 => -1
  | n + 1 => if ts[n]? = some z then (n : Int) else numAt ts z n
theorem tabN_len (ts : List Str) : ∀ n, (tabN ts n).length ≤ n
  | 0 => Nat.le_refl _
  | n + 1 => by
    have ih := tabN_len ts n
    show (match ts[n]? with | some z => putK (tabN ts n) (.inr z) (.int (n : Int)) | none => tabN ts n).length ≤ n + 1
    cases ts[n]? with
    | none => exact Nat.le_succ_of_le ih
    | some z => exact Nat.le_trans (length_putK _ _ _) (Nat.succ_le_succ ih)
theorem tabN_at (ts : List Str) (z : Str) : ∀ n, (valV (tabN ts n) (.inr z)).getD (.int (-1)) = .int (numAt ts z n)
  | 0 => rfl
  | n + 1 => by
    have ih := tabN_at ts z n
    show (valV (match ts[n]? with | some z => putK (tabN ts n) (.inr z) (.int (n : Int)) | none => tabN ts n) (.inr z)).getD (.int (-1)) = .int (if ts[n]? = some z then (n : Int) else numAt ts z n)
    cases e : ts[n]? with
    | none =>
      rw [if_neg (by simp)]
      exact ih
    | some y =>
      show (valV (putK (tabN ts n) (.inr y) (.int (n : Int))) (.inr z)).getD (.int (-1)) = _
      rw [valV_put]
      by_cases q : y = z
      · subst q
        rw [if_pos rfl, if_pos rfl]
        rfl
      · rw [if_neg (fun h => q (Sum.inr.inj h).symm), if_neg (fun h => q (Option.some.inj h))]
        exact ih
def rowL (ts : List Str) (is : List Int) : List Nat := is.flatMap fun i => (ts.getD i.toNat "").cps.toList
def rowS (ts : List Str) (is : List Int) : Str := ⟨(rowL ts is).toArray⟩
theorem joinL_flat : ∀ ys : List (List Nat), TL.joinL [] ys = ys.flatten
  | [] => rfl
  | [p] => by simp [TL.joinL]
  | p :: q :: r => by
    show p ++ ([] ++ TL.joinL [] (q :: r)) = _
    rw [joinL_flat (q :: r)]
    rfl
theorem join_row (ts : List Str) (is : List Int) : Txt.join "" (is.map fun i => ts.getD i.toNat "") = rowS ts is := by
  refine TL.ext_tl ?_
  rw [TL.join_eq, TL.tl_join]
  have e : TL.tl (Str.ofString "") = [] := by rfl
  rw [e, joinL_flat, List.map_map]
  show _ = rowL ts is
  unfold rowL
  rw [List.flatMap_def]
  rfl
theorem rowL_len (ts : List Str) (n : Nat) (h : ∀ z ∈ ts, z.length ≤ n) : ∀ is : List Int, ((is.map fun i => ts.getD i.toNat "").map (·.length)).sum ≤ is.length * n
  | [] => by simp
  | i :: is => by
    have ih := rowL_len ts n h is
    rw [List.map_cons, List.map_cons, List.sum_cons, List.length_cons, Nat.succ_mul]
    have a : (ts.getD i.toNat "").length ≤ n := by
      rw [List.getD_eq_getElem?_getD]
      cases e : ts[i.toNat]? with
      | none => exact Nat.zero_le _
      | some z => exact h z (List.mem_of_getElem? e)
    omega
section
variable {P : Program} {w : World} {K : PySem.W.Frag} {mg : Str → Option Value} {base : Heap}
def sp_token_numbers (K : PySem.W.Frag) : Sp := fun vs H Q _ => ∃ (t : Addr) (ts : List Str), vs = [.ref t] ∧ SqT K H t (ts.map V.str) ∧ ts.length ≤ 1000 ∧
  ∀ D H', Same H H' → H' D = some (.dK (tabN ts ts.length)) → Q (.ref D) H'
theorem ok_token_numbers (T : Tx K mg) : FnOk P w K mg base CX0 1 T.f_token_numbers T.d_token_numbers ["tokens"] (sp_token_numbers K) := by
  refine T.F_token_numbers.ok sc_token_numbers (fun vs H Q E h => ?_) (fun cdv A outer s H vs Q E hr h => ?_)
  · obtain ⟨t, ts, rfl, _⟩ := h; rfl
  · obtain ⟨t, ts, rfl, hT, hl, q⟩ := h
    refine ⟨_, (pss_one (ps_ret (pe_dc (own := [("k", 1), ("token", 2)]) (g := _) (tt := tYes) rfl sc_token_numbers.nd (pi_enumT (by rfl) T.n_enumerate (pa_cons (pv 0) pa_nil)) (blkOk_by (N := ["tokens", "k", "token"]) (sc := defScope s_token_numbers) (by decide +kernel)) (fun _ _ _ _ _ => (pg_tupK (K := K) (n := 2) rfl rfl rfl rfl (pgs_cons (pg_name (i := 1) sc_token_numbers.nd rfl (Or.inl rfl)) (pgs_cons (pg_name (i := 2) sc_token_numbers.nd rfl (Or.inl rfl)) pgs_nil)))) (fun _ _ _ _ _ => pts_nil) (fun _ _ _ _ _ => (pv 2)) (fun _ _ _ _ _ => (pv 1))))), ?_⟩
    refine ⟨.ref t, rfl, t, _, rfl, hT, fun D nD => ?_⟩
    have s0 := same_new (o := .dK []) nD
    refine dc_enumT (K := K) (a := t) (xs := ts.map V.str) (fun i H' => Same H H' ∧ H' D = some (.dK (tabN ts i))) ⟨s0, upd_same⟩ (fun i H' _ h => seqT_grow h.1 hT) (fun i x H' T e h nT => ?_) (fun H' h => ?_)
    · obtain ⟨z, ez, rfl⟩ : ∃ z, ts[i]? = some z ∧ V.str z = x := by
        rw [List.getElem?_map] at e
        cases ez : ts[i]? with
        | none => rw [ez] at e; cases e
        | some z => rw [ez] at e; exact ⟨z, rfl, Option.some.inj e⟩
      have lt : i < ts.length := (List.getElem?_eq_some_iff.mp ez).1
      have TD : D ≠ T := ne_of_none h.2 nT
      have sT : Same H' (upd H' T (.tup [.int (i : Nat), .str z])) := same_new nT
      have hD2 : (upd H' T (.tup [.int (i : Nat), .str z])) D = some (.dK (tabN ts i)) := sT _ _ h.2
      refine ⟨T, _, rfl, .inl (.inl upd_same), rfl, .int (i : Nat), _, rfl, .str z, _, rfl, rfl, rfl, ?_⟩
      refine ⟨.str z, rfl, .int (i : Nat), rfl, tabN ts i, .inr z, rfl, hD2, small (Nat.le_trans (tabN_len ts i) (by omega)), ?_, ?_⟩
      · intro b o eb
        rw [upd_ne (ne_of_none eb nD)]
        exact sT _ _ (h.1 b o eb)
      · rw [upd_same]
        show some (HO.dK (putK (tabN ts i) (.inr z) (.int (i : Int)))) = some (HO.dK (match ts[i]? with | some z => putK (tabN ts i) (.inr z) (.int (i : Int)) | none => tabN ts i))
        rw [ez]
    · rw [List.length_map] at h
      exact q D H' h.1 h.2
end
end K5
set_option Elab.async false
set_option linter.all false
set_option maxRecDepth 100000
set_option maxHeartbeats 2000000
namespace Ver
open PySem PySem.Spec PyProof.Rows L2
def TxS (P : Program) (w : World) (a : Addr) (l : List Str) (h : Heap) : Prop :=
  ∃ D : Froz.SD, h.get? a = some (Froz.sObj "set" D) ∧ Froz.TxOk P w D l ∧ l.Nodup ∧ l.length < scanBound ∧ Ris D.2.2.place.toList ∧ (w.params.followText "set-order" = true ∨ D.2.2.led = true)
def TxO (P : Program) (w : World) (a : Addr) (l : List Str) : HO := .ext (TxS P w a l)
theorem txO_ok {P : Program} {w : World} {H : Hp} {h : Heap} {a : Addr} {l : List Str} (x : TxS P w a l h) : ObjOk P w H h a (TxO P w a l) := by
  have ⟨D, ho, _⟩ := x
  exact ⟨x, ⟨_, ho⟩, fun h1 h2 ⟨D, ho, r⟩ k => ⟨D, k _ ho, r⟩⟩
theorem off_place (t : SetTable) : (if t.plain = true then { t with plain := false } else t).place = t.place := by split <;> rfl
theorem off_led (t : SetTable) : (if t.plain = true then { t with plain := false } else t).led = t.led := by split <;> rfl
theorem tail_ris {ep : Nat} {es : Array (Int × Value)} {t : SetTable} {b : Bool} (r : Ris t.place.toList) : Ris (Froz.tailTx ep es t b).2.2.place.toList := by
  unfold Froz.tailTx
  split
  · exact relayAll_ris t es _
  · exact r
theorem tail_led {ep : Nat} {es : Array (Int × Value)} {t : SetTable} {b : Bool} : (Froz.tailTx ep es t b).2.2.led = t.led := by
  unfold Froz.tailTx
  split
  · exact relayAll_led t es _
  · rfl
theorem add_ris {D : Froz.SD} {h : Int} {v : Value} (r : Ris D.2.2.place.toList) : Ris (Froz.addTx h v D).2.2.place.toList :=
  tail_ris (by rw [off_place]; exact layNew_ris _ _ _ _ r)
theorem add_led {D : Froz.SD} {h : Int} {v : Value} : (Froz.addTx h v D).2.2.led = D.2.2.led :=
  tail_led.trans ((off_led _).trans (layNew_led _ _ _ _))
section
variable {P : Program} {w : World} {A : Around} {E : Value → Shared → Prop} {s : Shared} {a : Addr} {l : List Str} {k : Str} {u : Tok}
theorem add_again {D : Froz.SD} {Q : Bool → Shared → Prop} (ho : s.heap.get? a = some (Froz.sObj "set" D)) (F : Froz.TxOk P w D l) (hk : k ∈ l) (hb : l.length < scanBound) (h : Q false s) :
    wpAny (model P w) A (setAddHashed a (.str k u) (hashStr w k)) Q E s := by
  obtain ⟨es, ep, t⟩ := D
  have dat : (Froz.sObj "set" (es, ep, t)).data = .set es ep t := rfl
  have sz : es.size < scanBound := by have z : es.size = l.length := F.sz; omega
  have key : (strKind P w).is k (.str k u) = true := Froz.is_str k u
  have fit : t.fits es.size = true := F.fit
  have el : ElemsOf (strKind P w) es.toList := F.el
  unfold setAddHashed setAddHashedIn
  refine wpAny_holding (wpAny_bind (wpAny_setState_of ho dat fit ?_))
  dsimp only
  rw [byScan_of rfl sz el]
  simp only [↓reduceIte]
  unfold setAddByScan
  refine wpAny_bind (wpAny_bind (wpAny_rule (wpAny_bind (wpAny_setScan_of (knd := strKind P w) (k := k) key ho dat fit el ?_))))
  cases found : List.findIdx? (fun e => (strKind P w).is k e.2) es.toList with
  | none =>
    obtain ⟨e, he, z⟩ := (F.mem k).mp hk
    rw [List.findIdx?_eq_none_iff.mp found e he] at z
    cases z
  | some j =>
    dsimp only
    exact wpAny_pure (wpAny_pure h)
theorem set_add_text {Q : Value → Shared → Prop} (x : TxS P w a l s.heap) (room : l.length + 1 < scanBound)
    (h : ∀ h', Heap.SameBut a s.heap h' → TxS P w a (if k ∈ l then l else k :: l) h' → Q .none { s with heap := h', toks := s.toks + 1 }) :
    wpAny (model P w) A (call (.builtin "set.add") [.ref a, .str k u]) Q E s := by
  obtain ⟨D, ho, tx, nd, lb, ris, led⟩ := x
  refine wpAny_call_entry F.slot_set_add ⟨_, ho, rfl⟩ F.entry_set_add ?_ (F.args_set_add_2 _ _)
  unfold Builtin.«set.add» Builtin.Frozenset.oneOther
  simp only [List.isEmpty_nil, bind_assoc]
  unfold Builtin.Frozenset.addrOf setAdd
  refine wpAny_bind (wpAny_pure ?_)
  try dsimp only
  refine wpAny_bind (wpAny_pure ?_)
  try dsimp only
  refine wpAny_bind (wpAny_holding (wpAny_bind ((strKind P w).pyHash (Froz.is_str k u) ?_)))
  show wpAny (model P w) _ (setAddHashed a (.str k u) (hashStr w k)) _ _ { s with toks := s.toks + 1 }
  by_cases c : k ∈ l
  · refine add_again (s := { s with toks := s.toks + 1 }) ho tx c lb ?_
    show wpAny _ _ (ret Value.none) _ _ _
    refine wpAny_pure ⟨_, rfl, h s.heap (Heap.SameBut.refl a s.heap) ?_⟩
    rw [if_pos c]
    exact ⟨D, ho, tx, nd, lb, ris, led⟩
  · refine Froz.add_x (s := { s with toks := s.toks + 1 }) ho tx c room ?_
    show wpAny _ _ (ret Value.none) _ _ _
    refine wpAny_pure ⟨_, rfl, h _ (Heap.SameBut.update s.heap a _) ?_⟩
    rw [if_neg c]
    exact ⟨_, Froz.get_upd _ ho rfl, Froz.add_ok u tx, List.nodup_cons.mpr ⟨c, nd⟩, room, add_ris ris, led.imp id fun z => add_led.trans z⟩
end
section
variable {X : Cx} {pins : List (Addr × Obj)} {σ : L2.St} {H : Hp} {s : Shared} {E : Value → Shared → Prop} {D : Addr} {l : List Str}
theorem txO_get (I : Inv X pins σ H s) (h : H D = some (TxO X.prog X.w D l)) : TxS X.prog X.w D l s.heap := (I.hok D _ h).1
theorem txO_add {k : Str} {v : Value} {Q : Value → Shared → Prop} (I : Inv X pins σ H s) (hD : H D = some (TxO X.prog X.w D l)) (room : l.length + 1 < scanBound) (rv : RelV (.str k) v)
    (h : ∀ s', Inv X pins σ (upd H D (TxO X.prog X.w D (if k ∈ l then l else k :: l))) s' → Q .none s') : wpAny (model X.prog X.w) X.A (call (.builtin "set.add") [.ref D, v]) Q E s := by
  obtain ⟨u, rfl⟩ := rv
  refine set_add_text (txO_get I hD) room fun h' sb new => ?_
  have there : ∃ o, h'.get? D = some o := by
    have ⟨_, ho, _⟩ := new
    exact ⟨_, ho⟩
  exact h _ (I.write (e := D) (t' := s.toks + 1) (by rw [hD]; trivial) (.inl rfl) (fun b o hb e => (sb.2 b hb).trans e) there (txO_ok new))
theorem txS_fresh {h : Heap} (P : Program) (w : World) : TxS P w h.objs.size [] (h.push { cls := .type "set", dict := none, data := .set #[] 0 (.fresh 0 0 (!w.params.followText "set-order")) }) :=
  ⟨(#[], 0, .fresh 0 0 (!w.params.followText "set-order")), Heap.get?_push_size _ rfl, Froz.TxOk.nil rfl, List.nodup_nil, by decide, List.Pairwise.nil, by
    show _ ∨ (!w.params.followText "set-order") = true
    cases w.params.followText "set-order"
    · exact .inr rfl
    · exact .inl rfl⟩
end
end Ver
set_option Elab.async false
set_option linter.all false
set_option maxRecDepth 100000
set_option maxHeartbeats 2000000
namespace Ver
open PySem PySem.Spec PyProof.Rows L2
abbrev twoSets (elt t0 i0 t1 i1 : Expr) (scope : Scope) (pos : Pos) : Expr := .SetComp elt [⟨t0, i0, [], 0⟩, ⟨t1, i1, [], 0⟩] scope pos
section
variable {prog : Program} {w : World} {A : Around} {R : Result → Shared → Prop} {s : Shared} {elt t0 i0 t1 i1 : Expr} {scope : Scope} {pos : Pos} {it acc : Value} {env : Env}
theorem turn_outer : compTurn (twoSets elt t0 i0 t1 i1 scope pos) 0 it acc env = (do
      standAt i0.pos
      match ← pyNext it with
      | none => pure (.done .next)
      | some v =>
        letOwnedTupleGo t0 it v
        assign t0 env v
        let x ← eval i1 env
        standAt i1.pos
        let x ← foldedSetIterable i1 env x
        let _ ← runOwn (.compStart (twoSets elt t0 i0 t1 i1 scope pos) 1 (← holding [x] (pyIter x)) acc env) env
        again (.compLoop (twoSets elt t0 i0 t1 i1 scope pos) 0 it acc env)) := by rfl
theorem turn_inner : compTurn (twoSets elt t0 i0 t1 i1 scope pos) 1 it acc env = (do
      standAt i1.pos
      match ← pyNext it with
      | none => pure (.done .next)
      | some v =>
        letOwnedTupleGo t1 it v
        assign t1 env v
        (do let x ← eval elt env; standAt elt.pos; let _ ← call (.builtin "set.add") [acc, x])
        again (.compLoop (twoSets elt t0 i0 t1 i1 scope pos) 1 it acc env)) := by rfl
abbrev NB (prog : Program) (w : World) (A : Around) (env : Env) (R : Result → Shared → Prop) : Value → Shared → Prop := notedBy (model prog w) A env fun e s' => R (.error e) s'
theorem loop_outer (flat : ∀ x, foldedSetIterable i1 env x = pure x) (I : Nat → Shared → Prop)
    (turn : ∀ n s, I n s → wpAny (model prog w) A (pyNext it) (fun r s1 => match r with
      | none => R (.ok .next) s1
      | some v => wpAny (model prog w) A (letOwnedTupleGo t0 it v) (fun _ s2 => wpAny (model prog w) A (assign t0 env v) (fun _ s3 => wpAny (model prog w) A (eval i1 env) (fun x s4 => wpAny (model prog w) A (pyIter x) (fun it1 s5 =>
          codeAny (model prog w) A (.compStart (twoSets elt t0 i0 t1 i1 scope pos) 1 it1 acc env) (fun r s' => match r with
            | .ok _ => ∃ m, m < n ∧ I m s'
            | .error _ => False) s5) (NB prog w A env R) s4) (NB prog w A env R) s3) (NB prog w A env R) s2) (NB prog w A env R) s1) (NB prog w A env R) s)
    (n : Nat) (start : I n s) : codeAny (model prog w) A (.compLoop (twoSets elt t0 i0 t1 i1 scope pos) 0 it acc env) R s := by
  refine codeAny_loop rfl I (fun n s here => ?_) n start
  show wpAny _ A ((compTurn (twoSets elt t0 i0 t1 i1 scope pos) 0 it acc env).onRaise (fun x => do noteFrame x env; theTreesLotGoes x)) _ _ s
  refine wpAny_noted ?_
  rw [turn_outer]
  refine wpAny_bind (wpAny_standAt (wpAny_bind (wpAny_mono (turn n s here) (fun r s1 q => ?_) fun _ _ z => z)))
  cases r with
  | none => exact wpAny_pure q
  | some v =>
    refine wpAny_bind (wpAny_mono q (fun _ s2 q => wpAny_bind (wpAny_mono q (fun _ s3 q => ?_) fun _ _ z => z)) fun _ _ z => z)
    refine wpAny_bind (wpAny_mono q (fun x s4 q => ?_) fun _ _ z => z)
    refine wpAny_bind (wpAny_standAt (wpAny_bind (wpAny_of_eq (flat x) (wpAny_bind (wpAny_holding (wpAny_mono q (fun it1 s5 q => ?_) fun _ _ z => z))))))
    refine wpAny_bind (wpAny_runOwn ?_)
    rw [Around.mark_none]
    refine codeAny_mono q fun r s' q => ?_
    cases r with
    | ok f =>
      first
        | exact wpAny_pure ⟨rfl, q⟩
        | exact wpAny_bind (wpAny_pure (wpAny_pure ⟨rfl, q⟩))
    | error e => exact q.elim
theorem loop_inner (I : Nat → Shared → Prop)
    (turn : ∀ n s, I n s → wpAny (model prog w) A (pyNext it) (fun r s1 => match r with
      | none => R (.ok .next) s1
      | some v => wpAny (model prog w) A (letOwnedTupleGo t1 it v) (fun _ s2 => wpAny (model prog w) A (assign t1 env v) (fun _ s3 => wpAny (model prog w) A (eval elt env) (fun x s4 =>
          wpAny (model prog w) A (call (.builtin "set.add") [acc, x]) (fun _ s5 => ∃ m, m < n ∧ I m s5) (NB prog w A env R) s4) (NB prog w A env R) s3) (NB prog w A env R) s2) (NB prog w A env R) s1) (NB prog w A env R) s)
    (n : Nat) (start : I n s) : codeAny (model prog w) A (.compLoop (twoSets elt t0 i0 t1 i1 scope pos) 1 it acc env) R s := by
  refine codeAny_loop rfl I (fun n s here => ?_) n start
  show wpAny _ A ((compTurn (twoSets elt t0 i0 t1 i1 scope pos) 1 it acc env).onRaise (fun x => do noteFrame x env; theTreesLotGoes x)) _ _ s
  refine wpAny_noted ?_
  rw [turn_inner]
  refine wpAny_bind (wpAny_standAt (wpAny_bind (wpAny_mono (turn n s here) (fun r s1 q => ?_) fun _ _ z => z)))
  cases r with
  | none => exact wpAny_pure q
  | some v =>
    refine wpAny_bind (wpAny_mono q (fun _ s2 q => wpAny_bind (wpAny_mono q (fun _ s3 q => ?_) fun _ _ z => z)) fun _ _ z => z)
    first
      | exact wpAny_bind (wpAny_bind (wpAny_mono q (fun x s4 q => wpAny_bind (wpAny_standAt (wpAny_bind (wpAny_mono q (fun _ s5 q => wpAny_pure (wpAny_pure ⟨rfl, q⟩)) fun _ _ z => z)))) fun _ _ z => z))
      | exact wpAny_bind (wpAny_mono q (fun x s4 q => wpAny_bind (wpAny_standAt (wpAny_bind (wpAny_mono q (fun _ s5 q => wpAny_pure ⟨rfl, q⟩) fun _ _ z => z)))) fun _ _ z => z)
theorem start_inner (h0 : codeAny (model prog w) A (.compLoop (twoSets elt t0 i0 t1 i1 scope pos) 1 it acc env) R s)
    (h : wpAny (model prog w) A (pyIter it) (fun it' s' => codeAny (model prog w) A (.compLoop (twoSets elt t0 i0 t1 i1 scope pos) 1 it' acc env) R s') (NB prog w A env R) s) :
    codeAny (model prog w) A (.compStart (twoSets elt t0 i0 t1 i1 scope pos) 1 it acc env) R s := by
  refine codeAny_of_tree ?_
  show wpAny _ _ ((compStart (twoSets elt t0 i0 t1 i1 scope pos) 1 it acc env).onRaise (fun x => do noteFrame x env; standAt theWindowsPlace)) _ _ s
  refine wpAny_notedAt ?_
  unfold compStart
  show wpAny _ _ (ask >>= _) _ _ s
  refine wpAny_bind (wpAny_askSetting (wpAny_ite ?_))
  split
  · first
      | exact wpAny_bind (wpAny_pure (wpAny_pure ⟨rfl, h0⟩))
      | exact wpAny_pure ⟨rfl, h0⟩
  · refine wpAny_bind (wpAny_rule ?_)
    first
      | exact wpAny_bind (wpAny_standAt (wpAny_bind (wpAny_mono h (fun it' s' q => wpAny_pure ⟨rfl, q⟩) fun _ _ z => z)))
      | (show wpAny _ _ (standAt i1.pos >>= _) _ _ s
         exact wpAny_bind (wpAny_standAt (wpAny_bind (wpAny_mono h (fun it' s' q => wpAny_pure ⟨rfl, q⟩) fun _ _ z => z))))
end
section
variable {X : Cx}
def AddT (P : Program) (w : World) (H : Hp) (D : Addr) (y : V) (Nx : Hp → Prop) : Prop :=
  ∃ (k : Str) (l : List Str), y = .str k ∧ H D = some (TxO P w D l) ∧ l.length + 1 < scanBound ∧ Nx (upd H D (TxO P w D (if k ∈ l then l else k :: l)))
def tSc2 (P : Program) (w : World) (wi : TI) (g : TG) (wi1 : TI) (g1 : TG) (te : TE) (vs vs1 : List Nat) : TE := fun σ H Q => wi σ H fun J H1 => ∀ D, H1 D = none →
  ∃ W : Nat → Nat → Hp → Prop, (∃ m, W 0 m (upd H1 D (TxO P w D []))) ∧ ∀ i m H, W i m H →
    (J.stop i H ∧ Q (.ref D) H) ∨
    (J.go i H ∧ ∃ Nx : Hp → Prop, (∀ H', Nx H' → ∃ m', m' < m ∧ W (i + 1) m' H') ∧
      ∀ x H', J.yld i H x H' → g x (wipe σ vs) H' fun σ2 H2 => wipe σ2 vs = wipe σ vs ∧ wi1 σ2 H2 fun J1 H3 =>
        ∃ W1 : Nat → Nat → Hp → Prop, (∃ m, W1 0 m H3) ∧ ∀ j k H, W1 j k H →
          (J1.stop j H ∧ Nx H) ∨
          (J1.go j H ∧ ∃ Nx1 : Hp → Prop, (∀ H', Nx1 H' → ∃ k', k' < k ∧ W1 (j + 1) k' H') ∧
            ∀ x H', J1.yld j H x H' → g1 x (wipe σ2 vs1) H' fun σ3 H4 => wipe σ3 vs1 = wipe σ2 vs1 ∧ te σ3 H4 fun y H5 => AddT P w H5 D y Nx1))
variable {elt tg iter tg1 iter1 : Expr} {scope : Scope} {own : List (Str × Nat)} {vs1 : List Nat} {pos : Pos} {wi wi1 : TI} {g g1 : TG} {te : TE}
abbrev blkE (X : Cx) (scope : Scope) (cl : List (Str × Addr)) (C : Addr) : Env := compEnvC scope cl C X.env
theorem sc2_core {pins : List (Addr × Obj)} {s : Shared} {σ : L2.St} {H : Hp} {Q : VK} {use : Option (Value → Sem Unit)} {Qf : Value → Shared → Prop} {pos' : Pos} (hc : X.calm = true) (hN : X.N.Nodup) (I : Inv X pins σ H s) (hi : PI X tg iter wi) (ok : BlkOk X.N X.env.scope scope own) (hv : ∀ i ∈ vs1, i ∈ own.map (·.2))
    (hg : ∀ (s : Shared) (H : Hp) (C : Addr) (cl : List (Str × Addr)) (fp : List Addr), PG (X.blk s H scope (blkE X scope cl C) fp) tg g)
    (hi1 : ∀ (s : Shared) (H : Hp) (C : Addr) (cl : List (Str × Addr)) (fp : List Addr), PI (X.blk s H scope (blkE X scope cl C) fp) tg1 iter1 wi1)
    (hg1 : ∀ (s : Shared) (H : Hp) (C : Addr) (cl : List (Str × Addr)) (fp : List Addr), PG (X.blk s H scope (blkE X scope cl C) fp) tg1 g1)
    (he : ∀ (s : Shared) (H : Hp) (C : Addr) (cl : List (Str × Addr)) (fp : List Addr), PE (X.blk s H scope (blkE X scope cl C) fp) elt te)
    (hs : ∀ x, foldedSetIterable iter X.env x = pure x) (hs1 : ∀ env x, foldedSetIterable iter1 env x = pure x)
    (h : tSc2 X.prog X.w wi g wi1 g1 te (own.map (·.2)) vs1 σ H Q)
    (hRR : ∀ D C s' m H', Inv X pins σ H' s' → Q (.ref D) H' → s'.heap.Ns C m → FpOk X pins H' C → compPost (model X.prog X.w) X.A X.xe use Qf (.ref D) C (.ok .next) s') :
    wpAny (model X.prog X.w) X.A (comprehension (twoSets elt tg iter tg1 iter1 scope pos) scope X.env pos' (newSet (.type "set")) false (eval iter X.env) use) Qf X.xe s := by
  have hfree : ∀ y ∈ scope.names, y.2 = .free → ∃ c, X.env.cells.lookup y.1 = some c := fun y hy e =>
    (ok.free y hy e).elim (fun k => I.ok.has _ (.inl k)) fun k => I.ok.has _ (.inr k)
  refine wpAny_comprehension_free (use := use) rfl hs (closure_ok hfree) ok.kind (fun y hy e => by rw [ok.uniq y hy, e]) (thn (hi.run pins s σ H _ I h) fun xv s1 hx => thn hx fun itv s2 got => ?_)
  obtain ⟨it, fp, tn, J, H2, rfl, I2, T, at0, nofp, q⟩ := got
  refine PpSet.newSet_ok (newEnv_comp ?_)
  generalize hD : s2.heap.objs.size = D
  have Dn : H2 D = none := I2.hok.fresh (Nat.le_of_eq hD)
  obtain ⟨W, ⟨m0, w0⟩, turn⟩ := q D Dn
  generalize e3 : ({ s2 with heap := s2.heap.push { cls := .type "set", dict := none, data := .set #[] 0 (.fresh 0 0 (!X.w.params.followText "set-order")) } } : Shared) = s3
  have heap3 : s3.heap = s2.heap.push { cls := .type "set", dict := none, data := .set #[] 0 (.fresh 0 0 (!X.w.params.followText "set-order")) } := by rw [← e3]
  have I3 : Inv X pins σ (upd H2 D (TxO X.prog X.w D [])) s3 := by
    subst e3 hD
    exact I2.laid (t' := s2.toks) (fun b o e => Heap.get?_push_of_some _ e) (Nat.le_refl _) (txO_ok (txS_fresh X.prog X.w))
  have nof3 : ∀ b ∈ fp, FpOk X pins (upd H2 D (TxO X.prog X.w D [])) b ∧ b < s3.heap.objs.size := fun b hb => by
    obtain ⟨o, e, _⟩ := T.obj _ _ at0 b hb
    have lt := Heap.lt_size e
    have ne : b ≠ D := by rw [← hD]; exact Nat.ne_of_lt lt
    exact ⟨⟨by rw [upd_ne ne]; exact (nofp b hb).1, (nofp b hb).2⟩, by rw [heap3, Heap.size_push]; exact Nat.lt_succ_of_lt lt⟩
  have at3 : tn 0 s3.heap := T.keep _ _ _ at0 fun b _ o e => by rw [heap3]; exact Heap.get?_push_of_some _ e
  have I4 := block_start I3 ok hN nof3
  show codeAny _ _ (.compStart (twoSets elt tg iter tg1 iter1 scope pos) 0 (.ref it) (.ref D) (compEnvC scope (cellsFrom (s3.heap.objs.size + 1) scope.names (cloFrom X.env.cells scope.names [])) s3.heap.objs.size X.env)) (compPost (model X.prog X.w) X.A X.xe use Qf (.ref D) s3.heap.objs.size) { s3 with heap := pushCells (s3.heap.push { cls := .type "dict", data := .dict #[] }) scope.names }
  generalize hcl : cellsFrom (s3.heap.objs.size + 1) scope.names (cloFrom X.env.cells scope.names []) = cl at I4 ⊢
  have rg := hg s3 (upd H2 D (TxO X.prog X.w D [])) s3.heap.objs.size cl fp
  have ri1 := hi1 s3 (upd H2 D (TxO X.prog X.w D [])) s3.heap.objs.size cl fp
  have rg1 := hg1 s3 (upd H2 D (TxO X.prog X.w D [])) s3.heap.objs.size cl fp
  have re := he s3 (upd H2 D (TxO X.prog X.w D [])) s3.heap.objs.size cl fp
  generalize hC : s3.heap.objs.size = C at I4 rg ri1 rg1 re ⊢
  have nf0 : ∀ b ∈ fp, (upd H2 D (TxO X.prog X.w D [])) b = none := fun b hb => (nof3 b hb).1.1
  generalize hce : blkE X scope cl C = ce at rg ri1 rg1 re
  have ece : compEnvC scope cl C X.env = ce := hce
  rw [ece] at I4 ⊢
  have cL : ce.locals = C := by rw [← hce]; rfl
  generalize hH3 : upd H2 D (TxO X.prog X.w D []) = H3 at I3 I4 rg ri1 rg1 re w0 nf0 nof3
  generalize hs4 : ({ s3 with heap := pushCells (s3.heap.push { cls := .type "dict", data := .dict #[] }) scope.names } : Shared) = s4 at I4 ⊢
  have at4 : tn 0 s4.heap := T.keep _ _ _ at3 fun b _ o e => by rw [← hs4]; exact pushCells_keeps _ _ _ _ (Heap.get?_push_of_some _ e)
  generalize hvs : own.map (·.2) = vs at *
  have fpok : ∀ {σ' : L2.St} {H' : Hp} {s' : Shared}, Inv (X.blk s3 H3 scope ce fp) [] σ' H' s' → (∀ b ∈ fp, H' b = none) → ∀ b ∈ fp, FpOk (X.blk s3 H3 scope ce fp) [] H' b := fun {σ' H' s'} I' hn b hb =>
    ⟨hn b hb, (I'.ok.exf b hb).1, I'.ok.exfs b hb, .inl hb, fun x c e => (I'.ok.exf b hb).2 x c e, fun p hp => absurd (show p ∈ ([] : List (Addr × Obj)) ++ [] from hp) (by simp)⟩
  have main : codeAny (model X.prog X.w) X.A (.compLoop (twoSets elt tg iter tg1 iter1 scope pos) 0 (.ref it) (.ref D) ce) (compPost (model X.prog X.w) X.A X.xe use Qf (.ref D) C) s4 := by
    refine loop_outer (hs1 ce) (fun n s' => ∃ i H', Inv (X.blk s3 H3 scope ce fp) [] (wipe σ vs) H' s' ∧ tn i s'.heap ∧ (∀ b ∈ fp, H' b = none) ∧ W i n H') ?_ m0 ⟨0, H3, I4, at4, nf0, w0⟩
    rintro n s5 ⟨i, H5, I5, at5, nf5, w5⟩
    rcases turn i n H5 w5 with ⟨stop, fin⟩ | ⟨go, Nx, less, step⟩
    · refine thnF (T.done (X.blk s3 H3 scope ce fp) rfl rfl rfl hc i [] s5 _ H5 (fun _ _ => False) I5 (fpok I5 nf5) at5 stop) fun r s6 got => ?_
      obtain ⟨rfl, I6⟩ := got
      have I7 : Inv X pins σ H5 s6 := I3.call' (ch := fp) I6.os I6.base I6.hok I6.bare fun b hb => ⟨(nof3 b hb).1.2.2.2.1, (nof3 b hb).1.2.1, (nof3 b hb).1.2.2.2.2.1, (nof3 b hb).1.2.2.2.2.2⟩
      have nC : H5 C = none := by rw [← cL]; exact I6.free
      obtain ⟨m, hn, _⟩ := I6.loc
      replace hn : s6.heap.Ns C m := by rw [← cL]; exact hn
      exact hRR D C s6 m H5 I7 fin hn (I3.fpOk (Nat.le_of_eq hC) nC)
    refine thnF (T.item (X.blk s3 H3 scope ce fp) rfl rfl rfl hc i [] s5 _ H5 (fun _ _ => False) I5 (fpok I5 nf5) at5 go) fun r s6 got => ?_
    obtain ⟨u, rfl, h6⟩ := got
    refine thnF h6 fun _ s7 got => ?_
    obtain ⟨x, H7, I7, r7, y7, at7, nf7⟩ := got
    refine thnF (rg.run _ s7 _ H7 x u _ (I7.pinned (fpok I7 nf7) (T.obj _ _ at7)) r7 (step x H7 y7)) fun _ s8 got => ?_
    obtain ⟨σ8, H8, I8, ew, q8⟩ := got
    have len8 : (wipe σ vs).length = σ8.length := by rw [← ew, wipe_length]
    have know8 : ∀ (j : Nat) v, (wipe σ vs)[j]? = some (some v) → (wipe σ8 vs1)[j]? = some (some v) := fun j v e => by
      rw [← ew] at e
      obtain ⟨e1, e2⟩ := wipe_some e
      rw [wipe_out fun z => e2 (hv j z)]
      exact e1
    have next : ∀ {s' : Shared} {H' : Hp}, Inv (X.blk s3 H3 scope ce fp) ([] ++ pinsAt fp s7.heap) (wipe σ8 vs1) H' s' → Nx H' →
        ∃ m, m < n ∧ ∃ i H', Inv (X.blk s3 H3 scope ce fp) [] (wipe σ vs) H' s' ∧ tn i s'.heap ∧ (∀ b ∈ fp, H' b = none) ∧ W i m H' := fun {s' H'} I' nx => by
      obtain ⟨m', lt, w'⟩ := less H' nx
      have kept : ∀ b ∈ fp, ∀ o, s7.heap.get? b = some o → s'.heap.get? b = some o ∧ H' b = none := fun b hb o e => by
        have z := I'.pin (b, o) (List.mem_append_right _ (List.mem_append_right _ (mem_pinsAt hb e)))
        exact ⟨z.1, z.2.1⟩
      refine ⟨m', lt, i + 1, H', (I'.unpinned (pins := [])).weak (len8.trans (wipe_length σ8 vs1).symm) know8, T.keep _ _ _ at7 fun b hb o e => (kept b hb o e).1, fun b hb => ?_, w'⟩
      obtain ⟨o, e, _⟩ := T.obj _ _ at7 b hb
      exact (kept b hb o e).2
    refine thnF (ri1.run _ s8 σ8 H8 _ I8 q8) fun xv s9 hx => thnF hx fun itv s10 got => ?_
    obtain ⟨it1, fp1, tn1, J1, H10, rfl, I10, T1, at10, nofp1, W1, ⟨k0, w1⟩, turn1⟩ := got
    have fpok1 : ∀ {H' : Hp}, (∀ b ∈ fp1, H' b = none) → ∀ b ∈ fp1, FpOk (X.blk s3 H3 scope ce fp) ([] ++ pinsAt fp s7.heap) H' b := fun hn b hb => ⟨hn b hb, (nofp1 b hb).2⟩
    have inner : codeAny (model X.prog X.w) X.A (.compLoop (twoSets elt tg iter tg1 iter1 scope pos) 1 (.ref it1) (.ref D) ce)
        (fun r s' => match r with
          | .ok _ => ∃ m, m < n ∧ ∃ i H', Inv (X.blk s3 H3 scope ce fp) [] (wipe σ vs) H' s' ∧ tn i s'.heap ∧ (∀ b ∈ fp, H' b = none) ∧ W i m H'
          | .error _ => False) s10 := by
      refine loop_inner (fun k s' => ∃ j H', Inv (X.blk s3 H3 scope ce fp) ([] ++ pinsAt fp s7.heap) (wipe σ8 vs1) H' s' ∧ tn1 j s'.heap ∧ (∀ b ∈ fp1, H' b = none) ∧ W1 j k H') ?_ k0 ⟨0, H10, I10.weak (wipe_length _ _) (fun j v e => (wipe_some e).1), at10, fun b hb => (nofp1 b hb).1, w1⟩
      rintro k s11 ⟨j, H11, I11, at11, nf11, w11⟩
      rcases turn1 j k H11 w11 with ⟨stop1, nx⟩ | ⟨go1, Nx1, less1, step1⟩
      · refine thnF (T1.done (X.blk s3 H3 scope ce fp) rfl rfl rfl hc j _ s11 _ H11 (fun _ _ => False) I11 (fpok1 nf11) at11 stop1) fun r s12 got => ?_
        obtain ⟨rfl, I12⟩ := got
        exact next I12 nx
      · refine thnF (T1.item (X.blk s3 H3 scope ce fp) rfl rfl rfl hc j _ s11 _ H11 (fun _ _ => False) I11 (fpok1 nf11) at11 go1) fun r s12 got => ?_
        obtain ⟨u1, rfl, h12⟩ := got
        refine thnF h12 fun _ s13 got => ?_
        obtain ⟨x1, H13, I13, r13, y13, at13, nf13⟩ := got
        refine thnF (rg1.run _ s13 _ H13 x1 u1 _ (I13.pinned (fpok1 nf13) (T1.obj _ _ at13)) r13 (step1 x1 H13 y13)) fun _ s14 got => ?_
        obtain ⟨σ14, H14, I14, ew1, q14⟩ := got
        refine thnF (re.run _ s14 σ14 H14 _ I14 q14) fun v s15 got => ?_
        obtain ⟨y, H15, I15, r15, kk, l, rfl, hl15, room, nx⟩ := got
        refine txO_add (X := X.blk s3 H3 scope ce fp) I15 hl15 room r15 fun s16 I16 => ?_
        obtain ⟨k', lt, w'⟩ := less1 _ nx
        have kept : ∀ b ∈ fp1, ∀ o, s13.heap.get? b = some o → s16.heap.get? b = some o ∧ (upd H15 D (TxO X.prog X.w D (if kk ∈ l then l else kk :: l))) b = none := fun b hb o e => by
          have z := I16.pin (b, o) (List.mem_append_right _ (List.mem_append_right _ (mem_pinsAt hb e)))
          exact ⟨z.1, z.2.1⟩
        refine ⟨k', lt, j + 1, _, I16.unpinned.weak (by rw [← ew1, wipe_length]) (fun j v e => by rw [← ew1] at e; exact (wipe_some e).1), T1.keep _ _ _ at13 fun b hb o e => (kept b hb o e).1, fun b hb => ?_, w'⟩
        obtain ⟨o, e, _⟩ := T1.obj _ _ at13 b hb
        exact (kept b hb o e).2
    exact start_inner inner (T1.self X.A 0 _ _ _ at10 inner)
  exact PpSet.codeAny_compStart_set main (T.self X.A 0 _ _ _ at4 main)
theorem pe_sc2 (hc : X.calm = true) (hN : X.N.Nodup) (hi : PI X tg iter wi) (ok : BlkOk X.N X.env.scope scope own) (hv : ∀ i ∈ vs1, i ∈ own.map (·.2))
    (hg : ∀ (s : Shared) (H : Hp) (C : Addr) (cl : List (Str × Addr)) (fp : List Addr), PG (X.blk s H scope (blkE X scope cl C) fp) tg g)
    (hi1 : ∀ (s : Shared) (H : Hp) (C : Addr) (cl : List (Str × Addr)) (fp : List Addr), PI (X.blk s H scope (blkE X scope cl C) fp) tg1 iter1 wi1)
    (hg1 : ∀ (s : Shared) (H : Hp) (C : Addr) (cl : List (Str × Addr)) (fp : List Addr), PG (X.blk s H scope (blkE X scope cl C) fp) tg1 g1)
    (he : ∀ (s : Shared) (H : Hp) (C : Addr) (cl : List (Str × Addr)) (fp : List Addr), PE (X.blk s H scope (blkE X scope cl C) fp) elt te)
    (hs : ∀ x, foldedSetIterable iter X.env x = pure x := by intro _; rfl) (hs1 : ∀ env x, foldedSetIterable iter1 env x = pure x := by intro _ _; rfl) :
    PE X (twoSets elt tg iter tg1 iter1 scope pos) (tSc2 X.prog X.w wi g wi1 g1 te (own.map (·.2)) vs1) := by
  refine ⟨fun pins s σ H Q I h => ?_⟩
  rw [PpSet.eval_SetComp]
  refine sc2_core hc hN I hi ok hv hg hi1 hg1 he hs hs1 h fun D C s' m H' I' q hn f => ⟨m, hn, fun h'' sb => ?_⟩
  obtain ⟨f0, f1, f2, f3, f4, f5⟩ := f
  exact ⟨.ref D, H', I'.turned (t' := s'.toks) (fun b o hb e => (sb.2 b hb).trans e) f0 f1 f3 f4 f5, rfl, q⟩
theorem ps_setSc2 {i : Nat} {y : Str} {py spos : Pos} (hc : X.calm = true) (hN : X.N.Nodup) (hy : X.N[i]? = some y) (hyl : X.env.scope.names.lookup y = some .local)
    (hsw : swapsWith (twoSets elt tg iter tg1 iter1 scope pos) (some (.Name y py)) spos.line X.env = pure true) (hi : PI X tg iter wi) (ok : BlkOk X.N X.env.scope scope own) (hv : ∀ i ∈ vs1, i ∈ own.map (·.2))
    (hg : ∀ (s : Shared) (H : Hp) (C : Addr) (cl : List (Str × Addr)) (fp : List Addr), PG (X.blk s H scope (blkE X scope cl C) fp) tg g)
    (hi1 : ∀ (s : Shared) (H : Hp) (C : Addr) (cl : List (Str × Addr)) (fp : List Addr), PI (X.blk s H scope (blkE X scope cl C) fp) tg1 iter1 wi1)
    (hg1 : ∀ (s : Shared) (H : Hp) (C : Addr) (cl : List (Str × Addr)) (fp : List Addr), PG (X.blk s H scope (blkE X scope cl C) fp) tg1 g1)
    (he : ∀ (s : Shared) (H : Hp) (C : Addr) (cl : List (Str × Addr)) (fp : List Addr), PE (X.blk s H scope (blkE X scope cl C) fp) elt te)
    (hs : ∀ x, foldedSetIterable iter X.env x = pure x := by intro _; rfl) (hs1 : ∀ env x, foldedSetIterable iter1 env x = pure x := by intro _ _; rfl) :
    PS X (.Assign [.Name y py] (twoSets elt tg iter tg1 iter1 scope pos) spos) (tAsg (tSc2 X.prog X.w wi g wi1 g1 te (own.map (·.2)) vs1) (gName i)) := by
  refine ⟨fun pins s σ H D I h => ?_⟩
  rw [exec_Assign_Name_used _ _ _ _ hsw]
  refine wpAny_bind (wpAny_standAt (wpAny_bind ?_))
  show wpAny _ X.A (do let _ ← comprehension (twoSets elt tg iter tg1 iter1 scope pos) scope X.env (firstIterPos [⟨tg, iter, [], 0⟩, ⟨tg1, iter1, [], 0⟩] pos) (newSet (.type "set")) false (eval iter X.env) (some (assign (.Name y py) X.env))) _ _ s
  have h : tSc2 X.prog X.w wi g wi1 g1 te (own.map (·.2)) vs1 σ H (fun x H1 => gName i x σ H1 D.nx) := h
  refine wpAny_bind (thn (sc2_core (Qf := fun _ s' => SP X pins D .next s') hc hN I hi ok hv hg hi1 hg1 he hs hs1 h fun L C s' m H' I' q hn f => ?_) fun _ s' hq => wpAny_pure (wpAny_pure hq))
  show wpAny _ _ (assign (.Name y py) X.env (.ref L)) _ _ _
  refine wpAny_assign_Name (store_ok2 (v := V.ref L) I' hN hy (.inl hyl) rfl (fun s2 I2 ⟨a, sb, ha⟩ => ?_) (.inr hyl))
  obtain ⟨f0, f1, f2, f3, f4, f5⟩ := f
  have haC : C ≠ a := by
    rcases ha with z | z
    · rw [z]; exact f1
    · exact fun e => f4 y a z e.symm
  refine ⟨m, hn.sameBut sb haC, fun h3 sb3 => ?_⟩
  exact ⟨_, H', I2.turned (t' := s2.toks) (fun b o hb e => (sb3.2 b hb).trans e) f0 f1 f3 f4 f5, q⟩
theorem sw_trueS {elt : Expr} {gs : List Comprehension} {scope : Scope} {pos py : Pos} {y : Str} {l : Nat} {env : Env} (hk : env.scope.kind = .function) (hy : env.scope.names.lookup y = some .local) (hl : (py.line == pos.line) = true)
    (ha : (scope.names.any fun (n, k) => n == y && (k == .local || k == .cell)) = false) : swapsWith (.SetComp elt gs scope pos) (some (.Name y py)) l env = pure true := by
  have ky : env.kindOf y = some .local := hy
  have hb : env.blockKind = .function := by unfold Env.blockKind; rw [hk]; rfl
  unfold swapsWith
  simp only [hb, ky, ha, Expr.pos, hl]
  rfl
end
end Ver
set_option Elab.async false
set_option linter.all false
set_option maxRecDepth 100000
set_option maxHeartbeats 4000000
namespace Ver
open PySem PySem.Spec PyProof.Rows L2
def leS (a b : Str) : Prop := ¬ b.cps.toList < a.cps.toList
def ltSv (v u : Value) : Bool := decide ((strOf v).cps.toList < (strOf u).cps.toList)
theorem swo_str : SrtO.Swo ltSv := by
  refine ⟨fun x y h => ?_, fun x y z h1 h2 => ?_⟩
  · exact decide_eq_false (List.lt_asymm (of_decide_eq_true h))
  · have a := of_decide_eq_false (p := (strOf y).cps.toList < (strOf x).cps.toList) h1
    have b := of_decide_eq_false (p := (strOf z).cps.toList < (strOf y).cps.toList) h2
    exact decide_eq_false (List.not_lt.mpr (List.le_trans (List.not_lt.mp a) (List.not_lt.mp b)))
section
variable {prog : Program} {w : World} {A : Around} {E : Value → Shared → Prop} {s : Shared}
theorem str_cmp {vs : List Value} {ss : List Str} (hS : StrsAre vs ss) : SrtO.Cmp prog w A s oneType' (fun p => p.1 ∈ vs) (SrtO.lt2 ltSv) := by
  intro p q hp hq
  obtain ⟨a, t, e⟩ := hS.all _ hp
  obtain ⟨b, u, e'⟩ := hS.all _ hq
  show wpAny (model prog w) A (keyLt' oneType' p.1 q.1) (fun r s' => s' = s ∧ r = ltSv p.1 q.1) (fun _ _ => False) s
  rw [e, e', keyLt'_oneType]
  exact oneLt_str ⟨rfl, rfl⟩
theorem strs_sortable {a : Addr} {vs : List Value} {ss : List Str} (hS : StrsAre vs ss) (h2 : 2 ≤ vs.length) : SrtO.SortableO prog w A s a vs ltSv := by
  intro h' _
  refine ⟨oneType', fun Q E hq => ?_, str_cmp hS⟩
  match vs, hS, h2 with
  | v1 :: v2 :: rest, hS, _ =>
    rw [keyKind_strs hS]
    exact wpAny_pure hq
  | [], _, h => exact absurd h (by decide)
  | [v], _, h => exact absurd h (by simp)
end
theorem strs_out {vs out : List Value} {ss : List Str} (hS : StrsAre vs ss) (h1 : SrtO.Srtd ltSv out) (h2 : SrtO.Stb ltSv out vs) : StrsAre out (out.map strOf) ∧ (out.map strOf).Perm ss ∧ (out.map strOf).Pairwise leS := by
  refine ⟨strsAre_map out fun v hv => hS.all v (h2.perm.mem_iff.mp hv), ?_, ?_⟩
  · have q := h2.perm.map strOf
    rw [hS.strs] at q
    exact q
  · exact List.pairwise_map.mpr (h1.imp fun {x y} h => of_decide_eq_false (p := (strOf y).cps.toList < (strOf x).cps.toList) h)
theorem strs_of_vals : ∀ {xs : List Str} {us : List Value}, Vals (xs.map V.str) us → StrsAre us xs
  | [], _, h => by cases h; exact .nil
  | x :: xs, _, h => by
    cases h with
    | cons h1 h2 =>
      obtain ⟨t, rfl⟩ := h1
      exact .cons x t (strs_of_vals h2)
theorem vals_of_strs2 : ∀ {xs : List Str} {us : List Value}, StrsAre us xs → Vals (xs.map V.str) us
  | _, _, .nil => .nil
  | _, _, .cons x t h => .cons ⟨t, rfl⟩ (vals_of_strs2 h)
theorem perm_of_sub {α : Type} [DecidableEq α] : ∀ {l m : List α}, l.Nodup → (∀ x ∈ l, x ∈ m) → m.length ≤ l.length → l.Perm m
  | [], m, _, _, h => by
    have : m = [] := List.eq_nil_of_length_eq_zero (Nat.le_zero.mp h)
    rw [this]
  | x :: l, m, nd, sub, h => by
    have hx := sub x List.mem_cons_self
    have p := List.perm_cons_erase hx
    obtain ⟨n1, n2⟩ := List.nodup_cons.mp nd
    refine (List.Perm.cons x (perm_of_sub n2 (fun y hy => ?_) ?_)).trans p.symm
    · exact (List.mem_erase_of_ne (fun e => n1 (by rw [← e]; exact hy))).mpr (sub y (List.mem_cons_of_mem _ hy))
    · rw [List.length_erase_of_mem hx]
      rw [List.length_cons] at h
      omega
theorem str_shape {P : Program} {w : World} {k : Str} {v : Value} (h : (strKind P w).is k v = true) : ∃ u, v = .str k u := by
  have h' : Value.isStrOf k v = true := h
  cases v with
  | str x u =>
    have e : x = k := by simpa [Value.isStrOf] using h'
    exact ⟨u, by rw [e]⟩
  | _ => exact absurd h' (by simp [Value.isStrOf])
def rSortS (K : PySem.W.Frag) : List V → Hp → VK → Prop := fun vs H Q => ∃ (a : Addr) (xs : List Str), vs = [V.ref a] ∧ SqL K H a (xs.map V.str) ∧ ∀ (ys : List Str) (p : Addr), ys.Perm xs → ys.Pairwise leS → H p = none → Q (.ref p) (upd H p (.lst (ys.map V.str)))
def rSortTx (P : Program) (w : World) : List V → Hp → VK → Prop := fun vs H Q => ∃ (a : Addr) (l : List Str), vs = [V.ref a] ∧ H a = some (TxO P w a l) ∧ ∀ (ys : List Str) (p : Addr), ys.Perm l → ys.Pairwise leS → H p = none → Q (.ref p) (upd H p (.lst (ys.map V.str)))
section
variable {X : Cx}
theorem cr_sortS : CallR X (.builtin "sorted") (rSortS X.K) := by
  intro pins s σ H vs us Q I r h
  obtain ⟨a, xs, rfl, hs, q⟩ := h
  obtain ⟨its, rv, hl, hz⟩ := I.list hs
  rw [Vals.ref1 r]
  have hi := strs_of_vals rv
  refine SrtO.sorted_ord swo_str hl.isList (by rw [← rv.length]; exact hz) (fun h2 _ _ _ _ => strs_sortable hi h2) fun out h1 h2 => ?_
  obtain ⟨k1, k2, k3⟩ := strs_out hi h1 h2
  obtain ⟨ep, he⟩ := PyProof.Rows.sortedAll_at s.heap its out.toArray
  have hlen : ((out.map strOf).map V.str).length ≤ sizeLine := by
    rw [List.length_map, k2.length_eq]
    rw [List.length_map] at hz
    exact hz
  exact ⟨.ref _, upd H (s.heap.objs.size + 1) (.lst ((out.map strOf).map V.str)), I.laid (t' := s.toks) (fun _ _ => PyProof.Rows.sortedAll_old) (Nat.le_succ _) ⟨hlen, out, ep, vals_of_strs2 k1, he⟩, rfl, q _ _ k2 k3 (I.hok.fresh (Nat.le_succ _))⟩
theorem cr_sortTx (hc : X.calm = true) : CallR X (.builtin "sorted") (rSortTx X.prog X.w) := by
  intro pins s σ H vs us Q I r h
  obtain ⟨a, l, rfl, ha, q⟩ := h
  obtain ⟨⟨es, ep, t⟩, ho, tx, nd, lb, ris, led⟩ := txO_get I ha
  rw [Vals.ref1 r]
  have sz : es.size = l.length := tx.sz
  refine Calls.call_function_entry kind_sorted plain_sorted entry_sorted (args_sorted1 _) ?_
  unfold Builtin.«sorted»
  refine wpAny_bind (m := checkCount "sorted" 1 1 _) (wpAny_pure ?_)
  refine wpAny_bind (collect_set (A := X.A.in1) (I.ok.hd hc) ⟨_, ho, rfl, rfl⟩ tx.fit (by rw [sz]; exact lb) ris led fun s1 vs k1 hz g1 o1 pm => ?_)
  have len : vs.length = l.length := by rw [pm.length_eq, List.length_map, Array.length_toList, sz]
  have shape : ∀ v ∈ vs, ∃ x u, v = .str x u := fun v hv => by
    obtain ⟨e, he, q⟩ := List.mem_map.mp (pm.mem_iff.mp hv)
    obtain ⟨⟨k, h1, _⟩, _⟩ := tx.el e he
    obtain ⟨u, h2⟩ := str_shape h1
    exact ⟨k, u, q.symm.trans h2⟩
  have hS : StrsAre vs (vs.map strOf) := strsAre_map vs shape
  have same : (vs.map strOf).Perm l := (perm_of_sub nd (fun k hk => by
    obtain ⟨e, he, z⟩ := (tx.mem k).mp hk
    obtain ⟨u, h2⟩ := str_shape z
    exact List.mem_map.mpr ⟨e.2, pm.mem_iff.mpr (List.mem_map.mpr ⟨e, he, rfl⟩), by rw [h2]; rfl⟩) (by rw [List.length_map, len]; exact Nat.le_refl _)).symm
  have most : vs.length ≤ sizeLine := by
    rw [len, sizeLine_eq]
    have : scanBound ≤ 16777216 := by decide
    omega
  refine wpAny_bind (wpAny_newList ?_ most)
  have hoL : (s1.heap.push (seqObj "list" vs.toArray 0)).get? s1.heap.objs.size = some (seqObj "list" vs.toArray 0) := Heap.get?_push_size _ rfl
  refine wpAny_bind (wpAny_holding (wpAny_call_entry slot_list_sort ⟨_, hoL, rfl⟩ entry_list_sort (SrtO.list_sort_ord swo_str hoL most (fun h2 => strs_sortable hS h2) fun out h1 h2 => ⟨_, rfl, ?_⟩) (args_list_sort _)))
  obtain ⟨j1, j2, j3⟩ := strs_out hS h1 h2
  obtain ⟨c, hc2⟩ := sortedHeap_at (vs := vs) (out := out.toArray) hoL
  have hn : H s1.heap.objs.size = none := I.hok.fresh hz
  have hlen : ((out.map strOf).map V.str).length ≤ sizeLine := by
    rw [List.length_map, j2.length_eq, List.length_map]
    exact most
  have kept : ∀ b o, s.heap.get? b = some o → (sortedHeap (s1.heap.push (seqObj "list" vs.toArray 0)) s1.heap.objs.size vs out.toArray).get? b = some o := fun b o e => by
    have e1 := k1 b o e
    have lt := Heap.lt_size e1
    rw [sortedHeap_old (Nat.ne_of_lt lt) (by rw [size_push']; exact Nat.lt_succ_of_lt lt)]
    exact Heap.get?_push_of_some _ e1
  refine wpAny_pure ⟨_, rfl, ?_⟩
  refine ⟨.ref s1.heap.objs.size, upd H s1.heap.objs.size (.lst ((out.map strOf).map V.str)), ?_, rfl, q _ _ (j2.trans same) j3 hn⟩
  generalize sortedHeap (s1.heap.push (seqObj "list" vs.toArray 0)) s1.heap.objs.size vs out.toArray = h' at hc2 kept ⊢
  have e : ({ s1 with heap := h' } : Shared) = { s with heap := h', gens := s1.gens, drawn := s1.drawn, toks := s1.toks } := by
    cases s1
    cases s
    cases o1
    rfl
  rw [e]
  have ob : ObjOk X.prog X.w (upd H s1.heap.objs.size (.lst ((out.map strOf).map V.str))) h' s1.heap.objs.size (.lst ((out.map strOf).map V.str)) := ⟨hlen, out, c, vals_of_strs2 j1, hc2⟩
  exact I.call (ch := []) (Un.laid kept hz hn) (I.hok.laid kept hz ob) (by rw [g1]; exact I.bare) (fun _ z => nomatch z)
end
end Ver
set_option Elab.async false
set_option linter.all false
set_option maxRecDepth 100000
set_option maxHeartbeats 4000000
namespace Ver
open PySem PySem.Spec PyProof.Rows L2 LamX
def lenKey (x : Str) : PyData := .tuple [.int x.length, .str x]
def leLen (a b : Str) : Prop := a.length < b.length ∨ (a.length = b.length ∧ leS a b)
instance (a b : Str) : Decidable (leS a b) := inferInstanceAs (Decidable (¬ b.cps.toList < a.cps.toList))
instance (a b : Str) : Decidable (leLen a b) := inferInstanceAs (Decidable (_ ∨ _))
theorem str_of_list {a b : Str} (h : a.cps.toList = b.cps.toList) : a = b := by
  cases a; cases b
  have h' := Array.toList_inj.mp h
  simp only at h'
  rw [h']
theorem dataLt_len (a b : Str) : PySem.W.dataLt (lenKey a) (lenKey b) = decide (a.length < b.length ∨ (a.length = b.length ∧ a.cps.toList < b.cps.toList)) := by
  show PySem.W.dataLt (.tuple [.int (a.length : Int), .str a]) (.tuple [.int (b.length : Int), .str b]) = _
  rw [PySem.W.dataLt_pair (by rfl) (by rfl)]
  by_cases e : a.length = b.length
  · have e1 : PyData.eqv (.int (a.length : Int)) (.int (b.length : Int)) = true := by rw [e]; simp [PyData.eqv]
    rw [if_pos e1, PySem.W.dataLt_str]
    by_cases e2 : PyData.eqv (.str a) (.str b) = true
    · have e3 : a = b := by simpa [PyData.eqv] using e2
      subst e3
      rw [if_pos e2]
      simp [List.lt_irrefl]
    · rw [if_neg e2]
      simp [e]
  · have e1 : ¬ PyData.eqv (.int (a.length : Int)) (.int (b.length : Int)) = true := by
      simp [PyData.eqv]; omega
    rw [if_neg e1, PySem.W.dataLt_int]
    simp [e]
theorem dataLe_len : PySem.W.dataLe false lenKey = fun a b => decide (leLen a b) := by
  funext a b
  show (!PySem.W.dataLt (lenKey b) (lenKey a)) = _
  rw [dataLt_len]
  by_cases h : b.length < a.length ∨ (b.length = a.length ∧ b.cps.toList < a.cps.toList)
  · have h' : ¬ leLen a b := by
      rintro (z | ⟨z1, z2⟩)
      · rcases h with h | h <;> omega
      · rcases h with h | ⟨_, h⟩
        · omega
        · exact z2 h
    rw [decide_eq_true h, decide_eq_false h'] <;> rfl
  · have h' : leLen a b := by
      by_cases e : a.length = b.length
      · exact .inr ⟨e, fun z => h (.inr ⟨e.symm, z⟩)⟩
      · refine .inl ?_
        have : ¬ b.length < a.length := fun z => h (.inl z)
        omega
    rw [decide_eq_false h, decide_eq_true h'] <;> rfl
theorem leS_trans {a b c : Str} (h1 : leS a b) (h2 : leS b c) : leS a c := List.not_lt.mpr (List.le_trans (List.not_lt.mp h1) (List.not_lt.mp h2))
theorem leS_total (a b : Str) : leS a b ∨ leS b a := by
  rcases List.le_total a.cps.toList b.cps.toList with h | h
  · exact .inl (List.not_lt.mpr h)
  · exact .inr (List.not_lt.mpr h)
theorem leLen_trans {a b c : Str} (h1 : leLen a b) (h2 : leLen b c) : leLen a c := by
  rcases h1 with h1 | ⟨h1, k1⟩ <;> rcases h2 with h2 | ⟨h2, k2⟩
  · exact .inl (by omega)
  · exact .inl (by omega)
  · exact .inl (by omega)
  · exact .inr ⟨by omega, leS_trans k1 k2⟩
theorem leLen_total (a b : Str) : leLen a b ∨ leLen b a := by
  by_cases e : a.length = b.length
  · rcases leS_total a b with h | h
    · exact .inl (.inr ⟨e, h⟩)
    · exact .inr (.inr ⟨e.symm, h⟩)
  · by_cases q : a.length < b.length
    · exact .inl (.inl q)
    · exact .inr (.inl (by omega))
theorem lens_sorted (xs : List Str) : (xs.mergeSort (PySem.W.dataLe false lenKey)).Perm xs ∧ (xs.mergeSort (PySem.W.dataLe false lenKey)).Pairwise leLen := by
  refine ⟨List.mergeSort_perm _ _, ?_⟩
  rw [dataLe_len]
  refine (List.pairwise_mergeSort (le := fun a b => decide (leLen a b)) (fun a b c h1 h2 => decide_eq_true (leLen_trans (of_decide_eq_true h1) (of_decide_eq_true h2))) (fun a b => ?_) xs).imp fun {a b} h => of_decide_eq_true h
  rcases leLen_total a b with h | h
  · rw [decide_eq_true h, Bool.true_or]
  · rw [decide_eq_true h, Bool.or_true]
section
variable {X : Cx} {pins : List (Addr × Obj)} {σ : L2.St} {H : Hp} {s : Shared}
theorem lenkey_call {scope : Scope} {params : Arguments} {q : Str} {cl : List (Str × Addr)} {pm ctv : Value} {f c' : Addr} {a : Str} {p1 p2 p3 p4 p5 : Pos} {x : Str} {t : Tok} {h : Heap} {tk k5 : Nat} {A : Around}
    (I : Inv X pins σ H s) (hm : X.mg "len" = none)
    (hf : s.heap.get? f = some (PySem.W.kla_obj "<lambda>" q params (.Tuple [.Call (.Name "len" p1) [.Name a p2] [] p3, .Name a p4] k5 p5) scope cl pm c' ctv)) (hco : H c' = some (CodeO c' q))
    (hbind : ∀ (q : Str) (cl : List (Str × Addr)) (pm cv ctv v : Value), bindArgs (PySem.W.kla_fn "<lambda>" q params (.Tuple [.Call (.Name "len" p1) [.Name a p2] [] p3, .Name a p4] k5 p5) scope cl pm cv ctv) ⟨[v], []⟩ = pure [(a, v)])
    (hk : scope.kind = .function) (hcoR : scope.isCoroutine = false) (hgen : scope.isGenerator = false) (hcell : ∀ y ∈ scope.names, y.2 ≠ .cell) (hl : scope.names.lookup a = some .local) (hlen : scope.names.lookup ("len" : Str) = some .globalImplicit)
    (hd : (a == ("__debug__" : Str)) = false) (hr : A.depth < recursionLimit) (hx : x.length ≤ sizeLine) (kp : ∀ b o, s.heap.get? b = some o → h.get? b = some o) :
    wpAny (model X.prog X.w) A (call (.ref f) [.str x t]) (PySem.W.KeyPure (lenKey x) { s with heap := h, toks := tk }) (fun _ _ => False) { s with heap := h, toks := tk } := by
  obtain ⟨⟨oc, vs, tq, hoc, hdc, hvc⟩, _, _⟩ := I.hok c' _ hco
  obtain ⟨mb, b1, b2⟩ := I.mod.blt
  have kb : ∀ b o, X.base.get? b = some o → h.get? b = some o := fun b o e => kp b o (I.bk b o e)
  have rc : codeAny (model X.prog X.w) A (.call (.ref f) ⟨[.str x t], []⟩) (fun r s' => ∃ u, r = .ok (.ret u) ∧ PySem.W.KeyPure (lenKey x) { s with heap := h, toks := tk } u s') { s with heap := h, toks := tk } := by
    refine PySem.W.kla_callFunE hr (kp _ _ hf) rfl hcoR hgen rfl ⟨c', oc, vs, tq, rfl, kp _ _ hoc, hdc, hvc⟩ ?_
    rw [hbind]
    refine wpAny_pure (wpAny_newFunctionEnv hcell (fun y hy => ?_) (fun h₁ hns hsb => ⟨(I.nolimit.keeps kp).fresh _ hsb, ?_⟩) hk)
    · rw [List.mem_singleton.mp hy]
      exact hl
    have kp1 : ∀ b o, h.get? b = some o → h₁.get? b = some o := fun b o e => hsb.extBut b o (Nat.ne_of_lt (Heap.lt_size e)) (Heap.get?_push_of_some _ e)
    refine PySem.W.kla_codeExpr ?_
    show wpAny _ _ (eval _ (PySem.W.envX q scope h.objs.size f (.ref c') cl)) _ _ _
    refine wpAny_Tuple_spliced (args_cons (Call_ (Calls.Name_function_global hk hlen (Calls.loadGlobal_builtin (I.mod.glob.keeps fun b o e => kp1 b o (kb b o e)) hm (b1.keeps fun b o e => kp1 b o (kb b o e)) ((b2 "len" (by decide)).trans boot_len) ?_)) rfl) rfl)
    refine PyProof.Rows.callWith_builtin1 (args_cons (wpAny_Name (wpAny_loadName_local hk hl hns (v := .str x t) (by simp) ?_) hd) rfl) rfl rfl
    refine args_nil (len_str (by rw [sizeLine_eq] at hx; omega) ?_)
    refine args_cons (wpAny_Name (wpAny_loadName_local hk hl hns (v := .str x t) (by simp) ?_) hd) rfl
    refine args_nil ⟨by show 2 ≤ sizeLine; decide, ?_⟩
    refine ⟨_, rfl, _, _, rfl, fun b o e => Heap.get?_push_of_some _ (kp1 b o e), ?_⟩
    exact .tuple (Heap.get?_push_size _ rfl) rfl rfl (.cons (.int _ _) (.cons (.str _ _) .nil))
  exact wpAny_call (codeAny_mono rc fun r s' ⟨u, e, hq⟩ => by subst e; exact hq)
def tSortLen (K : PySem.W.Frag) (T : List (Addr × Str)) (te : TE) : TE := fun σ H Q => te σ H fun v H1 => ∃ (a : Addr) (xs : List Str), v = .ref a ∧ H1 a = some (.lst (xs.map V.str)) ∧ (∀ x ∈ xs, x.length ≤ sizeLine) ∧ Tabs T H1 ∧
  ∀ (H2 : Hp) (ys : List Str) (p : Addr), ExtN H1 H2 → Tabs T H2 → ys.Perm xs → ys.Pairwise leLen → H2 p = none → Q (.ref p) (upd H2 p (.lst (ys.map V.str)))
theorem strs_each : ∀ {vs : List Value} {xs : List Str}, StrsAre vs xs → PySem.W.EachIs (fun v (x : Str) => ∃ t, v = .str x t) vs xs
  | _, _, .nil => .nil
  | _, _, .cons x t h => .cons ⟨t, rfl⟩ (strs_each h)
theorem each_strs : ∀ {vs : List Value} {xs : List Str}, PySem.W.EachIs (fun v (x : Str) => ∃ t, v = .str x t) vs xs → StrsAre vs xs
  | _, _, .nil => .nil
  | _, _, .cons ⟨t, e⟩ h => by
    subst e
    exact .cons _ t (each_strs h)
theorem pe_sortLen {T : List (Addr × Str)} {c P : Addr} {k k5 : Nat} {e : Expr} {te : TE} {a : Str} {params : Arguments} {scope : Scope} {p pos lpos kpos p1 p2 p3 p4 p5 : Pos}
    (hr : Room k X.A) (TB : TabB X.base X.mg c P) (hcode : X.env.code = .ref c) (hmT : (P, X.env.qual ++ "<lambda>") ∈ T) (hu : ∀ p ∈ T, p.1 = P → p.2 = X.env.qual ++ "<lambda>")
    (hg : Gl X "sorted") (hmS : X.mg "sorted" = none) (hmL : X.mg "len" = none) (he : PE X e te)
    (hk : scope.kind = .function := by rfl) (hcoR : scope.isCoroutine = false := by rfl) (hgen : scope.isGenerator = false := by rfl) (hcell : ∀ y ∈ scope.names, y.2 ≠ .cell ∧ y.2 ≠ .free := by decide) (hl : scope.names.lookup a = some .local := by rfl)
    (hlen : scope.names.lookup ("len" : Str) = some .globalImplicit := by rfl) (hd : (a == ("__debug__" : Str)) = false := by decide) (hdef : defaultsOf params X.env = ([], []) := by rfl)
    (hbind : ∀ (q : Str) (cl : List (Str × Addr)) (pm cv ctv v : Value), bindArgs (PySem.W.kla_fn "<lambda>" q params (.Tuple [.Call (.Name "len" p1) [.Name a p2] [] p3, .Name a p4] k5 p5) scope cl pm cv ctv) ⟨[v], []⟩ = pure [(a, v)] := by intros; rfl)
    (hs : backTo pos (starEach [e] X.env) = (false, eval e X.env) :: backTo pos (starEach [] X.env) := by rfl) :
    PE X (.Call (.Name "sorted" p) [e] [⟨some "key", .Lambda params (.Tuple [.Call (.Name "len" p1) [.Name a p2] [] p3, .Name a p4] k5 p5) scope lpos, kpos⟩] pos) (tSortLen X.K T te) := by
  refine ⟨fun pins s σ H Q I h => ?_⟩
  refine wpAny_Call_Name_kw (ld_blt I hg hmS boot_sorted ?_)
  refine PyProof.Rows.callWith_kw ?_ hs (by rw [hs] <;> rfl) (by rfl) (by rfl)
  rw [hs]
  refine Calls.spliced_cons (thn (he.run pins s σ H _ I h) fun u s1 ⟨v, H1, I1, r1, q1⟩ => ?_)
  obtain ⟨l, xs, rfl, hl1, hx, hT, q⟩ := q1
  obtain rfl : u = Value.ref l := r1
  refine args_nil ?_
  refine kws_cons (lam_make2 I1 TB hcode hmT hu hT hdef (fun y hy z => absurd z (hcell y hy).2) fun f c' pm' ctv H2 s2 I2 eN T2 hf hfn hfr hco => ?_)
  refine kws_nil ?_
  have hl2 : H2 l = some (.lst (xs.map V.str)) := eN _ _ hl1 fun ps z => by cases z
  obtain ⟨hz, its, n, rv, ho⟩ := I2.hok l _ hl2
  have hi := strs_of_vals rv
  have hlen2 : xs.length ≤ sizeLine := by rw [List.length_map] at hz; exact hz
  have pl := lens_sorted xs
  refine PySem.W.sorted_key_data (b := false) lenKey (R := fun v (x : Str) => ∃ t, v = .str x t) (bs := xs) ⟨_, ho, rfl, _, rfl⟩ (strs_each hi) (PySem.W.AllAlike.of fun b b' => by rfl) (PySem.W.Sortable.tuples fun b => ⟨_, _, rfl⟩) hlen2 (fun x _ => ?_)
    (PyProof.Rows.ksk_s1 _ _) (fun _ => PyProof.Rows.ksk_l1 _ _) (fun _ => PyProof.Rows.ksk_t1 _ _) (fun v x hv hm h tk kp => ?_) fun out cc h' tk kp fr hD hlo eo => ?_
  · have := hr.un
    have hd : (lenKey x).depth = 1 := by simp [lenKey, PyData.depth, PyData.depthAll]
    omega
  · obtain ⟨t, rfl⟩ := hv
    exact lenkey_call I2 hmL hf hco hbind hk hcoR hgen (fun y hy => (hcell y hy).1) hl hlen hd hr.depth (hx x hm) kp
  · have so := each_strs eo
    have hn : H2 (s2.heap.objs.size + 1) = none := I2.hok.fresh (Nat.le_succ _)
    have hll : ((xs.mergeSort (PySem.W.dataLe false lenKey)).map V.str).length ≤ sizeLine := by
      rw [List.length_map, pl.1.length_eq]
      exact hlen2
    refine ⟨.ref _, upd H2 (s2.heap.objs.size + 1) (.lst ((xs.mergeSort (PySem.W.dataLe false lenKey)).map V.str)), I2.laid (t' := tk) kp (Nat.le_succ _) ⟨hll, out, cc, vals_of_strs2 so, hD⟩, rfl, q _ _ _ eN T2 pl.1 pl.2 hn⟩
end
theorem Fun.okC {P : Program} {w : World} {K : PySem.W.Frag} {mg : Str → Option Value} {base : Heap} {x qual : Str} {st : Stmt} {f c : Addr} {fd : FuncData} {N ps : List Str} {k : Nat} {sp : Sp} (F : Fun K x qual st f fd) (hc : fd.code = .ref c) (S : FnScope N ps (defScope st)) (len : ∀ vs H Q E, sp vs H Q E → vs.length = ps.length)
    (hbody : ∀ (A : Around) (outer : List Env) (s : Shared) (H : Hp) (vs : List V) (Q : VK) (E : XK), Room k (A.deeper (envOfC qual (defScope st) s.heap.objs.size f (.ref c))) → sp vs H Q E →
      ∃ t, PSs (cxOf CX0 P w K mg base N qual (defScope st) f (.ref c) A outer s H E).nox (defBody st) t ∧ t { nx := fun _ H' => Q .non H', rt := Q } (start N vs) H) : FnOk P w K mg base CX0 (k + 1) f fd ps sp := by
  obtain ⟨oc, od, kV, doc, pm, an, cdv, ct, osl, rfl, lk, hcd⟩ := F.ex
  have hc' : cdv = .ref c := hc
  subst hc'
  refine fn_of lk hcd S len fun A outer s H vs Q E hr hsp => ?_
  obtain ⟨t, h, q⟩ := hbody A outer s H vs Q E hr hsp
  exact ⟨t, h.nox, q⟩
end Ver
set_option Elab.async false
set_option linter.all false
set_option maxRecDepth 100000
set_option maxHeartbeats 2000000
namespace Ver
open PySem PySem.Spec PyProof.Rows L2
theorem it_tup {K : PySem.W.Frag} {a : Addr} {xs : List V} {H0 : Hp} {Qd : Hp → Prop} {B : V → Hp → (Hp → Prop) → Prop} (S : Nat → Hp → Prop) (h0 : S 0 H0) (hl : ∀ i H, S i H → SqT K H a xs)
    (hs : ∀ i x H, xs[i]? = some x → S i H → B x H (S (i + 1))) (hd : ∀ H, S xs.length H → Qd H) :
    ∃ W : Nat → Nat → Hp → Prop, (∃ m, W 0 m H0) ∧ ∀ i m H, W i m H →
      ((Itt K a).stop i H ∧ Qd H) ∨ ((Itt K a).go i H ∧ ∃ Nx : Hp → Prop, (∀ H', Nx H' → ∃ m', m' < m ∧ W (i + 1) m' H') ∧ ∀ x H', (Itt K a).yld i H x H' → B x H' Nx) := by
  refine ⟨fun i m H => i + m = xs.length ∧ S i H, ⟨xs.length, Nat.zero_add _, h0⟩, fun i m H ⟨e, p⟩ => ?_⟩
  have st := hl i H p
  by_cases lt : i < xs.length
  · refine .inr ⟨⟨xs, xs[i], st, List.getElem?_eq_getElem lt⟩, S (i + 1), fun H' q => ⟨m - 1, by omega, by omega, q⟩, fun x H' y => ?_⟩
    obtain ⟨e1, y⟩ := y
    subst e1
    exact hs i x _ (y xs st) p
  · have : i = xs.length := by omega
    subst this
    exact .inl ⟨⟨xs, st, Nat.le_refl _⟩, hd H p⟩
theorem it_range {n : Nat} {H0 : Hp} {Qd : Hp → Prop} {B : V → Hp → (Hp → Prop) → Prop} (S : Nat → Hp → Prop) (h0 : S 0 H0)
    (hs : ∀ i H, i < n → S i H → B (.int (i : Int)) H (S (i + 1))) (hd : ∀ H, S n H → Qd H) :
    ∃ W : Nat → Nat → Hp → Prop, (∃ m, W 0 m H0) ∧ ∀ i m H, W i m H →
      ((Itr 0 n).stop i H ∧ Qd H) ∨ ((Itr 0 n).go i H ∧ ∃ Nx : Hp → Prop, (∀ H', Nx H' → ∃ m', m' < m ∧ W (i + 1) m' H') ∧ ∀ x H', (Itr 0 n).yld i H x H' → B x H' Nx) := by
  refine ⟨fun i m H => i + m = n ∧ S i H, ⟨n, Nat.zero_add _, h0⟩, fun i m H ⟨e, p⟩ => ?_⟩
  by_cases lt : i < n
  · refine .inr ⟨lt, S (i + 1), fun H' q => ⟨m - 1, by omega, by omega, q⟩, fun x H' y => ?_⟩
    obtain ⟨e1, y⟩ := y
    subst e1 y
    rw [Int.zero_add]
    exact hs i _ lt p
  · have : i = n := by omega
    subst this
    exact .inl ⟨Nat.le_refl _, hd H p⟩
def takeS (z : Str) (k : Nat) : Str := ⟨(z.cps.toList.take k).toArray⟩
theorem takeS_len {z : Str} {k : Nat} (h : k ≤ z.length) : (takeS z k).length = k := by
  show (z.cps.toList.take k).toArray.size = k
  rw [List.size_toArray, List.length_take, Array.length_toList]
  exact Nat.min_eq_left h
def IsInner (ts : List Str) (z : Str) : Prop := ∃ t ∈ ts, ∃ k, k < t.length ∧ z = takeS t k
structure Inner (ts R : List Str) : Prop where
  nd : R.Nodup
  mem : ∀ z, z ∈ R ↔ IsInner ts z
  ord : R.Pairwise leLen
end Ver
set_option Elab.async false
set_option linter.all false
set_option maxRecDepth 100000
set_option maxHeartbeats 2000000
namespace K5
open PySem PySem.Spec PyProof.Rows L2 Ver LamX
def TT (P S : Addr) : List (Addr × Str) := [(P, "by_length" ++ ".<locals>." ++ "<lambda>"), (S, "speller" ++ ".<locals>." ++ "<lambda>")]
structure Tb {K : PySem.W.Frag} {mg : Str → Option Value} (T : Tx K mg) (base : Heap) (cc cP cd cS : Addr) : Prop where
  code : T.d_by_length.code = .ref cc
  tab : TabB base mg cc cP
  code2 : T.d_speller.code = .ref cd
  tab2 : TabB base mg cd cS
  ne : cP ≠ cS
section
variable {P : Program} {w : World} {K : PySem.W.Frag} {mg : Str → Option Value} {base : Heap}
def sp_by_length (K : PySem.W.Frag) (TS : List (Addr × Str)) : Sp := fun vs H Q _ => ∃ (a : Addr) (xs : List Str), vs = [.ref a] ∧ H a = some (.lst (xs.map V.str)) ∧ (∀ x ∈ xs, x.length ≤ 1000) ∧ Tabs TS H ∧
  ∀ (H2 : Hp) (ys : List Str) (p : Addr), ExtN H H2 → Tabs TS H2 → ys.Perm xs → ys.Pairwise leLen → H2 p = some (.lst (ys.map V.str)) → Q (.ref p) H2
theorem ok_by_length {cc cP cd cS : Addr} (T : Tx K mg) (TB : Tb T base cc cP cd cS) : FnOk P w K mg base CX0 1 T.f_by_length T.d_by_length ["things"] (sp_by_length K (TT cP cS)) := by
  refine Fun.okC T.F_by_length TB.code sc_by_length (fun vs H Q E h => ?_) (fun A outer s H vs Q E hr h => ?_)
  · obtain ⟨a, xs, rfl, _⟩ := h; rfl
  · obtain ⟨a, xs, rfl, ha, hl, hT, q⟩ := h
    refine ⟨_, (pss_one (ps_ret (pe_sortLen (T := TT cP cS) hr TB.tab rfl List.mem_cons_self (fun p hp e => by rcases List.mem_cons.mp hp with z | z; rw [z] <;> rfl; rw [List.mem_singleton.mp z] at e; exact absurd e.symm TB.ne) (by rfl) T.n_sorted T.n_len (pv 0)))), ?_⟩
    refine ⟨.ref a, rfl, a, xs, rfl, ha, fun x hx => small' (Nat.le_trans (hl x hx) (by decide)), hT, fun H2 ys p e t pm pw n => ?_⟩
    exact q _ ys p (e.trans (ExtN.of (same_new n))) (t.ext (same_new n)) pm pw upd_same
def sp_inner_texts (K : PySem.W.Frag) (TS : List (Addr × Str)) : Sp := fun vs H Q _ => ∃ (t : Addr) (ts : List Str), vs = [.ref t] ∧ SqT K H t (ts.map V.str) ∧ ts.length ≤ 200 ∧ (∀ z ∈ ts, z.length ≤ 12) ∧ Tabs TS H ∧
  ∀ (H2 : Hp) (R : List Str) (p : Addr), ExtN H H2 → Tabs TS H2 → Inner ts R → H2 p = some (.tup (R.map V.str)) → Q (.ref p) H2
theorem ok_inner_texts {cc cP cd cS : Addr} (T : Tx K mg) (TB : Tb T base cc cP cd cS) : FnOk P w K mg base CX0 2 T.f_inner_texts T.d_inner_texts ["tokens"] (sp_inner_texts K (TT cP cS)) := by
  refine T.F_inner_texts.ok sc_inner_texts (fun vs H Q E h => ?_) (fun cdv A outer s H vs Q E hr h => ?_)
  · obtain ⟨t, ts, rfl, _⟩ := h; rfl
  · obtain ⟨t, ts, rfl, hT, hl, hz, hB, q⟩ := h
    refine ⟨_, (pss_cons (ps_setSc2 (i := 1) (own := [("token", 2), ("k", 3)]) (g := gName 2) (g1 := gName 3) (vs1 := [3]) rfl sc_inner_texts.nd rfl rfl (sw_trueS rfl rfl rfl (by decide +kernel)) (pi_tup (pv 0)) (blkOk_by (N := ["tokens", "found", "token", "k"]) (sc := defScope s_inner_texts) (by decide +kernel)) (by decide) (fun _ _ _ _ _ => (pg_name (i := 2) sc_inner_texts.nd rfl (Or.inl rfl))) (fun _ _ _ _ _ => (pi_range1 rfl T.n_range (pa_cons (pe_callB call_len_str (by rfl) T.n_len (by decide +kernel) (pa_cons (pv 2) pa_nil)) pa_nil))) (fun _ _ _ _ _ => (pg_name (i := 3) sc_inner_texts.nd rfl (Or.inl rfl))) (fun _ _ _ _ _ => (pe_slice C8.sl_txt (pv 2) po_none (po_some (pv 3)))))
    (pss_one (ps_ret (pe_callTy call_tuple_of (by rfl) T.n_tuple (by decide +kernel) (pa_cons (pe_call (ok_by_length T TB) hr rfl T.g_by_length T.F_by_length.kp T.b_by_length .nil pass0 (pa_cons (pe_callB (cr_sortTx (by rfl)) (by rfl) T.n_sorted (by decide +kernel) (pa_cons (pv 1) pa_nil)) pa_nil)) pa_nil))))), ?_⟩
    refine ⟨.ref t, rfl, t, rfl, ⟨_, hT⟩, fun D nD => ?_⟩
    have s0 := same_new (o := TxO P w D []) nD
    refine it_tup (K := K) (a := t) (xs := ts.map V.str) (fun i H' => Same H H' ∧ ∃ l : List Str, H' D = some (TxO P w D l) ∧ l.Nodup ∧ (∀ z, z ∈ l ↔ IsInner (ts.take i) z) ∧ l.length ≤ 12 * i)
      ⟨s0, [], upd_same, List.nodup_nil, fun z => ⟨fun h => absurd h (by simp), fun ⟨t, ht, _⟩ => absurd ht (by simp)⟩, by simp⟩ (fun i H' h => seqT_grow h.1 hT) (fun i x H' e h => ?_) (fun H' h => ?_)
    · obtain ⟨s1, l, hD, nd, mem, len⟩ := h
      obtain ⟨z, ez, rfl⟩ : ∃ z, ts[i]? = some z ∧ V.str z = x := by
        rw [List.getElem?_map] at e
        cases ez : ts[i]? with
        | none => rw [ez] at e; cases e
        | some z => rw [ez] at e; exact ⟨z, rfl, Option.some.inj e⟩
      have lt : i < ts.length := (List.getElem?_eq_some_iff.mp ez).1
      have z12 : z.length ≤ 12 := hz z (List.mem_of_getElem? ez)
      refine ⟨by rfl, .str z, rfl, z, rfl, small' (by omega), z.length, rfl, by omega, by omega, ?_⟩
      refine it_range (n := ((z.length : Nat) : Int).toNat) (fun j H' => Same H H' ∧ ∃ l : List Str, H' D = some (TxO P w D l) ∧ l.Nodup ∧ (∀ y, y ∈ l ↔ IsInner (ts.take i) y ∨ ∃ k, k < j ∧ y = takeS z k) ∧ l.length ≤ 12 * i + j)
        ⟨s1, l, hD, nd, fun y => ⟨fun h => .inl ((mem y).mp h), fun h => h.elim (mem y).mpr fun ⟨k, hk, _⟩ => absurd hk (Nat.not_lt_zero k)⟩, by omega⟩ (fun j H2 ltj h => ?_) (fun H2 h => ?_)
      · obtain ⟨s2, l2, hD2, nd2, mem2, len2⟩ := h
        have es : Txt.slice z none (some (j : Int)) = takeS z j := by
          have e9 := SX.slice_to (a := z.cps.toList) (i := (j : Int)) (by omega)
          rw [SX.S_tl] at e9
          rw [e9]
          rfl
        have sb : 3000 < scanBound := by decide
        refine ⟨by rfl, .str z, rfl, .int (j : Int), rfl, (j : Int), rfl, z, rfl, small' (by omega), takeS z j, l2, by rw [es], hD2, by omega, ?_⟩
        refine ⟨fun b o eb => ?_, _, upd_same, ?_, fun y => ?_, ?_⟩
        · rw [upd_ne (ne_of_none eb nD)]
          exact s2 b o eb
        · split
          · exact nd2
          · rename_i hn
            exact List.nodup_cons.mpr ⟨hn, nd2⟩
        · have step : (∃ k, k < j + 1 ∧ y = takeS z k) ↔ ((∃ k, k < j ∧ y = takeS z k) ∨ y = takeS z j) := by
            constructor
            · rintro ⟨k, hk, e9⟩
              rcases Nat.lt_or_eq_of_le (Nat.le_of_lt_succ hk) with h | h
              · exact .inl ⟨k, h, e9⟩
              · exact .inr (h ▸ e9)
            · rintro (⟨k, hk, e9⟩ | e9)
              · exact ⟨k, Nat.lt_succ_of_lt hk, e9⟩
              · exact ⟨j, Nat.lt_succ_self j, e9⟩
          rw [step]
          split
          · rename_i hm
            rw [mem2 y]
            constructor
            · rintro (h | h)
              · exact .inl h
              · exact .inr (.inl h)
            · rintro (h | h | h)
              · exact .inl h
              · exact .inr h
              · rw [h]
                exact (mem2 _).mp hm
          · rw [List.mem_cons, mem2 y]
            constructor
            · rintro (h | h | h)
              · exact .inr (.inr h)
              · exact .inl h
              · exact .inr (.inl h)
            · rintro (h | h | h)
              · exact .inr (.inl h)
              · exact .inr (.inr h)
              · exact .inl h
        · split
          · omega
          · rw [List.length_cons]; omega
      · obtain ⟨s2, l2, hD2, nd2, mem2, len2⟩ := h
        have ej : ((z.length : Nat) : Int).toNat = z.length := by omega
        rw [ej] at mem2 len2
        refine ⟨s2, l2, hD2, nd2, fun y => (mem2 y).trans ?_, by omega⟩
        rw [List.take_add_one, ez]
        constructor
        · rintro (⟨t, ht, k, hk, e⟩ | ⟨k, hk, e⟩)
          · exact ⟨t, List.mem_append_left _ ht, k, hk, e⟩
          · exact ⟨z, List.mem_append_right _ (List.mem_singleton.mpr rfl), k, hk, e⟩
        · rintro ⟨t9, ht, k, hk, e9⟩
          rcases List.mem_append.mp ht with ht | ht
          · exact .inl ⟨t9, ht, k, hk, e9⟩
          · have e8 : t9 = z := List.mem_singleton.mp ht
            exact .inr ⟨k, e8 ▸ hk, e8 ▸ e9⟩
    · obtain ⟨s1, l, hD, nd, mem, len⟩ := h
      rw [List.length_map] at mem len
      rw [List.take_length] at mem
      refine ⟨.ref D, rfl, D, l, rfl, hD, fun ys p pm pw np => ?_⟩
      have s2 := s1.trans (same_new (o := .lst (ys.map V.str)) np)
      refine ⟨p, ys, rfl, upd_same, fun x hx => ?_, hB.ext s2, fun H3 zs r ex tb pm2 pw2 hr => ?_⟩
      · obtain ⟨t9, ht, k, hk, e9⟩ := (mem x).mp (pm.mem_iff.mp hx)
        have := hz t9 ht
        rw [e9, takeS_len (Nat.le_of_lt hk)]
        omega
      refine ⟨r, zs.map V.str, rfl, .inl ⟨.inl (.inl hr), fun L nL => ?_⟩⟩
      have pm3 := pm2.trans pm
      exact q _ zs L (((ExtN.of s2).trans ex).trans (ExtN.of (same_new nL))) (tb.ext (same_new nL)) ⟨pm3.nodup_iff.mpr nd, fun z => pm3.mem_iff.trans (mem z), pw2⟩ upd_same
end
end K5
set_option Elab.async false
set_option linter.all false
set_option maxRecDepth 100000
set_option maxHeartbeats 2000000
namespace K5
open PySem PySem.Spec PyProof.Rows L2 Ver
theorem rowD_ints {n : Nat} {d : PyData} (h : rowD n d = true) : ∃ r : List Int, d = .tuple (r.map PyData.int) ∧ ∀ t ∈ r, 0 ≤ t ∧ t < n := by
  cases d
  case tuple ds =>
    have h' : (ds.all (belowD n) && decide (ds.length ≤ 60)) = true := h
    rw [Bool.and_eq_true] at h'
    have key : ∀ ds : List PyData, ds.all (belowD n) = true → ∃ r : List Int, ds = r.map PyData.int ∧ ∀ t ∈ r, 0 ≤ t ∧ t < n := by
      intro ds
      induction ds with
      | nil => intro _; exact ⟨[], rfl, fun t ht => by simp at ht⟩
      | cons d ds ih =>
        intro e
        rw [List.all_cons, Bool.and_eq_true] at e
        obtain ⟨r, rfl, hr⟩ := ih e.2
        cases d
        case int i =>
          have e1 : (decide (0 ≤ i) && decide (i < (n : Int))) = true := e.1
          rw [Bool.and_eq_true, decide_eq_true_eq, decide_eq_true_eq] at e1
          refine ⟨i :: r, rfl, fun t ht => ?_⟩
          rcases List.mem_cons.mp ht with rfl | ht
          · exact e1
          · exact hr t ht
        all_goals exact absurd e.1 Bool.false_ne_true
    obtain ⟨r, e, hr⟩ := key ds h'.1
    exact ⟨r, by rw [e], hr⟩
  all_goals exact absurd h Bool.false_ne_true
theorem ints_of_dp {K : PySem.W.Frag} {H : Hp} : ∀ {r : List Int} {xs : List V}, DpAll K H xs (r.map PyData.int) → xs = r.map V.int
  | [], _, h => by cases h; rfl
  | t :: r, _, h => by
    cases h with
    | cons h1 h2 =>
      cases h1
      rw [ints_of_dp h2]
      rfl
def IsRow (_ : PySem.W.Frag) (H : Hp) (v : V) (r : List Int) : Prop := ∃ p, v = .ref p ∧ H p = some (.tup (r.map V.int))
abbrev Rows (K : PySem.W.Frag) (H : Hp) (vs : List V) (rs : List (List Int)) : Prop := Paired (IsRow K H) vs rs
theorem Rows.grow {K : PySem.W.Frag} {H H' : Hp} (e : Same H H') : ∀ {vs : List V} {rs : List (List Int)}, Rows K H vs rs → Rows K H' vs rs
  | _, _, .nil => .nil
  | _, _, .cons ⟨p, h1, h2⟩ t => .cons ⟨p, h1, e _ _ h2⟩ (Rows.grow e t)
theorem Rows.getT {K : PySem.W.Frag} {H : Hp} : ∀ {vs : List V} {rs : List (List Int)} {i : Nat} {r : List Int}, Rows K H vs rs → rs[i]? = some r → ∃ p, vs[i]? = some (.ref p) ∧ H p = some (.tup (r.map V.int))
  | _, _, i, r, .nil, e => by simp at e
  | _, _, 0, r, .cons ⟨p, h1, h2⟩ t, e => by
    have e' := Option.some.inj e
    subst e' h1
    exact ⟨p, rfl, h2⟩
  | _, _, i + 1, r, .cons _ t, e => Rows.getT (i := i) t e
theorem Rows.get {K : PySem.W.Frag} {H : Hp} {vs : List V} {rs : List (List Int)} {i : Nat} {r : List Int} (h : Rows K H vs rs) (e : rs[i]? = some r) : ∃ p, vs[i]? = some (.ref p) ∧ SqT K H p (r.map V.int) := by
  obtain ⟨p, h1, h2⟩ := h.getT e
  exact ⟨p, h1, .inl (.inl h2)⟩
theorem at_map {r : List Int} {i x : Int} (h0 : 0 ≤ i) (e : r[i.toNat]? = some x) : atI (r.map V.int) i = some (.int x) := by
  have e0 : i = ((i.toNat : Nat) : Int) := by omega
  rw [e0]
  exact atI_nat (j := i.toNat) (by rw [List.getElem?_map, e]; rfl)
theorem at_ref {xs : List V} {i : Int} {p : Addr} (h0 : 0 ≤ i) (e : xs[i.toNat]? = some (.ref p)) : atI xs i = some (.ref p) := by
  have e0 : i = ((i.toNat : Nat) : Int) := by omega
  rw [e0]
  exact atI_nat (j := i.toNat) e
end K5
set_option Elab.async false
set_option linter.all false
set_option maxRecDepth 100000
set_option maxHeartbeats 2000000
namespace K5
open PySem PySem.Spec PyProof.Rows L2 Ver
theorem seqT_upd {K : PySem.W.Frag} {H : Hp} {L p : Addr} {ys xs : List V} {o : HO} (hL : H L = some (.lst ys)) (h : SqT K H p xs) : SqT K (upd H L o) p xs := by
  rcases h with (h | ⟨u, h⟩) | h
  · refine .inl (.inl ?_)
    rw [upd_ne (ne_of h hL (by intro z; cases z))]
    exact h
  · refine .inl (.inr ⟨u, ?_⟩)
    rw [upd_ne (ne_of h hL (by intro z; cases z))]
    exact h
  · exact .inr h
theorem tup_upd {H : Hp} {L p : Addr} {ys xs : List V} {o : HO} (hL : H L = some (.lst ys)) (h : H p = some (.tup xs)) : upd H L o p = some (.tup xs) := by
  rw [upd_ne (ne_of h hL (by intro z; cases z))]
  exact h
theorem Rows.upd {K : PySem.W.Frag} {H : Hp} {L : Addr} {ys : List V} {o : HO} (hL : H L = some (.lst ys)) : ∀ {vs : List V} {rs : List (List Int)}, Rows K H vs rs → Rows K (upd H L o) vs rs
  | _, _, .nil => .nil
  | _, _, .cons ⟨p, h1, h2⟩ t => .cons ⟨p, h1, tup_upd hL h2⟩ (Rows.upd hL t)
theorem Rows.app {K : PySem.W.Frag} {H : Hp} : ∀ {vs us : List V} {rs qs : List (List Int)}, Rows K H vs rs → Rows K H us qs → Rows K H (vs ++ us) (rs ++ qs)
  | _, _, _, _, .nil, h => h
  | _, _, _, _, .cons h1 t, h => .cons h1 (Rows.app t h)
theorem same_upd2 {H H1 : Hp} {L : Addr} {o : HO} (s : Same H H1) (n : H L = none) : Same H (upd H1 L o) := fun b x e => by
  rw [upd_ne (ne_of_none e n)]
  exact s b x e
def extG (m : Nat) (r : List Int) : List (List Int) := (List.range m).map fun t => r ++ [((t : Nat) : Int)]
def layG (m : Nat) : Nat → List (List Int)
  | 0 => [[]]
  | n + 1 => (layG m n).flatMap (extG m)
def rowsG (m n : Nat) : List (List Int) := (List.range (n + 1)).flatMap (layG m)
theorem rowsG_succ (m n : Nat) : rowsG m (n + 1) = rowsG m n ++ layG m (n + 1) := by
  unfold rowsG
  rw [List.range_succ, List.flatMap_append, List.flatMap_singleton]
theorem layG_len (m : Nat) : ∀ n, (layG m n).length = m ^ n
  | 0 => rfl
  | n + 1 => by
    show ((layG m n).flatMap (extG m)).length = m ^ (n + 1)
    rw [List.length_flatMap, Nat.pow_succ, ← layG_len m n]
    generalize layG m n = l
    induction l with
    | nil => simp
    | cons a l ih =>
      rw [List.map_cons, List.sum_cons, ih, List.length_cons]
      have : (extG m a).length = m := by unfold extG; rw [List.length_map, List.length_range]
      rw [this, Nat.succ_mul, Nat.add_comm]
theorem layG_mem {m : Nat} : ∀ {n : Nat} {r : List Int}, r ∈ layG m n → r.length = n ∧ ∀ t ∈ r, 0 ≤ t ∧ t < (m : Int)
  | 0, r, h => by
    rw [List.mem_singleton.mp h]
    exact ⟨rfl, fun t ht => by simp at ht⟩
  | n + 1, r, h => by
    obtain ⟨a, ha, hr⟩ := List.mem_flatMap.mp (show r ∈ (layG m n).flatMap (extG m) from h)
    obtain ⟨t, ht, rfl⟩ := List.mem_map.mp (show r ∈ (List.range m).map fun t => a ++ [((t : Nat) : Int)] from hr)
    obtain ⟨l, al⟩ := layG_mem ha
    refine ⟨by rw [List.length_append, l]; rfl, fun u hu => ?_⟩
    rcases List.mem_append.mp hu with hu | hu
    · exact al u hu
    · rw [List.mem_singleton.mp hu]
      have := List.mem_range.mp ht
      omega
theorem pow_le {m n : Nat} (hm : m ≤ 4) (hn : n ≤ 6) : m ^ n ≤ 4096 := by
  have h1 : m ^ n ≤ 4 ^ n := Nat.pow_le_pow_left hm n
  have h2 : 4 ^ n ≤ 4 ^ 6 := Nat.pow_le_pow_right (by decide) hn
  have h3 : 4 ^ 6 = 4096 := by decide
  omega
theorem rowsG_len {m : Nat} (hm : m ≤ 4) : ∀ n, n ≤ 6 → (rowsG m n).length ≤ 4096 * (n + 1)
  | 0, _ => by
    have : (rowsG m 0).length = 1 := rfl
    omega
  | n + 1, h => by
    rw [rowsG_succ, List.length_append, layG_len]
    have h1 := rowsG_len hm n (by omega)
    have h2 := pow_le hm h
    omega
section
variable {P : Program} {w : World} {K : PySem.W.Frag} {mg : Str → Option Value} {base : Heap}
def sp__law_rows (K : PySem.W.Frag) : Sp := fun vs H Q _ => ∃ m n : Nat, vs = [.int m, .int n] ∧ m ≤ 4 ∧ n ≤ 6 ∧ ∀ p us H', Same H H' → H p = none → H' p = some (.lst us) → Rows K H' us (rowsG m n) → Q (.ref p) H'
theorem ok__law_rows (T : Tx K mg) : FnOk P w K mg base CX0 1 T.f__law_rows T.d__law_rows ["m", "most"] (sp__law_rows K) := by
  refine T.F__law_rows.ok sc__law_rows (fun vs H Q E h => ?_) (fun cdv A outer s H vs Q E hr h => ?_)
  · obtain ⟨m, n, rfl, _⟩ := h; rfl
  · obtain ⟨m, n, rfl, hm, hn, q⟩ := h
    refine ⟨_, (pss_cons (ps_set (i := 2) sc__law_rows.nd rfl (Or.inl rfl) (pe_lst (pa_cons (pe_tup pa_nil) pa_nil)))
    (pss_cons (ps_set (i := 3) sc__law_rows.nd rfl (Or.inl rfl) (pe_lst (pa_cons (pe_tup pa_nil) pa_nil)))
    (pss_cons (ps_for PassesOwn.never rfl (pi_range1 rfl T.n_range (pa_cons (pv 1) pa_nil)) (pg_name (i := 4) sc__law_rows.nd rfl (Or.inl rfl))
    (pss_cons (ps_set (i := 5) sc__law_rows.nd rfl (Or.inl rfl) (pe_lst pa_nil))
    (pss_cons (ps_for PassesOwn.never rfl (pi_list (pv 3)) (pg_name (i := 6) sc__law_rows.nd rfl (Or.inl rfl))
    (pss_one (ps_for PassesOwn.never rfl (pi_range1 rfl T.n_range (pa_cons (pv 0) pa_nil)) (pg_name (i := 7) sc__law_rows.nd rfl (Or.inl rfl))
    (pss_one (ps_expr (pe_bm PySem.F.plainAttrs_list PySem.F.slot_list_append PySem.F.type_list_append mt_append (pv 5) (pa_cons (pe_op op_catA (pv 6) (pe_tup (pa_cons (pv 7) pa_nil))) pa_nil)))))))
    (pss_cons (ps_expr (pe_bm PySem.F.plainAttrs_list PySem.F.slot_list_extend PySem.F.type_list_extend mt_extend (pv 2) (pa_cons (pv 5) pa_nil)))
    (pss_one (ps_set (i := 3) sc__law_rows.nd rfl (Or.inl rfl) (pv 5)))))))
    (pss_one (ps_ret (pv 2)))))), ?_⟩
    refine ⟨Nat.zero_le _, fun e1 ne1 => ⟨small' (by simp), fun R nR => ?_⟩⟩
    refine ⟨Nat.zero_le _, fun e2 ne2 => ⟨small' (by simp), fun L nL => ?_⟩⟩
    have a1 : Same H (upd H e1 (.tup [])) := same_new ne1
    have nRH : H R = none := a1.free nR
    have a2 := same_new (o := .lst [.ref e1]) nR
    have a3 := same_new (o := .tup []) ne2
    have nLH : H L = none := ((a1.trans a2).trans a3).free nL
    have a4 := same_new (o := .lst [.ref e2]) nL
    have RL : R ≠ L := ne_of_none (a3 R _ upd_same) nL
    refine ⟨.int n, rfl, n, rfl, by omega, by omega, ?_⟩
    refine for_range0 (n := ((n : Nat) : Int).toNat) (fun i σ H' => ∃ (L : Addr) (vr vl : List V) (y4 y5 y6 y7 : Option V), σ = [some (.int m), some (.int n), some (.ref R), some (.ref L), y4, y5, y6, y7] ∧ Same H H' ∧ H L = none ∧ R ≠ L ∧ H' R = some (.lst vr) ∧ H' L = some (.lst vl) ∧ Rows K H' vr (rowsG m i) ∧ Rows K H' vl (layG m i))
      ⟨L, [.ref e1], [.ref e2], none, none, none, none, rfl, ((a1.trans a2).trans a3).trans a4, nLH, RL, a4 _ _ (a3 _ _ upd_same), upd_same, ?_, ?_⟩ (fun i σ H' lt h => ?_) (fun σ H' h => ?_)
    · exact .cons ⟨e1, rfl, a4 _ _ (a3 _ _ (a2 _ _ upd_same))⟩ .nil
    · exact .cons ⟨e2, rfl, a4 _ _ upd_same⟩ .nil
    · obtain ⟨L, vr, vl, y4, y5, y6, y7, rfl, sm, nLH, RL, hR, hL, gR, gL⟩ := h
      have ltn : i < n := by omega
      refine ⟨Nat.zero_le _, fun G nG => ?_⟩
      have nGH : H G = none := sm.free nG
      have RG : R ≠ G := ne_of_none hR nG
      have LG : L ≠ G := ne_of_none hL nG
      have b1 := same_new (o := .lst []) nG
      refine ⟨.ref L, rfl, L, rfl, ⟨_, .inl (.inl (b1 _ _ hL))⟩, ?_⟩
      refine for_list (K := K) (a := L) (xs := vl) (fun j σ H2 => ∃ (vg : List V) (y6 y7 : Option V), σ = [some (.int m), some (.int n), some (.ref R), some (.ref L), some (.int (i : Int)), some (.ref G), y6, y7] ∧ Same H H2 ∧ H2 R = some (.lst vr) ∧ H2 L = some (.lst vl) ∧ H2 G = some (.lst vg) ∧ Rows K H2 vr (rowsG m i) ∧ Rows K H2 vl (layG m i) ∧ Rows K H2 vg (((layG m i).take j).flatMap (extG m)))
        ⟨[], y6, y7, rfl, sm.trans b1, b1 _ _ hR, b1 _ _ hL, upd_same, gR.grow b1, gL.grow b1, .nil⟩ (fun j σ H2 _ h => ?_) (fun j x σ H2 ex h => ?_) (fun σ H2 h => ?_)
      · obtain ⟨_, _, _, _, _, _, hL2, _⟩ := h
        exact .inl (.inl hL2)
      · obtain ⟨vg, y6, y7, rfl, sm2, hR2, hL2, hG2, gR2, gL2, gG2⟩ := h
        have ltj : j < vl.length := (List.getElem?_eq_some_iff.mp ex).1
        have el : vl.length = m ^ i := (Paired.length gL).trans (layG_len m i)
        obtain ⟨r, er⟩ : ∃ r, (layG m i)[j]? = some r := ⟨_, List.getElem?_eq_getElem (by rw [← Paired.length gL]; exact ltj)⟩
        obtain ⟨pr, epr, hpr⟩ := gL2.get er
        have ex2 : x = .ref pr := Option.some.inj (ex.symm.trans epr)
        subst ex2
        have lg : vg.length ≤ 4096 * 4 := by
          have h1 := Paired.length gG2
          have h2 : (((layG m i).take j).flatMap (extG m)).length = ((layG m i).take j).length * m := by
            rw [List.length_flatMap]
            generalize (layG m i).take j = l
            induction l with
            | nil => simp
            | cons a l ih =>
              have : (extG m a).length = m := by unfold extG; rw [List.length_map, List.length_range]
              rw [List.map_cons, List.sum_cons, ih, List.length_cons, this, Nat.succ_mul, Nat.add_comm]
          have h3 : ((layG m i).take j).length ≤ 4096 := by
            rw [List.length_take, layG_len]
            have := pow_le hm (show i ≤ 6 by omega)
            omega
          have h4 : ((layG m i).take j).length * m ≤ 4096 * 4 := Nat.mul_le_mul h3 hm
          omega
        refine ⟨.int m, rfl, m, rfl, by omega, by omega, ?_⟩
        refine for_range0 (n := ((m : Nat) : Int).toNat) (fun t σ H3 => ∃ (vt : List V) (y7 : Option V), σ = [some (.int m), some (.int n), some (.ref R), some (.ref L), some (.int (i : Int)), some (.ref G), some (.ref pr), y7] ∧ Same H H3 ∧ H3 R = some (.lst vr) ∧ H3 L = some (.lst vl) ∧ H3 G = some (.lst vt) ∧ Rows K H3 vr (rowsG m i) ∧ Rows K H3 vl (layG m i) ∧ SqT K H3 pr (r.map V.int) ∧
            Rows K H3 vt (((layG m i).take j).flatMap (extG m) ++ (List.range t).map fun k => r ++ [((k : Nat) : Int)]) ∧ vt.length = vg.length + t)
          ⟨vg, y7, rfl, sm2, hR2, hL2, hG2, gR2, gL2, hpr, by rw [List.range_zero, List.map_nil, List.append_nil]; exact gG2, rfl⟩ (fun t σ H3 lt3 h => ?_) (fun σ H3 h => ?_)
        · obtain ⟨vt, y7, rfl, sm3, hR3, hL3, hG3, gR3, gL3, hp3, gt3, lt4⟩ := h
          refine ⟨.ref G, rfl, .inl ⟨rfl, _, .inl (.inl hG3)⟩, .ref pr, rfl, .int (t : Int), rfl, small' (by simp), fun c nc => ?_⟩
          have c1 := same_new (o := .tup [.int (t : Int)]) nc
          have fin : ∀ z H4, Same H3 H4 → H4 z = some (.tup ((r ++ [((t : Nat) : Int)]).map V.int)) → ∃ (vt' : List V) (y7 : Option V), ([some (.int m), some (.int n), some (.ref R), some (.ref L), some (.int (i : Int)), some (.ref G), some (.ref pr), some (.int (t : Int))] : L2.St) = [some (.int m), some (.int n), some (.ref R), some (.ref L), some (.int (i : Int)), some (.ref G), some (.ref pr), y7] ∧
              Same H (upd H4 G (.lst (vt ++ [.ref z]))) ∧ (upd H4 G (.lst (vt ++ [.ref z]))) R = some (.lst vr) ∧ (upd H4 G (.lst (vt ++ [.ref z]))) L = some (.lst vl) ∧ (upd H4 G (.lst (vt ++ [.ref z]))) G = some (.lst vt') ∧ Rows K (upd H4 G (.lst (vt ++ [.ref z]))) vr (rowsG m i) ∧ Rows K (upd H4 G (.lst (vt ++ [.ref z]))) vl (layG m i) ∧
              SqT K (upd H4 G (.lst (vt ++ [.ref z]))) pr (r.map V.int) ∧ Rows K (upd H4 G (.lst (vt ++ [.ref z]))) vt' (((layG m i).take j).flatMap (extG m) ++ (List.range (t + 1)).map fun k => r ++ [((k : Nat) : Int)]) ∧ vt'.length = vg.length + (t + 1) := fun z H4 s4 hz => by
            have hG4 := s4 _ _ hG3
            refine ⟨vt ++ [.ref z], some (.int (t : Int)), rfl, same_upd2 (sm3.trans s4) nGH, ?_, ?_, upd_same, (gR3.grow s4).upd hG4, (gL3.grow s4).upd hG4, seqT_upd hG4 (seqT_grow s4 hp3), ?_, ?_⟩
            · rw [upd_ne RG]; exact s4 _ _ hR3
            · rw [upd_ne LG]; exact s4 _ _ hL3
            · rw [List.range_succ, List.map_append, List.map_singleton, ← List.append_assoc]
              exact ((gt3.grow s4).upd hG4).app (.cons ⟨z, rfl, tup_upd hG4 hz⟩ .nil)
            · rw [List.length_append, lt4]; rfl
          have szt : vt.length < sizeLine := small (by omega)
          refine ⟨pr, c, r.map V.int, [.int (t : Int)], rfl, rfl, seqT_grow c1 hp3, .inl (.inl upd_same), ?_, fun er => ?_, fun _ z => ?_, fun nr _ d nd => ?_⟩
          · have := (layG_mem (List.mem_of_getElem? er)).1
            rw [List.length_map, this]
            exact small' (by show i + 1 ≤ 100000; omega)
          · have hGc := c1 _ _ hG3
            refine ⟨G, vt, .ref c, rfl, rfl, hGc, szt, ?_⟩
            refine fin c _ c1 ?_
            rw [List.map_append, er]
            exact upd_same
          · cases z
          · have d1 := same_new (o := .tup (r.map V.int ++ [.int (t : Int)])) nd
            have hGd := d1 _ _ (c1 _ _ hG3)
            refine ⟨G, vt, .ref d, rfl, rfl, hGd, szt, ?_⟩
            refine fin d _ (c1.trans d1) ?_
            rw [List.map_append]
            exact upd_same
        · obtain ⟨vt, y7, rfl, sm3, hR3, hL3, hG3, gR3, gL3, hp3, gt3, lt4⟩ := h
          refine ⟨vt, some (.ref pr), y7, rfl, sm3, hR3, hL3, hG3, gR3, gL3, ?_⟩
          have e5 : ((layG m i).take (j + 1)).flatMap (extG m) = ((layG m i).take j).flatMap (extG m) ++ (List.range ((m : Nat) : Int).toNat).map fun k => r ++ [((k : Nat) : Int)] := by
            rw [List.take_add_one, er, List.flatMap_append, Int.toNat_natCast]
            show _ = _ ++ extG m r
            simp
          rw [e5]
          exact gt3
      · obtain ⟨vg, y6, y7, rfl, sm2, hR2, hL2, hG2, gR2, gL2, gG2⟩ := h
        have el : vl.length = (layG m i).length := Paired.length gL
        rw [el, List.take_length] at gG2
        have gG3 : Rows K H2 vg (layG m (i + 1)) := gG2
        refine ⟨.ref R, rfl, .inl ⟨rfl, _, .inl (.inl hR2)⟩, .ref G, rfl, R, G, vr, vg, rfl, rfl, hR2, hG2, ?_, ?_⟩
        · have h1 := Paired.length gR
          have h2 := rowsG_len hm i (by omega)
          have h3 := Paired.length gG3
          rw [layG_len] at h3
          have h4 := pow_le hm (show i + 1 ≤ 6 by omega)
          refine small' ?_
          omega
        · refine ⟨.ref G, rfl, ?_⟩
          refine ⟨G, vr ++ vg, vg, some (.int (i : Int)), some (.ref G), y6, y7, rfl, same_upd2 sm2 nRH, nGH, RG, upd_same, ?_, ?_, gG3.upd hR2⟩
          · rw [upd_ne RG.symm]; exact hG2
          · rw [rowsG_succ]
            exact (gR2.upd hR2).app (gG3.upd hR2)
    · obtain ⟨L, vr, vl, y4, y5, y6, y7, rfl, sm, nLH, RL, hR, hL, gR, gL⟩ := h
      rw [Int.toNat_natCast] at gR
      exact ⟨.ref R, rfl, q R vr H' sm nRH hR gR⟩
end
end K5
set_option Elab.async false
set_option linter.all false
set_option maxRecDepth 100000
set_option maxHeartbeats 2000000
namespace K5
open PySem PySem.Spec PyProof.Rows L2 Ver
structure Bk where
  count : Int
  fin : List Int
  tab : List (List Int)
def BkAt (K : PySem.W.Frag) (H : Hp) (a : Addr) (B : Bk) : Prop := ∃ f t tv, SqT K H a [.int B.count, .ref f, .ref t] ∧ SqT K H f (B.fin.map V.int) ∧ SqT K H t tv ∧ Rows K H tv B.tab
theorem BkAt.grow {K : PySem.W.Frag} {H H' : Hp} {a : Addr} {B : Bk} (e : Same H H') (h : BkAt K H a B) : BkAt K H' a B := by
  obtain ⟨f, t, tv, h1, h2, h3, h4⟩ := h
  exact ⟨f, t, tv, seqT_grow e h1, seqT_grow e h2, seqT_grow e h3, h4.grow e⟩
structure Bk.Ok (B : Bk) (m : Nat) : Prop where
  any1 : 1 ≤ B.tab.length
  row : ∀ r ∈ B.tab, r.length = m ∧ ∀ x ∈ r, -1 ≤ x ∧ x < B.tab.length
def rowAt (tab : List (List Int)) (s : Int) : List Int := (tab[s.toNat]?).getD []
def cellG (tab : List (List Int)) (s t : Int) : Int := ((rowAt tab s)[t.toNat]?).getD 0
def runG (tab : List (List Int)) : Int → List Int → Int
  | s, [] => s
  | s, t :: r => if cellG tab s t < 0 then -1 else runG tab (cellG tab s t) r
theorem Bk.Ok.cell {B : Bk} {m : Nat} (o : B.Ok m) {s t : Int} (h0 : 0 ≤ s) (h1 : s < B.tab.length) (t0 : 0 ≤ t) (t1 : t < m) :
    B.tab[s.toNat]? = some (rowAt B.tab s) ∧ (rowAt B.tab s)[t.toNat]? = some (cellG B.tab s t) ∧ -1 ≤ cellG B.tab s t ∧ cellG B.tab s t < B.tab.length := by
  have lt : s.toNat < B.tab.length := by omega
  have e1 : B.tab[s.toNat]? = some B.tab[s.toNat] := List.getElem?_eq_getElem lt
  have er : rowAt B.tab s = B.tab[s.toNat] := by unfold rowAt; rw [e1]; rfl
  obtain ⟨lr, br⟩ := o.row _ (List.getElem_mem lt)
  rw [← er] at lr br
  have lt2 : t.toNat < (rowAt B.tab s).length := by omega
  have e2 : (rowAt B.tab s)[t.toNat]? = some (rowAt B.tab s)[t.toNat] := List.getElem?_eq_getElem lt2
  have ec : cellG B.tab s t = (rowAt B.tab s)[t.toNat] := by unfold cellG; rw [e2]; rfl
  obtain ⟨b1, b2⟩ := br _ (List.getElem_mem lt2)
  rw [← ec] at b1 b2
  exact ⟨by rw [er]; exact e1, by rw [ec]; exact e2, b1, b2⟩
theorem runG_step {tab : List (List Int)} {r : List Int} {i : Nat} {s t : Int} (e : r[i]? = some t) : runG tab s (r.drop i) = if cellG tab s t < 0 then -1 else runG tab (cellG tab s t) (r.drop (i + 1)) := by
  obtain ⟨lt, e'⟩ := List.getElem?_eq_some_iff.mp e
  rw [List.drop_eq_getElem_cons lt, e']
  rfl
section
variable {P : Program} {w : World} {K : PySem.W.Frag} {mg : Str → Option Value} {base : Heap}
def sp_state_after (K : PySem.W.Frag) : Sp := fun vs H Q _ => ∃ a B m p r, vs = [.ref a, .ref p] ∧ BkAt K H a B ∧ B.Ok m ∧ SqT K H p (r.map V.int) ∧ (∀ t : Int, t ∈ r → 0 ≤ t ∧ t < (m : Int)) ∧ Q (.int (runG B.tab 0 r)) H
theorem ok_state_after (T : Tx K mg) : FnOk P w K mg base CX0 1 T.f_state_after T.d_state_after ["book", "row"] (sp_state_after K) := by
  refine T.F_state_after.ok sc_state_after (fun vs H Q E h => ?_) (fun cdv A outer s H vs Q E hr h => ?_)
  · obtain ⟨a, B, m, p, r, rfl, _⟩ := h; rfl
  · obtain ⟨a, B, m, p, r, rfl, hB, hok, hp, hr2, q⟩ := h
    refine ⟨_, (pss_cons (ps_set (i := 2) sc_state_after.nd rfl (Or.inl rfl) (pe_ix ix_tup (pv 0) pe_int (fun _ _ => rfl)))
    (pss_cons (ps_set (i := 3) sc_state_after.nd rfl (Or.inl rfl) pe_int)
    (pss_cons (ps_for PassesOwn.never rfl (pi_tup (pv 1)) (pg_name (i := 4) sc_state_after.nd rfl (Or.inl rfl))
    (pss_cons (ps_set (i := 3) sc_state_after.nd rfl (Or.inl rfl) (pe_ix ix_tup (pe_ix ix_tup (pv 2) (pv 3) (fun _ _ => rfl)) (pv 4) (fun _ _ => rfl)))
    (pss_one (ps_if (pt_cmpR op_lt (pv 3) pe_int (nomark _)) (pss_one (ps_ret (pe_un un_neg pe_int))) pss_nil))))
    (pss_one (ps_ret (pv 3)))))), ?_⟩
    obtain ⟨f, tb, tv, s1, s2, s3, g1⟩ := hB
    refine ⟨.ref a, rfl, a, _, 2, .ref tb, rfl, rfl, s1, rfl, ?_⟩
    refine ⟨.ref p, rfl, p, rfl, ⟨_, hp⟩, ?_⟩
    refine for_tup (K := K) (a := p) (xs := r.map V.int) (fun i σ H' => H' = H ∧ ∃ s y, σ = [some (.ref a), some (.ref p), some (.ref tb), some (.int s), y] ∧ 0 ≤ s ∧ s < B.tab.length ∧ runG B.tab s (r.drop i) = runG B.tab 0 r) ⟨rfl, 0, none, rfl, by omega, by have := hok.any1; omega, rfl⟩ (fun i σ H' _ h => by rw [h.1]; exact hp) (fun i x σ H' ex h => ?_) (fun σ H' h => ?_)
    · obtain ⟨rfl, s, y, rfl, k0, k1, e⟩ := h
      rw [List.getElem?_map] at ex
      cases et : r[i]? with
      | none => rw [et] at ex; cases ex
      | some t =>
        rw [et] at ex
        have ex' : V.int t = x := Option.some.inj ex
        subst ex'
        obtain ⟨t0, t1⟩ := hr2 t (List.mem_of_getElem? et)
        obtain ⟨e1, e2, c0, c1⟩ := hok.cell k0 k1 t0 t1
        obtain ⟨pn, epn, hpn⟩ := g1.get e1
        refine ⟨.ref tb, rfl, .int s, rfl, tb, tv, s, _, rfl, rfl, s3, at_ref k0 epn, .int t, rfl, pn, _, t, _, rfl, rfl, hpn, at_map t0 e2, ?_⟩
        refine ⟨.int (cellG B.tab s t), rfl, _, _, rfl, rfl, _, rfl, ite2 (fun z => ?_) (fun z => ?_)⟩
        · have z1 := of_decide_eq_true z
          rw [runG_step et, if_pos z1] at e
          refine ⟨1, rfl, ?_⟩
          rw [← e] at q
          exact q
        · have z1 : ¬ cellG B.tab s t < 0 := fun z2 => z (decide_eq_true z2)
          rw [runG_step et, if_neg z1] at e
          exact ⟨rfl, _, some (.int t), rfl, by omega, c1, e⟩
    · obtain ⟨rfl, s, y, rfl, k0, k1, e⟩ := h
      rw [List.length_map, List.drop_length] at e
      have e' : s = runG B.tab 0 r := e
      refine ⟨.int s, rfl, ?_⟩
      rw [e']
      exact q

def finG (B : Bk) (s : Int) : Bool := inV (.int s) (B.fin.map V.int)
theorem flat_ints : ∀ r : List Int, (r.map V.int).all flatV = true
  | [] => rfl
  | _ :: r => flat_ints r
theorem rep_one {α : Type} (n : Nat) (x : α) : (List.replicate n [x]).flatten = List.replicate n x := by
  induction n with
  | zero => rfl
  | succ n ih => rw [List.replicate_succ, List.flatten_cons, ih, List.replicate_succ]; rfl
theorem dp_rep {K : PySem.W.Frag} {H : Hp} (n : Nat) (i : Int) : DpAll K H (List.replicate n (.int i)) (List.replicate n (.int i)) := by
  induction n with
  | zero => exact .nil
  | succ n ih => rw [List.replicate_succ, List.replicate_succ]; exact .cons (.int i) ih
end
end K5
set_option Elab.async false
set_option linter.all false
set_option maxRecDepth 100000
set_option maxHeartbeats 4000000
namespace Ver
open PySem PySem.W
section
variable {β : Type}
theorem le_total (enc : β → PyData) (a b : β) : (dataLe false enc a b || dataLe false enc b a) = true := by
  show (!dataLt (enc b) (enc a) || !dataLt (enc a) (enc b)) = true
  cases h1 : dataLt (enc b) (enc a) with
  | false => rfl
  | true =>
    cases h2 : dataLt (enc a) (enc b) with
    | false => rfl
    | true =>
      have h3 := PyProof.Rows.lex_trans (O := PyProof.Rows.itemOrd) _ _ _ h1 h2
      rw [PyProof.Rows.lex_irrefl] at h3
      cases h3
theorem le_trans (enc : β → PyData) (a b c : β) (h1 : dataLe false enc a b = true) (h2 : dataLe false enc b c = true) : dataLe false enc a c = true := by
  have e1 : dataLt (enc b) (enc a) = false := by
    have : (!dataLt (enc b) (enc a)) = true := h1
    simpa using this
  have e2 : dataLt (enc c) (enc b) = false := by
    have : (!dataLt (enc c) (enc b)) = true := h2
    simpa using this
  show (!dataLt (enc c) (enc a)) = true
  cases h3 : dataLt (enc c) (enc a) with
  | false => rfl
  | true =>
    rcases PyProof.Rows.lex_negTrans (O := PyProof.Rows.itemOrd) (keyToks (enc c)) (keyToks (enc b)) (keyToks (enc a)) h3 with h | h
    · have : dataLt (enc c) (enc b) = true := h
      rw [e2] at this
      cases this
    · have : dataLt (enc b) (enc a) = true := h
      rw [e1] at this
      cases this
theorem le_anti {enc : β → PyData} (inj : ∀ a b, keyToks (enc a) = keyToks (enc b) → a = b) (a b : β) (h1 : dataLe false enc a b = true) (h2 : dataLe false enc b a = true) : a = b := by
  have e1 : dataLt (enc b) (enc a) = false := by
    have : (!dataLt (enc b) (enc a)) = true := h1
    simpa using this
  have e2 : dataLt (enc a) (enc b) = false := by
    have : (!dataLt (enc a) (enc b)) = true := h2
    simpa using this
  exact inj a b (PyProof.Rows.lex_total (O := PyProof.Rows.itemOrd) _ _ e2 e1)
theorem srt_perm {enc : β → PyData} (inj : ∀ a b, keyToks (enc a) = keyToks (enc b) → a = b) {l m : List β} (p : l.Perm m) : l.mergeSort (dataLe false enc) = m.mergeSort (dataLe false enc) :=
  Srt.the_of_perm _ (le_trans enc) (le_total enc) (le_anti inj) ((List.mergeSort_perm l _).trans p) (List.pairwise_mergeSort (le_trans enc) (le_total enc) l)
theorem srt_done {enc : β → PyData} {l : List β} (h : l.Pairwise fun a b => dataLe false enc a b = true) : l.mergeSort (dataLe false enc) = l :=
  (Srt.the _ (le_trans enc) (le_total enc) h fun _ => rfl).symm
theorem srt_pw (enc : β → PyData) (l : List β) : (l.mergeSort (dataLe false enc)).Pairwise fun a b => dataLe false enc a b = true := List.pairwise_mergeSort (le_trans enc) (le_total enc) l
end
end Ver
set_option Elab.async false
set_option linter.all false
set_option maxRecDepth 100000
set_option maxHeartbeats 2000000
namespace K5
open PySem PySem.Spec PyProof.Rows L2 Ver
structure Pl where
  i : Nat
  b : Int
  u : Str
deriving DecidableEq
structure Ar where
  l : Str
  to : Pl
  t : Int
deriving DecidableEq
def oneS (c : Nat) : Str := ⟨#[c]⟩
structure Ta where
  ts : List Str
  count : Nat
  fin : List Int
  tab : List (List Int)
  g : Str
  hl : Bool
def Ta.ahead (T : Ta) (p : Pl) : Prop := T.hl = false ∧ p.i < T.g.length
inductive IsArc (T : Ta) (p : Pl) : Ar → Prop
  | ahead {c : Nat} : T.hl = false → T.g.cps.toList[p.i]? = some c → IsArc T p ⟨oneS c, ⟨p.i + 1, 0, ""⟩, -1⟩
  | inner {c : Nat} : ¬ T.ahead p → (∀ d, T.g.cps.toList[p.i]? = some d → d = c) → IsInner T.ts (p.u ++ oneS c) → IsArc T p ⟨oneS c, ⟨min T.g.length (p.i + 1), p.b, p.u ++ oneS c⟩, -1⟩
  | ends {c t : Nat} : ¬ T.ahead p → (∀ d, T.g.cps.toList[p.i]? = some d → d = c) → T.ts[t]? = some (p.u ++ oneS c) → 0 ≤ cellG T.tab p.b (t : Int) → IsArc T p ⟨oneS c, ⟨min T.g.length (p.i + 1), cellG T.tab p.b (t : Int), ""⟩, (t : Int)⟩
inductive Reach (T : Ta) : Pl → Prop
  | start : Reach T ⟨0, 0, ""⟩
  | step {p : Pl} {a : Ar} : Reach T p → IsArc T p a → Reach T a.to
structure Ta.Ok (T : Ta) : Prop where
  cnt : 1 ≤ T.count
  tl : T.tab.length = T.count
  row : ∀ r ∈ T.tab, r.length = T.ts.length ∧ ∀ x ∈ r, -1 ≤ x ∧ x < T.count
  one : 1 ≤ T.ts.length
  few : T.ts.length ≤ 5
  len : ∀ z ∈ T.ts, 1 ≤ z.length ∧ z.length ≤ 12
  nd : T.ts.Nodup
  gl : T.g.length ≤ 200
theorem glen (z : Str) : z.cps.toList.length = z.length := by rw [Array.length_toList]; rfl
theorem inner_nil {T : Ta} (ok : T.Ok) : IsInner T.ts "" := by
  have l0 : 0 < T.ts.length := ok.one
  obtain ⟨z, h0⟩ : ∃ z, T.ts[0]? = some z := ⟨_, List.getElem?_eq_getElem l0⟩
  refine ⟨z, List.mem_of_getElem? h0, 0, ?_, rfl⟩
  have := ok.len _ (List.mem_of_getElem? h0)
  omega
def Ta.In (T : Ta) (p : Pl) : Prop := p.i ≤ T.g.length ∧ 0 ≤ p.b ∧ p.b < T.count ∧ IsInner T.ts p.u
theorem cell_le {T : Ta} (ok : T.Ok) {b : Int} {t : Nat} (h0 : 0 ≤ b) (h1 : b < T.count) (ht : t < T.ts.length) : -1 ≤ cellG T.tab b (t : Int) ∧ cellG T.tab b (t : Int) < T.count := by
  have lt : b.toNat < T.tab.length := by have := ok.tl; omega
  have e1 : T.tab[b.toNat]? = some T.tab[b.toNat] := List.getElem?_eq_getElem lt
  have er : rowAt T.tab b = T.tab[b.toNat] := by unfold rowAt; rw [e1]; rfl
  obtain ⟨lr, br⟩ := ok.row _ (List.getElem_mem lt)
  rw [← er] at lr br
  have lt2 : ((t : Nat) : Int).toNat < (rowAt T.tab b).length := by rw [Int.toNat_natCast]; omega
  have e2 : (rowAt T.tab b)[((t : Nat) : Int).toNat]? = some (rowAt T.tab b)[((t : Nat) : Int).toNat] := List.getElem?_eq_getElem lt2
  have ec : cellG T.tab b (t : Int) = (rowAt T.tab b)[((t : Nat) : Int).toNat] := by unfold cellG; rw [e2]; rfl
  have := br _ (List.getElem_mem lt2)
  rw [← ec] at this
  exact this
theorem arc_in {T : Ta} (ok : T.Ok) {p : Pl} {a : Ar} (h : T.In p) (r : IsArc T p a) : T.In a.to := by
  obtain ⟨h1, h2, h3, h4⟩ := h
  cases r with
  | ahead e1 e2 =>
    have lt := (List.getElem?_eq_some_iff.mp e2).1
    rw [glen] at lt
    exact ⟨(by show p.i + 1 ≤ _; omega), Int.le_refl 0, (by show (0 : Int) < _; have := ok.cnt; omega), inner_nil ok⟩
  | inner e1 e2 e3 => exact ⟨Nat.min_le_left _ _, h2, h3, e3⟩
  | ends e1 e2 e3 e4 =>
    have lt := (List.getElem?_eq_some_iff.mp e3).1
    exact ⟨Nat.min_le_left _ _, e4, (cell_le ok h2 h3 lt).2, inner_nil ok⟩
theorem reach_in {T : Ta} (ok : T.Ok) {p : Pl} (h : Reach T p) : T.In p := by
  induction h with
  | start => exact ⟨Nat.zero_le _, Int.le_refl 0, (by show (0 : Int) < _; have := ok.cnt; omega), inner_nil ok⟩
  | step _ ha ih => exact arc_in ok ih ha
def uniP (T : Ta) (R : List Str) : List Pl := (List.range (T.g.length + 1)).flatMap fun i => (List.range T.count).flatMap fun (b : Nat) => R.map fun u => ⟨i, ((b : Nat) : Int), u⟩
theorem sum_const {α : Type} (k : Nat) : ∀ l : List α, (l.map fun _ => k).sum = l.length * k
  | [] => by simp
  | _ :: l => by
    rw [List.map_cons, List.sum_cons, sum_const k l, List.length_cons, Nat.succ_mul, Nat.add_comm]
theorem uni_len (T : Ta) (R : List Str) : (uniP T R).length = (T.g.length + 1) * (T.count * R.length) := by
  unfold uniP
  rw [List.length_flatMap]
  have e : ∀ i : Nat, ((List.range T.count).flatMap fun (b : Nat) => R.map fun u => (⟨i, ((b : Nat) : Int), u⟩ : Pl)).length = T.count * R.length := fun i => by
    rw [List.length_flatMap]
    have e2 : (List.map (fun (b : Nat) => (R.map fun u => (⟨i, ((b : Nat) : Int), u⟩ : Pl)).length) (List.range T.count)) = List.map (fun _ => R.length) (List.range T.count) := List.map_congr_left fun b _ => List.length_map ..
    rw [e2, sum_const, List.length_range]
  have e3 : (List.map (fun i => ((List.range T.count).flatMap fun (b : Nat) => R.map fun u => (⟨i, ((b : Nat) : Int), u⟩ : Pl)).length) (List.range (T.g.length + 1))) = List.map (fun _ => T.count * R.length) (List.range (T.g.length + 1)) := List.map_congr_left fun i _ => e i
  rw [e3, sum_const, List.length_range]
theorem uni_mem {T : Ta} {R : List Str} (hR : ∀ z, z ∈ R ↔ IsInner T.ts z) {p : Pl} (h : T.In p) : p ∈ uniP T R := by
  obtain ⟨h1, h2, h3, h4⟩ := h
  refine List.mem_flatMap.mpr ⟨p.i, List.mem_range.mpr (by omega), List.mem_flatMap.mpr ⟨p.b.toNat, List.mem_range.mpr ((Int.toNat_lt h2).mpr h3), List.mem_map.mpr ⟨p.u, (hR _).mpr h4, ?_⟩⟩⟩
  cases p
  simp only [Pl.mk.injEq, true_and, and_true]
  show ((Int.toNat _ : Nat) : Int) = _
  exact Int.toNat_of_nonneg h2
def begL (ts : List Str) : List Str := ts.flatMap fun z => (List.range z.length).map (takeS z)
theorem begL_mem {ts : List Str} {z : Str} : z ∈ begL ts ↔ IsInner ts z := by
  unfold begL IsInner
  simp only [List.mem_flatMap, List.mem_map, List.mem_range]
  constructor
  · rintro ⟨t, ht, k, hk, rfl⟩; exact ⟨t, ht, k, hk, rfl⟩
  · rintro ⟨t, ht, k, hk, rfl⟩; exact ⟨t, ht, k, hk, rfl⟩
theorem begL_len {ts : List Str} (h : ∀ z ∈ ts, z.length ≤ 12) : (begL ts).length ≤ 12 * ts.length := by
  unfold begL
  induction ts with
  | nil => simp
  | cons z ts ih =>
    rw [List.flatMap_cons, List.length_append, List.length_map, List.length_range, List.length_cons]
    have := ih fun y hy => h y (List.mem_cons_of_mem _ hy)
    have := h z List.mem_cons_self
    omega
def Ta.most (T : Ta) : Nat := (T.g.length + 1) * (T.count * (begL T.ts).length)
theorem few_places {T : Ta} {L : List Pl} (nd : L.Nodup) (h : ∀ p ∈ L, T.In p) : L.length ≤ T.most := by
  have := nd.length_le_of_subset (l₂ := uniP T (begL T.ts)) fun p hp => uni_mem (fun z => begL_mem) (h p hp)
  rw [uni_len] at this
  exact this
def plD (p : Pl) : PyData := .tuple [.int p.i, .int p.b, .str p.u]
def plK (p : Pl) : PyData := .tuple [.int p.i, .int p.u.length, .str p.u, .int p.b]
def lePl : Pl → Pl → Bool := PySem.W.dataLe false plK
structure A4 where
  k : Nat
  l : Str
  j : Nat
  t : Int
deriving DecidableEq
def a4D (a : A4) : PyData := .tuple [.int a.k, .str a.l, .int a.j, .int a.t]
def leA4 : A4 → A4 → Bool := PySem.W.dataLe false a4D
theorem plK_inj (p q : Pl) (h : PySem.W.keyToks (plK p) = PySem.W.keyToks (plK q)) : p = q := by
  obtain ⟨i, b, u⟩ := p
  obtain ⟨i', b', u'⟩ := q
  simp only [plK, PySem.W.keyToks, PySem.W.keyToksAll, List.cons_append, List.nil_append, List.cons.injEq, Sum.inl.injEq, Sum.inr.injEq, true_and, and_true] at h
  obtain ⟨h1, h2, h3, h4⟩ := h
  have e1 : i = i' := by omega
  have e3 : u = u' := Ver.str_of_list h3
  subst e1 e3 h4
  rfl
theorem a4_inj (p q : A4) (h : PySem.W.keyToks (a4D p) = PySem.W.keyToks (a4D q)) : p = q := by
  obtain ⟨i, b, u, t⟩ := p
  obtain ⟨i', b', u', t'⟩ := q
  simp only [a4D, PySem.W.keyToks, PySem.W.keyToksAll, List.cons_append, List.nil_append, List.cons.injEq, Sum.inl.injEq, Sum.inr.injEq, true_and, and_true] at h
  obtain ⟨h1, h2, h3, h4⟩ := h
  have e1 : i = i' := by omega
  have e2 : u = u' := by omega
  have e3 : b = b' := Ver.str_of_list h2
  subst e1 e2 e3 h4
  rfl
def finalP (T : Ta) (p : Pl) : Bool := decide (p.i = T.g.length) && decide (p.u = "") && decide (p.b ∈ T.fin)
structure IsPs (T : Ta) (P : List Pl) : Prop where
  nd : P.Nodup
  mem : ∀ p, p ∈ P ↔ Reach T p
  ord : P.mergeSort lePl = P
def finsOf (T : Ta) (P : List Pl) : List Nat := (List.range P.length).filter fun k => match P[k]? with | some p => finalP T p | none => false
def IsA4 (T : Ta) (P : List Pl) (a : A4) : Prop := ∃ p r, P[a.k]? = some p ∧ IsArc T p r ∧ P[a.j]? = some r.to ∧ a.l = r.l ∧ a.t = r.t
structure IsAs (T : Ta) (P : List Pl) (A : List A4) : Prop where
  nd : A.Nodup
  mem : ∀ a, a ∈ A ↔ IsA4 T P a
  ord : A.mergeSort leA4 = A
theorem ps_one {T : Ta} {P P' : List Pl} (h : IsPs T P) (h' : IsPs T P') : P = P' := by
  have p : P.Perm P' := (List.perm_ext_iff_of_nodup h.nd h'.nd).mpr fun a => (h.mem a).trans (h'.mem a).symm
  have e : P.mergeSort lePl = P'.mergeSort lePl := srt_perm plK_inj p
  rw [h.ord, h'.ord] at e
  exact e
theorem as_one {T : Ta} {P : List Pl} {A A' : List A4} (h : IsAs T P A) (h' : IsAs T P A') : A = A' := by
  have p : A.Perm A' := (List.perm_ext_iff_of_nodup h.nd h'.nd).mpr fun a => (h.mem a).trans (h'.mem a).symm
  have e : A.mergeSort leA4 = A'.mergeSort leA4 := srt_perm a4_inj p
  rw [h.ord, h'.ord] at e
  exact e
theorem ps_of {T : Ta} {L : List Pl} (nd : L.Nodup) (mem : ∀ p, p ∈ L ↔ Reach T p) : IsPs T (L.mergeSort lePl) :=
  ⟨(List.mergeSort_perm L _).nodup_iff.mpr nd, fun p => (List.mergeSort_perm L _).mem_iff.trans (mem p), srt_perm plK_inj (List.mergeSort_perm L _)⟩
theorem as_of {T : Ta} {P : List Pl} {L : List A4} (nd : L.Nodup) (mem : ∀ a, a ∈ L ↔ IsA4 T P a) : IsAs T P (L.mergeSort leA4) :=
  ⟨(List.mergeSort_perm L _).nodup_iff.mpr nd, fun p => (List.mergeSort_perm L _).mem_iff.trans (mem p), srt_perm a4_inj (List.mergeSort_perm L _)⟩
def spD (T : Ta) (P : List Pl) (A : List A4) : PyData := .tuple [.tuple (P.map plD), .tuple ((finsOf T P).map fun k => .int (k : Nat)), .tuple (A.map a4D)]
end K5
set_option Elab.async false
set_option linter.all false
set_option maxRecDepth 100000
set_option maxHeartbeats 2000000
namespace K5
open PySem PySem.Spec PyProof.Rows L2 Ver
theorem seqL_grow {K : PySem.W.Frag} {H H' : Hp} {a : Addr} {xs : List V} (s : Same H H') (h : SqL K H a xs) : SqL K H' a xs := h.imp (fun r => r.imp (fun e => s _ _ e) fun ⟨ob, e⟩ => ⟨ob, s _ _ e⟩) id
section
variable {P : Program} {w : World} {K : PySem.W.Frag} {mg : Str → Option Value} {base : Heap}
def sp_joined (K : PySem.W.Frag) : Sp := fun vs H Q _ => ∃ (t r : Addr) (ts : List Str) (is : List Int), vs = [.ref t, .ref r] ∧ SqT K H t (ts.map V.str) ∧ SqT K H r (is.map V.int) ∧ is.length ≤ 60 ∧ (∀ i ∈ is, 0 ≤ i ∧ i < ts.length) ∧ (∀ z ∈ ts, z.length ≤ 100) ∧
  ∀ H', Same H H' → Q (.str (rowS ts is)) H'
theorem ok_joined (T : Tx K mg) : FnOk P w K mg base CX0 1 T.f_joined T.d_joined ["tokens", "row"] (sp_joined K) := by
  refine T.F_joined.ok sc_joined (fun vs H Q E h => ?_) (fun cdv A outer s H vs Q E hr h => ?_)
  · obtain ⟨t, r, ts, is, rfl, _⟩ := h; rfl
  · obtain ⟨t, r, ts, is, rfl, hT, hR, hl, hi, hz, q⟩ := h
    refine ⟨_, (pss_one (ps_ret (pe_join pe_str (pe_lc (own := [("token", 2)]) (g := gName 2) (tt := tYes) (by rfl) sc_joined.nd (pi_tup (pv 1)) (blkOk_by (N := ["tokens", "row", "token"]) (sc := defScope s_joined) (by decide +kernel)) (fun _ _ _ _ _ => (pg_name (i := 2) sc_joined.nd rfl (Or.inl rfl))) (fun _ _ _ _ _ => pts_nil) (fun _ _ _ _ _ => (pe_ix (ix_tupK (K := K) rfl) (pv 0) (pv 2) (fun _ _ => rfl))))))), ?_⟩
    refine ⟨⟨"", rfl⟩, .ref r, rfl, r, rfl, ⟨_, hR⟩, fun D nD => ?_⟩
    have sm : Same H (upd H D (.lst [])) := same_new nD
    refine comp_tup (K := K) (a := r) (xs := is.map V.int) (i := 2) (fun acc H' => Same H H' ∧ acc = ((is.take acc.length).map fun i => V.str (ts.getD i.toNat ""))) ⟨sm, rfl⟩ (fun acc H' h => seqT_grow h.1 hR) (fun acc y H' e h hD => ?_) (fun acc H' e h hD => ?_)
    · obtain ⟨i, ei, rfl⟩ : ∃ i, is[acc.length]? = some i ∧ V.int i = y := by
        rw [List.getElem?_map] at e
        cases ez : is[acc.length]? with
        | none => rw [ez] at e; cases e
        | some z => rw [ez] at e; exact ⟨z, rfl, Option.some.inj e⟩
      have lt : acc.length < is.length := (List.getElem?_eq_some_iff.mp ei).1
      obtain ⟨i0, i1⟩ := hi i (List.mem_of_getElem? ei)
      have el : (ts.map V.str)[i.toNat]? = some (V.str (ts.getD i.toNat "")) := by
        have lt2 : i.toNat < ts.length := by omega
        rw [List.getElem?_map, List.getElem?_eq_getElem lt2, List.getD_eq_getElem?_getD, List.getElem?_eq_getElem lt2]
        rfl
      have ei2 : atI (ts.map V.str) i = some (V.str (ts.getD i.toNat "")) := by
        have e0 : i = ((i.toNat : Nat) : Int) := by omega
        rw [e0]
        exact atI_nat el
      refine ⟨.ref t, rfl, .int i, rfl, t, _, i, _, rfl, rfl, seqT_grow h.1 hT, ei2, ?_⟩
      refine turned hD (small (by omega)) ⟨fun b o eb => ?_, ?_⟩
      · rw [upd_ne (ne_of_none eb nD)]
        exact h.1 b o eb
      · rw [List.length_append, List.length_singleton, List.take_add_one, ei, List.map_append, ← h.2]
        rfl
    · rw [List.length_map] at e
      refine ⟨"", D, is.map fun i => ts.getD i.toNat "", rfl, rfl, .inl (.inl (.inl ?_)), ?_, ?_⟩
      · rw [hD, h.2, e, List.take_length, List.map_map]
        rfl
      · have a := rowL_len ts 100 hz is
        have b : (Str.ofString "").length = 0 := by rfl
        rw [b, Nat.mul_zero]
        omega
      · rw [join_row]
        exact q H' h.1
end
end K5
set_option Elab.async false
set_option linter.all false
set_option maxRecDepth 100000
set_option maxHeartbeats 2000000
namespace K5
open PySem PySem.Spec PyProof.Rows L2 Ver
def placeG (ts : List Str) (tab : List (List Int)) (g : Str) (hl : Bool) (is : List Int) : Option Pl :=
  if runG tab 0 is < 0 then none else if hl = false then some ⟨g.length, runG tab 0 is, ""⟩ else
    if takeS (rowS ts is) (min g.length (rowS ts is).length) = takeS g (min g.length (rowS ts is).length) then some ⟨min g.length (rowS ts is).length, runG tab 0 is, ""⟩ else none
def optD : Option Pl → PyData
  | none => .none
  | some p => plD p
def modeS (hl : Bool) : Str := if hl = true then "healed" else "behind"
theorem mode_eq (hl : Bool) : decide (V.str (modeS hl) = V.str "behind") = !hl := by cases hl <;> decide
theorem slice_takeS (z : Str) (j : Nat) : Txt.slice z none (some (j : Int)) = takeS z j := by
  have e9 := SX.slice_to (a := z.cps.toList) (i := (j : Int)) (by omega)
  rw [SX.S_tl] at e9
  rw [e9]
  rfl
theorem rowS_len (ts : List Str) (n : Nat) (h : ∀ z ∈ ts, z.length ≤ n) (is : List Int) : (rowS ts is).length ≤ is.length * n := by
  have e : (rowS ts is).length = ((is.map fun i => ts.getD i.toNat "").map (·.length)).sum := by
    show (rowL ts is).toArray.size = _
    unfold rowL
    rw [List.size_toArray, List.length_flatMap, List.map_map]
    rfl
  rw [e]
  exact rowL_len ts n h is
theorem if_tt {A B : Prop} (h : A) : if true = true then A else B := by rw [if_pos rfl]; exact h
theorem if_ff {A B : Prop} (h : B) : if false = true then A else B := by rw [if_neg Bool.false_ne_true]; exact h
theorem pl_at {K : PySem.W.Frag} {H : Hp} {x : Addr} {p : Pl} (h : H x = some (.tup [.int (p.i : Nat), .int p.b, .str p.u])) : Dp K H (.ref x) (plD p) := .tup (.inl (.inl h)) (.cons (.int _) (.cons (.int _) (.cons (.str _) .nil)))
section
variable {P : Program} {w : World} {K : PySem.W.Frag} {mg : Str → Option Value} {base : Heap}
def sp_border_behind (K : PySem.W.Frag) : Sp := fun vs H Q _ => ∃ (t a r : Addr) (ts : List Str) (B : Bk) (g : Str) (hl : Bool) (is : List Int), vs = [.ref t, .ref a, .str g, .str (modeS hl), .ref r] ∧ SqT K H t (ts.map V.str) ∧ BkAt K H a B ∧ B.Ok ts.length ∧ SqT K H r (is.map V.int) ∧ is.length ≤ 60 ∧ (∀ i ∈ is, 0 ≤ i ∧ i < ts.length) ∧ (∀ z ∈ ts, z.length ≤ 100) ∧ g.length ≤ 1000 ∧
  ∀ v H', Same H H' → Dp K H' v (optD (placeG ts B.tab g hl is)) → Q v H'
theorem ok_border_behind (T : Tx K mg) : FnOk P w K mg base CX0 2 T.f_border_behind T.d_border_behind ["tokens", "book", "begun", "mode", "row"] (sp_border_behind K) := by
  refine T.F_border_behind.ok sc_border_behind (fun vs H Q E h => ?_) (fun cdv A outer s H vs Q E hr h => ?_)
  · obtain ⟨t, a, r, ts, B, g, hl, is, rfl, _⟩ := h; rfl
  · obtain ⟨t, a, r, ts, B, g, hl, is, rfl, hT, hB, hok, hr2, hl60, hi, hz, hg, q⟩ := h
    refine ⟨_, (pss_cons (ps_set (i := 5) sc_border_behind.nd rfl (Or.inl rfl) (pe_call (ok_state_after T) hr rfl T.g_state_after T.F_state_after.kp T.b_state_after .nil pass0 (pa_cons (pv 1) (pa_cons (pv 4) pa_nil))))
    (pss_cons (ps_if (pt_cmpR op_lt (pv 5) pe_int (nomark _)) (pss_one (ps_ret pe_non)) pss_nil)
    (pss_cons (ps_if (pt_cmpR op_eq (pv 3) pe_str (nomark _)) (pss_one (ps_ret (pe_tup (pa_cons (pe_callB call_len_str (by rfl) T.n_len (by decide +kernel) (pa_cons (pv 2) pa_nil)) (pa_cons (pv 5) (pa_cons pe_str pa_nil)))))) pss_nil)
    (pss_cons (ps_set (i := 6) sc_border_behind.nd rfl (Or.inl rfl) (pe_call (ok_joined T) hr rfl T.g_joined T.F_joined.kp T.b_joined .nil pass0 (pa_cons (pv 0) (pa_cons (pv 4) pa_nil))))
    (pss_cons (ps_set (i := 7) sc_border_behind.nd rfl (Or.inl rfl) (pe_callB (call_min2 rfl) (by rfl) T.n_min (by decide +kernel) (pa_cons (pe_callB call_len_str (by rfl) T.n_len (by decide +kernel) (pa_cons (pv 2) pa_nil)) (pa_cons (pe_callB call_len_str (by rfl) T.n_len (by decide +kernel) (pa_cons (pv 6) pa_nil)) pa_nil))))
    (pss_cons (ps_if (pt_cmpR op_ne (pe_slice C8.sl_txt (pv 6) po_none (po_some (pv 7))) (pe_slice C8.sl_txt (pv 2) po_none (po_some (pv 7))) (nomark _)) (pss_one (ps_ret pe_non)) pss_nil)
    (pss_one (ps_ret (pe_tup (pa_cons (pv 7) (pa_cons (pv 5) (pa_cons pe_str pa_nil)))))))))))), ?_⟩
    have ep : placeG ts B.tab g hl is = if runG B.tab 0 is < 0 then none else if hl = false then some ⟨g.length, runG B.tab 0 is, ""⟩ else
      if takeS (rowS ts is) (min g.length (rowS ts is).length) = takeS g (min g.length (rowS ts is).length) then some ⟨min g.length (rowS ts is).length, runG B.tab 0 is, ""⟩ else none := rfl
    refine ⟨.ref a, rfl, .ref r, rfl, a, B, ts.length, r, is, rfl, hB, hok, hr2, hi, ?_⟩
    generalize runG B.tab 0 is = s at ep
    refine ⟨.int s, rfl, _, _, rfl, rfl, _, rfl, ite2 (fun z => ?_) (fun z => ?_)⟩
    · rw [if_pos (of_decide_eq_true z)] at ep
      refine q _ H (Same.refl H) ?_
      rw [ep]
      exact .non
    rw [if_neg (fun y => z (decide_eq_true y))] at ep
    refine ⟨.str (modeS hl), rfl, rfl, _, rfl, ?_⟩
    rw [mode_eq]
    cases hl with
    | false =>
      rw [if_pos rfl] at ep
      refine if_tt ?_
      refine ⟨.str g, rfl, g, rfl, small' (by omega), .int s, rfl, small' (by simp), fun p np => ?_⟩
      refine q _ _ (same_new np) ?_
      rw [ep]
      exact pl_at upd_same
    | true =>
      rw [if_neg (by decide)] at ep
      refine if_ff ?_
      refine ⟨.ref t, rfl, .ref r, rfl, t, r, ts, is, rfl, hT, hr2, hl60, hi, hz, fun H1 s1 => ?_⟩
      have lt : (rowS ts is).length ≤ 6000 := by
        have a := rowS_len ts 100 hz is
        have b : is.length * 100 ≤ 60 * 100 := Nat.mul_le_mul_right 100 hl60
        omega
      generalize rowS ts is = tx at ep lt
      have em : (if ((tx.length : Nat) : Int) < ((g.length : Nat) : Int) then ((tx.length : Nat) : Int) else ((g.length : Nat) : Int)) = ((min g.length tx.length : Nat) : Int) := by
        split <;> omega
      refine ⟨.str g, rfl, g, rfl, small' (by omega), .str tx, rfl, tx, rfl, small' (by omega), _, _, rfl, ?_⟩
      rw [em]
      generalize min g.length tx.length = n at ep
      refine ⟨.str tx, rfl, .int (n : Nat), rfl, (n : Nat), rfl, tx, rfl, small' (by omega), ?_⟩
      refine ⟨.str g, rfl, .int (n : Nat), rfl, (n : Nat), rfl, g, rfl, small' (by omega), ?_⟩
      rw [slice_takeS, slice_takeS]
      refine ⟨rfl, _, rfl, ?_⟩
      by_cases c : takeS tx n = takeS g n
      · rw [if_pos c] at ep
        rw [c, decide_eq_true rfl]
        refine if_ff ?_
        refine ⟨.int (n : Nat), rfl, .int s, rfl, small' (by simp), fun p np => ?_⟩
        refine q _ _ (s1.trans (same_new np)) ?_
        rw [ep]
        exact pl_at upd_same
      · rw [if_neg c] at ep
        rw [decide_eq_false (fun e => c (V.str.inj e))]
        refine if_tt ?_
        refine q _ H1 s1 ?_
        rw [ep]
        exact .non
def sp_place_behind (K : PySem.W.Frag) (C : Addr) : Sp := fun vs H Q E => ∃ (t a : Addr) (x : V) (ts : List Str) (B : Bk) (g : Str) (hl : Bool) (d : PyData), vs = [.ref t, .ref a, .str g, .str (modeS hl), x] ∧ SqT K H t (ts.map V.str) ∧ BkAt K H a B ∧ B.Ok ts.length ∧ Dp K H x d ∧ lenD d ≤ 1000 ∧ (∀ z ∈ ts, z.length ≤ 100) ∧ g.length ≤ 1000 ∧
  (rowD ts.length d = false → Refuses C E H "row") ∧ (∀ is : List Int, d = .tuple (is.map PyData.int) → rowD ts.length d = true → ∀ v H', Same H H' → Dp K H' v (optD (placeG ts B.tab g hl is)) → Q v H')
theorem ok_place_behind (T : Tx K mg) : FnOk P w K mg base (L2.CX P w) 6 T.f_place_behind T.d_place_behind ["tokens", "book", "begun", "mode", "row"] (sp_place_behind K T.C_NotUsable) := by
  refine T.F_place_behind.okX sc_place_behind (fun vs H Q E h => ?_) (fun cdv A outer s H vs Q E hr h => ?_)
  · obtain ⟨t, a, x, ts, B, g, hl, d, rfl, _⟩ := h; rfl
  · obtain ⟨t, a, x, ts, B, g, hl, d, rfl, hT, hB, hok, hd, hz, hw, hg, q1, q2⟩ := h
    refine ⟨_, (pss_cons (ps_expr (pe_call (ok_ask_row T) hr rfl T.g_ask_row T.F_ask_row.kp T.b_ask_row .nil (passes_call (takes_of rfl rfl rfl rfl) (fun _ _ _ _ h => h)) (pa_cons (pv 0) (pa_cons (pv 4) pa_nil))))
    (pss_one (ps_ret (pe_call (ok_border_behind T) (hr.mono (by decide)) rfl T.g_border_behind T.F_border_behind.kp T.b_border_behind .nil pass0 (pa_cons (pv 0) (pa_cons (pv 1) (pa_cons (pv 2) (pa_cons (pv 3) (pa_cons (pv 4) pa_nil))))))))), ?_⟩
    refine ⟨.ref t, rfl, x, rfl, t, _, x, d, rfl, hT, hd, hz, fun k H' sm => ?_, fun k => ?_⟩
    · rw [List.length_map] at k
      obtain ⟨is, rfl, hr2⟩ := rowD_ints k
      obtain ⟨p, xs, rfl, hp, ha⟩ : ∃ p xs, x = .ref p ∧ SqT K H p xs ∧ DpAll K H xs (is.map PyData.int) := by
        cases hd with
        | tup hs ha => exact ⟨_, _, rfl, hs, ha⟩
      have ex := ints_of_dp ha
      subst ex
      have l60 : is.length ≤ 60 := by
        have k' : ((is.map PyData.int).all (belowD ts.length) && decide ((is.map PyData.int).length ≤ 60)) = true := k
        rw [Bool.and_eq_true, decide_eq_true_eq, List.length_map] at k'
        exact k'.2
      refine ⟨.ref t, rfl, .ref a, rfl, .str g, rfl, .str (modeS hl), rfl, .ref p, rfl, t, a, p, ts, B, g, hl, is, rfl, seqT_grow sm hT, hB.grow sm, hok, seqT_grow sm hp, l60, hr2, hw, hg, fun v H2 s2 hv => ?_⟩
      exact q2 is rfl k v H2 (sm.trans s2) hv
    · rw [List.length_map] at k
      exact fun H' dd sm n => q1 k H' dd sm n
end
end K5
set_option Elab.async false
set_option linter.all false
set_option maxRecDepth 100000
set_option maxHeartbeats 2000000
namespace Ver
open PySem PySem.Spec PyProof.Rows L2
def PutT (H : Hp) (D : Addr) (y z : V) (Nx : Hp → Prop) : Prop :=
  ∃ (kvs : List (List L2.Key × V)) (k : List L2.Key) (b : Addr), y = .ref b ∧ H b = some (.tup (k.map kV)) ∧ H D = some (.dT kvs) ∧ kvs.length < sizeLine ∧ Nx (upd H D (.dT (putK kvs k z)))
section
variable {X : Cx} {pins : List (Addr × Obj)} {σ : L2.St} {H : Hp} {s : Shared}
theorem putT_set {D : Addr} {y z : V} {u r : Value} {Q : Unit → Shared → Prop} {E : Value → Shared → Prop} {Nx : Hp → Prop} (hu : X.A.units < cLine) (I : Inv X pins σ H s) (g : PutT H D y z Nx) (ry : RelV y u) (rz : RelV z r)
    (h : ∀ H' s', Inv X pins σ H' s' → Nx H' → Q () s') : wpAny (model X.prog X.w) X.A (dictSet D u r) Q E s := by
  obtain ⟨kvs, k, b, rfl, hb, hD, hl, nx⟩ := g
  obtain rfl : u = Value.ref b := ry
  obtain ⟨z0, hd, xs, rel, dd⟩ := dt_of I.hok hD
  have lx : kvs.length = xs.length := Paired.length rel
  have lp := length_putK kvs k z
  refine wpAny_dictSet_heap (knd := tupleKind (mixKind X.prog X.w)) (hsz := by omega) hu (key_of I.hok hb) dd fun h' d2 same => h _ _ ?_ nx
  obtain ⟨o, es, ep, ho, hx, hdt, he, _, hn⟩ := d2
  refine d_write I (by rw [hD]; exact True.intro) same ⟨o, ho⟩ ⟨by omega, hd, _, (rel.put k hb rz).keeps fun c ys ec => ?_, o, es, ep, ho, hx, hdt, he, hn⟩
  rw [upd_ne (ne_of ec hD fun q => nomatch q)]
  exact ec
def tDcT (wi : TI) (g : TG) (tk tv : TE) (vs : List Nat) : TE := fun σ H Q => wi σ H fun J H1 => ∀ D, H1 D = none →
  ∃ W : Nat → Nat → Hp → Prop, (∃ m, W 0 m (upd H1 D (.dT []))) ∧ ∀ i m H, W i m H →
    (J.stop i H ∧ Q (.ref D) H) ∨
    (J.go i H ∧ ∃ Nx : Hp → Prop, (∀ H', Nx H' → ∃ m', m' < m ∧ W (i + 1) m' H') ∧
      ∀ x H', J.yld i H x H' → g x (wipe σ vs) H' fun σ2 H2 => wipe σ2 vs = wipe σ vs ∧ tk σ2 H2 fun y H3 => tv σ2 H3 fun z H4 => PutT H4 D y z Nx)
end
section
variable {X : Cx} {kx vx tg iter : Expr} {scope : Scope} {own : List (Str × Nat)} {pos : Pos} {wi : TI} {g : TG} {tk tv : TE}
abbrev blkEnv (X : Cx) (scope : Scope) (cl : List (Str × Addr)) (C : Addr) : Env := compEnvC scope cl C X.env
theorem pe_dcT (hu : X.A.units < cLine) (hc : X.calm = true) (hN : X.N.Nodup) (hi : PI X tg iter wi) (ok : BlkOk X.N X.env.scope scope own)
    (hg : ∀ (s : Shared) (H : Hp) (C : Addr) (cl : List (Str × Addr)) (fp : List Addr), PG (X.blk s H scope (blkEnv X scope cl C) fp) tg g)
    (hk : ∀ (s : Shared) (H : Hp) (C : Addr) (cl : List (Str × Addr)) (fp : List Addr), PE (X.blk s H scope (blkEnv X scope cl C) fp) kx tk)
    (he : ∀ (s : Shared) (H : Hp) (C : Addr) (cl : List (Str × Addr)) (fp : List Addr), PE (X.blk s H scope (blkEnv X scope cl C) fp) vx tv)
    (hs : ∀ x, foldedSetIterable iter X.env x = pure x := by intro _; rfl) :
    PE X (.DictComp kx vx [⟨tg, iter, [], 0⟩] scope pos) (tDcT wi g tk tv (own.map (·.2))) := by
  refine ⟨fun pins s σ H Q I h => ?_⟩
  rw [arm_eval_DictComp]
  have hfree : ∀ y ∈ scope.names, y.2 = .free → ∃ c, X.env.cells.lookup y.1 = some c := fun y hy e =>
    (ok.free y hy e).elim (fun k => I.ok.has _ (.inl k)) fun k => I.ok.has _ (.inr k)
  refine wpAny_comprehension_free (use := none) rfl hs (closure_ok hfree) ok.kind (fun y hy e => by rw [ok.uniq y hy, e]) (thn (hi.run pins s σ H _ I h) fun xv s1 hx => thn hx fun itv s2 got => ?_)
  obtain ⟨it, fp, tn, J, H2, rfl, I2, T, at0, nofp, q⟩ := got
  refine wpAny_newObj_type (newEnv_comp ?_)
  generalize hD : s2.heap.objs.size = D
  have Dn : H2 D = none := I2.hok.fresh (Nat.le_of_eq hD)
  obtain ⟨W, ⟨m0, w0⟩, turn⟩ := q D Dn
  generalize e3 : ({ s2 with heap := s2.heap.push { cls := .type "dict", data := .dict #[] } } : Shared) = s3
  have heap3 : s3.heap = s2.heap.push { cls := .type "dict", data := .dict #[] } := by rw [← e3]
  have I3 : Inv X pins σ (upd H2 D (.dT [])) s3 := by
    subst e3 hD
    exact I2.laid (t' := s2.toks) (fun b o e => Heap.get?_push_of_some _ e) (Nat.le_refl _) (dt_empty s2.heap I2.big)
  have nof3 : ∀ b ∈ fp, FpOk X pins (upd H2 D (.dT [])) b ∧ b < s3.heap.objs.size := fun b hb => by
    obtain ⟨o, e, _⟩ := T.obj _ _ at0 b hb
    have lt := Heap.lt_size e
    have ne : b ≠ D := by rw [← hD]; exact Nat.ne_of_lt lt
    exact ⟨⟨by rw [upd_ne ne]; exact (nofp b hb).1, (nofp b hb).2⟩, by rw [heap3, Heap.size_push]; exact Nat.lt_succ_of_lt lt⟩
  have at3 : tn 0 s3.heap := T.keep _ _ _ at0 fun b _ o e => by rw [heap3]; exact Heap.get?_push_of_some _ e
  have I4 := block_start I3 ok hN nof3
  show codeAny _ _ (.compStart (.DictComp kx vx [⟨tg, iter, [], 0⟩] scope pos) 0 (.ref it) (.ref D) (compEnvC scope (cellsFrom (s3.heap.objs.size + 1) scope.names (cloFrom X.env.cells scope.names [])) s3.heap.objs.size X.env)) (compPost (model X.prog X.w) X.A X.xe none (EP X pins σ Q) (.ref D) s3.heap.objs.size) { s3 with heap := pushCells (s3.heap.push { cls := .type "dict", data := .dict #[] }) scope.names }
  generalize hcl : cellsFrom (s3.heap.objs.size + 1) scope.names (cloFrom X.env.cells scope.names []) = cl at I4 ⊢
  have rg := hg s3 (upd H2 D (.dT [])) s3.heap.objs.size cl fp
  have rk := hk s3 (upd H2 D (.dT [])) s3.heap.objs.size cl fp
  have re := he s3 (upd H2 D (.dT [])) s3.heap.objs.size cl fp
  generalize hC : s3.heap.objs.size = C at I4 rg rk re ⊢
  have nf0 : ∀ b ∈ fp, (upd H2 D (.dT [])) b = none := fun b hb => (nof3 b hb).1.1
  generalize hce : blkEnv X scope cl C = ce at rg rk re
  have ece : compEnvC scope cl C X.env = ce := hce
  rw [ece] at I4 ⊢
  have cL : ce.locals = C := by rw [← hce]; rfl
  generalize hH3 : upd H2 D (.dT []) = H3 at I3 I4 rg rk re w0 nf0 nof3
  generalize hs4 : ({ s3 with heap := pushCells (s3.heap.push { cls := .type "dict", data := .dict #[] }) scope.names } : Shared) = s4 at I4 ⊢
  have at4 : tn 0 s4.heap := T.keep _ _ _ at3 fun b _ o e => by rw [← hs4]; exact pushCells_keeps _ _ _ _ (Heap.get?_push_of_some _ e)
  have fpok : ∀ {σ' : L2.St} {H' : Hp} {s' : Shared}, Inv (X.blk s3 H3 scope ce fp) [] σ' H' s' → (∀ b ∈ fp, H' b = none) → ∀ b ∈ fp, FpOk (X.blk s3 H3 scope ce fp) [] H' b := fun {σ' H' s'} I' hn b hb =>
    ⟨hn b hb, (I'.ok.exf b hb).1, I'.ok.exfs b hb, .inl hb, fun x c e => (I'.ok.exf b hb).2 x c e, fun p hp => absurd (show p ∈ ([] : List (Addr × Obj)) ++ [] from hp) (by simp)⟩
  have main : codeAny (model X.prog X.w) X.A (.compLoop (.DictComp kx vx [⟨tg, iter, [], 0⟩] scope pos) 0 (.ref it) (.ref D) ce) (compPost (model X.prog X.w) X.A X.xe none (EP X pins σ Q) (.ref D) C) s4 := by
    refine compLoop_anyD (fun n s' => ∃ i H', Inv (X.blk s3 H3 scope ce fp) [] (wipe σ (own.map (·.2))) H' s' ∧ tn i s'.heap ∧ (∀ b ∈ fp, H' b = none) ∧ W i n H') ?_ m0 ⟨0, H3, I4, at4, nf0, w0⟩
    rintro n s5 ⟨i, H5, I5, at5, nf5, w5⟩
    rcases turn i n H5 w5 with ⟨stop, fin⟩ | ⟨go, Nx, less, step⟩
    · refine thnF (T.done (X.blk s3 H3 scope ce fp) rfl rfl rfl hc i [] s5 _ H5 (fun _ _ => False) I5 (fpok I5 nf5) at5 stop) fun r s6 got => ?_
      obtain ⟨rfl, I6⟩ := got
      have I7 : Inv X pins σ H5 s6 := I3.call' (ch := fp) I6.os I6.base I6.hok I6.bare fun b hb => ⟨(nof3 b hb).1.2.2.2.1, (nof3 b hb).1.2.1, (nof3 b hb).1.2.2.2.2.1, (nof3 b hb).1.2.2.2.2.2⟩
      have nC : H5 C = none := by rw [← cL]; exact I6.free
      obtain ⟨m, hn, _⟩ := I6.loc
      replace hn : s6.heap.Ns C m := by rw [← cL]; exact hn
      obtain ⟨f0, f1, f2, f3, f4, f5⟩ := I3.fpOk (Nat.le_of_eq hC) nC
      exact ⟨m, hn, fun h'' sb => ⟨.ref D, H5, I7.turned (t' := s6.toks) (fun b o hb e => (sb.2 b hb).trans e) f0 f1 f3 f4 f5, rfl, fin⟩⟩
    · refine thnF (T.item (X.blk s3 H3 scope ce fp) rfl rfl rfl hc i [] s5 _ H5 (fun _ _ => False) I5 (fpok I5 nf5) at5 go) fun r s6 got => ?_
      obtain ⟨u, rfl, h6⟩ := got
      refine thnF h6 fun _ s7 got => ?_
      obtain ⟨x, H7, I7, r7, y7, at7, nf7⟩ := got
      refine thnF (rg.run _ s7 _ H7 x u _ (I7.pinned (fpok I7 nf7) (T.obj _ _ at7)) r7 (step x H7 y7)) fun _ s8 got => ?_
      obtain ⟨σ8, H8, I8, ew, q8⟩ := got
      refine wpAny_tests_nil ?_
      show wpAny (model X.prog X.w) X.A (eval kx ce) _ _ s8
      refine thnF (rk.run _ s8 σ8 H8 _ I8 q8) fun kv s9 got => ?_
      obtain ⟨y, H9, I9, r9, q9⟩ := got
      refine thnF (re.run _ s9 σ8 H9 _ I9 q9) fun vv s10 got => ?_
      obtain ⟨z, H10, I10, r10, put⟩ := got
      refine putT_set (X := X.blk s3 H3 scope ce fp) hu I10 put r9 r10 fun H11 s11 I11 nx => ?_
      obtain ⟨m', lt, w'⟩ := less H11 nx
      have kept : ∀ b ∈ fp, ∀ o, s7.heap.get? b = some o → s11.heap.get? b = some o ∧ H11 b = none := fun b hb o e => by
        have z := I11.pin (b, o) (List.mem_append_right _ (List.mem_append_right _ (mem_pinsAt hb e)))
        exact ⟨z.1, z.2.1⟩
      refine ⟨m', lt, i + 1, H11, (I11.unpinned (pins := [])).weak (by rw [← ew, wipe_length]) (fun j v e => ?_), T.keep _ _ _ at7 fun b hb o e => (kept b hb o e).1, fun b hb => ?_, w'⟩
      · rw [← ew] at e
        exact (wipe_some e).1
      · obtain ⟨o, e, _⟩ := T.obj _ _ at7 b hb
        exact (kept b hb o e).2
  exact codeAny_compStart_dict main (T.self X.A 0 _ _ _ at4 main)
theorem dcT_tup {K : PySem.W.Frag} {a : Addr} {xs : List V} {g : TG} {tk tv : TE} {vs : List Nat} {σ : L2.St} {H1 : Hp} {D : Addr} {Qd : Hp → Prop} (S : Nat → Hp → Prop) (h0 : S 0 (upd H1 D (.dT []))) (hl : ∀ i H, S i H → SqT K H a xs)
    (hs : ∀ i x H, xs[i]? = some x → S i H → g x (wipe σ vs) H fun σ2 H2 => wipe σ2 vs = wipe σ vs ∧ tk σ2 H2 fun y H3 => tv σ2 H3 fun z H4 => PutT H4 D y z (S (i + 1))) (hd : ∀ H, S xs.length H → Qd H) :
    ∃ W : Nat → Nat → Hp → Prop, (∃ m, W 0 m (upd H1 D (.dT []))) ∧ ∀ i m H, W i m H →
      ((Itt K a).stop i H ∧ Qd H) ∨
      ((Itt K a).go i H ∧ ∃ Nx : Hp → Prop, (∀ H', Nx H' → ∃ m', m' < m ∧ W (i + 1) m' H') ∧
        ∀ x H', (Itt K a).yld i H x H' → g x (wipe σ vs) H' fun σ2 H2 => wipe σ2 vs = wipe σ vs ∧ tk σ2 H2 fun y H3 => tv σ2 H3 fun z H4 => PutT H4 D y z Nx) := by
  refine ⟨fun i m H => i + m = xs.length ∧ S i H, ⟨xs.length, Nat.zero_add _, h0⟩, fun i m H ⟨e, p⟩ => ?_⟩
  have st := hl i H p
  cases m with
  | zero =>
    have e' : i = xs.length := e
    subst e'
    exact .inl ⟨⟨xs, st, Nat.le_refl _⟩, hd H p⟩
  | succ m =>
    have lt : i < xs.length := by omega
    refine .inr ⟨⟨xs, xs[i], st, by simp [lt]⟩, S (i + 1), fun H' p' => ⟨m, by omega, by omega, p'⟩, fun x H' y => ?_⟩
    obtain ⟨rfl, y⟩ := y
    exact hs i x _ (y xs st) p
end
end Ver
set_option Elab.async false
set_option linter.all false
set_option maxRecDepth 100000
set_option maxHeartbeats 2000000
namespace Ver
open PySem PySem.Spec PyProof.Rows L2
section
variable {J : It} {n : Nat} {G : Hp → Prop} {Y : Nat → Hp → V → Hp → Prop}
theorem dc_it (w : Walk J n G Y) {g : TG} {tk tv : TE} {vs : List Nat} {σ : L2.St} {H1 : Hp} {D : Addr} {Qd : Hp → Prop} (Pv : Nat → Hp → Prop) (h0 : Pv 0 (upd H1 D (.dK []))) (hG : ∀ i H, i ≤ n → Pv i H → G H)
    (hs : ∀ i x H H', i < n → Pv i H → Y i H x H' → g x (wipe σ vs) H' fun σ2 H2 => wipe σ2 vs = wipe σ vs ∧ tk σ2 H2 fun y H4 => tv σ2 H4 fun z H5 => ∃ kvs k, y = kV k ∧ H5 D = some (.dK kvs) ∧ kvs.length < sizeLine ∧ Pv (i + 1) (upd H5 D (.dK (putK kvs k z))))
    (hg : ∀ x σ H (A B : L2.St → Hp → Prop), (∀ σ' H', A σ' H' → B σ' H') → g x σ H A → g x σ H B) (hd : ∀ H, Pv n H → Qd H) :
    ∃ W : Nat → Nat → Hp → Prop, (∃ m, W 0 m (upd H1 D (.dK []))) ∧ ∀ i m H, W i m H →
      (J.stop i H ∧ Qd H) ∨ (J.go i H ∧ ∃ Nx : Hp → Prop, (∀ H', Nx H' → ∃ m', m' < m ∧ W (i + 1) m' H') ∧ ∀ x H', J.yld i H x H' → g x (wipe σ vs) H' fun σ2 H2 => wipe σ2 vs = wipe σ vs ∧ tYes σ2 H2 fun b H3 =>
        if b = true then tk σ2 H3 fun y H4 => tv σ2 H4 fun z H5 => ∃ kvs k, y = kV k ∧ H5 D = some (.dK kvs) ∧ kvs.length < sizeLine ∧ Nx (upd H5 D (.dK (putK kvs k z))) else Nx H3) := by
  refine ⟨fun i m H => m = n - i ∧ i ≤ n ∧ Pv i H, ⟨n, by simp, Nat.zero_le _, h0⟩, ?_⟩
  rintro i m H ⟨rfl, hi, p⟩
  have q := hG i H hi p
  by_cases hlt : i < n
  · refine .inr ⟨w.goes i H hlt q, Pv (i + 1), fun H' p' => ⟨n - (i + 1), by omega, rfl, hlt, p'⟩, fun x H' y => hg _ _ _ _ _ (fun σ' H2 ⟨e, r⟩ => ⟨e, ?_⟩) (hs i x H H' hlt p (w.yields i H x H' hlt q y))⟩
    unfold tYes
    dsimp only
    rw [if_pos rfl]
    exact r
  · have e : i = n := by omega
    subst e
    exact .inl ⟨w.stops H q, hd H p⟩
theorem dcT_it (w : Walk J n G Y) {g : TG} {tk tv : TE} {vs : List Nat} {σ : L2.St} {H1 : Hp} {D : Addr} {Qd : Hp → Prop} (Pv : Nat → Hp → Prop) (h0 : Pv 0 (upd H1 D (.dT []))) (hG : ∀ i H, i ≤ n → Pv i H → G H)
    (hs : ∀ i x H H', i < n → Pv i H → Y i H x H' → g x (wipe σ vs) H' fun σ2 H2 => wipe σ2 vs = wipe σ vs ∧ tk σ2 H2 fun y H3 => tv σ2 H3 fun z H4 => PutT H4 D y z (Pv (i + 1))) (hd : ∀ H, Pv n H → Qd H) :
    ∃ W : Nat → Nat → Hp → Prop, (∃ m, W 0 m (upd H1 D (.dT []))) ∧ ∀ i m H, W i m H →
      (J.stop i H ∧ Qd H) ∨ (J.go i H ∧ ∃ Nx : Hp → Prop, (∀ H', Nx H' → ∃ m', m' < m ∧ W (i + 1) m' H') ∧ ∀ x H', J.yld i H x H' → g x (wipe σ vs) H' fun σ2 H2 => wipe σ2 vs = wipe σ vs ∧ tk σ2 H2 fun y H3 => tv σ2 H3 fun z H4 => PutT H4 D y z Nx) := by
  refine ⟨fun i m H => m = n - i ∧ i ≤ n ∧ Pv i H, ⟨n, by simp, Nat.zero_le _, h0⟩, ?_⟩
  rintro i m H ⟨rfl, hi, p⟩
  have q := hG i H hi p
  by_cases hlt : i < n
  · exact .inr ⟨w.goes i H hlt q, Pv (i + 1), fun H' p' => ⟨n - (i + 1), by omega, rfl, hlt, p'⟩, fun x H' y => hs i x H H' hlt p (w.yields i H x H' hlt q y)⟩
  · have e : i = n := by omega
    subst e
    exact .inl ⟨w.stops H q, hd H p⟩
end
theorem gName_mono {i : Nat} {x : V} {σ : L2.St} {H : Hp} {A B : L2.St → Hp → Prop} (h : ∀ σ' H', A σ' H' → B σ' H') (a : gName i x σ H A) : gName i x σ H B := h _ _ a
end Ver
namespace Ver
open PySem PySem.Spec PyProof.Rows L2
section
variable {X : Cx}
theorem ps_setDc {i : Nat} {y : Str} {py spos : Pos} {kx vx tg iter : Expr} {ifs : List Expr} {scope : Scope} {own : List (Str × Nat)} {pos : Pos} {wi : TI} {g : TG} {tt : TT} {tk tv : TE} (hc : X.calm = true) (hN : X.N.Nodup)
    (hy : X.N[i]? = some y) (hyl : X.env.scope.names.lookup y = some .local) (hsw : swapsWith (.DictComp kx vx [⟨tg, iter, ifs, 0⟩] scope pos) (some (.Name y py)) spos.line X.env = pure true)
    (hi : PI X tg iter wi) (ok : BlkOk X.N X.env.scope scope own)
    (hg : ∀ (s : Shared) (H : Hp) (C : Addr) (cl : List (Str × Addr)) (fp : List Addr), PG (X.blk s H scope (blkEnv X scope cl C) fp) tg g)
    (ht : ∀ (s : Shared) (H : Hp) (C : Addr) (cl : List (Str × Addr)) (fp : List Addr), PTs (X.blk s H scope (blkEnv X scope cl C) fp) ifs tt)
    (hk : ∀ (s : Shared) (H : Hp) (C : Addr) (cl : List (Str × Addr)) (fp : List Addr), PE (X.blk s H scope (blkEnv X scope cl C) fp) kx tk)
    (he : ∀ (s : Shared) (H : Hp) (C : Addr) (cl : List (Str × Addr)) (fp : List Addr), PE (X.blk s H scope (blkEnv X scope cl C) fp) vx tv)
    (hs : ∀ x, foldedSetIterable iter X.env x = pure x := by intro _; rfl) :
    PS X (.Assign [.Name y py] (.DictComp kx vx [⟨tg, iter, ifs, 0⟩] scope pos) spos) (tAsg (tDc wi g tt tk tv (own.map (·.2))) (gName i)) := by
  refine ⟨fun pins s σ H D I h => ?_⟩
  rw [exec_Assign_Name_used _ _ _ _ hsw]
  refine wpAny_bind (wpAny_standAt (wpAny_bind ?_))
  have h : tDc wi g tt tk tv (own.map (·.2)) σ H (fun x H1 => gName i x σ H1 D.nx) := h
  refine wpAny_bind (thn (dc_core (Qf := fun _ s' => SP X pins D .next s')
    hc hN I hi ok hg ht hk he hs h fun L C s' m H' I' q hn f => ?_)
    fun _ s' hq => wpAny_pure (wpAny_pure hq))
  refine wpAny_assign_Name (store_ok2 (v := V.ref L) I' hN hy
    (.inl hyl) rfl (fun s2 I2 ⟨a, sb, ha⟩ => ?_) (.inr hyl))
  obtain ⟨f0, f1, f2, f3, f4, f5⟩ := f
  have haC : C ≠ a := by
    rcases ha with z | z
    · rw [z]; exact f1
    · exact fun e => f4 y a z e.symm
  exact ⟨m, hn.sameBut sb haC, fun h3 sb3 => ⟨_, H',
    I2.turned (t' := s2.toks) (fun b o hb e => (sb3.2 b hb).trans e) f0 f1 f3 f4 f5, q⟩⟩
theorem sw_trueD {kx vx : Expr} {gs : List Comprehension} {scope : Scope} {pos py : Pos} {y : Str} {l : Nat} {env : Env}
    (hk : env.scope.kind = .function) (hy : env.scope.names.lookup y = some .local) (hl : (py.line == pos.line) = true)
    (ha : (scope.names.any fun (n, k) => n == y && (k == .local || k == .cell)) = false) :
    swapsWith (.DictComp kx vx gs scope pos) (some (.Name y py)) l env = pure true := by
  have ky : env.kindOf y = some .local := hy
  have hb : env.blockKind = .function := by
    unfold Env.blockKind
    rw [hk]
    rfl
  unfold swapsWith
  simp only [hb, ky, ha, Expr.pos, hl]
  rfl
end
end Ver
set_option Elab.async false
set_option linter.all false
set_option maxRecDepth 100000
set_option maxHeartbeats 2000000
namespace K5
open PySem PySem.Spec PyProof.Rows L2 Ver LamX
def Beg (ts : List Str) (z : Str) : Prop := ∃ t ∈ ts, ∃ k, k < t.length ∧ z = takeS t (k + 1)
def isInn (ts : List Str) (z : Str) : Bool := decide (z ∈ begL ts)
def preS (z : Str) : Str := takeS z (z.length - 1)
def lastC (z : Str) : Nat := (z.cps.toList[z.length - 1]?).getD 0
abbrev Ent := Str × Bool × Int
def entOf (ts : List Str) (z : Str) : Ent := (oneS (lastC z), isInn ts z, numAt ts z ts.length)
def entsOf (ts ys : List Str) (u : Str) : List Ent := (ys.filter fun z => decide (preS z = u)).map (entOf ts)
def EntAt (H : Hp) (v : V) (e : Ent) : Prop := ∃ p, v = .ref p ∧ H p = some (.tup [.str e.1, .bl e.2.1, .int e.2.2])
theorem ents_keep {H H' : Hp} (e : ∀ b xs, H b = some (.tup xs) → H' b = some (.tup xs)) : ∀ {vs : List V} {es : List Ent}, Paired (EntAt H) vs es → Paired (EntAt H') vs es
  | _, _, .nil => .nil
  | _, _, .cons ⟨p, h1, h2⟩ t => .cons ⟨p, h1, e _ _ h2⟩ (ents_keep e t)
theorem entsOf_snoc (ts ys : List Str) (z u : Str) : entsOf ts (ys ++ [z]) u = entsOf ts ys u ++ (if preS z = u then [entOf ts z] else []) := by
  unfold entsOf
  rw [List.filter_append, List.map_append]
  congr 1
  by_cases h : preS z = u
  · rw [if_pos h]; simp [h]
  · rw [if_neg h]; simp [h]
theorem takeS_take {z : Str} {i j : Nat} (h : i ≤ j) : takeS (takeS z j) i = takeS z i := by
  unfold takeS
  rw [List.take_take, Nat.min_eq_left h]
theorem beg_len {ts : List Str} {z : Str} (h : Beg ts z) : 1 ≤ z.length := by
  obtain ⟨t, _, k, hk, rfl⟩ := h
  rw [takeS_len (by omega)]
  omega
theorem beg_pre {ts : List Str} {z : Str} (h : Beg ts z) : IsInner ts (preS z) := by
  obtain ⟨t, ht, k, hk, rfl⟩ := h
  refine ⟨t, ht, k, hk, ?_⟩
  unfold preS
  rw [takeS_len (by omega), Nat.add_sub_cancel, takeS_take (by omega)]
def WaysAt (H : Hp) (D : Addr) (ts ys : List Str) : Prop := ∃ kvs, H D = some (.dK kvs) ∧ ∀ u, IsInner ts u → ∃ a vs, valV kvs (.inr u) = some (.ref a) ∧ H a = some (.lst vs) ∧ Paired (EntAt H) vs (entsOf ts ys u)
theorem seqT_ext {K : PySem.W.Frag} {H H' : Hp} {a : Addr} {xs : List V} (e : ExtN H H') (h : SqT K H a xs) : SqT K H' a xs := by
  rcases h with (h | ⟨o, h⟩) | h
  · exact .inl (.inl (e _ _ h fun ps z => by cases z))
  · exact .inl (.inr ⟨o, e _ _ h fun ps z => by cases z⟩)
  · exact .inr h
theorem str_get {ts : List Str} {i : Nat} {x : V} (h : (ts.map V.str)[i]? = some x) : ∃ z, ts[i]? = some z ∧ x = .str z := by
  rw [List.getElem?_map] at h
  cases e : ts[i]? with
  | none => rw [e] at h; cases h
  | some z => rw [e] at h; exact ⟨z, rfl, (Option.some.inj h).symm⟩
theorem take_snoc {α : Type} {l : List α} {i : Nat} {x : α} (h : l[i]? = some x) : l.take (i + 1) = l.take i ++ [x] := by
  rw [List.take_add_one, h]
  rfl
def yesK (l : List Str) : List (L2.Key × V) := l.map fun z => (.inr z, .bl true)
theorem yesK_has (z : Str) : ∀ l : List Str, (valV (yesK l) (.inr z)).isSome = decide (z ∈ l)
  | [] => rfl
  | y :: l => by
    by_cases e : y = z
    · subst e
      have h : valV (yesK (y :: l)) (.inr y) = some (.bl true) := valV_pos rfl
      rw [h, decide_eq_true List.mem_cons_self]
      rfl
    · have h : valV (yesK (y :: l)) (.inr z) = valV (yesK l) (.inr z) := valV_neg (fun h => e (Sum.inr.inj h))
      rw [h, yesK_has z l]
      by_cases m : z ∈ l
      · rw [decide_eq_true m, decide_eq_true (List.mem_cons_of_mem _ m)]
      · rw [decide_eq_false m, decide_eq_false (fun h => (List.mem_cons.mp h).elim (fun q => e q.symm) m)]
theorem none_of_isSome {α : Type} {o : Option α} (h : o.isSome = false) : o = none := by cases o <;> first | rfl | cases h
theorem yesK_put {l : List Str} {z : Str} (h : z ∉ l) : putK (yesK l) (.inr z) (.bl true) = yesK (l ++ [z]) := by
  rw [putK_new _ (none_of_isSome ((yesK_has z l).trans (decide_eq_false h)))]
  unfold yesK
  rw [List.map_append]
  rfl
theorem nodup_take {α : Type} [DecidableEq α] {l : List α} {i : Nat} {x : α} (nd : l.Nodup) (h : l[i]? = some x) : x ∉ l.take i := fun m => by
  obtain ⟨j, hj⟩ := List.getElem?_of_mem m
  have hj2 : j < (l.take i).length := (List.getElem?_eq_some_iff.mp hj).1
  rw [List.length_take] at hj2
  rw [List.getElem?_take_of_lt (by omega)] at hj
  have := (List.getElem?_inj (h₀ := (List.getElem?_eq_some_iff.mp hj).1) nd (i := j) (j := i)).mp (hj.trans h.symm)
  omega
def wayK (al : List (Str × Addr)) : List (L2.Key × V) := al.map fun x => (.inr x.1, .ref x.2)
theorem wayK_none {z : Str} : ∀ {al : List (Str × Addr)}, z ∉ al.map (·.1) → valV (wayK al) (.inr z) = none
  | [], _ => rfl
  | x :: al, h => by
    have h1 : valV (wayK (x :: al)) (.inr z) = valV (wayK al) (.inr z) := valV_neg (fun e => h (by rw [← Sum.inr.inj e]; exact List.mem_cons_self))
    rw [h1]
    exact wayK_none fun m => h (List.mem_cons_of_mem _ m)
theorem wayK_get {z : Str} {a : Addr} : ∀ {al : List (Str × Addr)}, (al.map (·.1)).Nodup → (z, a) ∈ al → valV (wayK al) (.inr z) = some (.ref a)
  | [], _, h => by cases h
  | x :: al, nd, h => by
    obtain ⟨n1, n2⟩ := List.nodup_cons.mp nd
    rcases List.mem_cons.mp h with e | h
    · subst e
      exact valV_pos rfl
    · have ne : ¬ (Sum.inr x.1 : L2.Key) = Sum.inr z := fun e => n1 (by show x.1 ∈ _; rw [Sum.inr.inj e]; exact List.mem_map.mpr ⟨_, h, rfl⟩)
      have h1 : valV (wayK (x :: al)) (.inr z) = valV (wayK al) (.inr z) := valV_neg ne
      rw [h1]
      exact wayK_get n2 h
theorem wayK_put {al : List (Str × Addr)} {z : Str} {a : Addr} (h : z ∉ al.map (·.1)) : putK (wayK al) (.inr z) (.ref a) = wayK (al ++ [(z, a)]) := by
  rw [putK_new _ (wayK_none h)]
  unfold wayK
  rw [List.map_append]
  rfl
theorem slice_preS {z : Str} (h : 1 ≤ z.length) : Txt.slice z none (some (-1)) = preS z := by
  have e := beq_iff_eq.mp (PyProof.Rows.slice_closes_to_neg (x := z) (j := -1) (k := (z.length : Int) - 1) (by omega) (by omega) (by omega))
  rw [e]
  have e1 : ((z.length : Int) - 1 - 0).toNat = z.length - 1 := by omega
  rw [e1]
  rfl
theorem last_at {z : Str} (h : 1 ≤ z.length) : atI z.cps.toList (-1) = some (lastC z) := by
  have lt : z.length - 1 < z.cps.toList.length := by rw [glen]; omega
  have ne : z.cps.toList ≠ [] := fun e => by rw [e] at lt; cases lt
  have e1 : z.cps.toList = z.cps.toList.dropLast ++ [z.cps.toList.getLast ne] := (List.dropLast_concat_getLast ne).symm
  have e2 : lastC z = z.cps.toList.getLast ne := by
    unfold lastC
    rw [← glen, ← List.getLast?_eq_getElem?, List.getLast?_eq_getLast ne]
    rfl
  rw [e2]
  conv => lhs; rw [e1]
  exact atI_last _ _
theorem isSome_put {kvs : List (L2.Key × V)} {z : Str} {v : V} {l : List Str} (h : ∀ y, (valV kvs (.inr y)).isSome = decide (y ∈ l)) (y : Str) : (valV (putK kvs (.inr z) v) (.inr y)).isSome = decide (y ∈ l ++ [z]) := by
  rw [valV_put]
  by_cases e : y = z
  · subst e
    rw [if_pos rfl, decide_eq_true (List.mem_append_right _ List.mem_cons_self)]
    rfl
  · rw [if_neg (fun x => e (Sum.inr.inj x)), h]
    by_cases m : y ∈ l
    · rw [decide_eq_true m, decide_eq_true (List.mem_append_left _ m)]
    · rw [decide_eq_false m, decide_eq_false (fun x => (List.mem_append.mp x).elim m fun x => e (List.mem_singleton.mp x))]
theorem nodup_len {α : Type} [DecidableEq α] : ∀ {l m : List α}, l.Nodup → (∀ x ∈ l, x ∈ m) → l.length ≤ m.length
  | [], _, _, _ => Nat.zero_le _
  | x :: l, m, nd, sub => by
    obtain ⟨n1, n2⟩ := List.nodup_cons.mp nd
    have hx := sub x List.mem_cons_self
    have p := List.perm_cons_erase hx
    have : l.length ≤ (m.erase x).length := nodup_len n2 fun y hy => (List.mem_erase_of_ne (fun e => n1 (by rw [← e]; exact hy))).mpr (sub y (List.mem_cons_of_mem _ hy))
    rw [p.length_eq, List.length_cons, List.length_cons]
    omega
section
variable {P : Program} {w : World} {K : PySem.W.Frag} {mg : Str → Option Value} {base : Heap}
def sp_spelled_on (K : PySem.W.Frag) (TS : List (Addr × Str)) : Sp := fun vs H Q _ => ∃ (t : Addr) (ts : List Str), vs = [.ref t] ∧ SqT K H t (ts.map V.str) ∧ ts.length ≤ 200 ∧ (∀ z ∈ ts, z.length ≤ 12) ∧ Tabs TS H ∧
  ∀ (H2 : Hp) (ys : List Str) (D : Addr), ExtN H H2 → Tabs TS H2 → ys.Nodup → (∀ z, z ∈ ys ↔ Beg ts z) → WaysAt H2 D ts ys → Q (.ref D) H2
theorem ok_spelled_on {cc cP cd cS : Addr} (T : Tx K mg) (TB : Tb T base cc cP cd cS) : FnOk P w K mg base CX0 3 T.f_spelled_on T.d_spelled_on ["tokens"] (sp_spelled_on K (TT cP cS)) := by
  refine T.F_spelled_on.ok sc_spelled_on (fun vs H Q E h => ?_) (fun cdv A outer s H vs Q E hr h => ?_)
  · obtain ⟨t, ts, rfl, _⟩ := h; rfl
  · obtain ⟨t, ts, rfl, hT, hl, hz, hB, q⟩ := h
    refine ⟨_, (pss_cons (ps_setDc (i := 2) (own := [("text", 1)]) (g := gName 1) (tt := tYes) rfl sc_spelled_on.nd rfl rfl (sw_trueD rfl rfl rfl (by decide +kernel)) (pi_tup (pe_call (ok_inner_texts T TB) hr rfl T.g_inner_texts T.F_inner_texts.kp T.b_inner_texts .nil pass0 (pa_cons (pv 0) pa_nil))) (blkOk_by (N := ["tokens", "text", "inner", "numbers", "found", "ways", "token", "k"]) (sc := defScope s_spelled_on) (by decide +kernel)) (fun _ _ _ _ _ => (pg_name (i := 1) sc_spelled_on.nd rfl (Or.inl rfl))) (fun _ _ _ _ _ => pts_nil) (fun _ _ _ _ _ => (pv 1)) (fun _ _ _ _ _ => pe_bl))
    (pss_cons (ps_set (i := 3) sc_spelled_on.nd rfl (Or.inl rfl) (pe_call (ok_token_numbers T) (hr.mono (by decide)) rfl T.g_token_numbers T.F_token_numbers.kp T.b_token_numbers .nil pass0 (pa_cons (pv 0) pa_nil)))
    (pss_cons (ps_setSc2 (i := 4) (own := [("token", 6), ("k", 7)]) (g := gName 6) (g1 := gName 7) (vs1 := [7]) rfl sc_spelled_on.nd rfl rfl (sw_trueS rfl rfl rfl (by decide +kernel)) (pi_tup (pv 0)) (blkOk_by (N := ["tokens", "text", "inner", "numbers", "found", "ways", "token", "k"]) (sc := defScope s_spelled_on) (by decide +kernel)) (by decide) (fun _ _ _ _ _ => (pg_name (i := 6) sc_spelled_on.nd rfl (Or.inl rfl))) (fun _ _ _ _ _ => (pi_range1 rfl T.n_range (pa_cons (pe_callB call_len_str (by rfl) T.n_len (by decide +kernel) (pa_cons (pv 6) pa_nil)) pa_nil))) (fun _ _ _ _ _ => (pg_name (i := 7) sc_spelled_on.nd rfl (Or.inl rfl))) (fun _ _ _ _ _ => (pe_slice C8.sl_txt (pv 6) po_none (po_some (pe_op op_add (pv 7) pe_int)))))
    (pss_cons (ps_lock (ps_setDc (i := 5) (own := [("text", 1)]) (g := gName 1) (tt := tYes) rfl sc_spelled_on.nd rfl rfl (sw_trueD rfl rfl rfl (by decide +kernel)) (pi_keys (pv 2)) (blkOk_by (N := ["tokens", "text", "inner", "numbers", "found", "ways", "token", "k"]) (sc := defScope s_spelled_on) (by decide +kernel)) (fun _ _ _ _ _ => (pg_name (i := 1) sc_spelled_on.nd rfl (Or.inl rfl))) (fun _ _ _ _ _ => pts_nil) (fun _ _ _ _ _ => (pv 1)) (fun _ _ _ _ _ => (pe_lst pa_nil))))
    (pss_cons (ps_for PassesOwn.never rfl (pi_list (pe_callB (cr_sortTx (by rfl)) (by rfl) T.n_sorted (by decide +kernel) (pa_cons (pv 4) pa_nil))) (pg_name (i := 1) sc_spelled_on.nd rfl (Or.inl rfl))
    (pss_one (ps_expr (pe_bm PySem.F.plainAttrs_list PySem.F.slot_list_append PySem.F.type_list_append mt_append (pe_dget (hu_of hr) (pv 5) (pe_slice C8.sl_txt (pv 1) po_none (po_some (pe_un un_neg pe_int))) (fun _ _ => rfl)) (pa_cons (pe_tup (pa_cons (pe_ix ix_str (pv 1) (pe_un un_neg pe_int) (fun _ _ => rfl)) (pa_cons (pe_cmp (pc_din (hu_of hr) (pv 1) (pv 2)) (by rfl)) (pa_cons (pe_dget2 (hu_of hr) (pv 3) (pv 1) (pe_un un_neg pe_int) ⟨rfl, rfl, rfl, rfl⟩) pa_nil)))) pa_nil)))))
    (pss_one (ps_ret (pv 5)))))))), ?_⟩
    refine ⟨.ref t, rfl, t, ts, rfl, hT, hl, hz, hB, fun H1 R p e1 t1 inn hp => ?_⟩
    refine ⟨p, rfl, ⟨_, .inl (.inl hp)⟩, fun D1 nD1 => ?_⟩
    have lR : R.length ≤ 2400 := by
      have h1 : R.length ≤ (begL ts).length := nodup_len inn.nd fun z h => begL_mem.mpr ((inn.mem z).mp h)
      have := begL_len (ts := ts) hz
      omega
    refine dc_it (walk_tup (K := K) (a := p) (xs := R.map V.str)) (fun i H' => Same H1 H' ∧ H' D1 = some (.dK (yesK (R.take i)))) ?_ ?_ ?_ (fun x σ H A B h a => gName_mono h a) ?_
    · exact ⟨same_new nD1, upd_same⟩
    · exact fun i H' _ h => .inl (.inl (h.1 _ _ hp))
    · rintro i x H2 H' lt ⟨s2, hD⟩ ⟨rfl, ex⟩
      obtain ⟨z, ez, rfl⟩ := str_get ex
      rw [List.length_map] at lt
      refine ⟨wipe_one _ _ _, .str z, rfl, _, .inr z, rfl, hD, small (by unfold yesK; rw [List.length_map, List.length_take]; omega), same_upd2 s2 nD1, ?_⟩
      rw [upd_same, take_snoc ez, yesK_put (nodup_take inn.nd ez)]
    rintro H2 ⟨s2, hI⟩
    rw [List.length_map, List.take_length] at hI
    have kI2 : ∀ z, (valV (yesK R) (.inr z)).isSome = isInn ts z := fun z => by
      rw [yesK_has]
      unfold isInn
      by_cases c : z ∈ R
      · rw [decide_eq_true c, decide_eq_true (begL_mem.mpr ((inn.mem z).mp c))]
      · rw [decide_eq_false c, decide_eq_false (fun h => c ((inn.mem z).mpr (begL_mem.mp h)))]
    have hT2 : SqT K H2 t (ts.map V.str) := seqT_grow s2 (seqT_ext e1 hT)
    refine ⟨.ref t, rfl, t, ts, rfl, hT2, by omega, fun N H3 s3 hN => ?_⟩
    have hT3 := seqT_grow s3 hT2
    refine ⟨.ref t, rfl, t, rfl, ⟨_, hT3⟩, fun D nD => ?_⟩
    have sD0 := same_new (o := TxO P w D []) nD
    refine it_tup (K := K) (a := t) (xs := ts.map V.str) (fun i H' => Same H3 H' ∧ ∃ l : List Str, H' D = some (TxO P w D l) ∧ l.Nodup ∧ (∀ z, z ∈ l ↔ Beg (ts.take i) z) ∧ l.length ≤ 12 * i)
      ⟨sD0, [], upd_same, List.nodup_nil, fun z => ⟨fun h => absurd h (by simp), fun ⟨t, ht, _⟩ => absurd ht (by simp)⟩, by simp⟩ (fun i H' h => seqT_grow h.1 hT3) (fun i x H' e h => ?_) (fun H4 h => ?_)
    · obtain ⟨s4, l, hD, nd, mem, len⟩ := h
      obtain ⟨z, ez, rfl⟩ := str_get e
      have lt : i < ts.length := (List.getElem?_eq_some_iff.mp ez).1
      have z12 : z.length ≤ 12 := hz z (List.mem_of_getElem? ez)
      refine ⟨by rfl, .str z, rfl, z, rfl, small' (by omega), z.length, rfl, by omega, by omega, ?_⟩
      refine it_range (n := ((z.length : Nat) : Int).toNat) (fun j H' => Same H3 H' ∧ ∃ l : List Str, H' D = some (TxO P w D l) ∧ l.Nodup ∧ (∀ y, y ∈ l ↔ Beg (ts.take i) y ∨ ∃ k, k < j ∧ y = takeS z (k + 1)) ∧ l.length ≤ 12 * i + j)
        ⟨s4, l, hD, nd, fun y => ⟨fun h => .inl ((mem y).mp h), fun h => h.elim (mem y).mpr fun ⟨k, hk, _⟩ => absurd hk (Nat.not_lt_zero k)⟩, by omega⟩ (fun j H2 ltj h => ?_) (fun H2 h => ?_)
      · obtain ⟨s5, l2, hD2, nd2, mem2, len2⟩ := h
        have es : Txt.slice z none (some ((j : Int) + 1)) = takeS z (j + 1) := slice_takeS z (j + 1)
        have sb : 3000 < scanBound := by decide
        refine ⟨by rfl, .str z, rfl, .int (j : Int), rfl, _, _, rfl, rfl, _, rfl, z, rfl, small' (by omega), takeS z (j + 1), l2, by rw [es], hD2, by omega, ?_⟩
        refine ⟨same_upd2 s5 nD, _, upd_same, ?_, fun y => ?_, ?_⟩
        · split
          · exact nd2
          · rename_i hn
            exact List.nodup_cons.mpr ⟨hn, nd2⟩
        · have step : (∃ k, k < j + 1 ∧ y = takeS z (k + 1)) ↔ ((∃ k, k < j ∧ y = takeS z (k + 1)) ∨ y = takeS z (j + 1)) := by
            constructor
            · rintro ⟨k, hk, e9⟩
              rcases Nat.lt_or_eq_of_le (Nat.le_of_lt_succ hk) with h | h
              · exact .inl ⟨k, h, e9⟩
              · exact .inr (h ▸ e9)
            · rintro (⟨k, hk, e9⟩ | e9)
              · exact ⟨k, Nat.lt_succ_of_lt hk, e9⟩
              · exact ⟨j, Nat.lt_succ_self j, e9⟩
          rw [step]
          split
          · rename_i hm
            rw [mem2 y]
            constructor
            · rintro (h | h)
              · exact .inl h
              · exact .inr (.inl h)
            · rintro (h | h | h)
              · exact .inl h
              · exact .inr h
              · rw [h]
                exact (mem2 _).mp hm
          · rw [List.mem_cons, mem2 y]
            constructor
            · rintro (h | h | h)
              · exact .inr (.inr h)
              · exact .inl h
              · exact .inr (.inl h)
            · rintro (h | h | h)
              · exact .inr (.inl h)
              · exact .inr (.inr h)
              · exact .inl h
        · split
          · omega
          · rw [List.length_cons]; omega
      · obtain ⟨s5, l2, hD2, nd2, mem2, len2⟩ := h
        have ej : ((z.length : Nat) : Int).toNat = z.length := by omega
        rw [ej] at mem2 len2
        refine ⟨s5, l2, hD2, nd2, fun y => (mem2 y).trans ?_, by omega⟩
        rw [take_snoc ez]
        constructor
        · rintro (⟨t, ht, k, hk, e⟩ | ⟨k, hk, e⟩)
          · exact ⟨t, List.mem_append_left _ ht, k, hk, e⟩
          · exact ⟨z, List.mem_append_right _ (List.mem_singleton.mpr rfl), k, hk, e⟩
        · rintro ⟨t9, ht, k, hk, e9⟩
          rcases List.mem_append.mp ht with ht | ht
          · exact .inl ⟨t9, ht, k, hk, e9⟩
          · have e8 : t9 = z := List.mem_singleton.mp ht
            exact .inr ⟨k, e8 ▸ hk, e8 ▸ e9⟩
    obtain ⟨s4, l, hD, nd, mem, len⟩ := h
    rw [List.length_map] at mem len
    rw [List.take_length] at mem
    have s34 := s3.trans s4
    have hI4 := s34 _ _ hI
    have hN4 := s4 _ _ hN
    have s14 := s2.trans s34
    refine ⟨D1, _, hI4, True.intro, fun od => ?_⟩
    have sF : ∀ b, b ≠ D1 → (upd H4 D1 (.frz od (.dK (yesK R)))) b = H4 b := fun b ne => upd_ne ne
    generalize hHF : upd H4 D1 (.frz od (.dK (yesK R))) = HF at sF
    have hF : HF D1 = some (.frz od (.dK (yesK R))) := by rw [← hHF]; exact upd_same
    refine ⟨.ref D1, rfl, D1, od, rfl, .inl ⟨_, hF, fun W nW => ?_⟩⟩
    have nW4 : W ≠ D1 := fun e => by rw [e, hF] at nW; cases nW
    refine dc_it (walk_keys (d := D1) (o := od) (kvs := yesK R)) (fun i H' => Same HF H' ∧ ∃ al : List (Str × Addr), H' W = some (.dK (wayK al)) ∧ al.map (·.1) = R.take i ∧ (al.map (·.2)).Nodup ∧ ∀ x ∈ al, HF x.2 = none ∧ x.2 ≠ W ∧ H' x.2 = some (.lst [])) ?_ ?_ ?_ (fun x σ H A B h a => gName_mono h a) ?_
    · exact ⟨same_new nW, [], upd_same, rfl, List.nodup_nil, fun x hx => by cases hx⟩
    · exact fun i H' _ h => h.1 _ _ hF
    · rintro i x H5 H' lt ⟨s5, al, hW, ek, nda, hal⟩ ⟨rfl, k, v, ekv, rfl⟩
      have lti : i < R.length := by unfold yesK at lt; rw [List.length_map] at lt; exact lt
      have eR : R[i]? = some R[i] := List.getElem?_eq_getElem lti
      generalize R[i] = z at eR
      have ez : k = .inr z := by
        unfold yesK at ekv
        rw [List.getElem?_map, eR] at ekv
        exact (Prod.mk.inj (Option.some.inj ekv)).1.symm
      subst ez
      have nz : z ∉ al.map (·.1) := by rw [ek]; exact nodup_take inn.nd eR
      have lal : al.length ≤ 2400 := by
        have := congrArg List.length ek
        rw [List.length_map, List.length_take] at this
        omega
      refine ⟨wipe_one _ _ _, .str z, rfl, Nat.zero_le _, fun A nA => ?_⟩
      have sA := same_new (o := .lst []) nA
      have AW : A ≠ W := fun e => by rw [e, hW] at nA; cases nA
      refine ⟨_, .inr z, rfl, sA _ _ hW, small (by unfold wayK; rw [List.length_map]; omega), same_upd2 (s5.trans sA) nW, al ++ [(z, A)], ?_, ?_, ?_, ?_⟩
      · rw [upd_same, wayK_put nz]
      · rw [List.map_append, ek, take_snoc eR]
        rfl
      · rw [List.map_append]
        refine List.nodup_append.mpr ⟨nda, List.pairwise_singleton _ _, fun a ha b hb => ?_⟩
        obtain ⟨x, hx, rfl⟩ := List.mem_map.mp ha
        rw [List.mem_singleton.mp hb]
        intro e
        have := (hal x hx).2.2
        rw [e] at this
        rw [this] at nA
        cases nA
      · intro x hx
        rcases List.mem_append.mp hx with hx | hx
        · obtain ⟨h1, h2, h3⟩ := hal x hx
          refine ⟨h1, h2, ?_⟩
          rw [upd_ne h2]
          exact sA _ _ h3
        · rw [List.mem_singleton.mp hx]
          refine ⟨s5.free nA, AW, ?_⟩
          rw [upd_ne AW]
          exact upd_same
    rintro H5 ⟨s5, al, hW, ek, nda, hal⟩
    rw [show (yesK R).length = R.length by unfold yesK; exact List.length_map .., List.take_length] at ek
    refine ⟨s5 _ _ hF, ?_⟩
    have s46 : Same H4 (upd H5 D1 (.dK (yesK R))) := fun b o e => by
      by_cases c : b = D1
      · subst c
        rw [hI4] at e
        rw [upd_same, e]
      · rw [upd_ne c]
        refine s5 _ _ ?_
        rw [sF b c]
        exact e
    have fr4 : ∀ x ∈ al, H4 x.2 = none ∧ x.2 ≠ W ∧ x.2 ≠ D1 := fun x hx => by
      obtain ⟨h1, h2, h3⟩ := hal x hx
      have ne : x.2 ≠ D1 := fun e => by rw [e, hF] at h1; cases h1
      exact ⟨by rw [← sF _ ne]; exact h1, h2, ne⟩
    have hW6 : (upd H5 D1 (.dK (yesK R))) W = some (.dK (wayK al)) := by rw [upd_ne nW4]; exact hW
    have nW4H : H4 W = none := by rw [← sF _ nW4]; exact nW
    have hal6 : ∀ x ∈ al, (upd H5 D1 (.dK (yesK R))) x.2 = some (.lst []) := fun x hx => by rw [upd_ne (fr4 x hx).2.2]; exact (hal x hx).2.2
    generalize upd H5 D1 (.dK (yesK R)) = H6 at s46 hW6 hal6 ⊢
    have nkR : (al.map (·.1)).Nodup := by rw [ek]; exact inn.nd
    refine ⟨.ref D, rfl, D, l, rfl, s46 _ _ hD, fun ys L pm pw nL => ?_⟩
    have sL := same_new (o := .lst (ys.map V.str)) nL
    have hL : (upd H6 L (.lst (ys.map V.str))) L = some (.lst (ys.map V.str)) := upd_same
    have WL : W ≠ L := fun e => by rw [e, nL] at hW6; cases hW6
    have aL : ∀ x ∈ al, x.2 ≠ L := fun x hx e => by have := hal6 x hx; rw [e, nL] at this; cases this
    have hW7 := sL _ _ hW6
    have hal7 : ∀ x ∈ al, (upd H6 L (.lst (ys.map V.str))) x.2 = some (.lst []) := fun x hx => sL _ _ (hal6 x hx)
    have s47 := s46.trans sL
    have nL4 : H4 L = none := s46.free nL
    generalize upd H6 L (.lst (ys.map V.str)) = H7 at sL hL hW7 hal7 s47 ⊢
    have memY : ∀ z, z ∈ ys ↔ Beg ts z := fun z => pm.mem_iff.trans (mem z)
    have lY : ys.length ≤ 2400 := by rw [pm.length_eq]; omega
    refine ⟨L, rfl, ⟨_, .inl (.inl hL)⟩, ?_⟩
    refine for_list (K := K) (a := L) (xs := ys.map V.str) (fun i σ H' => ∃ y1, σ = [some (.ref t), y1, some (.ref D1), some (.ref N), some (.ref D), some (.ref W), none, none] ∧ Same H4 H' ∧ H' W = some (.dK (wayK al)) ∧ H' L = some (.lst (ys.map V.str)) ∧ ∀ x ∈ al, ∃ vs, H' x.2 = some (.lst vs) ∧ Paired (EntAt H') vs (entsOf ts (ys.take i) x.1))
      ⟨none, rfl, s47, hW7, hL, fun x hx => ⟨[], hal7 x hx, .nil⟩⟩ (fun i σ H' _ h => ?_) (fun i x σ H' ex h => ?_) (fun σ H' h => ?_)
    · obtain ⟨_, _, _, _, hL', _⟩ := h
      exact .inl (.inl hL')
    · obtain ⟨y1, rfl, s8, hW8, hL8, hal8⟩ := h
      obtain ⟨z, ez, rfl⟩ := str_get ex
      have hz2 : Beg ts z := (memY z).mp (List.mem_of_getElem? ez)
      have z1 := beg_len hz2
      have z12 : z.length ≤ 100 := by
        obtain ⟨t9, ht, k, hk, rfl⟩ := hz2
        have := hz t9 ht
        rw [takeS_len (by omega)]
        omega
      have inP : preS z ∈ al.map (·.1) := by rw [ek]; exact (inn.mem _).mpr (beg_pre hz2)
      obtain ⟨⟨u, A⟩, hA, eu⟩ := List.mem_map.mp inP
      have eu : u = preS z := eu
      subst eu
      obtain ⟨vs, hvs, hes⟩ := hal8 _ hA
      have gW := DGet.k (k := Sum.inr (preS z)) hW8
      rw [wayK_get nkR hA] at gW
      have lvs : vs.length ≤ 2400 := by
        have h1 := Paired.length hes
        unfold entsOf at h1
        rw [List.length_map] at h1
        have h2 := List.length_filter_le (fun z' => decide (preS z' = preS z)) (ys.take i)
        rw [List.length_take] at h2
        refine Nat.le_trans (Nat.le_of_eq h1) (Nat.le_trans h2 ?_)
        omega
      have gI := DGet.k (k := Sum.inr z) (s8 _ _ hI4)
      have gN := DGet.k (k := Sum.inr z) (s8 _ _ hN4)
      refine ⟨.ref W, rfl, .str z, rfl, 1, rfl, _, rfl, z, rfl, small' (by omega), W, .ref A, rfl, by rw [slice_preS z1]; exact gW, .inl ⟨rfl, _, .inl (.inl hvs)⟩, ?_⟩
      refine ⟨.str z, rfl, 1, rfl, z, -1, lastC z, rfl, rfl, small' (by omega), last_at z1, ?_⟩
      refine ⟨.str z, rfl, .ref D1, rfl, D1, _, rfl, gI, ?_⟩
      refine ⟨.ref N, rfl, N, rfl, .inl ⟨_, .inl (s8 _ _ hN4)⟩, .str z, rfl, 1, rfl, _, gN, small' (by simp), fun p9 np => ?_⟩
      rw [tabN_at, kI2]
      have sp := same_new (o := .tup [V.str ⟨#[lastC z]⟩, V.bl (isInn ts z), V.int (numAt ts z ts.length)]) np
      have hp9 : (upd H' p9 (.tup [V.str ⟨#[lastC z]⟩, V.bl (isInn ts z), V.int (numAt ts z ts.length)])) p9 = some (.tup [V.str ⟨#[lastC z]⟩, V.bl (isInn ts z), V.int (numAt ts z ts.length)]) := upd_same
      generalize upd H' p9 (.tup [V.str ⟨#[lastC z]⟩, V.bl (isInn ts z), V.int (numAt ts z ts.length)]) = H9 at sp hp9 ⊢
      have hvs9 : H9 A = some (.lst vs) := sp _ _ hvs
      refine ⟨A, vs, .ref p9, rfl, rfl, hvs9, small (by omega), ?_⟩
      have frA := fr4 _ hA
      have kt : ∀ b xs, H9 b = some (.tup xs) → (upd H9 A (.lst (vs ++ [.ref p9]))) b = some (.tup xs) := fun b xs e => tup_upd hvs9 e
      refine ⟨some (.str z), rfl, same_upd2 (s8.trans sp) frA.1, ?_, ?_, fun x hx => ?_⟩
      · rw [upd_ne (Ne.symm frA.2.1)]
        exact sp _ _ hW8
      · rw [upd_ne (Ne.symm (aL _ hA))]
        exact sp _ _ hL8
      · obtain ⟨vx, h1, h2⟩ := hal8 x hx
        rw [take_snoc ez, entsOf_snoc]
        by_cases c : x.2 = A
        · have ex1 : x.1 = preS z := by
            obtain ⟨j, hj⟩ := List.getElem?_of_mem hx
            obtain ⟨j', hj'⟩ := List.getElem?_of_mem hA
            have e1 : (al.map (·.2))[j]? = some A := by rw [List.getElem?_map, hj]; exact congrArg some c
            have e2 : (al.map (·.2))[j']? = some A := by rw [List.getElem?_map, hj']; rfl
            have ejj := (List.getElem?_inj (h₀ := (List.getElem?_eq_some_iff.mp e1).1) nda (i := j) (j := j')).mp (e1.trans e2.symm)
            subst ejj
            rw [hj'] at hj
            rw [← Option.some.inj hj]
          rw [c] at h1
          have evx : vx = vs := by rw [hvs] at h1; injection h1 with h1; injection h1 with h1; exact h1.symm
          subst evx
          rw [c, ex1, if_pos rfl]
          rw [ex1] at h2
          refine ⟨vx ++ [.ref p9], upd_same, ?_⟩
          exact Paired.snoc (ents_keep kt (ents_keep (fun b xs e => sp _ _ e) h2)) ⟨p9, rfl, kt _ _ hp9⟩
        · have nx : ¬ preS z = x.1 := fun e => c (by
            obtain ⟨j, hj⟩ := List.getElem?_of_mem hx
            obtain ⟨j', hj'⟩ := List.getElem?_of_mem hA
            have e1 : (al.map (·.1))[j]? = some (preS z) := by rw [List.getElem?_map, hj]; exact congrArg some e.symm
            have e2 : (al.map (·.1))[j']? = some (preS z) := by rw [List.getElem?_map, hj']; rfl
            have ejj := (List.getElem?_inj (h₀ := (List.getElem?_eq_some_iff.mp e1).1) nkR (i := j) (j := j')).mp (e1.trans e2.symm)
            subst ejj
            rw [hj'] at hj
            rw [← Option.some.inj hj])
          rw [if_neg nx, List.append_nil]
          refine ⟨vx, ?_, ents_keep kt (ents_keep (fun b xs e => sp _ _ e) h2)⟩
          rw [upd_ne c]
          exact sp _ _ h1
    · obtain ⟨y1, rfl, s8, hW8, hL8, hal8⟩ := h
      rw [List.length_map, List.take_length] at hal8
      refine ⟨.ref W, rfl, ?_⟩
      have s18 := s14.trans s8
      refine q H' ys W (e1.trans (ExtN.of s18)) (t1.ext s18) (pm.nodup_iff.mpr nd) memY ⟨_, hW8, fun u hu => ?_⟩
      have inP : u ∈ al.map (·.1) := by rw [ek]; exact (inn.mem _).mpr hu
      obtain ⟨⟨u', A⟩, hA, eu⟩ := List.mem_map.mp inP
      have eu : u' = u := eu
      subst eu
      obtain ⟨vs, h1, h2⟩ := hal8 _ hA
      exact ⟨A, vs, wayK_get nkR hA, h1, h2⟩
end
end K5
set_option Elab.async false
set_option linter.all false
set_option maxRecDepth 100000
set_option maxHeartbeats 2000000
namespace K5
open PySem PySem.Spec PyProof.Rows L2 Ver LamX
def cellT (T : Ta) (b t : Int) : Int := cellG T.tab b t
def afterG (T : Ta) (p : Pl) : Nat := min T.g.length (p.i + 1)
def arcsE (T : Ta) (p : Pl) (e : Ent) : List Ar :=
  if p.i < T.g.length ∧ e.1 ≠ oneS ((T.g.cps.toList[p.i]?).getD 0) then [] else
    (if e.2.1 = true then [⟨e.1, ⟨afterG T p, p.b, p.u ++ e.1⟩, -1⟩] else []) ++ (if 0 ≤ e.2.2 ∧ 0 ≤ cellG T.tab p.b e.2.2 then [⟨e.1, ⟨afterG T p, cellG T.tab p.b e.2.2, ""⟩, e.2.2⟩] else [])
def arcsB (T : Ta) (ys : List Str) (p : Pl) : List Ar := (entsOf T.ts ys p.u).flatMap (arcsE T p)
theorem oneS_inj {c d : Nat} (h : oneS c = oneS d) : c = d := by
  have h1 : (#[c] : Array Nat) = #[d] := Str.mk.inj h
  have h2 : [c] = [d] := congrArg Array.toList h1
  exact (List.cons.inj h2).1
theorem cps_app (u v : Str) : (u ++ v).cps.toList = u.cps.toList ++ v.cps.toList := Array.toList_append
theorem pre_last {z : Str} (h : 1 ≤ z.length) : preS z ++ oneS (lastC z) = z := by
  refine Ver.str_of_list ?_
  rw [cps_app]
  have ne : z.cps.toList ≠ [] := fun e => by
    have := glen z
    rw [e] at this
    simp at this
    omega
  have e2 : lastC z = z.cps.toList.getLast ne := by
    unfold lastC
    rw [← glen, ← List.getLast?_eq_getElem?, List.getLast?_eq_getLast ne]
    rfl
  show z.cps.toList.take (z.length - 1) ++ [lastC z] = _
  rw [e2, ← glen, ← List.dropLast_eq_take]
  exact List.dropLast_concat_getLast ne
theorem len_app (u : Str) (c : Nat) : (u ++ oneS c).length = u.length + 1 := by
  rw [Str.length_append]
  rfl
theorem pre_app (u : Str) (c : Nat) : preS (u ++ oneS c) = u := by
  refine Ver.str_of_list ?_
  show (u ++ oneS c).cps.toList.take ((u ++ oneS c).length - 1) = _
  rw [len_app, cps_app, Nat.add_sub_cancel, ← glen, List.take_left]
theorem last_app (u : Str) (c : Nat) : lastC (u ++ oneS c) = c := by
  unfold lastC
  rw [len_app, cps_app, Nat.add_sub_cancel, ← glen, List.getElem?_append_right (Nat.le_refl _), Nat.sub_self]
  rfl
theorem beg_of_inner {ts : List Str} {u : Str} {c : Nat} (h : IsInner ts (u ++ oneS c)) : Beg ts (u ++ oneS c) := by
  obtain ⟨t, ht, k, hk, e⟩ := h
  have e1 := congrArg Str.length e
  rw [len_app, takeS_len (by omega)] at e1
  refine ⟨t, ht, u.length, by omega, ?_⟩
  rw [e, ← e1]
theorem takeS_all (z : Str) : takeS z z.length = z := by
  refine Ver.str_of_list ?_
  show z.cps.toList.take z.length = _
  rw [← glen, List.take_length]
theorem beg_of_tok {ts : List Str} {u : Str} {c : Nat} (h : u ++ oneS c ∈ ts) : Beg ts (u ++ oneS c) := by
  refine ⟨_, h, u.length, by rw [len_app]; omega, ?_⟩
  rw [← len_app u c, takeS_all]
theorem numAt_get {ts : List Str} (z : Str) : ∀ n, n ≤ ts.length → 0 ≤ numAt ts z n → ∃ t : Nat, numAt ts z n = (t : Int) ∧ ts[t]? = some z
  | 0, _, h => by cases h
  | n + 1, hn, h => by
    have e : numAt ts z (n + 1) = if ts[n]? = some z then (n : Int) else numAt ts z n := rfl
    rw [e] at h ⊢
    by_cases c : ts[n]? = some z
    · rw [if_pos c]
      exact ⟨n, rfl, c⟩
    · rw [if_neg c] at h ⊢
      exact numAt_get z n (by omega) h
theorem numAt_of {ts : List Str} (nd : ts.Nodup) {t : Nat} {z : Str} (h : ts[t]? = some z) : numAt ts z ts.length = (t : Int) := by
  have lt := (List.getElem?_eq_some_iff.mp h).1
  have key : ∀ n, t < n → n ≤ ts.length → numAt ts z n = (t : Int) := by
    intro n
    induction n with
    | zero => intro h0; omega
    | succ n ih =>
      intro h1 h2
      have e : numAt ts z (n + 1) = if ts[n]? = some z then (n : Int) else numAt ts z n := rfl
      rw [e]
      by_cases c : ts[n]? = some z
      · rw [if_pos c]
        have := (List.getElem?_inj (h₀ := lt) nd (i := t) (j := n)).mp (h.trans c.symm)
        omega
      · rw [if_neg c]
        refine ih ?_ (by omega)
        rcases Nat.lt_or_eq_of_le (Nat.le_of_lt_succ h1) with q | q
        · exact q
        · rw [q] at h
          exact absurd h c
  exact key _ lt (Nat.le_refl _)
theorem arcsB_mem {T : Ta} (ok : T.Ok) {ys : List Str} (hy : ∀ z, z ∈ ys ↔ Beg T.ts z) {p : Pl} (na : ¬ T.ahead p) (a : Ar) : a ∈ arcsB T ys p ↔ IsArc T p a := by
  unfold arcsB entsOf
  rw [List.mem_flatMap]
  constructor
  · rintro ⟨e, he, ha⟩
    obtain ⟨z, hz, rfl⟩ := List.mem_map.mp he
    obtain ⟨hz1, hz2⟩ := List.mem_filter.mp hz
    have hb := (hy z).mp hz1
    have ep : preS z = p.u := of_decide_eq_true hz2
    have ez : p.u ++ oneS (lastC z) = z := by rw [← ep]; exact pre_last (beg_len hb)
    unfold arcsE entOf at ha
    dsimp only at ha
    by_cases c : p.i < T.g.length ∧ oneS (lastC z) ≠ oneS ((T.g.cps.toList[p.i]?).getD 0)
    · rw [if_pos c] at ha; cases ha
    rw [if_neg c] at ha
    have hl : ∀ d, T.g.cps.toList[p.i]? = some d → d = lastC z := fun d hd => by
      have lt := (List.getElem?_eq_some_iff.mp hd).1
      rw [glen] at lt
      have : oneS (lastC z) = oneS ((T.g.cps.toList[p.i]?).getD 0) := Classical.byContradiction fun q => c ⟨lt, q⟩
      rw [hd] at this
      exact (oneS_inj this).symm
    rcases List.mem_append.mp ha with ha | ha
    · by_cases q : isInn T.ts z = true
      · rw [if_pos q] at ha
        rw [List.mem_singleton.mp ha]
        refine .inner na hl ?_
        rw [ez]
        exact begL_mem.mp (of_decide_eq_true q)
      · rw [if_neg q] at ha; cases ha
    · by_cases q : 0 ≤ numAt T.ts z T.ts.length ∧ 0 ≤ cellG T.tab p.b (numAt T.ts z T.ts.length)
      · rw [if_pos q] at ha
        obtain ⟨t, et, ht⟩ := numAt_get z _ (Nat.le_refl _) q.1
        rw [List.mem_singleton.mp ha, et]
        refine .ends na hl ?_ ?_
        · rw [ez]; exact ht
        · rw [← et]; exact q.2
      · rw [if_neg q] at ha; cases ha
  · intro h
    have ne : ∀ c : Nat, (∀ d, T.g.cps.toList[p.i]? = some d → d = c) → ¬ (p.i < T.g.length ∧ oneS c ≠ oneS ((T.g.cps.toList[p.i]?).getD 0)) := fun c hl ⟨lt, q⟩ => by
      have e : T.g.cps.toList[p.i]? = some (T.g.cps.toList[p.i]'(by rw [glen]; exact lt)) := List.getElem?_eq_getElem _
      have := hl _ e
      rw [e] at q
      exact q (by rw [← this]; rfl)
    cases h with
    | ahead e1 e2 =>
      have lt := (List.getElem?_eq_some_iff.mp e2).1
      rw [glen] at lt
      exact absurd ⟨e1, lt⟩ na
    | @inner c e1 e2 e3 =>
      refine ⟨entOf T.ts (p.u ++ oneS c), List.mem_map.mpr ⟨_, List.mem_filter.mpr ⟨(hy _).mpr (beg_of_inner e3), decide_eq_true (pre_app _ _)⟩, rfl⟩, ?_⟩
      unfold arcsE entOf
      dsimp only
      have yi : isInn T.ts (p.u ++ oneS c) = true := decide_eq_true (begL_mem.mpr e3)
      rw [last_app, if_neg (ne c e2), if_pos yi]
      exact List.mem_append_left _ List.mem_cons_self
    | @ends c t e1 e2 e3 e4 =>
      refine ⟨entOf T.ts (p.u ++ oneS c), List.mem_map.mpr ⟨_, List.mem_filter.mpr ⟨(hy _).mpr (beg_of_tok (List.mem_of_getElem? e3)), decide_eq_true (pre_app _ _)⟩, rfl⟩, ?_⟩
      unfold arcsE entOf
      dsimp only
      have ya : 0 ≤ ((t : Nat) : Int) ∧ 0 ≤ cellG T.tab p.b (t : Int) := ⟨by omega, e4⟩
      rw [last_app, if_neg (ne c e2), numAt_of ok.nd e3, if_pos ya]
      exact List.mem_append_right _ List.mem_cons_self
theorem arcsE_l {T : Ta} {p : Pl} {e : Ent} {a : Ar} (h : a ∈ arcsE T p e) : a.l = e.1 := by
  unfold arcsE at h
  split at h
  · cases h
  · rcases List.mem_append.mp h with h | h
    · split at h
      · rw [List.mem_singleton.mp h]
      · cases h
    · split at h
      · rw [List.mem_singleton.mp h]
      · cases h
theorem arcsE_nd (T : Ta) (p : Pl) (e : Ent) : (arcsE T p e).Nodup := by
  unfold arcsE
  split
  · exact List.nodup_nil
  · split
    · split
      · rename_i q
        refine List.nodup_cons.mpr ⟨fun h => ?_, List.pairwise_singleton _ _⟩
        have := congrArg Ar.t (List.mem_singleton.mp h)
        have : (-1 : Int) = e.2.2 := this
        omega
      · exact List.pairwise_singleton _ _
    · split
      · exact List.pairwise_singleton _ _
      · exact List.nodup_nil
theorem arcsE_len (T : Ta) (p : Pl) (e : Ent) : (arcsE T p e).length ≤ 2 := by
  unfold arcsE
  split
  · exact Nat.zero_le _
  · split <;> split <;> simp
theorem nodup_flat {α β : Type} {f : α → List β} : ∀ {l : List α}, (∀ x ∈ l, (f x).Nodup) → (l.Pairwise fun x y => ∀ a ∈ f x, a ∉ f y) → (l.flatMap f).Nodup
  | [], _, _ => List.nodup_nil
  | x :: l, h1, h2 => by
    obtain ⟨k1, k2⟩ := List.pairwise_cons.mp h2
    rw [List.flatMap_cons]
    refine List.nodup_append.mpr ⟨h1 x List.mem_cons_self, nodup_flat (fun y hy => h1 y (List.mem_cons_of_mem _ hy)) k2, fun a ha b hb e => ?_⟩
    obtain ⟨y, hy, hb⟩ := List.mem_flatMap.mp hb
    exact k1 y hy a ha (e ▸ hb)
theorem flat_len {α β : Type} {f : α → List β} {k : Nat} (h : ∀ x, (f x).length ≤ k) : ∀ l : List α, (l.flatMap f).length ≤ k * l.length
  | [] => Nat.zero_le _
  | x :: l => by
    have h1 := flat_len h l
    have h2 := h x
    rw [List.flatMap_cons, List.length_append, List.length_cons, Nat.mul_succ]
    omega
theorem arcsB_nd {T : Ta} {ys : List Str} (nd : ys.Nodup) (hy : ∀ z ∈ ys, 1 ≤ z.length) (p : Pl) : (arcsB T ys p).Nodup := by
  unfold arcsB entsOf
  refine nodup_flat (fun e _ => arcsE_nd T p e) ?_
  rw [List.pairwise_map]
  have nf : (ys.filter fun z => decide (preS z = p.u)).Nodup := nd.filter _
  refine List.Pairwise.imp_of_mem (fun {x y} hx hy' ne => ?_) nf
  intro a ha hb
  have e1 := arcsE_l ha
  have e2 := arcsE_l hb
  obtain ⟨x1, x2⟩ := List.mem_filter.mp hx
  obtain ⟨y1, y2⟩ := List.mem_filter.mp hy'
  refine ne ?_
  rw [← pre_last (hy x x1), ← pre_last (hy y y1), of_decide_eq_true x2, of_decide_eq_true y2]
  have : oneS (lastC x) = oneS (lastC y) := e1.symm.trans e2
  rw [this]
def ArcAt (H : Hp) (v : V) (a : Ar) : Prop := ∃ q r, v = .ref q ∧ H q = some (.tup [.str a.l, .ref r, .int a.t]) ∧ H r = some (.tup [.int (a.to.i : Nat), .int a.to.b, .str a.to.u])
theorem arcs_keep {H H' : Hp} (e : ∀ b xs, H b = some (.tup xs) → H' b = some (.tup xs)) : ∀ {vs : List V} {as : List Ar}, Paired (ArcAt H) vs as → Paired (ArcAt H') vs as
  | _, _, .nil => .nil
  | _, _, .cons ⟨q, r, h1, h2, h3⟩ t => .cons ⟨q, r, h1, e _ _ h2, e _ _ h3⟩ (arcs_keep e t)
theorem seq_via {t u : TS} {D : Ends} {σ : L2.St} {H : Hp} (I : L2.St → Hp → Prop) (h1 : ∀ C : L2.St → Hp → Prop, (∀ σ' H', I σ' H' → C σ' H') → t { D with nx := C } σ H) (h2 : ∀ σ' H', I σ' H' → u D σ' H') : tSeq t u D σ H := h1 _ h2
theorem arcs_bounds {T : Ta} (ok : T.Ok) {p : Pl} (h : T.In p) {ys : List Str} (nd : ys.Nodup) (hy : ∀ z, z ∈ ys ↔ Beg T.ts z) : ys.length ≤ 60 ∧ (arcsB T ys p).length ≤ 120 := by
  have sub : ∀ z ∈ ys, z ∈ (T.ts.flatMap fun t => (List.range t.length).map fun k => takeS t (k + 1)) := fun z hz => by
    obtain ⟨t, ht, k, hk, e⟩ := (hy z).mp hz
    exact List.mem_flatMap.mpr ⟨t, ht, List.mem_map.mpr ⟨k, List.mem_range.mpr hk, e.symm⟩⟩
  have l1 := nodup_len nd sub
  have l2 : ∀ l : List Str, (∀ z ∈ l, z.length ≤ 12) → (l.flatMap fun t => (List.range t.length).map fun k => takeS t (k + 1)).length ≤ 12 * l.length := fun l => by
    induction l with
    | nil => intro _; exact Nat.le_refl _
    | cons x l ih =>
      intro hl
      rw [List.flatMap_cons, List.length_append, List.length_map, List.length_range, List.length_cons]
      have := hl x List.mem_cons_self
      have := ih fun z hz => hl z (List.mem_cons_of_mem _ hz)
      omega
  have l3 := l2 T.ts fun z hz => (ok.len z hz).2
  have l4 := ok.few
  have l5 : ys.length ≤ 60 := by omega
  refine ⟨l5, ?_⟩
  have l6 := flat_len (arcsE_len T p) (entsOf T.ts ys p.u)
  have l7 : (entsOf T.ts ys p.u).length ≤ ys.length := by
    unfold entsOf
    rw [List.length_map]
    exact List.length_filter_le _ _
  unfold arcsB
  omega
def Ta.bk (T : Ta) : Bk := ⟨T.count, T.fin, T.tab⟩
theorem Ta.Ok.bk {T : Ta} (ok : T.Ok) : T.bk.Ok T.ts.length := ⟨by show 1 ≤ T.tab.length; rw [ok.tl]; exact ok.cnt, fun r hr => by
  obtain ⟨h1, h2⟩ := ok.row r hr
  refine ⟨h1, fun x hx => ?_⟩
  show -1 ≤ x ∧ x < (T.tab.length : Int)
  rw [ok.tl]
  exact h2 x hx⟩
theorem ents_get {H : Hp} : ∀ {vs : List V} {es : List Ent} {i : Nat} {v : V} {e : Ent}, Paired (EntAt H) vs es → vs[i]? = some v → es[i]? = some e → EntAt H v e
  | _, _, i, _, _, .nil, h, _ => by simp at h
  | _, _, 0, _, _, .cons h1 _, h, k => by
    rw [← Option.some.inj h, ← Option.some.inj k]
    exact h1
  | _, _, i + 1, _, _, .cons _ t, h, k => ents_get (i := i) t h k
section
variable {P : Program} {w : World} {K : PySem.W.Frag} {mg : Str → Option Value} {base : Heap}
def sp__arcs_from (K : PySem.W.Frag) : Sp := fun vs H Q _ => ∃ (pa W tb : Addr) (tv : List V) (T : Ta) (ys : List Str) (p : Pl), vs = [.ref pa, .ref W, .ref tb, .str T.g, .str (modeS T.hl)] ∧ H pa = some (.tup [.int (p.i : Nat), .int p.b, .str p.u]) ∧ WaysAt H W T.ts ys ∧ SqT K H tb tv ∧ Rows K H tv T.tab ∧
  T.Ok ∧ T.In p ∧ ys.Nodup ∧ (∀ z, z ∈ ys ↔ Beg T.ts z) ∧
  ∀ (L : Addr) (us : List V) (as : List Ar) H', Same H H' → H L = none → H' L = some (.lst us) → Paired (ArcAt H') us as → as.Nodup → (∀ a, a ∈ as ↔ IsArc T p a) → as.length ≤ 120 → Q (.ref L) H'
theorem ok__arcs_from (T : Tx K mg) : FnOk P w K mg base CX0 1 T.f__arcs_from T.d__arcs_from ["place", "ways", "table", "begun", "mode"] (sp__arcs_from K) := by
  refine T.F__arcs_from.ok sc__arcs_from (fun vs H Q E h => ?_) (fun cdv A outer s H vs Q E hr h => ?_)
  · obtain ⟨pa, W, tb, tv, T, ys, p, rfl, _⟩ := h; rfl
  · obtain ⟨pa, W, tb, tv, Ta, ys, p, rfl, hpa, hW, hT, hR, ok, hin, nd, hy, q⟩ := h
    refine ⟨_, (pss_cons (ps_asg (pv 0) (pg_tup (by rfl) (pgs_cons (pg_name (i := 5) sc__arcs_from.nd rfl (Or.inl rfl)) (pgs_cons (pg_name (i := 6) sc__arcs_from.nd rfl (Or.inl rfl)) (pgs_cons (pg_name (i := 7) sc__arcs_from.nd rfl (Or.inl rfl)) pgs_nil)))))
    (C8.pss_cut (ps_if (PW.pt (pw_and (pt_cmpR op_eq (pv 4) pe_str (nomark _)) (pw_and1 (pt_cmpR op_lt (pv 5) (pe_callB call_len_str (by rfl) T.n_len (by decide +kernel) (pa_cons (pv 3) pa_nil)) (nomark _))))) (pss_one (ps_ret (pe_lst (pa_cons (pe_tup (pa_cons (pe_ix ix_str (pv 3) (pv 5) (fun _ _ => rfl)) (pa_cons (pe_tup (pa_cons (pe_op op_add (pv 5) pe_int) (pa_cons pe_int (pa_cons pe_str pa_nil)))) (pa_cons (pe_un un_neg pe_int) pa_nil)))) pa_nil)))) pss_nil)
    (pss_cons (ps_set (i := 8) sc__arcs_from.nd rfl (Or.inl rfl) (pe_callB (call_min2 rfl) (by rfl) T.n_min (by decide +kernel) (pa_cons (pe_callB call_len_str (by rfl) T.n_len (by decide +kernel) (pa_cons (pv 3) pa_nil)) (pa_cons (pe_op op_add (pv 5) pe_int) pa_nil))))
    (pss_cons (ps_set (i := 9) sc__arcs_from.nd rfl (Or.inl rfl) (pe_lst pa_nil))
    (pss_cons (ps_for PassesOwn.never rfl (pi_list (pe_dget (hu_of hr) (pv 1) (pv 7) (fun _ _ => rfl))) (pg_tup (by rfl) (pgs_cons (pg_name (i := 10) sc__arcs_from.nd rfl (Or.inl rfl)) (pgs_cons (pg_name (i := 11) sc__arcs_from.nd rfl (Or.inl rfl)) (pgs_cons (pg_name (i := 12) sc__arcs_from.nd rfl (Or.inl rfl)) pgs_nil))))
    (C8.pss_cut (ps_if (PW.pt (pw_and (pt_cmpR op_lt (pv 5) (pe_callB call_len_str (by rfl) T.n_len (by decide +kernel) (pa_cons (pv 3) pa_nil)) (nomark _)) (pw_and1 (pt_cmpR op_ne (pv 10) (pe_ix ix_str (pv 3) (pv 5) (fun _ _ => rfl)) (nomark _))))) (pss_one ps_continue) pss_nil)
    (C8.pss_cut (ps_if (pt_val (pv 11)) (pss_one (ps_expr (pe_bm PySem.F.plainAttrs_list PySem.F.slot_list_append PySem.F.type_list_append mt_append (pv 9) (pa_cons (pe_tup (pa_cons (pv 10) (pa_cons (pe_tup (pa_cons (pv 8) (pa_cons (pv 6) (pa_cons (pe_op op_add_str (pv 7) (pv 10)) pa_nil)))) (pa_cons (pe_un un_neg pe_int) pa_nil)))) pa_nil)))) pss_nil)
    (pss_one (ps_if (PW.pt (pw_and (pt_cmpR op_ge (pv 12) pe_int (nomark _)) (pw_and1 (pt_cmpR op_ge (pe_ix ix_tup (pe_ix ix_tup (pv 2) (pv 6) (fun _ _ => rfl)) (pv 12) (fun _ _ => rfl)) pe_int (nomark _))))) (pss_one (ps_expr (pe_bm PySem.F.plainAttrs_list PySem.F.slot_list_append PySem.F.type_list_append mt_append (pv 9) (pa_cons (pe_tup (pa_cons (pv 10) (pa_cons (pe_tup (pa_cons (pv 8) (pa_cons (pe_ix ix_tup (pe_ix ix_tup (pv 2) (pv 6) (fun _ _ => rfl)) (pv 12) (fun _ _ => rfl)) (pa_cons pe_str pa_nil)))) (pa_cons (pv 12) pa_nil)))) pa_nil)))) pss_nil)))))
    (pss_one (ps_ret (pv 9)))))))), ?_⟩
    have bnd := arcs_bounds ok hin nd hy
    refine ⟨.ref pa, rfl, pa, _, rfl, .inl (.inl hpa), rfl, .int (p.i : Nat), _, rfl, .int p.b, _, rfl, .str p.u, _, rfl, rfl, ?_⟩
    have gl := ok.gl
    have yes : Ta.ahead p → ∀ c, Ta.g.cps.toList[p.i]? = some c → ∀ (L : Addr) (us : List V) H', Same H H' → H L = none → H' L = some (.lst us) → Paired (ArcAt H') us [⟨oneS c, ⟨p.i + 1, 0, ""⟩, -1⟩] → Q (.ref L) H' := fun ha c hc L us H' sm nL hL hp => by
      refine q L us _ H' sm nL hL hp (List.pairwise_singleton _ _) (fun a => ⟨fun h => ?_, fun h => ?_⟩) (by simp)
      · rw [List.mem_singleton.mp h]
        exact .ahead ha.1 hc
      · cases h with
        | ahead e1 e2 =>
          rw [hc] at e2
          rw [Option.some.inj e2]
          exact List.mem_cons_self
        | inner e1 => exact absurd ha e1
        | ends e1 => exact absurd ha e1
    refine ⟨fun σ' H' => H' = H ∧ ¬ Ta.ahead p ∧ σ' = [some (.ref pa), some (.ref W), some (.ref tb), some (.str Ta.g), some (.str (modeS Ta.hl)), some (.int (p.i : Nat)), some (.int p.b), some (.str p.u), none, none, none, none, none], ?_, fun σ' H1 h => ?_⟩
    · refine ⟨.str (modeS Ta.hl), rfl, rfl, _, rfl, ?_⟩
      rw [mode_eq]
      cases hh : Ta.hl with
      | true => exact if_ff ⟨rfl, fun z => (by rw [z.1] at hh; cases hh), rfl⟩
      | false =>
        refine if_tt ?_
        refine ⟨.int (p.i : Nat), rfl, .str Ta.g, rfl, Ta.g, rfl, small' (by omega), _, _, rfl, rfl, _, rfl, ite2 (fun z => ?_) (fun z => ?_)⟩
        · have lt : p.i < Ta.g.length := by have := of_decide_eq_true z; omega
          have ec : Ta.g.cps.toList[p.i]? = some (Ta.g.cps.toList[p.i]'(by rw [glen]; exact lt)) := List.getElem?_eq_getElem _
          generalize Ta.g.cps.toList[p.i]'(by rw [glen]; exact lt) = c at ec
          refine ⟨.str Ta.g, rfl, .int (p.i : Nat), rfl, Ta.g, (p.i : Nat), c, rfl, rfl, small' (by omega), atI_nat (j := p.i) ec, .int (p.i : Nat), rfl, _, _, rfl, rfl, small' (by simp), fun r nr => ?_⟩
          have sr := same_new (o := .tup [V.int ((p.i : Nat) + 1), V.int 0, V.str ""]) nr
          refine ⟨1, rfl, small' (by simp), fun r2 nr2 => ?_⟩
          have sr2 := same_new (o := .tup [V.str ⟨#[c]⟩, V.ref r, V.int (-1)]) nr2
          refine ⟨small' (by simp), fun L nL => ?_⟩
          have sL := same_new (o := .lst [V.ref r2]) nL
          exact yes ⟨hh, lt⟩ c ec L _ _ ((sr.trans sr2).trans sL) ((sr.trans sr2).free nL) upd_same (.cons ⟨r2, r, rfl, sL _ _ upd_same, sL _ _ (sr2 _ _ upd_same)⟩ .nil)
        · exact ⟨rfl, fun y => z (decide_eq_true (by have := y.2; omega)), rfl⟩
    obtain ⟨rfl, na, rfl⟩ := h
    have em : (if ((p.i : Nat) : Int) + 1 < ((Ta.g.length : Nat) : Int) then ((p.i : Nat) : Int) + 1 else ((Ta.g.length : Nat) : Int)) = ((afterG Ta p : Nat) : Int) := by
      unfold afterG
      split <;> omega
    refine ⟨.str Ta.g, rfl, Ta.g, rfl, small' (by omega), .int (p.i : Nat), rfl, _, _, rfl, rfl, _, _, rfl, ?_⟩
    rw [em]
    refine ⟨Nat.zero_le _, fun L nL => ?_⟩
    have sL := same_new (o := .lst []) nL
    have hL : (upd H1 L (.lst [])) L = some (.lst []) := upd_same
    obtain ⟨kvs, hW0, hways⟩ := hW
    obtain ⟨A, us, gA, hA, hE⟩ := hways p.u hin.2.2.2
    have gW := DGet.k (k := Sum.inr p.u) (sL _ _ hW0)
    rw [gA] at gW
    generalize upd H1 L (.lst []) = H2 at sL hL gW ⊢
    have le : us.length = (entsOf Ta.ts ys p.u).length := Paired.length hE
    refine ⟨.ref W, rfl, .str p.u, rfl, W, .ref A, rfl, gW, A, rfl, ⟨_, .inl (.inl (sL _ _ hA))⟩, ?_⟩
    refine for_list (K := K) (a := A) (xs := us) (fun i σ H' => ∃ (y10 y11 y12 : Option V) (vs : List V), σ = [some (.ref pa), some (.ref W), some (.ref tb), some (.str Ta.g), some (.str (modeS Ta.hl)), some (.int (p.i : Nat)), some (.int p.b), some (.str p.u), some (.int (afterG Ta p : Nat)), some (.ref L), y10, y11, y12] ∧ Same H1 H' ∧ H' L = some (.lst vs) ∧ Paired (ArcAt H') vs (((entsOf Ta.ts ys p.u).take i).flatMap (arcsE Ta p)))
      ⟨none, none, none, [], rfl, sL, hL, .nil⟩ (fun i σ H' _ h => ?_) (fun i x σ H' ex h => ?_) (fun σ H' h => ?_)
    · obtain ⟨_, _, _, _, _, s3, _⟩ := h
      exact .inl (.inl (s3 _ _ hA))
    · obtain ⟨y10, y11, y12, vs, rfl, s3, hL3, hP⟩ := h
      have lti := (List.getElem?_eq_some_iff.mp ex).1
      have ee : (entsOf Ta.ts ys p.u)[i]? = some ((entsOf Ta.ts ys p.u)[i]'(by omega)) := List.getElem?_eq_getElem _
      generalize (entsOf Ta.ts ys p.u)[i]'(by omega) = e at ee
      obtain ⟨q0, rfl, hq0⟩ := ents_get hE ex ee
      have lvs : vs.length ≤ 120 := by
        have h1 := Paired.length hP
        have h2 := flat_len (arcsE_len Ta p) ((entsOf Ta.ts ys p.u).take i)
        rw [List.length_take] at h2
        have h3 : (entsOf Ta.ts ys p.u).length ≤ ys.length := by
          unfold entsOf
          rw [List.length_map]
          exact List.length_filter_le _ _
        have := bnd.1
        omega
      have etk : ((entsOf Ta.ts ys p.u).take (i + 1)).flatMap (arcsE Ta p) = ((entsOf Ta.ts ys p.u).take i).flatMap (arcsE Ta p) ++ arcsE Ta p e := by
        rw [take_snoc ee, List.flatMap_append, List.flatMap_singleton]
      refine ⟨q0, _, rfl, .inl (.inl (s3 _ _ hq0)), rfl, .str e.1, _, rfl, .bl e.2.1, _, rfl, .int e.2.2, _, rfl, rfl, ?_⟩
      refine ⟨fun σ' H4 => H4 = H' ∧ ¬ (p.i < Ta.g.length ∧ e.1 ≠ oneS ((Ta.g.cps.toList[p.i]?).getD 0)) ∧ σ' = [some (.ref pa), some (.ref W), some (.ref tb), some (.str Ta.g), some (.str (modeS Ta.hl)), some (.int (p.i : Nat)), some (.int p.b), some (.str p.u), some (.int (afterG Ta p : Nat)), some (.ref L), some (.str e.1), some (.bl e.2.1), some (.int e.2.2)], ?_, fun σ' H4 h => ?_⟩
      · refine ⟨.int (p.i : Nat), rfl, .str Ta.g, rfl, Ta.g, rfl, small' (by omega), _, _, rfl, rfl, _, rfl, ite2 (fun z => ?_) (fun z => ?_)⟩
        · have lt : p.i < Ta.g.length := by have := of_decide_eq_true z; omega
          have ec : Ta.g.cps.toList[p.i]? = some (Ta.g.cps.toList[p.i]'(by rw [glen]; exact lt)) := List.getElem?_eq_getElem _
          generalize Ta.g.cps.toList[p.i]'(by rw [glen]; exact lt) = c at ec
          refine ⟨.str e.1, rfl, .str Ta.g, rfl, .int (p.i : Nat), rfl, Ta.g, (p.i : Nat), c, rfl, rfl, small' (by omega), atI_nat (j := p.i) ec, rfl, _, rfl, ?_⟩
          by_cases cc : e.1 = oneS c
          · have e1 : (V.str e.1 = V.str (⟨#[c]⟩ : Str)) := by rw [cc]; rfl
            rw [decide_eq_true e1]
            refine if_ff ⟨rfl, fun y => y.2 ?_, rfl⟩
            rw [ec]
            exact cc
          · have e1 : ¬ (V.str e.1 = V.str (⟨#[c]⟩ : Str)) := fun y => cc (V.str.inj y)
            rw [decide_eq_false e1]
            refine if_tt ⟨_, _, _, vs, rfl, s3, hL3, ?_⟩
            have ey : arcsE Ta p e = [] := by
              unfold arcsE
              rw [if_pos ⟨lt, by rw [ec]; exact cc⟩]
            rw [etk, ey, List.append_nil]
            exact hP
        · exact ⟨rfl, fun y => z (decide_eq_true (by have := y.1; omega)), rfl⟩
      obtain ⟨rfl, ns, rfl⟩ := h
      have ey : arcsE Ta p e = (if e.2.1 = true then [⟨e.1, ⟨afterG Ta p, p.b, p.u ++ e.1⟩, -1⟩] else []) ++ (if 0 ≤ e.2.2 ∧ 0 ≤ cellG Ta.tab p.b e.2.2 then [⟨e.1, ⟨afterG Ta p, cellG Ta.tab p.b e.2.2, ""⟩, e.2.2⟩] else []) := by
        unfold arcsE
        rw [if_neg ns]
      have he : ∃ z, e = entOf Ta.ts z := by
        obtain ⟨z, _, hz⟩ := List.mem_map.mp (List.mem_of_getElem? ee)
        exact ⟨z, hz.symm⟩
      have he1 : e.1.length = 1 := by
        obtain ⟨z, rfl⟩ := he
        rfl
      have hu : p.u.length ≤ 100 := by
        obtain ⟨t9, ht, k, hk, e9⟩ := hin.2.2.2
        rw [e9, takeS_len (by omega)]
        have := (ok.len _ ht).2
        omega
      refine ⟨fun σ' H5 => ∃ vs2, σ' = [some (.ref pa), some (.ref W), some (.ref tb), some (.str Ta.g), some (.str (modeS Ta.hl)), some (.int (p.i : Nat)), some (.int p.b), some (.str p.u), some (.int (afterG Ta p : Nat)), some (.ref L), some (.str e.1), some (.bl e.2.1), some (.int e.2.2)] ∧ Same H1 H5 ∧ H5 L = some (.lst vs2) ∧ vs2.length ≤ vs.length + 1 ∧
        Paired (ArcAt H5) vs2 (((entsOf Ta.ts ys p.u).take i).flatMap (arcsE Ta p) ++ (if e.2.1 = true then [⟨e.1, ⟨afterG Ta p, p.b, p.u ++ e.1⟩, -1⟩] else [])), ?_, fun σ' H5 h => ?_⟩
      · refine ⟨.bl e.2.1, rfl, e.2.1, rfl, ?_⟩
        cases hb : e.2.1 with
        | true =>
          refine if_tt ?_
          refine ⟨.ref L, rfl, .inl ⟨rfl, _, .inl (.inl hL3)⟩, .str e.1, rfl, .int (afterG Ta p : Nat), rfl, .int p.b, rfl, .str p.u, rfl, .str e.1, rfl, p.u, e.1, rfl, rfl, small' (by omega), small' (by simp), fun r nr => ?_⟩
          have sr := same_new (o := .tup [V.int (afterG Ta p : Nat), V.int p.b, V.str (p.u ++ e.1)]) nr
          have hr1 : (upd H4 r (.tup [V.int (afterG Ta p : Nat), V.int p.b, V.str (p.u ++ e.1)])) r = some (.tup [V.int (afterG Ta p : Nat), V.int p.b, V.str (p.u ++ e.1)]) := upd_same
          generalize upd H4 r (.tup [V.int (afterG Ta p : Nat), V.int p.b, V.str (p.u ++ e.1)]) = H5 at sr hr1 ⊢
          refine ⟨1, rfl, small' (by simp), fun r2 nr2 => ?_⟩
          have sr2 := same_new (o := .tup [V.str e.1, V.ref r, V.int (-1)]) nr2
          have hr2 : (upd H5 r2 (.tup [V.str e.1, V.ref r, V.int (-1)])) r2 = some (.tup [V.str e.1, V.ref r, V.int (-1)]) := upd_same
          generalize upd H5 r2 (.tup [V.str e.1, V.ref r, V.int (-1)]) = H6 at sr2 hr2 ⊢
          have hL6 := sr2 _ _ (sr _ _ hL3)
          refine ⟨L, vs, .ref r2, rfl, rfl, hL6, small (by omega), ?_⟩
          have kt : ∀ b xs, H6 b = some (.tup xs) → (upd H6 L (.lst (vs ++ [.ref r2]))) b = some (.tup xs) := fun b xs ex => tup_upd hL6 ex
          refine ⟨vs ++ [.ref r2], rfl, same_upd2 ((s3.trans sr).trans sr2) nL, upd_same, by rw [List.length_append]; exact Nat.le_refl _, ?_⟩
          rw [if_pos rfl]
          exact Paired.snoc (arcs_keep (fun b xs ex => kt _ _ (sr2 _ _ (sr _ _ ex))) hP) ⟨r2, r, rfl, kt _ _ hr2, kt _ _ (sr2 _ _ hr1)⟩
        | false =>
          refine if_ff ⟨vs, rfl, s3, hL3, Nat.le_succ _, ?_⟩
          rw [if_neg (by decide), List.append_nil]
          exact hP
      obtain ⟨vs2, rfl, s5, hL5, lv2, hP5⟩ := h
      have fin : ∀ H6 vs3, Same H1 H6 → H6 L = some (.lst vs3) → Paired (ArcAt H6) vs3 (((entsOf Ta.ts ys p.u).take i).flatMap (arcsE Ta p) ++ (if e.2.1 = true then [⟨e.1, ⟨afterG Ta p, p.b, p.u ++ e.1⟩, -1⟩] else []) ++ (if 0 ≤ e.2.2 ∧ 0 ≤ cellG Ta.tab p.b e.2.2 then [⟨e.1, ⟨afterG Ta p, cellG Ta.tab p.b e.2.2, ""⟩, e.2.2⟩] else [])) →
        ∃ (y10 y11 y12 : Option V) (vs : List V), ([some (.ref pa), some (.ref W), some (.ref tb), some (.str Ta.g), some (.str (modeS Ta.hl)), some (.int (p.i : Nat)), some (.int p.b), some (.str p.u), some (.int (afterG Ta p : Nat)), some (.ref L), some (.str e.1), some (.bl e.2.1), some (.int e.2.2)] : L2.St) = [some (.ref pa), some (.ref W), some (.ref tb), some (.str Ta.g), some (.str (modeS Ta.hl)), some (.int (p.i : Nat)), some (.int p.b), some (.str p.u), some (.int (afterG Ta p : Nat)), some (.ref L), y10, y11, y12] ∧ Same H1 H6 ∧ H6 L = some (.lst vs) ∧ Paired (ArcAt H6) vs (((entsOf Ta.ts ys p.u).take (i + 1)).flatMap (arcsE Ta p)) := fun H6 vs3 h1 h2 h3 => by
          refine ⟨_, _, _, vs3, rfl, h1, h2, ?_⟩
          rw [etk, ey, ← List.append_assoc]
          exact h3
      refine ⟨.int e.2.2, rfl, _, _, rfl, rfl, _, rfl, ite2 (fun z => ?_) (fun z => ?_)⟩
      · have z0 : 0 ≤ e.2.2 := of_decide_eq_true z
        obtain ⟨tn, etn, htn⟩ : ∃ t : Nat, e.2.2 = (t : Int) ∧ t < Ta.ts.length := by
          obtain ⟨zz, rfl⟩ := he
          obtain ⟨t, h1, h2⟩ := numAt_get zz _ (Nat.le_refl _) z0
          exact ⟨t, h1, (List.getElem?_eq_some_iff.mp h2).1⟩
        have btab := ok.tl
        obtain ⟨c1, c2, _, _⟩ := (ok.bk).cell (s := p.b) (t := e.2.2) hin.2.1 (by show p.b < (Ta.tab.length : Int); rw [btab]; exact hin.2.2.1) z0 (by omega)
        have c1 : Ta.tab[p.b.toNat]? = some (rowAt Ta.tab p.b) := c1
        have c2 : (rowAt Ta.tab p.b)[e.2.2.toNat]? = some (cellG Ta.tab p.b e.2.2) := c2
        obtain ⟨pn, epn, hpn⟩ := (hR.grow s5).get c1
        refine ⟨.ref tb, rfl, .int p.b, rfl, tb, tv, p.b, _, rfl, rfl, seqT_grow s5 hT, at_ref hin.2.1 epn, .int e.2.2, rfl, pn, _, e.2.2, _, rfl, rfl, hpn, at_map z0 c2, _, _, rfl, rfl, _, rfl, ite2 (fun y => ?_) (fun y => ?_)⟩
        · have y0 : 0 ≤ cellG Ta.tab p.b e.2.2 := of_decide_eq_true y
          refine ⟨.ref L, rfl, .inl ⟨rfl, _, .inl (.inl hL5)⟩, .str e.1, rfl, .int (afterG Ta p : Nat), rfl, .ref tb, rfl, .int p.b, rfl, tb, tv, p.b, _, rfl, rfl, seqT_grow s5 hT, at_ref hin.2.1 epn, .int e.2.2, rfl, pn, _, e.2.2, _, rfl, rfl, hpn, at_map z0 c2, small' (by simp), fun r nr => ?_⟩
          have sr := same_new (o := .tup [V.int (afterG Ta p : Nat), V.int (cellG Ta.tab p.b e.2.2), V.str ""]) nr
          have hr1 : (upd H5 r (.tup [V.int (afterG Ta p : Nat), V.int (cellG Ta.tab p.b e.2.2), V.str ""])) r = some (.tup [V.int (afterG Ta p : Nat), V.int (cellG Ta.tab p.b e.2.2), V.str ""]) := upd_same
          generalize upd H5 r (.tup [V.int (afterG Ta p : Nat), V.int (cellG Ta.tab p.b e.2.2), V.str ""]) = H6 at sr hr1 ⊢
          refine ⟨.int e.2.2, rfl, small' (by simp), fun r2 nr2 => ?_⟩
          have sr2 := same_new (o := .tup [V.str e.1, V.ref r, V.int e.2.2]) nr2
          have hr2 : (upd H6 r2 (.tup [V.str e.1, V.ref r, V.int e.2.2])) r2 = some (.tup [V.str e.1, V.ref r, V.int e.2.2]) := upd_same
          generalize upd H6 r2 (.tup [V.str e.1, V.ref r, V.int e.2.2]) = H7 at sr2 hr2 ⊢
          have hL7 := sr2 _ _ (sr _ _ hL5)
          refine ⟨L, vs2, .ref r2, rfl, rfl, hL7, small (by omega), ?_⟩
          have kt : ∀ b xs, H7 b = some (.tup xs) → (upd H7 L (.lst (vs2 ++ [.ref r2]))) b = some (.tup xs) := fun b xs ex => tup_upd hL7 ex
          refine fin _ (vs2 ++ [.ref r2]) (same_upd2 ((s5.trans sr).trans sr2) nL) upd_same ?_
          rw [if_pos (show 0 ≤ e.2.2 ∧ 0 ≤ cellG Ta.tab p.b e.2.2 from ⟨z0, y0⟩)]
          exact Paired.snoc (arcs_keep (fun b xs ex => kt _ _ (sr2 _ _ (sr _ _ ex))) hP5) ⟨r2, r, rfl, kt _ _ hr2, kt _ _ (sr2 _ _ hr1)⟩
        · refine fin H5 vs2 s5 hL5 ?_
          rw [if_neg (fun h : 0 ≤ e.2.2 ∧ 0 ≤ cellG Ta.tab p.b e.2.2 => y (decide_eq_true h.2)), List.append_nil]
          exact hP5
      · refine fin H5 vs2 s5 hL5 ?_
        rw [if_neg (fun h : 0 ≤ e.2.2 ∧ 0 ≤ cellG Ta.tab p.b e.2.2 => z (decide_eq_true h.1)), List.append_nil]
        exact hP5
    · obtain ⟨y10, y11, y12, vs, rfl, s3, hL3, hP⟩ := h
      rw [le, List.take_length] at hP
      refine ⟨.ref L, rfl, ?_⟩
      exact q L vs _ H' s3 nL hL3 hP (arcsB_nd nd (fun z hz => beg_len ((hy z).mp hz)) p) (fun a => arcsB_mem ok hy na a) bnd.2
end
end K5
set_option Elab.async false
set_option linter.all false
set_option maxRecDepth 100000
set_option maxHeartbeats 2000000
namespace Ver
open PySem PySem.Spec PyProof.Rows L2
def tDispT1 (tk tv : TE) : TE := fun σ H Q => ∀ p, H p = none → tk σ (upd H p (.dT [])) fun y H1 => tv σ H1 fun z H2 => PutT H2 p y z fun H' => Q (.ref p) H'
theorem pe_dispT1 {X : Cx} {pos : Pos} {k v : Expr} {tk tv : TE} (hu : X.A.units < cLine) (hk : PE X k tk) (hv : PE X v tv) : PE X (.Dict [some k] [v] pos) (tDispT1 tk tv) := by
  refine ⟨fun pins s σ H Q I q => ?_⟩
  have hn := I.hok.fresh (Nat.le_refl s.heap.objs.size)
  have I1 := I.laid (a := s.heap.objs.size) (o := .dT []) (h' := s.heap.push { cls := .type "dict", data := .dict #[] }) (t' := s.toks)
    (fun _ _ q => Heap.get?_push_of_some _ q) (Nat.le_refl _) (dt_empty s.heap I.big)
  refine wpAny_Dict_any rfl rfl (List.cons_ne_nil _ _) (by show 1 ≤ 15; decide) ?_
  refine pairTrees_cons_walk (thn (hk.run pins _ σ _ _ I1 (q _ hn)) fun u s1 ⟨y, H1, I1, ry, q1⟩ =>
    thn (hv.run pins s1 σ H1 _ I1 q1) fun r s2 ⟨z, H2, I2, rz, put⟩ => pairTrees_nil_walk ?_)
  unfold storeAll
  rw [List.forIn_cons]
  refine wpAny_bind (wpAny_bind (putT_set hu I2 put ry rz fun H' s' I' nx => ?_))
  refine wpAny_pure ?_
  show wpAny _ _ (forIn ([] : List (Value × Value)) PUnit.unit _) _ _ _
  rw [List.forIn_nil]
  exact wpAny_pure ⟨.ref s.heap.objs.size, _, I', rfl, nx⟩
end Ver
set_option Elab.async false
set_option linter.all false
set_option maxRecDepth 100000
set_option maxHeartbeats 2000000
namespace K5
open PySem PySem.Spec PyProof.Rows L2 Ver LamX
def plKey (p : Pl) : List L2.Key := [.inl (p.i : Int), .inl p.b, .inr p.u]
def plV (p : Pl) : List V := [.int (p.i : Nat), .int p.b, .str p.u]
theorem plKey_V (p : Pl) : (plKey p).map kV = plV p := rfl
theorem plKey_inj {p q : Pl} (h : plKey p = plKey q) : p = q := by
  obtain ⟨i, b, u⟩ := p
  obtain ⟨i', b', u'⟩ := q
  have h1 := (List.cons.inj h).1
  have h2 := (List.cons.inj (List.cons.inj h).2).1
  have h3 := (List.cons.inj (List.cons.inj (List.cons.inj h).2).2).1
  have e1 : (i : Int) = i' := Sum.inl.inj h1
  have e2 : b = b' := Sum.inl.inj h2
  have e3 : u = u' := Sum.inr.inj h3
  have e1' : i = i' := by omega
  subst e1' e2 e3
  rfl
def PlAt (H : Hp) (v : V) (p : Pl) : Prop := ∃ r, v = .ref r ∧ H r = some (.tup (plV p))
theorem pls_keep {H H' : Hp} (e : ∀ b xs, H b = some (.tup xs) → H' b = some (.tup xs)) : ∀ {vs : List V} {ps : List Pl}, Paired (PlAt H) vs ps → Paired (PlAt H') vs ps
  | _, _, .nil => .nil
  | _, _, .cons ⟨r, h1, h2⟩ t => .cons ⟨r, h1, e _ _ h2⟩ (pls_keep e t)
def DoneAt (H : Hp) (T : Ta) (N : List Pl) (Du : Addr) (kvs : List (List L2.Key × V)) (q : Pl) : Prop := ∃ l us as, valV kvs (plKey q) = some (.ref l) ∧ l ≠ Du ∧ H l = some (.lst us) ∧ Paired (ArcAt H) us as ∧ as.Nodup ∧ (∀ a, a ∈ as ↔ IsArc T q a) ∧ as.length ≤ 120 ∧ ∀ a ∈ as, a.to ∈ N
theorem DoneAt.mono {H H' : Hp} {T : Ta} {N N' : List Pl} {Du : Addr} {kvs kvs' : List (List L2.Key × V)} {q : Pl} (h : DoneAt H T N Du kvs q) (kl : ∀ b xs, b ≠ Du → H b = some (.lst xs) → H' b = some (.lst xs)) (kt : ∀ b xs, H b = some (.tup xs) → H' b = some (.tup xs))
    (kv : valV kvs' (plKey q) = valV kvs (plKey q)) (sub : ∀ p ∈ N, p ∈ N') : DoneAt H' T N' Du kvs' q := by
  obtain ⟨l, us, as, h1, h2, h3, h4, h5, h6, h7, h8⟩ := h
  exact ⟨l, us, as, by rw [kv]; exact h1, h2, kl _ _ h2 h3, arcs_keep kt h4, h5, h6, h7, fun a ha => sub _ (h8 a ha)⟩
def KnownAt (H : Hp) (D : Addr) (T : Ta) (L : List Pl) : Prop := ∃ kvs, H D = some (.dT kvs) ∧ kvs.map (·.1) = L.map plKey ∧ ∀ p ∈ L, ∃ l us as, valV kvs (plKey p) = some (.ref l) ∧ H l = some (.lst us) ∧ Paired (ArcAt H) us as ∧ as.Nodup ∧ (∀ a, a ∈ as ↔ IsArc T p a) ∧ as.length ≤ 120
theorem keys_none {kvs : List (List L2.Key × V)} {N : List Pl} (h : kvs.map (·.1) = N.map plKey) {p : Pl} : (valV kvs (plKey p)).isSome = decide (p ∈ N) := by
  induction kvs generalizing N with
  | nil =>
    cases N with
    | nil => rfl
    | cons q N => cases h
  | cons x kvs ih =>
    cases N with
    | nil => cases h
    | cons q N =>
      have h1 : x.1 = plKey q := (List.cons.inj h).1
      have h2 := ih (List.cons.inj h).2
      by_cases e : q = p
      · subst e
        rw [valV_pos h1, decide_eq_true List.mem_cons_self]
        rfl
      · have ne : ¬ x.1 = plKey p := fun z => e (plKey_inj (h1.symm.trans z))
        rw [valV_neg ne, h2]
        by_cases m : p ∈ N
        · rw [decide_eq_true m, decide_eq_true (List.mem_cons_of_mem _ m)]
        · rw [decide_eq_false m, decide_eq_false (fun z => (List.mem_cons.mp z).elim (fun y => e y.symm) m)]
theorem keys_put_old {kvs : List (List L2.Key × V)} {k : List L2.Key} {v : V} (h : (valV kvs k).isSome = true) : (putK kvs k v).map (·.1) = kvs.map (·.1) := by
  unfold putK
  rw [valV_any, if_pos h, List.map_map]
  refine List.map_congr_left fun x _ => ?_
  show (if x.1 = k then (x.1, v) else x).1 = x.1
  split <;> rfl
theorem snoc_split {α : Type} : ∀ {l : List α}, l ≠ [] → ∃ l' x, l = l' ++ [x]
  | l, h => ⟨_, _, (List.dropLast_concat_getLast h).symm⟩
theorem paired_snoc_inv {α β : Type} {R : α → β → Prop} : ∀ {as : List α} {bs : List β} {b : β}, Paired R as (bs ++ [b]) → ∃ as' a, as = as' ++ [a] ∧ Paired R as' bs ∧ R a b
  | _, [], b, .cons h .nil => ⟨[], _, rfl, .nil, h⟩
  | _, c :: bs, b, .cons h t => by
    obtain ⟨as', a, e, h1, h2⟩ := paired_snoc_inv t
    exact ⟨_ :: as', a, by rw [e]; rfl, .cons h h1, h2⟩
theorem rows_keep {K : PySem.W.Frag} {H H' : Hp} (e : ∀ b xs, H b = some (.tup xs) → H' b = some (.tup xs)) : ∀ {vs : List V} {rs : List (List Int)}, Rows K H vs rs → Rows K H' vs rs
  | _, _, .nil => .nil
  | _, _, .cons ⟨p, h1, h2⟩ t => .cons ⟨p, h1, e _ _ h2⟩ (rows_keep e t)
theorem nodup_sub_len {T : Ta} (ok : T.Ok) {N : List Pl} (nd : N.Nodup) (h : ∀ p ∈ N, Reach T p) : N.length ≤ T.most := few_places nd fun p hp => reach_in ok (h p hp)
theorem big {n : Nat} (h : n ≤ 10000000) : n < sizeLine := by rw [sizeLine_eq]; omega
theorem big' {n : Nat} (h : n ≤ 10000000) : n ≤ sizeLine := Nat.le_of_lt (big h)
theorem arcs_get {H : Hp} : ∀ {vs : List V} {es : List Ar} {i : Nat} {v : V} {e : Ar}, Paired (ArcAt H) vs es → vs[i]? = some v → es[i]? = some e → ArcAt H v e
  | _, _, i, _, _, .nil, h, _ => by simp at h
  | _, _, 0, _, _, .cons h1 _, h, k => by
    rw [← Option.some.inj h, ← Option.some.inj k]
    exact h1
  | _, _, i + 1, _, _, .cons _ t, h, k => arcs_get (i := i) t h k
section
variable {P : Program} {w : World} {K : PySem.W.Frag} {mg : Str → Option Value} {base : Heap}
def sp__places_and_arcs (K : PySem.W.Frag) (TS : List (Addr × Str)) : Sp := fun vs H Q _ => ∃ (t a : Addr) (T : Ta), vs = [.ref t, .ref a, .str T.g, .str (modeS T.hl)] ∧ SqT K H t (T.ts.map V.str) ∧ BkAt K H a T.bk ∧ T.Ok ∧ T.most ≤ 20000 ∧ Tabs TS H ∧
  ∀ (H2 : Hp) (D : Addr) (L : List Pl), ExtN H H2 → Tabs TS H2 → L.Nodup → (∀ p, p ∈ L ↔ Reach T p) → KnownAt H2 D T L → Q (.ref D) H2
theorem ok__places_and_arcs {cc cP cd cS : Addr} (T : Tx K mg) (TB : Tb T base cc cP cd cS) : FnOk P w K mg base CX0 4 T.f__places_and_arcs T.d__places_and_arcs ["tokens", "book", "begun", "mode"] (sp__places_and_arcs K (TT cP cS)) := by
  refine T.F__places_and_arcs.ok sc__places_and_arcs (fun vs H Q E h => ?_) (fun cdv A outer s H vs Q E hr h => ?_)
  · obtain ⟨t, a, T, rfl, _⟩ := h; rfl
  · obtain ⟨t, a, Ta, rfl, hT, hB, ok, hm, hTb, q⟩ := h
    refine ⟨_, (pss_cons (ps_set (i := 4) sc__places_and_arcs.nd rfl (Or.inl rfl) (pe_call (ok_spelled_on T TB) hr rfl T.g_spelled_on T.F_spelled_on.kp T.b_spelled_on .nil pass0 (pa_cons (pv 0) pa_nil)))
    (pss_cons (ps_set (i := 5) sc__places_and_arcs.nd rfl (Or.inl rfl) (pe_tup (pa_cons pe_int (pa_cons pe_int (pa_cons pe_str pa_nil)))))
    (pss_cons (ps_set (i := 6) sc__places_and_arcs.nd rfl (Or.inl rfl) (pe_dispT1 (Nat.lt_of_succ_lt (hu_of hr)) (pv 5) (pe_lst pa_nil)))
    (pss_cons (ps_set (i := 7) sc__places_and_arcs.nd rfl (Or.inl rfl) (pe_lst (pa_cons (pv 5) pa_nil)))
    (pss_cons (ps_while PassesOwn.never (pt_cmpR op_gt (pe_callB call_len_seq (by rfl) T.n_len (by decide +kernel) (pa_cons (pv 7) pa_nil)) pe_int (nomark _))
    (pss_cons (ps_set (i := 8) sc__places_and_arcs.nd rfl (Or.inl rfl) (pe_bm0 PySem.F.plainAttrs_list PySem.F.slot_list_pop PySem.F.type_list_pop mt_pop (pv 7)))
    (pss_cons (ps_set (i := 9) sc__places_and_arcs.nd rfl (Or.inl rfl) (pe_call (ok__arcs_from T) (hr.mono (by decide)) rfl T.g__arcs_from T.F__arcs_from.kp T.b__arcs_from .nil pass0 (pa_cons (pv 8) (pa_cons (pv 4) (pa_cons (pe_ix ix_tup (pv 1) pe_int (fun _ _ => rfl)) (pa_cons (pv 2) (pa_cons (pv 3) pa_nil)))))))
    (pss_cons (ps_dput (hu_of hr) (pv 6) (pv 8) (pv 9) rfl)
    (pss_one (ps_for PassesOwn.never rfl (pi_list (pv 9)) (pg_name (i := 10) sc__places_and_arcs.nd rfl (Or.inl rfl))
    (pss_cons (ps_set (i := 11) sc__places_and_arcs.nd rfl (Or.inl rfl) (pe_ix ix_tup (pv 10) pe_int (fun _ _ => rfl)))
    (pss_one (ps_if (pt_cmp (pc_dnotin (hu_of hr) (pv 11) (pv 6)) (by rfl)) (pss_cons (ps_dput (hu_of hr) (pv 6) (pv 11) (pe_lst pa_nil) rfl)
    (pss_one (ps_expr (pe_bm PySem.F.plainAttrs_list PySem.F.slot_list_append PySem.F.type_list_append mt_append (pv 7) (pa_cons (pv 11) pa_nil))))) pss_nil)))))))))
    (pss_one (ps_ret (pv 6)))))))), ?_⟩
    refine ⟨.ref t, rfl, t, Ta.ts, rfl, hT, Nat.le_trans ok.few (by decide), fun z hz => (ok.len z hz).2, hTb, fun H1 ys W e1 t1 nd hy hW => ?_⟩
    have hB1 : BkAt K H1 a Ta.bk := by
      obtain ⟨f, t, tv, h1, h2, h3, h4⟩ := hB
      exact ⟨f, t, tv, seqT_ext e1 h1, seqT_ext e1 h2, seqT_ext e1 h3, rows_keep (fun b xs e => e1 _ _ e fun ps z => by cases z) h4⟩
    obtain ⟨fp, tb, tv, k1, k2, k3, k4⟩ := hB1
    refine ⟨small' (by simp), fun sp nsp => ?_⟩
    have sS := same_new (o := .tup [V.int 0, V.int 0, V.str ""]) nsp
    have hS : (upd H1 sp (.tup [V.int 0, V.int 0, V.str ""])) sp = some (.tup (plV ⟨0, 0, ""⟩)) := upd_same
    generalize upd H1 sp (.tup [V.int 0, V.int 0, V.str ""]) = H2 at sS hS ⊢
    refine fun D nD => ?_
    have sD := same_new (o := .dT []) nD
    have hD : (upd H2 D (.dT [])) D = some (.dT []) := upd_same
    have nDH : H1 D = none := sS.free nD
    generalize upd H2 D (.dT []) = H3 at sD hD ⊢
    refine ⟨.ref sp, rfl, Nat.zero_le _, fun l0 nl0 => ?_⟩
    have sl := same_new (o := .lst []) nl0
    have hl0 : (upd H3 l0 (.lst [])) l0 = some (.lst []) := upd_same
    have hD4 := sl _ _ hD
    have hS4 := sl _ _ (sD _ _ hS)
    generalize upd H3 l0 (.lst []) = H4 at sl hl0 hD4 hS4 ⊢
    have s14 := (sS.trans sD).trans sl
    refine ⟨[], plKey ⟨0, 0, ""⟩, sp, rfl, hS4, hD4, (by show 0 < sizeLine; decide), ?_⟩
    have s15 : Same H1 (upd H4 D (.dT (putK [] (plKey ⟨0, 0, ""⟩) (.ref l0)))) := same_upd2 s14 nDH
    have hD5 : (upd H4 D (.dT (putK [] (plKey ⟨0, 0, ""⟩) (.ref l0)))) D = some (.dT [(plKey ⟨0, 0, ""⟩, .ref l0)]) := upd_same
    have hS5 : (upd H4 D (.dT (putK [] (plKey ⟨0, 0, ""⟩) (.ref l0)))) sp = some (.tup (plV ⟨0, 0, ""⟩)) := by
      rw [upd_ne (fun e => by rw [e, hD4] at hS4; cases hS4)]
      exact hS4
    generalize upd H4 D (.dT (putK [] (plKey ⟨0, 0, ""⟩) (.ref l0))) = H5 at s15 hD5 hS5 ⊢
    refine ⟨.ref sp, rfl, small' (by simp), fun Du nDu => ?_⟩
    have sDu := same_new (o := .lst [V.ref sp]) nDu
    have hDu : (upd H5 Du (.lst [V.ref sp])) Du = some (.lst [V.ref sp]) := upd_same
    have nDuH : H1 Du = none := s15.free nDu
    have DDu : D ≠ Du := fun e => by rw [e, nDu] at hD5; cases hD5
    have hD6 := sDu _ _ hD5
    have hS6 := sDu _ _ hS5
    have s16 := s15.trans sDu
    generalize upd H5 Du (.lst [V.ref sp]) = H6 at sDu hDu hD6 hS6 s16 ⊢
    refine ⟨fun m σ H' => ∃ (N Dl : List Pl) (kvs : List (List L2.Key × V)) (vd : List V) (y8 y9 y10 y11 : Option V), σ = [some (.ref t), some (.ref a), some (.str Ta.g), some (.str (modeS Ta.hl)), some (.ref W), some (.ref sp), some (.ref D), some (.ref Du), y8, y9, y10, y11] ∧ Same H1 H' ∧ H' D = some (.dT kvs) ∧ kvs.map (·.1) = N.map plKey ∧ N.Nodup ∧ (∀ p ∈ N, Reach Ta p) ∧ (⟨0, 0, ""⟩ : Pl) ∈ N ∧
      H' Du = some (.lst vd) ∧ Paired (PlAt H') vd Dl ∧ Dl.Nodup ∧ (∀ p ∈ Dl, p ∈ N) ∧ (∀ p ∈ N, p ∉ Dl → DoneAt H' Ta N Du kvs p) ∧ m = 2 * (Ta.most - N.length) + Dl.length,
      ⟨_, [⟨0, 0, ""⟩], [⟨0, 0, ""⟩], _, _, none, none, none, none, rfl, s16, hD6, rfl, List.pairwise_singleton _ _, fun p hp => by rw [List.mem_singleton.mp hp]; exact .start, List.mem_cons_self, hDu, .cons ⟨sp, rfl, hS6⟩ .nil, List.pairwise_singleton _ _, fun p hp => hp, fun p hp np => absurd hp np, rfl⟩, fun m σ H' h => ?_⟩
    obtain ⟨N, Dl, kvs, vd, y8, y9, y10, y11, rfl, s7, hD7, ek, ndN, hN, hst, hDu7, hP, ndD, subD, hdone, rfl⟩ := h
    refine ⟨.ref Du, rfl, Du, _, rfl, .inl (.inl (.inl hDu7)), _, _, rfl, rfl, _, rfl, ite2 (fun z => ?_) (fun z => ?_)⟩
    · -- one more place
      have ne : Dl ≠ [] := fun e => by
        have h1 := of_decide_eq_true z
        have h2 := Paired.length hP
        rw [e] at h2
        have h3 : vd.length = 0 := h2
        rw [h3] at h1
        exact absurd h1 (by decide)
      obtain ⟨Dl1, p, rfl⟩ := snoc_split ne
      obtain ⟨vd1, v, rfl, hP1, hv⟩ := paired_snoc_inv hP
      obtain ⟨pa, rfl, hpa⟩ := hv
      obtain ⟨nd1, _, nd3⟩ := List.nodup_append.mp ndD
      have pN : p ∈ N := subD p (List.mem_append_right _ List.mem_cons_self)
      have pnD : p ∉ Dl1 := fun h => nd3 p h p List.mem_cons_self rfl
      have lN := nodup_sub_len ok ndN hN
      refine ⟨fun σ' H2 => ∃ (N2 Dl2 : List Pl) (kvs : List (List L2.Key × V)) (vd : List V) (y8 y9 y10 y11 : Option V), σ' = [some (.ref t), some (.ref a), some (.str Ta.g), some (.str (modeS Ta.hl)), some (.ref W), some (.ref sp), some (.ref D), some (.ref Du), y8, y9, y10, y11] ∧ Same H1 H2 ∧ H2 D = some (.dT kvs) ∧ kvs.map (·.1) = N2.map plKey ∧ N2.Nodup ∧ (∀ p ∈ N2, Reach Ta p) ∧ (⟨0, 0, ""⟩ : Pl) ∈ N2 ∧
        H2 Du = some (.lst vd) ∧ Paired (PlAt H2) vd Dl2 ∧ Dl2.Nodup ∧ (∀ p ∈ Dl2, p ∈ N2) ∧ (∀ p ∈ N2, p ∉ Dl2 → DoneAt H2 Ta N2 Du kvs p) ∧ Dl2.length + N.length = Dl1.length + N2.length ∧ N.length ≤ N2.length, fun σ' H2 ⟨N2, Dl2, kvs, vd, y8, y9, y10, y11, e, a1, a2, a3, a4, a5, a6, a7, a8, a9, a10, a11, a12, a13⟩ => ?_, ?_⟩
      · have l2 := nodup_sub_len ok a4 a5
        exact ⟨2 * (Ta.most - N2.length) + Dl2.length, by rw [List.length_append]; simp only [List.length_singleton]; omega, N2, Dl2, kvs, vd, y8, y9, y10, y11, e, a1, a2, a3, a4, a5, a6, a7, a8, a9, a10, a11, rfl⟩
      refine ⟨.ref Du, rfl, .inl ⟨rfl, _, .inl (.inl hDu7)⟩, Du, _, .ref pa, rfl, rfl, hDu7, by rw [List.length_append, List.length_singleton, Nat.add_sub_cancel, List.getElem?_append_right (Nat.le_refl _), Nat.sub_self]; rfl, ?_⟩
      rw [List.dropLast_concat]
      have sP : Same H1 (upd H' Du (.lst vd1)) := same_upd2 s7 nDuH
      have hDu8 : (upd H' Du (.lst vd1)) Du = some (.lst vd1) := upd_same
      have hD8 : (upd H' Du (.lst vd1)) D = some (.dT kvs) := by rw [upd_ne DDu]; exact hD7
      have kt8 : ∀ b xs, H' b = some (.tup xs) → (upd H' Du (.lst vd1)) b = some (.tup xs) := fun b xs e => tup_upd hDu7 e
      have kl8 : ∀ b xs, b ≠ Du → H' b = some (.lst xs) → (upd H' Du (.lst vd1)) b = some (.lst xs) := fun b xs nb e => by rw [upd_ne nb]; exact e
      generalize upd H' Du (.lst vd1) = H8 at sP hDu8 hD8 kt8 kl8 ⊢
      have hpa8 := kt8 _ _ hpa
      have hWP : WaysAt H8 W Ta.ts ys := by
        obtain ⟨kw, w1, w2⟩ := hW
        refine ⟨kw, sP _ _ w1, fun u hu => ?_⟩
        obtain ⟨A, us, x1, x2, x3⟩ := w2 u hu
        exact ⟨A, us, x1, sP _ _ x2, ents_keep (fun b xs e => sP _ _ e) x3⟩
      refine ⟨.ref pa, rfl, .ref W, rfl, .ref a, rfl, a, _, 2, .ref tb, rfl, rfl, seqT_grow sP k1, rfl, .str Ta.g, rfl, .str (modeS Ta.hl), rfl, pa, W, tb, tv, Ta, ys, p, rfl, hpa8, hWP, seqT_grow sP k3, k4.grow sP, ok, reach_in ok (hN p pN), nd, hy, fun L0 us as H9 s9 nL0 hL0 hAs ndA memA lA => ?_⟩
      have hDu9 := s9 _ _ hDu8
      have hD9 := s9 _ _ hD8
      have hpa9 := s9 _ _ hpa8
      have L0D : L0 ≠ D := fun e => by rw [e, hD9] at hL0; cases hL0
      have L0Du : L0 ≠ Du := fun e => by rw [e, hDu8] at nL0; cases nL0
      have s19 := sP.trans s9
      have someP : (valV kvs (plKey p)).isSome = true := (keys_none ek).trans (decide_eq_true pN)
      have lkv : kvs.length = N.length := by have := congrArg List.length ek; rw [List.length_map, List.length_map] at this; exact this
      refine ⟨.ref L0, rfl, .ref D, rfl, .ref pa, rfl, D, _, rfl, DPut.t (k := plKey p) hD9 hpa9 (big (by omega)), ?_⟩
      have hD10 : (upd H9 D (.dT (putK kvs (plKey p) (.ref L0)))) D = some (.dT (putK kvs (plKey p) (.ref L0))) := upd_same
      have s110 : Same H1 (upd H9 D (.dT (putK kvs (plKey p) (.ref L0)))) := same_upd2 s19 nDH
      have hDu10 : (upd H9 D (.dT (putK kvs (plKey p) (.ref L0)))) Du = some (.lst vd1) := by rw [upd_ne (Ne.symm DDu)]; exact hDu9
      have kt10 : ∀ b xs, H9 b = some (.tup xs) → (upd H9 D (.dT (putK kvs (plKey p) (.ref L0)))) b = some (.tup xs) := fun b xs e => by rw [upd_ne (fun q => by rw [q, hD9] at e; cases e)]; exact e
      have kl10 : ∀ b xs, H9 b = some (.lst xs) → (upd H9 D (.dT (putK kvs (plKey p) (.ref L0)))) b = some (.lst xs) := fun b xs e => by rw [upd_ne (fun q => by rw [q, hD9] at e; cases e)]; exact e
      generalize upd H9 D (.dT (putK kvs (plKey p) (.ref L0))) = H10 at hD10 s110 hDu10 kt10 kl10 ⊢
      have hL10 := kl10 _ _ hL0
      have hAs10 := arcs_keep kt10 hAs
      have ek1 : (putK kvs (plKey p) (.ref L0)).map (·.1) = N.map plKey := (keys_put_old someP).trans ek
      have hP10 : Paired (PlAt H10) vd1 Dl1 := pls_keep (fun b xs e => kt10 _ _ (s9 _ _ (kt8 _ _ e))) hP1
      have lus : us.length = as.length := Paired.length hAs
      refine ⟨.ref L0, rfl, L0, rfl, ⟨_, .inl (.inl hL10)⟩, ?_⟩
      refine for_list (K := K) (a := L0) (xs := us) (fun j σ H' => ∃ (N2 Dl2 : List Pl) (kvs : List (List L2.Key × V)) (vd : List V) (y10 y11 : Option V), σ = [some (.ref t), some (.ref a), some (.str Ta.g), some (.str (modeS Ta.hl)), some (.ref W), some (.ref sp), some (.ref D), some (.ref Du), some (.ref pa), some (.ref L0), y10, y11] ∧ Same H1 H' ∧ H' D = some (.dT kvs) ∧ kvs.map (·.1) = N2.map plKey ∧ N2.Nodup ∧ (∀ p ∈ N2, Reach Ta p) ∧ (∀ p ∈ N, p ∈ N2) ∧
        H' Du = some (.lst vd) ∧ Paired (PlAt H') vd Dl2 ∧ Dl2.Nodup ∧ (∀ p ∈ Dl2, p ∈ N2) ∧ p ∉ Dl2 ∧ (∀ r ∈ N2, r ∉ Dl2 → r ≠ p → DoneAt H' Ta N2 Du kvs r) ∧ valV kvs (plKey p) = some (.ref L0) ∧ H' L0 = some (.lst us) ∧ Paired (ArcAt H') us as ∧ (∀ a ∈ as.take j, a.to ∈ N2) ∧ Dl2.length + N.length = Dl1.length + N2.length ∧ N.length ≤ N2.length)
        ⟨N, Dl1, _, _, y10, y11, rfl, s110, hD10, ek1, ndN, hN, fun p hp => hp, hDu10, hP10, nd1, fun p hp => subD p (List.mem_append_left _ hp), pnD, fun r hr nr np => ?_, by rw [valV_put, if_pos rfl], hL10, hAs10, (fun a ha => by rw [List.take_zero] at ha; cases ha), rfl, Nat.le_refl _⟩ (fun j σ H' _ h => ?_) (fun j x σ H' ex h => ?_) (fun σ H' h => ?_)
      · refine (hdone r hr (fun h => ?_)).mono (fun b xs nb e => kl10 _ _ (s9 _ _ (kl8 _ _ nb e))) (fun b xs e => kt10 _ _ (s9 _ _ (kt8 _ _ e))) ?_ (fun _ h => h)
        · rcases List.mem_append.mp h with h | h
          · exact nr h
          · exact np (List.mem_singleton.mp h)
        · rw [valV_put, if_neg (fun e => np (plKey_inj e))]
      · obtain ⟨_, _, _, _, _, _, _, _, _, _, _, _, _, _, _, _, _, _, _, _, hL', _⟩ := h
        exact .inl (.inl hL')
      · obtain ⟨N2, Dl2, kvs2, vd2, y10, y11, rfl, b1, b2, b3, b4, b5, b6, b7, b8, b9, b10, b11, b12, b13, b14, b15, b16, b17, b18⟩ := h
        have ltj := (List.getElem?_eq_some_iff.mp ex).1
        have ea : as[j]? = some (as[j]'(by omega)) := List.getElem?_eq_getElem _
        generalize as[j]'(by omega) = ar at ea
        obtain ⟨q0, r0, rfl, hq0, hr0⟩ := arcs_get b15 ex ea
        have marc : IsArc Ta p ar := (memA ar).mp (List.mem_of_getElem? ea)
        have l2N := nodup_sub_len ok b4 b5
        have lkv2 : kvs2.length = N2.length := by have := congrArg List.length b3; rw [List.length_map, List.length_map] at this; exact this
        refine ⟨.ref q0, rfl, q0, _, 1, .ref r0, rfl, rfl, .inl (.inl hq0), rfl, ?_⟩
        have gD := DGet.t (k := plKey ar.to) b2 hr0
        refine ⟨.ref r0, rfl, .ref D, rfl, D, _, rfl, gD, _, rfl, ?_⟩
        rw [keys_none b3]
        by_cases c : ar.to ∈ N2
        · rw [decide_eq_true c]
          refine if_ff ⟨N2, Dl2, kvs2, vd2, _, _, rfl, b1, b2, b3, b4, b5, b6, b7, b8, b9, b10, b11, b12, b13, b14, b15, fun a ha => ?_, b17, b18⟩
          rw [take_snoc ea] at ha
          rcases List.mem_append.mp ha with ha | ha
          · exact b16 a ha
          · rw [List.mem_singleton.mp ha]; exact c
        · rw [decide_eq_false c]
          refine if_tt ?_
          refine ⟨Nat.zero_le _, fun l1 nl1 => ?_⟩
          have s1 := same_new (o := .lst []) nl1
          generalize upd H' l1 (.lst []) = H11 at s1 ⊢
          have d11 := s1 _ _ b2
          have r11 := s1 _ _ hr0
          have noneT : valV kvs2 (plKey ar.to) = none := none_of_isSome ((keys_none b3).trans (decide_eq_false c))
          refine ⟨.ref D, rfl, .ref r0, rfl, D, _, rfl, DPut.t (k := plKey ar.to) d11 r11 (big (by omega)), ?_⟩
          rw [putK_new _ noneT]
          have hD12 : (upd H11 D (.dT (kvs2 ++ [(plKey ar.to, .ref l1)]))) D = some (.dT (kvs2 ++ [(plKey ar.to, .ref l1)])) := upd_same
          have s112 : Same H1 (upd H11 D (.dT (kvs2 ++ [(plKey ar.to, .ref l1)]))) := same_upd2 (b1.trans s1) nDH
          have hDu12 : (upd H11 D (.dT (kvs2 ++ [(plKey ar.to, .ref l1)]))) Du = some (.lst vd2) := by rw [upd_ne (Ne.symm DDu)]; exact s1 _ _ b7
          have kt12 : ∀ b xs, H11 b = some (.tup xs) → (upd H11 D (.dT (kvs2 ++ [(plKey ar.to, .ref l1)]))) b = some (.tup xs) := fun b xs e => by rw [upd_ne (fun q => by rw [q, d11] at e; cases e)]; exact e
          have kl12 : ∀ b xs, H11 b = some (.lst xs) → (upd H11 D (.dT (kvs2 ++ [(plKey ar.to, .ref l1)]))) b = some (.lst xs) := fun b xs e => by rw [upd_ne (fun q => by rw [q, d11] at e; cases e)]; exact e
          generalize upd H11 D (.dT (kvs2 ++ [(plKey ar.to, .ref l1)])) = H12 at hD12 s112 hDu12 kt12 kl12 ⊢
          have lvd : vd2.length = Dl2.length := Paired.length b8
          have lD2 := nodup_sub_len ok b9 (fun p hp => b5 p (b10 p hp))
          refine ⟨.ref Du, rfl, .inl ⟨rfl, _, .inl (.inl hDu12)⟩, .ref r0, rfl, Du, _, _, rfl, rfl, hDu12, big (by omega), ?_⟩
          have hDu13 : (upd H12 Du (.lst (vd2 ++ [.ref r0]))) Du = some (.lst (vd2 ++ [.ref r0])) := upd_same
          have hD13 : (upd H12 Du (.lst (vd2 ++ [.ref r0]))) D = some (.dT (kvs2 ++ [(plKey ar.to, .ref l1)])) := by rw [upd_ne DDu]; exact hD12
          have s113 : Same H1 (upd H12 Du (.lst (vd2 ++ [.ref r0]))) := same_upd2 s112 nDuH
          have kt13 : ∀ b xs, H' b = some (.tup xs) → (upd H12 Du (.lst (vd2 ++ [.ref r0]))) b = some (.tup xs) := fun b xs e => tup_upd hDu12 (kt12 _ _ (s1 _ _ e))
          have kl13 : ∀ b xs, b ≠ Du → H' b = some (.lst xs) → (upd H12 Du (.lst (vd2 ++ [.ref r0]))) b = some (.lst xs) := fun b xs nb e => by rw [upd_ne nb]; exact kl12 _ _ (s1 _ _ e)
          have sn : ∀ q ∈ N2, q ∈ N2 ++ [ar.to] := fun q hq => List.mem_append_left _ hq
          have kv13 : ∀ q ∈ N2, valV (kvs2 ++ [(plKey ar.to, .ref l1)]) (plKey q) = valV kvs2 (plKey q) := fun q hq => by
            rw [valV_snoc _ _ _ _ noneT, if_neg (fun e => c (by rw [← plKey_inj e]; exact hq))]
          refine ⟨N2 ++ [ar.to], Dl2 ++ [ar.to], _, _, _, _, rfl, s113, hD13, ?_, ?_, ?_, fun q hq => sn q (b6 q hq), hDu13, ?_, ?_, ?_, ?_, ?_, ?_, ?_, arcs_keep kt13 b15, ?_, ?_, ?_⟩
          · rw [List.map_append, List.map_append, b3]; rfl
          · exact List.nodup_append.mpr ⟨b4, List.pairwise_singleton _ _, fun x hx y hy e => c (by rw [← List.mem_singleton.mp hy, ← e]; exact hx)⟩
          · intro q hq
            rcases List.mem_append.mp hq with hq | hq
            · exact b5 q hq
            · rw [List.mem_singleton.mp hq]; exact .step (hN p pN) marc
          · exact Paired.snoc (pls_keep kt13 b8) ⟨r0, rfl, kt13 _ _ hr0⟩
          · exact List.nodup_append.mpr ⟨b9, List.pairwise_singleton _ _, fun x hx y hy e => c (by rw [← List.mem_singleton.mp hy, ← e]; exact b10 x hx)⟩
          · intro q hq
            rcases List.mem_append.mp hq with hq | hq
            · exact sn q (b10 q hq)
            · exact List.mem_append_right _ hq
          · intro h
            rcases List.mem_append.mp h with h | h
            · exact b11 h
            · exact c (by rw [← List.mem_singleton.mp h]; exact b6 p pN)
          · intro r hr nr np
            rcases List.mem_append.mp hr with hr2 | hr2
            · exact (b12 r hr2 (fun h => nr (List.mem_append_left _ h)) np).mono kl13 kt13 (kv13 r hr2) sn
            · exact absurd (List.mem_append_right _ hr2) nr
          · rw [kv13 p (b6 p pN)]; exact b13
          · exact kl13 _ _ L0Du b14
          · intro a ha
            rw [take_snoc ea] at ha
            rcases List.mem_append.mp ha with ha | ha
            · exact sn _ (b16 a ha)
            · rw [List.mem_singleton.mp ha]; exact List.mem_append_right _ List.mem_cons_self
          · rw [List.length_append, List.length_append, List.length_singleton]; omega
          · rw [List.length_append]; omega
      · obtain ⟨N2, Dl2, kvs2, vd2, y10, y11, rfl, b1, b2, b3, b4, b5, b6, b7, b8, b9, b10, b11, b12, b13, b14, b15, b16, b17, b18⟩ := h
        rw [lus, List.take_length] at b16
        refine ⟨N2, Dl2, kvs2, vd2, _, _, _, _, rfl, b1, b2, b3, b4, b5, b6 _ hst, b7, b8, b9, b10, fun r hr nr => ?_, b17, b18⟩
        by_cases c : r = p
        · subst c
          exact ⟨L0, us, as, b13, L0Du, b14, b15, ndA, memA, lA, b16⟩
        · exact b12 r hr nr c
    · -- none is due
      have e0 : Dl = [] := by
        have h2 := Paired.length hP
        have h3 : ¬ ((vd.length : Nat) : Int) > 0 := fun h => z (decide_eq_true h)
        exact List.eq_nil_of_length_eq_zero (by omega)
      subst e0
      refine ⟨.ref D, rfl, q H' D N (e1.trans (ExtN.of s7)) (t1.ext s7) ndN (fun p => ⟨hN p, fun hr => ?_⟩) ⟨kvs, hD7, ek, fun p hp => ?_⟩⟩
      · induction hr with
        | start => exact hst
        | @step p ar hp ha ih =>
          obtain ⟨l, us, as, _, _, _, _, _, x6, _, x8⟩ := hdone p ih (by simp)
          exact x8 ar ((x6 ar).mpr ha)
      · obtain ⟨l, us, as, x1, x2, x3, x4, x5, x6, x7, x8⟩ := hdone p hp (by simp)
        exact ⟨l, us, as, x1, x3, x4, x5, x6, x7⟩
end
end K5
set_option Elab.async false
set_option linter.all false
set_option maxRecDepth 100000
set_option maxHeartbeats 4000000
namespace Ver
open PySem PySem.Spec PyProof.Rows L2 LamX
theorem each_vals : ∀ {xs : List V} {us : List Value} {ds : List PyData}, Vals xs us → xs.length = ds.length → PySem.W.EachIs (fun v (b : V × PyData) => RelV b.1 v) us (xs.zip ds)
  | _, _, [], .nil, _ => .nil
  | _, _, _ :: _, .nil, h => by cases h
  | _, _, [], .cons _ _, h => by cases h
  | _, _, d :: ds, .cons h1 h2, h => .cons h1 (each_vals h2 (Nat.succ.inj h))
theorem vals_each : ∀ {us : List Value} {zs : List (V × PyData)}, PySem.W.EachIs (fun v (b : V × PyData) => RelV b.1 v) us zs → Vals (zs.map Prod.fst) us
  | _, _, .nil => .nil
  | _, _, .cons h1 h2 => .cons h1 (vals_each h2)
theorem zip_snd {α β : Type} : ∀ {xs : List α} {ds : List β}, xs.length = ds.length → (xs.zip ds).map Prod.snd = ds
  | [], [], _ => rfl
  | [], _ :: _, h => by cases h
  | _ :: _, [], h => by cases h
  | _ :: xs, d :: ds, h => by
    show d :: (xs.zip ds).map Prod.snd = d :: ds
    rw [zip_snd (Nat.succ.inj h)]
section
variable {X : Cx} {pins : List (Addr × Obj)} {σ : L2.St} {H : Hp} {s : Shared}
theorem each_reads (I : Inv X pins σ H s) : ∀ {xs : List V} {us : List Value} {ds : List PyData}, Vals xs us → DpAll X.K H xs ds → PySem.W.EachIs (fun v (b : V × PyData) => ∃ as, Reads s.heap v b.2 as) us (xs.zip ds)
  | _, _, _, .nil, h => by cases h; exact .nil
  | _, _, _, .cons h1 h2, h => by
    cases h with
    | cons k1 k2 => exact .cons (Dp.reads I _ _ _ k1 h1) (each_reads I h2 k2)
def rSortDt (K : PySem.W.Frag) : List V → Hp → VK → Prop := fun vs H Q => ∃ (a : Addr) (xs : List V) (ds : List PyData), vs = [V.ref a] ∧ SqL K H a xs ∧ DpAll K H xs ds ∧ PySem.W.AllAlike ds ∧ PySem.W.Sortable ds ∧ (∀ d ∈ ds, d.depth ≤ 8) ∧
  ∀ (p : Addr), H p = none → Q (.ref p) (upd H p (.lst (((xs.zip ds).mergeSort (PySem.W.dataLe false Prod.snd)).map Prod.fst)))
theorem cr_sortDt {k : Nat} (hr : Room k X.A) : CallR X (.builtin "sorted") (rSortDt X.K) := by
  intro pins s σ H vs us Q I r h
  obtain ⟨a, xs, ds, rfl, hs, hd, hal, hk, hdp, q⟩ := h
  obtain ⟨its, rv, hl, hz⟩ := I.list hs
  rw [Vals.ref1 r]
  have lz : xs.length = ds.length := dpAll_len hd
  have hsnd : (xs.zip ds).map Prod.snd = ds := zip_snd lz
  have lzip : (xs.zip ds).length = xs.length := by rw [List.length_zip, ← lz, Nat.min_self]
  refine PySem.W.sorted_data (enc := Prod.snd) (bs := xs.zip ds) hl.isList (each_vals rv lz) (each_reads I rv hd) (by rw [hsnd]; exact hal) (by rw [hsnd]; exact hk) (by rw [lzip]; exact hz) (fun b hb => ?_) fun out lo eo => ?_
  · have h1 := hdp b.2 (by rw [← hsnd]; exact List.mem_map.mpr ⟨b, hb, rfl⟩)
    have := hr.un
    omega
  · obtain ⟨ep, he⟩ := PyProof.Rows.sortedAll_at s.heap its out.toArray
    have hlen : (((xs.zip ds).mergeSort (PySem.W.dataLe false Prod.snd)).map Prod.fst).length ≤ sizeLine := by
      rw [List.length_map, List.length_mergeSort, lzip]
      exact hz
    exact ⟨.ref _, upd H (s.heap.objs.size + 1) (.lst (((xs.zip ds).mergeSort (PySem.W.dataLe false Prod.snd)).map Prod.fst)), I.laid (t' := s.toks) (fun _ _ => PyProof.Rows.sortedAll_old) (Nat.le_succ _) ⟨hlen, out, ep, vals_each eo, he⟩, rfl, q _ (I.hok.fresh (Nat.le_succ _))⟩
end
section
open PySem.W
variable {prog : Program} {w : World} {A : Around} {E : Value → Shared → Prop} {s : Shared}
theorem collect_src {T : String} {r d : Addr} {n : Nat} {P : Nat → Value → Prop} {OK : Heap → Prop}
    {R : List Value → Shared → Prop} (K : KdlSrc prog w T r d n P OK)
    (hh : A.handled = none) (hok : OK s.heap) (hn : n ≤ sizeLine)
    (h : ∀ (h' : Heap) (tk : Nat) (acc : Array Value),
      (∀ b o, s.heap.get? b = some o → h'.get? b = some o) →
      s.heap.objs.size ≤ h'.objs.size → ItemsOf P acc n →
      R acc.toList { s with heap := h', toks := tk }) :
    wpAny (model prog w) A (collect (.ref r)) R E s := by
  have lt := K.there _ hok
  have new : ∀ o : Obj, ∀ b u, s.heap.get? b = some u →
      (s.heap.push o).get? b = some u :=
    fun o b u e => Heap.get?_push_of_some _ e
  unfold collect
  refine wpAny_bind (wpAny_runValue
    (codeAny_builtin entry_proto_collect' ?_))
  rw [Around.under_plainId
    PySem.F.plain_proto_collect _]
  show wpAny _ A.in1 (newList [] >>= fun l =>
    again (.builtin "list.__iadd__"
      ⟨[l, .ref r], []⟩)) _ _ s
  refine wpAny_bind (wpAny_newObj_type ?_)
  refine wpAny_pure ⟨plainId_quiet
    PySem.F.plain_list_iadd _,
    codeAny_builtin PyProof.Rows.entry_list_iadd' ?_⟩
  rw [Around.under_plainId
    PySem.F.plain_list_iadd _]
  have at0 : (s.heap.push { cls := .type "list", data := .seq ([] : List Value).toArray }).get?
      s.heap.objs.size = some { cls := .type "list", data := .seq #[] } := Heap.get?_push_size _ rfl
  show wpAny _ A.in1 (Builtin.List.listExtendWith
    (.ref s.heap.objs.size) (.ref r)
    (.ref s.heap.objs.size)) _ _ _
  have run := kdl_extend (A := A)
    (s := { s with heap := s.heap.push { cls := .type "list", data := .seq ([] : List Value).toArray } })
    (R := fun (q : Result) (s' : Shared) =>
      ∃ (h' : Heap) (tk : Nat) (acc : Array Value) (c : Nat),
        q = .ok (.ret (.ref s.heap.objs.size)) ∧
        s' = { s with heap := h', toks := tk } ∧
        (∀ b o, s.heap.get? b = some o → h'.get? b = some o) ∧
        h'.get? s.heap.objs.size = some { cls := .type "list", dict := none, data := .seq acc c, slots := #[] } ∧
        ItemsOf P acc n)
    K hh (K.keep _ _ hok fun b _ o e => new _ b o e)
    s.heap.objs.size (Nat.ne_of_gt lt.1)
    (Nat.ne_of_gt lt.2) (.ref s.heap.objs.size) 0 at0
    (fun h' tk acc c hk hS hacc => ⟨h', tk, acc, c, rfl, rfl,
      fun b o e => hk b o (Nat.ne_of_lt (Heap.lt_size e)) (new _ b o e),
      hS, hacc⟩) hn
  refine wpAny_mono run (fun f s' x => ?_)
    fun e s' x => ?_
  · cases f with
    | done f =>
      obtain ⟨h', tk, acc, c, e, rfl, hk, hS, hacc⟩ := x
      cases e
      refine wpAny_bind (wpAny_load hS ?_)
      exact wpAny_pure (h h' tk acc hk (Nat.le_of_lt (Heap.lt_size hS)) hacc)
    | again c1 =>
      refine ⟨x.1, codeAny_mono x.2 fun q s2 y => ?_⟩
      obtain ⟨h', tk, acc, c, rfl, rfl, hk, hS, hacc⟩ := y
      refine wpAny_bind (wpAny_load hS ?_)
      exact wpAny_pure (h h' tk acc hk (Nat.le_of_lt (Heap.lt_size hS)) hacc)
  · obtain ⟨_, _, _, _, e, _⟩ := x
    cases e
theorem sorted_of_src {T : String} {r d : Addr} {n : Nat} {P : Nat → Value → Prop} {OK : Heap → Prop} {kw : List (Str × Value)} {Q : Value → Shared → Prop} (K : KdlSrc prog w T r d n P OK) (hh : A.handled = none) (hok : OK s.heap) (hn : n ≤ sizeLine)
    (ha1 : argsOk "sorted" ⟨[.ref r], kw⟩) (ha2 : ∀ x, argsOk "list.sort" ⟨[.ref x], kw⟩)
    (body : ∀ (E' : Value → Shared → Prop) (h' : Heap) (tk : Nat) (vs : List Value), (∀ b o, s.heap.get? b = some o → h'.get? b = some o) → s.heap.objs.size ≤ h'.objs.size → vs.length = n → (∀ (j : Nat) (v : Value), vs[j]? = some v → P j v) →
      wpAny (model prog w) A.in1.in1 (Builtin.«list.sort» ⟨[.ref h'.objs.size], kw⟩) (fun f s' => f = .done (.ret .none) ∧ Q (.ref h'.objs.size) s') E' { s with heap := h'.push (seqObj "list" vs.toArray 0), toks := tk }) :
    wpAny (model prog w) A (call (.builtin "sorted") [.ref r] kw) Q E s := by
  refine call_function_entry_kw kind_sorted plain_sorted entry_sorted ha1 ?_
  unfold Builtin.«sorted»
  refine wpAny_bind (m := checkCount "sorted" 1 1 _) (wpAny_pure ?_)
  refine wpAny_bind (collect_src (A := A.in1) K hh hok hn fun h' tk acc hk hsz hacc => ?_)
  have hl : acc.toList.length = n := by rw [Array.length_toList]; exact hacc.1
  refine wpAny_bind (wpAny_newList ?_ (by rw [hl]; exact hn))
  have hoL : (h'.push (seqObj "list" acc.toList.toArray 0)).get? h'.objs.size = some (seqObj "list" acc.toList.toArray 0) := Heap.get?_push_size _ rfl
  refine wpAny_bind (wpAny_holding (wpAny_call_entry_kw slot_list_sort ⟨_, hoL, rfl⟩ entry_list_sort ?body (ha2 _)))
  case body =>
    refine wpAny_mono (body _ h' tk acc.toList hk hsz hl (fun j v e => hacc.2 j v (by rw [← Array.getElem?_toList]; exact e))) (fun f s' hf => ?_) fun _ _ e => e
    obtain ⟨rfl, hq⟩ := hf
    exact ⟨_, rfl, wpAny_pure ⟨_, rfl, hq⟩⟩
end
end Ver
set_option Elab.async false
set_option linter.all false
set_option maxRecDepth 100000
set_option maxHeartbeats 4000000
namespace Ver
open PySem PySem.Spec PyProof.Rows L2 LamX
abbrev P3 := Int × Int × Str
def p3K (p : P3) : List L2.Key := [.inl p.1, .inl p.2.1, .inr p.2.2]
def p3V (p : P3) : List V := [.int p.1, .int p.2.1, .str p.2.2]
def p3D (p : P3) : PyData := .tuple [.int p.1, .int p.2.2.length, .str p.2.2, .int p.2.1]
theorem p3_kV (p : P3) : (p3K p).map kV = p3V p := rfl
abbrev bodyP (a : Str) (p1 p2 p3 p4 p5 p6 p7 p8 p9 p10 p11 p12 p13 p14 p15 : Pos) (c1 c2 c3 c4 k5 : Nat) : Expr :=
  .Tuple [.Subscript (.Name a p1) (.Constant (.int 0) c1 p2) p3, .Call (.Name "len" p4) [.Subscript (.Name a p5) (.Constant (.int 2) c2 p6) p7] [] p8,
    .Subscript (.Name a p9) (.Constant (.int 2) c3 p10) p11, .Subscript (.Name a p12) (.Constant (.int 1) c4 p13) p14] k5 p15
section
variable {X : Cx} {pins : List (Addr × Obj)} {σ : L2.St} {H : Hp} {s : Shared}
theorem plkey_call {scope : Scope} {params : Arguments} {q : Str} {cl : List (Str × Addr)} {pm ctv : Value} {f c' : Addr} {a : Str} {p1 p2 p3 p4 p5 p6 p7 p8 p9 p10 p11 p12 p13 p14 p15 : Pos} {c1 c2 c3 c4 k5 : Nat} {b : Addr} {z : P3} {h : Heap} {tk : Nat} {A : Around}
    (I : Inv X pins σ H s) (hm : X.mg "len" = none)
    (hf : s.heap.get? f = some (PySem.W.kla_obj "<lambda>" q params (bodyP a p1 p2 p3 p4 p5 p6 p7 p8 p9 p10 p11 p12 p13 p14 p15 c1 c2 c3 c4 k5) scope cl pm c' ctv)) (hco : H c' = some (CodeO c' q))
    (hbind : ∀ (q : Str) (cl : List (Str × Addr)) (pm cv ctv v : Value), bindArgs (PySem.W.kla_fn "<lambda>" q params (bodyP a p1 p2 p3 p4 p5 p6 p7 p8 p9 p10 p11 p12 p13 p14 p15 c1 c2 c3 c4 k5) scope cl pm cv ctv) ⟨[v], []⟩ = pure [(a, v)])
    (hk : scope.kind = .function) (hcoR : scope.isCoroutine = false) (hgen : scope.isGenerator = false) (hcell : ∀ y ∈ scope.names, y.2 ≠ .cell) (hl : scope.names.lookup a = some .local) (hlen : scope.names.lookup ("len" : Str) = some .globalImplicit)
    (hd : (a == ("__debug__" : Str)) = false) (hr : A.depth < recursionLimit) (hx : z.2.2.length ≤ sizeLine) (hb : H b = some (.tup (p3V z))) (kp : ∀ b o, s.heap.get? b = some o → h.get? b = some o) :
    wpAny (model X.prog X.w) A (call (.ref f) [.ref b]) (PySem.W.KeyPure (p3D z) { s with heap := h, toks := tk }) (fun _ _ => False) { s with heap := h, toks := tk } := by
  obtain ⟨⟨oc, vs, tq, hoc, hdc, hvc⟩, _, _⟩ := I.hok c' _ hco
  obtain ⟨_, its, r2, ob, hob, hbc, nb, hbd⟩ := I.hok b _ hb
  obtain ⟨v0, v1, v2, ei, r0, r1, r3⟩ : ∃ v0 v1 v2, its = [v0, v1, v2] ∧ RelV (.int z.1) v0 ∧ RelV (.int z.2.1) v1 ∧ RelV (.str z.2.2) v2 := by
    cases r2 with
    | cons a1 t1 =>
      cases t1 with
      | cons a2 t2 =>
        cases t2 with
        | cons a3 t3 =>
          cases t3
          exact ⟨_, _, _, rfl, a1, a2, a3⟩
  subst ei
  obtain ⟨t0, rfl⟩ := r0
  obtain ⟨t1, rfl⟩ := r1
  obtain ⟨t2, rfl⟩ := r3
  obtain ⟨mb, b1, b2⟩ := I.mod.blt
  have kb : ∀ b o, X.base.get? b = some o → h.get? b = some o := fun b o e => kp b o (I.bk b o e)
  have rc : codeAny (model X.prog X.w) A (.call (.ref f) ⟨[.ref b], []⟩) (fun r s' => ∃ u, r = .ok (.ret u) ∧ PySem.W.KeyPure (p3D z) { s with heap := h, toks := tk } u s') { s with heap := h, toks := tk } := by
    refine PySem.W.kla_callFunE hr (kp _ _ hf) rfl hcoR hgen rfl ⟨c', oc, vs, tq, rfl, kp _ _ hoc, hdc, hvc⟩ ?_
    rw [hbind]
    refine wpAny_pure (wpAny_newFunctionEnv hcell (fun y hy => ?_) (fun h₁ hns hsb => ⟨(I.nolimit.keeps kp).fresh _ hsb, ?_⟩) hk)
    · rw [List.mem_singleton.mp hy]
      exact hl
    have kp1 : ∀ b o, h.get? b = some o → h₁.get? b = some o := fun b o e => hsb.extBut b o (Nat.ne_of_lt (Heap.lt_size e)) (Heap.get?_push_of_some _ e)
    have tp : IsTup h₁ b #[.int z.1 t0, .int z.2.1 t1, .str z.2.2 t2] := ⟨ob, kp1 _ _ (kp _ _ hob), hbc, nb, hbd⟩
    refine PySem.W.kla_codeExpr ?_
    show wpAny _ _ (eval _ (PySem.W.envX q scope h.objs.size f (.ref c') cl)) _ _ _
    refine wpAny_Tuple_spliced (args_cons (Subscript_ (wpAny_Name (wpAny_loadName_local hk hl hns (v := .ref b) (by simp) ?_) hd)) rfl)
    refine wpAny_Constant_int (item_tuple (j := 0) tp (by decide) (by decide) rfl rfl ?_)
    refine args_cons (Call_ (Calls.Name_function_global hk hlen (Calls.loadGlobal_builtin (I.mod.glob.keeps fun b o e => kp1 b o (kb b o e)) hm (b1.keeps fun b o e => kp1 b o (kb b o e)) ((b2 "len" (by decide)).trans boot_len) ?_)) rfl) rfl
    refine PyProof.Rows.callWith_builtin1 (args_cons (Subscript_ (wpAny_Name (wpAny_loadName_local hk hl hns (v := .ref b) (by simp) ?_) hd)) rfl) rfl rfl
    refine wpAny_Constant_int (item_tuple (j := 2) tp (by decide) (by decide) rfl rfl ?_)
    refine args_nil (len_str (by rw [sizeLine_eq] at hx; omega) ?_)
    refine args_cons (Subscript_ (wpAny_Name (wpAny_loadName_local hk hl hns (v := .ref b) (by simp) ?_) hd)) rfl
    refine wpAny_Constant_int (item_tuple (j := 2) tp (by decide) (by decide) rfl rfl ?_)
    refine args_cons (Subscript_ (wpAny_Name (wpAny_loadName_local hk hl hns (v := .ref b) (by simp) ?_) hd)) rfl
    refine wpAny_Constant_int (item_tuple (j := 1) tp (by decide) (by decide) rfl rfl ?_)
    refine args_nil ⟨by show 4 ≤ sizeLine; decide, ?_⟩
    refine ⟨_, rfl, _, _, rfl, fun b o e => Heap.get?_push_of_some _ (kp1 b o e), ?_⟩
    exact .tuple (Heap.get?_push_size _ rfl) rfl rfl (.cons (.int _ _) (.cons (.int _ _) (.cons (.str _ _) (.cons (.int _ _) .nil))))
  exact wpAny_call (codeAny_mono rc fun r s' ⟨u, e, hq⟩ => by subst e; exact hq)
end
end Ver
set_option Elab.async false
set_option linter.all false
set_option maxRecDepth 100000
set_option maxHeartbeats 4000000
namespace Ver
open PySem PySem.Spec PyProof.Rows L2 LamX
section
variable {X : Cx} {pins : List (Addr × Obj)} {σ : L2.St} {H : Hp} {s : Shared}
def sortedP (bs : List Addr) (ps : List P3) : List V := ((bs.zip ps).mergeSort (PySem.W.dataLe false fun z => p3D z.2)).map fun z => V.ref z.1
def PAt (H : Hp) (b : Addr) (q : P3) : Prop := H b = some (.tup (p3V q))
def tSortP (T : List (Addr × Str)) (te : TE) : TE := fun σ H Q => te σ H fun v H1 => ∃ (d : Addr) (kvs : List (List L2.Key × V)) (ps : List P3), v = .ref d ∧ H1 d = some (.dT kvs) ∧ kvs.map (·.1) = ps.map p3K ∧ (∀ p ∈ ps, p.2.2.length ≤ sizeLine) ∧ Tabs T H1 ∧
  ∀ (H2 : Hp) (bs : List Addr) (p : Addr), ExtN H1 H2 → Tabs T H2 → Paired (PAt H2) bs ps → H2 p = none → Q (.ref p) (upd H2 p (.lst (sortedP bs ps)))
theorem kt_keys {kvs : List (List L2.Key × V)} {xs : List (List L2.Key × Addr × Value)} (r : Paired (fun (p : List L2.Key × V) (q : List L2.Key × Addr × Value) => p.1 = q.1 ∧ H q.2.1 = some (.tup (p.1.map kV)) ∧ RelV p.2 q.2.2) kvs xs) :
    ∀ {ps : List P3}, kvs.map (·.1) = ps.map p3K → Paired (PAt H) (xs.map fun x => x.2.1) ps := by
  induction r with
  | nil =>
    intro ps h
    cases ps with
    | nil => exact .nil
    | cons p ps => cases h
  | @cons a b l1 l2 h1 h2 ih =>
    intro ps h
    cases ps with
    | nil => cases h
    | cons p ps =>
      have e1 : a.1 = p3K p := (List.cons.inj h).1
      refine .cons ?_ (ih (List.cons.inj h).2)
      have := h1.2.1
      rw [e1, p3_kV] at this
      exact this
theorem each_refs : ∀ {bs : List Addr} {ps : List P3}, bs.length = ps.length → PySem.W.EachIs (fun v (z : Addr × P3) => v = Value.ref z.1) (bs.map Value.ref) (bs.zip ps)
  | [], [], _ => .nil
  | [], _ :: _, h => by cases h
  | _ :: _, [], h => by cases h
  | b :: bs, p :: ps, h => .cons rfl (each_refs (Nat.succ.inj h))
theorem vals_refsP : ∀ {us : List Value} {zs : List (Addr × P3)}, PySem.W.EachIs (fun v (z : Addr × P3) => v = Value.ref z.1) us zs → Vals (zs.map fun z => V.ref z.1) us
  | _, _, .nil => .nil
  | _, _, .cons h1 h2 => .cons h1 (vals_refsP h2)
theorem paired_zip {α β : Type} {R : α → β → Prop} : ∀ {as : List α} {bs : List β}, Paired R as bs → ∀ z ∈ as.zip bs, R z.1 z.2
  | _, _, .nil, z, h => by cases h
  | _, _, .cons h1 h2, z, h => by
    rcases List.mem_cons.mp h with e | e
    · rw [e]; exact h1
    · exact paired_zip h2 z e
theorem paired_grow {H H' : Hp} (e : ∀ b xs, H b = some (.tup xs) → H' b = some (.tup xs)) : ∀ {bs : List Addr} {ps : List P3}, Paired (PAt H) bs ps → Paired (PAt H') bs ps
  | _, _, .nil => .nil
  | _, _, .cons h1 h2 => .cons (e _ _ h1) (paired_grow e h2)
theorem pe_sortP {T : List (Addr × Str)} {c P : Addr} {k : Nat} {e : Expr} {te : TE} {a : Str} {params : Arguments} {scope : Scope} {p pos lpos kpos p1 p2 p3 p4 p5 p6 p7 p8 p9 p10 p11 p12 p13 p14 p15 : Pos} {c1 c2 c3 c4 k5 : Nat}
    (hr : Room k X.A) (hcalm : X.calm = true) (TB : TabB X.base X.mg c P) (hcode : X.env.code = .ref c) (hmT : (P, X.env.qual ++ "<lambda>") ∈ T) (hu : ∀ p ∈ T, p.1 = P → p.2 = X.env.qual ++ "<lambda>")
    (hg : Gl X "sorted") (hmS : X.mg "sorted" = none) (hmL : X.mg "len" = none) (he : PE X e te)
    (hk : scope.kind = .function := by rfl) (hcoR : scope.isCoroutine = false := by rfl) (hgen : scope.isGenerator = false := by rfl) (hcell : ∀ y ∈ scope.names, y.2 ≠ .cell ∧ y.2 ≠ .free := by decide) (hl : scope.names.lookup a = some .local := by rfl)
    (hlen : scope.names.lookup ("len" : Str) = some .globalImplicit := by rfl) (hd : (a == ("__debug__" : Str)) = false := by decide) (hdef : defaultsOf params X.env = ([], []) := by rfl)
    (hbind : ∀ (q : Str) (cl : List (Str × Addr)) (pm cv ctv v : Value), bindArgs (PySem.W.kla_fn "<lambda>" q params (bodyP a p1 p2 p3 p4 p5 p6 p7 p8 p9 p10 p11 p12 p13 p14 p15 c1 c2 c3 c4 k5) scope cl pm cv ctv) ⟨[v], []⟩ = pure [(a, v)] := by intros; rfl)
    (hs : backTo pos (starEach [e] X.env) = (false, eval e X.env) :: backTo pos (starEach [] X.env) := by rfl) :
    PE X (.Call (.Name "sorted" p) [e] [⟨some "key", .Lambda params (bodyP a p1 p2 p3 p4 p5 p6 p7 p8 p9 p10 p11 p12 p13 p14 p15 c1 c2 c3 c4 k5) scope lpos, kpos⟩] pos) (tSortP T te) := by
  refine ⟨fun pins s σ H Q I h => ?_⟩
  refine wpAny_Call_Name_kw (ld_blt I hg hmS boot_sorted ?_)
  refine PyProof.Rows.callWith_kw ?_ hs (by rw [hs] <;> rfl) (by rfl) (by rfl)
  rw [hs]
  refine Calls.spliced_cons (thn (he.run pins s σ H _ I h) fun u s1 ⟨v, H1, I1, r1, q1⟩ => ?_)
  obtain ⟨l, kvs, ps, rfl, hl1, hx, hz, hT, q⟩ := q1
  obtain rfl : u = Value.ref l := r1
  refine args_nil ?_
  refine kws_cons (lam_make2 I1 TB hcode hmT hu hT hdef (fun y hy z => absurd z (hcell y hy).2) fun f c' pm' ctv H2 s2 I2 eN T2 hf hfn hfr hco => ?_)
  refine kws_nil ?_
  have hl2 : H2 l = some (.dT kvs) := eN _ _ hl1 fun ps z => by cases z
  obtain ⟨z, hsm, ks, pr, o, es, ep, ho, hx2, hdt, hent, hn⟩ := I2.hok l _ hl2
  have l1 : es.size = ks.length := size_of_entries hent
  have l2 : kvs.length = ks.length := Paired.length pr
  have pP := kt_keys pr hx
  have lk : (ks.map fun x => x.2.1).length = ps.length := Paired.length pP
  have lps : ps.length = ks.length := by rw [← lk, List.length_map]
  generalize hbs : (ks.map fun x => x.2.1) = bs at pP lk
  refine sorted_of_src (kw := [(Str.ofString "key", .ref f)]) (kdl_raw hsm hx2 hdt) (I2.ok.hd hcalm) ho (by omega) (PyProof.Rows.ksk_s1 _ _) (fun _ => PyProof.Rows.ksk_l1 _ _) fun E' h' tk vs kp hsz lv hv => ?_
  have ev : vs = bs.map Value.ref := by
    rw [← hbs, List.map_map]
    apply List.ext_getElem?
    intro j
    rw [List.getElem?_map]
    cases hj : vs[j]? with
    | none =>
      have h1 := List.getElem?_eq_none_iff.mp hj
      rw [List.getElem?_eq_none (by omega)]
      rfl
    | some v =>
      obtain ⟨en, hen, hv2⟩ := hv j v hj
      have qe := entry_at hent j
      rw [hen] at qe
      cases hb : ks[j]? with
      | none =>
        rw [hb] at qe
        exact nomatch (show some en = none from qe)
      | some b =>
        rw [hb] at qe
        have e2 : en = entryOfKey (tupleKind (mixKind X.prog X.w)) b := Option.some.inj qe
        rw [hv2, e2]
        rfl
  subst ev
  have lz : (bs.zip ps).length = ps.length := by rw [List.length_zip, lk, Nat.min_self]
  rw [PyProof.Rows.ksk_t1]
  refine PySem.W.keyH_tree (kz := (bs.zip ps).map fun z => p3D z.2) (vs := bs.map Value.ref) (s := { s2 with heap := h'.push (PyProof.Rows.seqObj "list" (bs.map Value.ref).toArray 0), toks := tk }) (n := 0) (Heap.get?_push_size _ rfl) ?_ ?_ (PySem.W.AllAlike.of fun b b' => by rfl) (PySem.W.Sortable.tuples fun b => ⟨_, _, rfl⟩) (fun d hd => ?_)
    (PySem.W.keyH_turns (bs := bs.zip ps) (k := fun z => p3D z.2) (each_refs lk) fun v x hR hxm h2 tk2 kp2 => ?_) fun h3 tk3 out c3 kp3 hD ko => ⟨rfl, ?_⟩
  · rw [List.length_map, lz, List.length_map, lk]
  · rw [List.length_map, lk]; omega
  · obtain ⟨b, _, rfl⟩ := List.mem_map.mp hd
    have : (p3D b.2).depth = 1 := by simp [p3D, PyData.depth, PyData.depthAll]
    have := hr.un
    show X.A.in1.in1.units + _ < cLine
    show X.A.units + 1 + 1 + _ < cLine
    omega
  · subst hR
    have hb := paired_zip pP x hxm
    exact plkey_call (s := s2) I2 hmL hf hco hbind hk hcoR hgen (fun y hy => (hcell y hy).1) hl hlen hd hr.depth (hz x.2 (List.of_mem_zip hxm).2) hb fun b o eb => kp2 b o (Nat.ne_of_lt (Heap.lt_size (kp b o eb))) (Heap.get?_push_of_some _ (kp b o eb))
  · have eo := PySem.W.keyedOut_each (fun (z : Addr × P3) => p3D z.2) ko (each_refs lk)
    have hn2 : H2 h'.objs.size = none := I2.hok.fresh hsz
    have kept : ∀ b o, s2.heap.get? b = some o → h3.get? b = some o := fun b o eb => kp3 b o (Nat.ne_of_lt (Heap.lt_size (kp b o eb))) (Heap.get?_push_of_some _ (kp b o eb))
    have hll : (sortedP bs ps).length ≤ sizeLine := by
      unfold sortedP
      rw [List.length_map, List.length_mergeSort, lz]
      omega
    exact ⟨.ref _, upd H2 h'.objs.size (.lst (sortedP bs ps)), I2.laid (t' := tk3) kept hsz ⟨hll, out, c3, vals_refsP eo, hD⟩, rfl, q _ _ _ eN T2 pP hn2⟩
end
end Ver
set_option Elab.async false
set_option linter.all false
set_option maxRecDepth 100000
set_option maxHeartbeats 2000000
namespace K5
open PySem PySem.Spec PyProof.Rows L2 Ver LamX
def numF : List Pl → Nat → List (List L2.Key × V)
  | [], _ => []
  | p :: r, n => (plKey p, .int (n : Nat)) :: numF r (n + 1)
theorem numF_len : ∀ (l : List Pl) (n : Nat), (numF l n).length = l.length
  | [], _ => rfl
  | _ :: r, n => by show (numF r (n + 1)).length + 1 = r.length + 1; rw [numF_len r]
theorem numF_keys : ∀ (l : List Pl) (n : Nat), (numF l n).map (·.1) = l.map plKey
  | [], _ => rfl
  | p :: r, n => by show plKey p :: (numF r (n + 1)).map (·.1) = plKey p :: r.map plKey; rw [numF_keys r]
theorem numF_snoc (p : Pl) : ∀ (l : List Pl) (n : Nat), numF (l ++ [p]) n = numF l n ++ [(plKey p, .int ((n + l.length : Nat) : Int))]
  | [], n => rfl
  | q :: l, n => by
    have ih := numF_snoc p l (n + 1)
    show (plKey q, V.int (n : Nat)) :: numF (l ++ [p]) (n + 1) = (plKey q, V.int (n : Nat)) :: numF l (n + 1) ++ [(plKey p, V.int ((n + (l.length + 1) : Nat) : Int))]
    rw [ih, show n + 1 + l.length = n + (l.length + 1) by omega]
    rfl
theorem idx_cons_ne {p q : Pl} {l : List Pl} (h : ¬ p = q) : (p :: l).idxOf q = l.idxOf q + 1 := by
  rw [List.idxOf_cons]
  have e : (p == q) = false := beq_eq_false_iff_ne.mpr h
  rw [e]
  rfl
theorem numF_get {q : Pl} : ∀ {l : List Pl} {n : Nat}, q ∈ l → valV (numF l n) (plKey q) = some (.int ((n + l.idxOf q : Nat) : Int))
  | [], _, h => by cases h
  | p :: l, n, h => by
    by_cases e : p = q
    · subst e
      rw [List.idxOf_cons_self]
      exact valV_pos rfl
    · have h1 : valV (numF (p :: l) n) (plKey q) = valV (numF l (n + 1)) (plKey q) := valV_neg (fun z => e (plKey_inj z))
      rw [h1, numF_get ((List.mem_cons.mp h).resolve_left fun z => e z.symm), idx_cons_ne e]
      congr 2
      omega
def finsN (T : Ta) (P : List Pl) (n : Nat) : List Nat := (List.range n).filter fun k => match P[k]? with | some p => finalP T p | none => false
theorem finsN_succ {T : Ta} {P : List Pl} {n : Nat} {p : Pl} (h : P[n]? = some p) : finsN T P (n + 1) = finsN T P n ++ (if finalP T p = true then [n] else []) := by
  unfold finsN
  rw [List.range_succ, List.filter_append]
  congr 1
  by_cases c : finalP T p = true
  · rw [if_pos c]; simp [h, c]
  · rw [if_neg c]; simp [h, c]
theorem finsN_len (T : Ta) (P : List Pl) (n : Nat) : (finsN T P n).length ≤ n := by
  unfold finsN
  refine Nat.le_trans (List.length_filter_le _ _) ?_
  rw [List.length_range]
  exact Nat.le_refl n
theorem finsN_all (T : Ta) (P : List Pl) : finsN T P P.length = finsOf T P := rfl
theorem zip_map_r {α β γ : Type} (f : β → γ) : ∀ (as : List α) (bs : List β), as.zip (bs.map f) = (as.zip bs).map fun z => (z.1, f z.2)
  | [], _ => rfl
  | _ :: _, [] => rfl
  | a :: as, b :: bs => by
    show (a, f b) :: as.zip (bs.map f) = (a, f b) :: (as.zip bs).map _
    rw [zip_map_r f as bs]
theorem zip_snd' {α β : Type} : ∀ {xs : List α} {ds : List β}, xs.length = ds.length → (xs.zip ds).map Prod.snd = ds
  | [], [], _ => rfl
  | [], _ :: _, h => by cases h
  | _ :: _, [], h => by cases h
  | _ :: xs, d :: ds, h => by
    show d :: (xs.zip ds).map Prod.snd = d :: ds
    rw [zip_snd' (Nat.succ.inj h)]
theorem paired_of_zip {α β : Type} {R : α → β → Prop} {γ : Type} {f : γ → α} {g : γ → β} : ∀ {zs : List γ}, (∀ z ∈ zs, R (f z) (g z)) → Paired R (zs.map f) (zs.map g)
  | [], _ => .nil
  | z :: zs, h => .cons (h z List.mem_cons_self) (paired_of_zip fun y hy => h y (List.mem_cons_of_mem _ hy))
theorem srt_paired {α β : Type} {R : V → β → Prop} {f : α → V} {enc : β → PyData} {as : List α} {bs : List β} (hl : as.length = bs.length) (h : ∀ z ∈ as.zip bs, R (f z.1) z.2) :
    Paired R (((as.zip bs).mergeSort (PySem.W.dataLe false fun z => enc z.2)).map fun z => f z.1) (bs.mergeSort (PySem.W.dataLe false enc)) := by
  have e : bs.mergeSort (PySem.W.dataLe false enc) = ((as.zip bs).mergeSort (PySem.W.dataLe false fun z => enc z.2)).map Prod.snd := by
    have h1 := List.map_mergeSort (r := PySem.W.dataLe false fun z : α × β => enc z.2) (s := PySem.W.dataLe false enc) (f := Prod.snd) (l := as.zip bs) (fun a _ b _ => rfl)
    rw [zip_snd' hl] at h1
    exact h1.symm
  rw [e]
  exact paired_of_zip fun z hz => h z ((List.mergeSort_perm _ _).mem_iff.mp hz)
def A4At (H : Hp) (v : V) (a : A4) : Prop := ∃ q, v = .ref q ∧ H q = some (.tup [.int (a.k : Nat), .str a.l, .int (a.j : Nat), .int a.t])
theorem a4_keep {H H' : Hp} (e : ∀ b xs, H b = some (.tup xs) → H' b = some (.tup xs)) : ∀ {vs : List V} {as : List A4}, Paired (A4At H) vs as → Paired (A4At H') vs as
  | _, _, .nil => .nil
  | _, _, .cons ⟨q, h1, h2⟩ t => .cons ⟨q, h1, e _ _ h2⟩ (a4_keep e t)
theorem a4_data {K : PySem.W.Frag} {H : Hp} : ∀ {vs : List V} {as : List A4}, Paired (A4At H) vs as → DpAll K H vs (as.map a4D)
  | _, _, .nil => .nil
  | _, _, .cons ⟨q, h1, h2⟩ t => by
    subst h1
    exact .cons (.tup (.inl (.inl h2)) (.cons (.int _) (.cons (.str _) (.cons (.int _) (.cons (.int _) .nil))))) (a4_data t)
theorem pls_data {K : PySem.W.Frag} {H : Hp} : ∀ {vs : List V} {ps : List Pl}, Paired (PlAt H) vs ps → DpAll K H vs (ps.map plD)
  | _, _, .nil => .nil
  | _, _, .cons ⟨r, h1, h2⟩ t => by
    subst h1
    exact .cons (.tup (.inl (.inl h2)) (.cons (.int _) (.cons (.int _) (.cons (.str _) .nil)))) (pls_data t)
theorem pls_get {H : Hp} : ∀ {vs : List V} {es : List Pl} {i : Nat} {v : V} {e : Pl}, Paired (PlAt H) vs es → vs[i]? = some v → es[i]? = some e → PlAt H v e
  | _, _, i, _, _, .nil, h, _ => by simp at h
  | _, _, 0, _, _, .cons h1 _, h, k => by
    rw [← Option.some.inj h, ← Option.some.inj k]
    exact h1
  | _, _, i + 1, _, _, .cons _ t, h, k => pls_get (i := i) t h k
def toA4 (P : List Pl) (k : Nat) (a : Ar) : A4 := ⟨k, a.l, P.idxOf a.to, a.t⟩
theorem idx_get {P : List Pl} {q : Pl} (h : q ∈ P) : P[P.idxOf q]? = some q := by
  have lt := List.idxOf_lt_length_of_mem h
  rw [List.getElem?_eq_getElem lt, List.getElem_idxOf lt]
theorem idx_of_get {P : List Pl} (nd : P.Nodup) {j : Nat} {q : Pl} (h : P[j]? = some q) : P.idxOf q = j := by
  have lt := (List.getElem?_eq_some_iff.mp h).1
  have m := List.mem_of_getElem? h
  have lt2 := List.idxOf_lt_length_of_mem m
  exact (List.getElem?_inj (h₀ := lt2) nd (i := P.idxOf q) (j := j)).mp ((idx_get m).trans h.symm)
theorem toA4_inj {P : List Pl} {k : Nat} {a b : Ar} (ha : a.to ∈ P) (hb : b.to ∈ P) (h : toA4 P k a = toA4 P k b) : a = b := by
  obtain ⟨l, to, t⟩ := a
  obtain ⟨l', to', t'⟩ := b
  injection h with h1 h2 h3 h4
  have h2 : l = l' := h2
  have h4 : t = t' := h4
  have e : some to = some to' := by rw [← idx_get ha, ← idx_get hb]; exact congrArg _ h3
  rw [h2, h4, Option.some.inj e]
theorem nodup_map_on {α β : Type} {f : α → β} : ∀ {l : List α}, (∀ a ∈ l, ∀ b ∈ l, f a = f b → a = b) → l.Nodup → (l.map f).Nodup
  | [], _, _ => List.nodup_nil
  | x :: l, h, nd => by
    obtain ⟨n1, n2⟩ := List.nodup_cons.mp nd
    rw [List.map_cons]
    refine List.nodup_cons.mpr ⟨fun m => ?_, nodup_map_on (fun a ha b hb => h a (List.mem_cons_of_mem _ ha) b (List.mem_cons_of_mem _ hb)) n2⟩
    obtain ⟨y, hy, e⟩ := List.mem_map.mp m
    rw [h y (List.mem_cons_of_mem _ hy) x List.mem_cons_self e] at hy
    exact n1 hy
theorem a4_step {T : Ta} {P : List Pl} (hp : IsPs T P) {k : Nat} {p : Pl} (ep : P[k]? = some p) {as : List Ar} (nda : as.Nodup) (ma : ∀ a, a ∈ as ↔ IsArc T p a) {A : List A4} (nd : A.Nodup) (mem : ∀ a, a ∈ A ↔ a.k < k ∧ IsA4 T P a) :
    (A ++ as.map (toA4 P k)).Nodup ∧ ∀ a, a ∈ A ++ as.map (toA4 P k) ↔ a.k < k + 1 ∧ IsA4 T P a := by
  have inP : ∀ a ∈ as, a.to ∈ P := fun a ha => (hp.mem _).mpr (.step ((hp.mem p).mp (List.mem_of_getElem? ep)) ((ma a).mp ha))
  constructor
  · refine List.nodup_append.mpr ⟨nd, nodup_map_on (fun a ha b hb e => toA4_inj (inP a ha) (inP b hb) e) nda, fun x hx y hy e => ?_⟩
    obtain ⟨a, _, rfl⟩ := List.mem_map.mp hy
    have := ((mem x).mp hx).1
    rw [e] at this
    exact Nat.lt_irrefl _ this
  · intro a
    rw [List.mem_append, mem]
    constructor
    · rintro (⟨h1, h2⟩ | h)
      · exact ⟨by omega, h2⟩
      · obtain ⟨r, hr, rfl⟩ := List.mem_map.mp h
        exact ⟨Nat.lt_succ_self _, p, r, ep, (ma r).mp hr, idx_get (inP r hr), rfl, rfl⟩
    · rintro ⟨h1, h2⟩
      rcases Nat.lt_or_eq_of_le (Nat.le_of_lt_succ h1) with c | c
      · exact .inl ⟨c, h2⟩
      · refine .inr ?_
        obtain ⟨p', r, e1, e2, e3, e4, e5⟩ := h2
        rw [c, ep] at e1
        have e1 := Option.some.inj e1
        subst e1
        refine List.mem_map.mpr ⟨r, (ma r).mpr e2, ?_⟩
        obtain ⟨ak, al, aj, at'⟩ := a
        show A4.mk k r.l (P.idxOf r.to) r.t = ⟨ak, al, aj, at'⟩
        rw [idx_of_get hp.nd e3]
        have c : ak = k := c
        have e4 : al = r.l := e4
        have e5 : at' = r.t := e5
        rw [c, e4, e5]
end K5
set_option Elab.async false
set_option linter.all false
set_option maxRecDepth 100000
set_option maxHeartbeats 2000000
namespace K5
open PySem PySem.Spec PyProof.Rows L2 Ver LamX
theorem inV_ints (b : Int) : ∀ l : List Int, inV (.int b) (l.map V.int) = decide (b ∈ l)
  | [] => rfl
  | x :: l => by
    have ih := inV_ints b l
    show (eqV (.int x) (.int b) || inV (.int b) (l.map V.int)) = _
    rw [ih]
    have e1 : eqV (.int x) (.int b) = decide (x = b) := rfl
    rw [e1]
    by_cases h : x = b
    · subst h; simp
    · have h' : ¬ b = x := fun q => h q.symm
      rw [decide_eq_false h, Bool.false_or]
      simp [h']
theorem flat_ints' : ∀ r : List Int, (r.map V.int).all flatV = true
  | [] => rfl
  | _ :: r => flat_ints' r
section
variable {P : Program} {w : World} {K : PySem.W.Frag} {mg : Str → Option Value} {base : Heap}
def sp__is_final (K : PySem.W.Frag) : Sp := fun vs H Q _ => ∃ (pa a : Addr) (T : Ta) (p : Pl), vs = [.ref pa, .ref a, .str T.g] ∧ H pa = some (.tup (plV p)) ∧ BkAt K H a T.bk ∧ T.g.length ≤ 1000 ∧ Q (.bl (finalP T p)) H
theorem ok__is_final (T : Tx K mg) : FnOk P w K mg base CX0 1 T.f__is_final T.d__is_final ["place", "book", "begun"] (sp__is_final K) := by
  refine T.F__is_final.ok sc__is_final (fun vs H Q E h => ?_) (fun cdv A outer s H vs Q E hr h => ?_)
  · obtain ⟨pa, a, T, p, rfl, _⟩ := h; rfl
  · obtain ⟨pa, a, Ta, p, rfl, hpa, hB, hg, q⟩ := h
    refine ⟨_, (pss_cons (ps_asg (pv 0) (pg_tup (by rfl) (pgs_cons (pg_name (i := 3) sc__is_final.nd rfl (Or.inl rfl)) (pgs_cons (pg_name (i := 4) sc__is_final.nd rfl (Or.inl rfl)) (pgs_cons (pg_name (i := 5) sc__is_final.nd rfl (Or.inl rfl)) pgs_nil)))))
    (pss_one (ps_ret (pe_and (pe_cmpR op_eq (pv 3) (pe_callB call_len_str (by rfl) T.n_len (by decide +kernel) (pa_cons (pv 2) pa_nil)) (nomark _)) (pe_and (pe_cmpR op_eq (pv 5) pe_str (nomark _)) (pe_one (pe_cmpR op_in_seq (pv 4) (pe_ix ix_tup (pv 1) pe_int (fun _ _ => rfl)) (by rfl)))))))), ?_⟩
    obtain ⟨f, t, tv, h1, h2, h3, h4⟩ := hB
    refine ⟨.ref pa, rfl, pa, _, rfl, .inl (.inl hpa), rfl, .int (p.i : Nat), _, rfl, .int p.b, _, rfl, .str p.u, _, rfl, rfl, ?_⟩
    have l1 : decide (V.int (p.i : Nat) = V.int (Ta.g.length : Nat)) = decide (p.i = Ta.g.length) := by
      by_cases c : p.i = Ta.g.length
      · rw [decide_eq_true c, decide_eq_true (by rw [c])]
      · rw [decide_eq_false c, decide_eq_false (fun e => c (by injection e with e; omega))]
    have l2 : decide (V.str p.u = V.str "") = decide (p.u = "") := by
      by_cases c : p.u = ""
      · rw [decide_eq_true c, decide_eq_true (by rw [c])]
      · rw [decide_eq_false c, decide_eq_false (fun e => c (V.str.inj e))]
    have eq : finalP Ta p = (decide (p.i = Ta.g.length) && decide (p.u = "") && decide (p.b ∈ Ta.fin)) := rfl
    rw [eq] at q
    refine ⟨.int (p.i : Nat), rfl, .str Ta.g, rfl, Ta.g, rfl, small' (by omega), rfl, _, rfl, ?_⟩
    rw [l1]
    generalize decide (p.i = Ta.g.length) = b1 at q ⊢
    cases b1 with
    | false => exact if_ff q
    | true =>
      refine if_tt ?_
      refine ⟨.str p.u, rfl, rfl, _, rfl, ?_⟩
      rw [l2]
      generalize decide (p.u = "") = b2 at q ⊢
      cases b2 with
      | false => exact if_ff q
      | true =>
        refine if_tt ?_
        refine ⟨.int p.b, rfl, .ref a, rfl, a, _, 1, .ref f, rfl, rfl, h1, rfl, f, _, rfl, .inr h2, rfl, flat_ints' _, ?_⟩
        rw [inV_ints]
        exact q
theorem yes_on {σ : L2.St} {H : Hp} {A B : Hp → Prop} (h : A H) : tYes σ H fun b H3 => if b = true then A H3 else B H3 := by
  show (if true = true then A H else B H)
  rw [if_pos rfl]
  exact h
theorem paired_app {α β : Type} {R : α → β → Prop} : ∀ {as : List α} {bs : List β} {cs : List α} {ds : List β}, Paired R as bs → Paired R cs ds → Paired R (as ++ cs) (bs ++ ds)
  | _, _, _, _, .nil, h => h
  | _, _, _, _, .cons h1 t, h => .cons h1 (paired_app t h)
theorem dp_fins {K : PySem.W.Frag} {H : Hp} : ∀ l : List Nat, DpAll K H (l.map fun k => V.int (k : Nat)) (l.map fun k => PyData.int (k : Nat))
  | [] => .nil
  | k :: l => .cons (.int _) (dp_fins l)
def pl3 (p : Pl) : P3 := ((p.i : Int), p.b, p.u)
def sp_speller (K : PySem.W.Frag) (TS : List (Addr × Str)) : Sp := fun vs H Q _ => ∃ (t a : Addr) (T : Ta), vs = [.ref t, .ref a, .str T.g, .str (modeS T.hl)] ∧ SqT K H t (T.ts.map V.str) ∧ BkAt K H a T.bk ∧ T.Ok ∧ T.most ≤ 20000 ∧ Tabs TS H ∧
  ∀ (v : V) (H2 : Hp) (P : List Pl) (A : List A4), ExtN H H2 → Tabs TS H2 → IsPs T P → IsAs T P A → P.length ≤ 20000 → A.length ≤ 2400000 → Dp K H2 v (spD T P A) → Q v H2
theorem ok_speller {cc cP cd cS : Addr} (T : Tx K mg) (TB : Tb T base cc cP cd cS) : FnOk P w K mg base CX0 5 T.f_speller T.d_speller ["tokens", "book", "begun", "mode"] (sp_speller K (TT cP cS)) := by
  refine Fun.okC T.F_speller TB.code2 sc_speller (fun vs H Q E h => ?_) (fun A outer s H vs Q E hr h => ?_)
  · obtain ⟨t, a, T, rfl, _⟩ := h; rfl
  · obtain ⟨t, a, Ta, rfl, hT, hB, ok, hm, hTb, q⟩ := h
    refine ⟨_, (pss_cons (ps_set (i := 4) sc_speller.nd rfl (Or.inl rfl) (pe_call (ok__places_and_arcs T TB) hr rfl T.g__places_and_arcs T.F__places_and_arcs.kp T.b__places_and_arcs .nil pass0 (pa_cons (pv 0) (pa_cons (pv 1) (pa_cons (pv 2) (pa_cons (pv 3) pa_nil))))))
    (pss_cons (ps_set (i := 5) sc_speller.nd rfl (Or.inl rfl) (pe_sortP (T := TT cP cS) hr rfl TB.tab2 rfl (List.mem_cons_of_mem _ List.mem_cons_self) (fun p hp e => by rcases List.mem_cons.mp hp with z | z; rw [z] at e; exact absurd e TB.ne; rw [List.mem_singleton.mp z] <;> rfl) (by rfl) T.n_sorted T.n_len (pv 4)))
    (pss_cons (ps_set (i := 6) sc_speller.nd rfl (Or.inr rfl) (pe_dcT (own := [("k", 10), ("place", 11)]) (g := _) (Nat.lt_of_succ_lt (hu_of hr)) rfl sc_speller.nd (pi_enum (by rfl) T.n_enumerate (pa_cons (pv 5) pa_nil)) (blkOk_by (N := ["tokens", "book", "begun", "mode", "known", "places", "numbers", "finals", "arcs", "here", "k", "place", "letter", "there", "token"]) (sc := defScope s_speller) (by decide +kernel)) (fun _ _ _ _ _ => (Ver.pg_tupK (K := K) (n := 2) rfl rfl rfl rfl (pgs_cons (pg_name (i := 10) sc_speller.nd rfl (Or.inl rfl)) (pgs_cons (pg_name (i := 11) sc_speller.nd rfl (Or.inl rfl)) pgs_nil)))) (fun _ _ _ _ _ => (pv 11)) (fun _ _ _ _ _ => (pv 10))))
    (pss_cons (ps_setLc (i := 7) (own := [("place", 11)]) (g := gName 11) (tt := _) (by rfl) sc_speller.nd rfl rfl (sw_true rfl rfl rfl (by decide +kernel)) (pi_list (pv 5)) (blkOk_by (N := ["tokens", "book", "begun", "mode", "known", "places", "numbers", "finals", "arcs", "here", "k", "place", "letter", "there", "token"]) (sc := defScope s_speller) (by decide +kernel)) (fun _ _ _ _ _ => (pg_name (i := 11) sc_speller.nd rfl (Or.inl rfl))) (fun _ _ _ _ _ => (pts_one (pt_val (pe_call (ok__is_final T) (hr.mono (by decide)) rfl T.g__is_final T.F__is_final.kp T.b__is_final .nil pass0 (pa_cons (pv 11) (pa_cons (pv 1) (pa_cons (pv 2) pa_nil))))))) (fun _ _ _ _ _ => (pe_dget (hu_of hr) (pv 6) (pv 11) (fun _ _ => rfl))))
    (pss_cons (ps_set (i := 8) sc_speller.nd rfl (Or.inl rfl) (pe_lst pa_nil))
    (pss_cons (ps_for PassesOwn.never rfl (pi_list (pv 5)) (pg_name (i := 9) sc_speller.nd rfl (Or.inr rfl))
    (pss_one (ps_expr (pe_bm PySem.F.plainAttrs_list PySem.F.slot_list_extend PySem.F.type_list_extend mt_extend (pv 8) (pa_cons (pe_lc (own := [("letter", 12), ("there", 13), ("token", 14)]) (g := _) (tt := tYes) (by rfl) sc_speller.nd (pi_list (pe_dget (hu_of hr) (pv 4) (pv 9) (fun _ _ => rfl))) (blkOk_by (N := ["tokens", "book", "begun", "mode", "known", "places", "numbers", "finals", "arcs", "here", "k", "place", "letter", "there", "token"]) (sc := defScope s_speller) (by decide +kernel)) (fun _ _ _ _ _ => (Ver.pg_tupK (K := K) (n := 3) rfl rfl rfl rfl (pgs_cons (pg_name (i := 12) sc_speller.nd rfl (Or.inl rfl)) (pgs_cons (pg_name (i := 13) sc_speller.nd rfl (Or.inl rfl)) (pgs_cons (pg_name (i := 14) sc_speller.nd rfl (Or.inl rfl)) pgs_nil))))) (fun _ _ _ _ _ => pts_nil) (fun _ _ _ _ _ => (pe_tup (pa_cons (pe_dget (hu_of hr) (pv 6) (pv 9) (fun _ _ => rfl)) (pa_cons (pv 12) (pa_cons (pe_dget (hu_of hr) (pv 6) (pv 13) (fun _ _ => rfl)) (pa_cons (pv 14) pa_nil))))))) pa_nil)))))
    (pss_one (ps_ret (pe_tup (pa_cons (pe_callTy call_tuple_of (by rfl) T.n_tuple (by decide +kernel) (pa_cons (pv 5) pa_nil)) (pa_cons (pe_callTy call_tuple_of (by rfl) T.n_tuple (by decide +kernel) (pa_cons (pv 7) pa_nil)) (pa_cons (pe_callTy call_tuple_of (by rfl) T.n_tuple (by decide +kernel) (pa_cons (pe_callB (cr_sortDt hr) (by rfl) T.n_sorted (by decide +kernel) (pa_cons (pv 8) pa_nil)) pa_nil)) pa_nil)))))))))))), ?_⟩
    refine ⟨.ref t, rfl, .ref a, rfl, .str Ta.g, rfl, .str (modeS Ta.hl), rfl, t, a, Ta, rfl, hT, hB, ok, hm, hTb, fun H1 D L e1 t1 nd mem hD => ?_⟩
    obtain ⟨kvs, hD1, ek, hk⟩ := hD
    have hB1 : BkAt K H1 a Ta.bk := by
      obtain ⟨f, t, tv, h1, h2, h3, h4⟩ := hB
      exact ⟨f, t, tv, seqT_ext e1 h1, seqT_ext e1 h2, seqT_ext e1 h3, rows_keep (fun b xs e => e1 _ _ e fun ps z => by cases z) h4⟩
    have lL : L.length ≤ 20000 := Nat.le_trans (few_places nd fun p hp => reach_in ok ((mem p).mp hp)) hm
    have uL : ∀ p ∈ L, p.u.length ≤ 100 := fun p hp => by
      obtain ⟨t9, ht, k, hk, e9⟩ := (reach_in ok ((mem p).mp hp)).2.2.2
      rw [e9, takeS_len (by omega)]
      have := (ok.len _ ht).2
      omega
    refine ⟨.ref D, rfl, D, kvs, L.map pl3, rfl, hD1, by rw [ek, List.map_map]; rfl, fun z hz => ?_, t1, fun H2 bs Pa e2 t2 pb nPa => ?_⟩
    · obtain ⟨p, hp, rfl⟩ := List.mem_map.mp hz
      exact small' (Nat.le_trans (uL p hp) (by decide))
    have ips := ps_of nd mem
    have lbs : bs.length = L.length := by have := Paired.length pb; rw [List.length_map] at this; exact this
    have pbs : Paired (PlAt H2) (sortedP bs (L.map pl3)) (L.mergeSort lePl) := by
      have h1 := srt_paired (R := PlAt H2) (f := V.ref) (enc := plK) (as := bs) (bs := L) lbs (fun z hz => ⟨z.1, rfl, ?_⟩)
      · have e9 : sortedP bs (L.map pl3) = ((bs.zip L).mergeSort (PySem.W.dataLe false fun z => plK z.2)).map fun z => V.ref z.1 := by
          unfold sortedP
          rw [zip_map_r]
          have h2 := List.map_mergeSort (r := PySem.W.dataLe false fun z : Addr × Pl => plK z.2) (s := PySem.W.dataLe false fun z : Addr × P3 => p3D z.2) (f := fun z : Addr × Pl => (z.1, pl3 z.2)) (l := bs.zip L) (fun a _ b _ => rfl)
          rw [← h2, List.map_map]
          rfl
        rw [e9]
        exact h1
      · have hz2 : (z.1, pl3 z.2) ∈ bs.zip (L.map pl3) := by
          rw [zip_map_r]
          exact List.mem_map.mpr ⟨z, hz, rfl⟩
        exact paired_zip pb _ hz2
    generalize sortedP bs (L.map pl3) = vp at pbs
    have hlP : (L.mergeSort lePl).length = L.length := List.length_mergeSort ..
    generalize L.mergeSort lePl = Ps at ips pbs hlP
    have memL : ∀ p, p ∈ Ps ↔ p ∈ L := fun p => (ips.mem p).trans (mem p).symm
    have lvp : vp.length = Ps.length := Paired.length pbs
    have sPa := same_new (o := .lst vp) nPa
    have hPa : (upd H2 Pa (.lst vp)) Pa = some (.lst vp) := upd_same
    have hB2 : BkAt K H2 a Ta.bk := by
      obtain ⟨f, t, tv, h1, h2, h3, h4⟩ := hB1
      exact ⟨f, t, tv, seqT_ext e2 h1, seqT_ext e2 h2, seqT_ext e2 h3, rows_keep (fun b xs e => e2 _ _ e fun ps z => by cases z) h4⟩
    have e12 := e1.trans e2
    have hD2 : H2 D = some (.dT kvs) := e2 _ _ hD1 fun ps z => by cases z
    have hk2 : ∀ p ∈ L, ∃ l us as, valV kvs (plKey p) = some (.ref l) ∧ H2 l = some (.lst us) ∧ Paired (ArcAt H2) us as ∧ as.Nodup ∧ (∀ a, a ∈ as ↔ IsArc Ta p a) ∧ as.length ≤ 120 := fun p hp => by
      obtain ⟨l, us, as, x1, x2, x3, x4, x5, x6⟩ := hk p hp
      exact ⟨l, us, as, x1, e2 _ _ x2 (fun ps z => by cases z), arcs_keep (fun b xs e => e2 _ _ e fun ps z => by cases z) x3, x4, x5, x6⟩
    have pb3 := pls_keep (fun b xs e => sPa _ _ e) pbs
    generalize upd H2 Pa (.lst vp) = H3 at sPa hPa pb3 ⊢
    refine ⟨.ref Pa, rfl, Pa, vp, rfl, .inl (.inl hPa), fun Nu nNu => ?_⟩
    refine dcT_it (walk_enum (K := K) (a := Pa) (xs := vp)) (fun i H' => Same H3 H' ∧ H' Nu = some (.dT (numF (Ps.take i) 0))) ⟨same_new nNu, upd_same⟩ (fun i H' _ h => .inl (.inl (h.1 _ _ hPa))) ?_ ?_
    · rintro i x H' H'' lt ⟨s4, hN4⟩ ⟨TT, x1, x2, rfl, nT, rfl, ex1, ex2⟩
      have ex1 : V.int (i : Nat) = x1 := Option.some.inj ex1
      subst ex1
      have ep : Ps[i]? = some (Ps[i]'(by omega)) := List.getElem?_eq_getElem _
      generalize Ps[i]'(by omega) = p at ep
      obtain ⟨r, rfl, hr3⟩ := pls_get pb3 ex2 ep
      have sT := same_new (o := .tup [V.int (i : Nat), V.ref r]) nT
      have hT1 : (upd H' TT (.tup [V.int (i : Nat), V.ref r])) TT = some (.tup [V.int (i : Nat), V.ref r]) := upd_same
      generalize upd H' TT (.tup [V.int (i : Nat), V.ref r]) = H5 at sT hT1 ⊢
      have lPs : Ps.length ≤ 20000 := by omega
      refine ⟨TT, _, rfl, .inl (.inl hT1), rfl, .int (i : Nat), _, rfl, .ref r, _, rfl, rfl, rfl, ?_⟩
      refine ⟨.ref r, rfl, .int (i : Nat), rfl, _, plKey p, r, rfl, sT _ _ (s4 _ _ hr3), sT _ _ hN4, big (by rw [numF_len, List.length_take]; omega), same_upd2 (s4.trans sT) nNu, ?_⟩
      have none1 : valV (numF (Ps.take i) 0) (plKey p) = none := none_of_isSome ((keys_none (numF_keys _ _)).trans (decide_eq_false (nodup_take ips.nd ep)))
      rw [upd_same, putK_new _ none1, take_snoc ep, numF_snoc, List.length_take, Nat.min_eq_left (by omega), Nat.zero_add]
    rintro H4 ⟨s4, hN4⟩
    rw [lvp, List.take_length] at hN4
    have lPs : Ps.length ≤ 20000 := by omega
    have gl := ok.gl
    have s24 := sPa.trans s4
    have hPa4 := s4 _ _ hPa
    have hB4 : BkAt K H4 a Ta.bk := hB2.grow s24
    have numG : ∀ H', Same H4 H' → ∀ p r, p ∈ Ps → H' r = some (.tup (plV p)) → DGet H' Nu (.ref r) (some (.int ((Ps.idxOf p : Nat) : Int))) := fun H' s p r hp hr => by
      have g := DGet.t (k := plKey p) (s _ _ hN4) hr
      rw [numF_get hp, Nat.zero_add] at g
      exact g
    refine ⟨.ref Pa, rfl, Pa, rfl, ⟨_, .inl (.inl hPa4)⟩, fun F nF => ?_⟩
    refine lc_list (K := K) (a := Pa) (xs := vp) (fun n H' => Same H4 H' ∧ H' F = some (.lst ((finsN Ta Ps n).map fun k => V.int (k : Nat)))) ⟨same_new nF, upd_same⟩ (fun n H' _ h => .inl (.inl (h.1 _ _ hPa4))) (fun n x H' ex h => ?_) (fun H5 h => ?_)
    · obtain ⟨s5, hF⟩ := h
      have ltn := (List.getElem?_eq_some_iff.mp ex).1
      have ep : Ps[n]? = some (Ps[n]'(by omega)) := List.getElem?_eq_getElem _
      generalize Ps[n]'(by omega) = p at ep
      obtain ⟨r, rfl, hr3⟩ := pls_get pb3 ex ep
      have hr5 := s5 _ _ (s4 _ _ hr3)
      refine ⟨wipe_one _ _ _, .ref r, rfl, .ref a, rfl, .str Ta.g, rfl, r, a, Ta, p, rfl, hr5, hB4.grow s5, by omega, finalP Ta p, rfl, ?_⟩
      rw [finsN_succ ep]
      refine ite2 (fun z => ?_) (fun z => ?_)
      · have g := numG _ s5 p r (List.mem_of_getElem? ep) hr5
        rw [idx_of_get ips.nd ep] at g
        have lf := finsN_len Ta Ps n
        refine ⟨.ref Nu, rfl, .ref r, rfl, Nu, _, rfl, g, _, hF, big (by rw [List.length_map]; omega), same_upd2 s5 nF, ?_⟩
        rw [upd_same, if_pos z, List.map_append]
        rfl
      · rw [if_neg z, List.append_nil]
        exact ⟨s5, hF⟩
    obtain ⟨s5, hF⟩ := h
    rw [lvp, finsN_all] at hF
    refine ⟨Nat.zero_le _, fun Ar nAr => ?_⟩
    have sAr := same_new (o := .lst []) nAr
    have hAr0 : (upd H5 Ar (.lst [])) Ar = some (.lst []) := upd_same
    generalize upd H5 Ar (.lst []) = H6 at sAr hAr0 ⊢
    refine ⟨.ref Pa, rfl, Pa, rfl, ⟨_, .inl (.inl (sAr _ _ (s5 _ _ hPa4)))⟩, ?_⟩
    have hPa5 := s5 _ _ hPa4
    have s25 := s24.trans s5
    refine for_list (K := K) (a := Pa) (xs := vp) (fun i σ H' => ∃ (A : List A4) (us : List V) (y9 : Option V), σ = [some (.ref t), some (.ref a), some (.str Ta.g), some (.str (modeS Ta.hl)), some (.ref D), some (.ref Pa), some (.ref Nu), some (.ref F), some (.ref Ar), y9, none, none, none, none, none] ∧ Same H5 H' ∧ H' Ar = some (.lst us) ∧ Paired (A4At H') us A ∧ A.Nodup ∧ (∀ x, x ∈ A ↔ x.k < i ∧ IsA4 Ta Ps x) ∧ A.length ≤ 120 * i)
      ⟨[], [], none, rfl, sAr, hAr0, .nil, List.nodup_nil, (fun x => ⟨(fun h => by cases h), fun h => absurd h.1 (Nat.not_lt_zero _)⟩), Nat.zero_le _⟩ (fun i σ H' _ h => ?_) (fun i x σ H' ex h => ?_) (fun σ H' h => ?_)
    · obtain ⟨_, _, _, _, s6, _⟩ := h
      exact .inl (.inl (s6 _ _ hPa5))
    · obtain ⟨A, us, y9, rfl, s6, hAr, hA, ndA, memA, lA⟩ := h
      have lti := (List.getElem?_eq_some_iff.mp ex).1
      have ep : Ps[i]? = some (Ps[i]'(by omega)) := List.getElem?_eq_getElem _
      generalize Ps[i]'(by omega) = p at ep
      have pP := List.mem_of_getElem? ep
      obtain ⟨r, rfl, hr3⟩ := pls_get pb3 ex ep
      have s26 := s25.trans s6
      have s46 := s5.trans s6
      have hr6 := s46 _ _ (s4 _ _ hr3)
      obtain ⟨l, ul, as, x1, x2, x3, x4, x5, x6⟩ := hk2 p ((memL p).mp pP)
      have gK := DGet.t (k := plKey p) (s26 _ _ hD2) hr6
      rw [x1] at gK
      have hl6 := s26 _ _ x2
      have has6 := arcs_keep (fun b xs e => s26 _ _ e) x3
      have lus : us.length = A.length := Paired.length hA
      refine ⟨.ref Ar, rfl, .inl ⟨rfl, _, .inl (.inl hAr)⟩, .ref D, rfl, .ref r, rfl, D, _, rfl, gK, l, rfl, ⟨_, .inl (.inl hl6)⟩, fun B nB => ?_⟩
      have lul : ul.length = as.length := Paired.length x3
      refine lc_list (K := K) (a := l) (xs := ul) (fun n H7 => Same H' H7 ∧ ∃ ub, H7 B = some (.lst ub) ∧ Paired (A4At H7) ub ((as.take n).map (toA4 Ps i))) ⟨same_new nB, [], upd_same, .nil⟩ (fun n H7 _ h => .inl (.inl (h.1 _ _ hl6))) (fun n x H7 ex h => ?_) (fun H7 h => ?_)
      · obtain ⟨s7, ub, hB7, hub⟩ := h
        have ltn := (List.getElem?_eq_some_iff.mp ex).1
        have ea : as[n]? = some (as[n]'(by omega)) := List.getElem?_eq_getElem _
        generalize as[n]'(by omega) = ar at ea
        obtain ⟨q0, r0, rfl, hq0, hr0⟩ := arcs_get (arcs_keep (fun b xs e => s7 _ _ e) has6) ex ea
        have toP : ar.to ∈ Ps := (ips.mem _).mpr (.step ((ips.mem p).mp pP) ((x5 ar).mp (List.mem_of_getElem? ea)))
        have s47 := s46.trans s7
        have g1 := numG _ s47 p r pP (s7 _ _ hr6)
        rw [idx_of_get ips.nd ep] at g1
        have g2 := numG _ s47 ar.to r0 toP hr0
        refine ⟨q0, _, rfl, .inl (.inl hq0), rfl, .str ar.l, _, rfl, .ref r0, _, rfl, .int ar.t, _, rfl, rfl, rfl, yes_on ?_⟩
        refine ⟨.ref Nu, rfl, .ref r, rfl, Nu, _, rfl, g1, .str ar.l, rfl, .ref Nu, rfl, .ref r0, rfl, Nu, _, rfl, g2, .int ar.t, rfl, small' (by simp), fun q9 nq9 => ?_⟩
        have sq := same_new (o := .tup [V.int (i : Nat), V.str ar.l, V.int (Ps.idxOf ar.to : Nat), V.int ar.t]) nq9
        have hq9 : (upd H7 q9 (.tup [V.int (i : Nat), V.str ar.l, V.int (Ps.idxOf ar.to : Nat), V.int ar.t])) q9 = some (.tup [V.int (i : Nat), V.str ar.l, V.int (Ps.idxOf ar.to : Nat), V.int ar.t]) := upd_same
        generalize upd H7 q9 (.tup [V.int (i : Nat), V.str ar.l, V.int (Ps.idxOf ar.to : Nat), V.int ar.t]) = H8 at sq hq9 ⊢
        have hB8 := sq _ _ hB7
        have lub : ub.length ≤ 120 := by
          have h1 := Paired.length hub
          rw [List.length_map, List.length_take] at h1
          omega
        have kt : ∀ b xs, H8 b = some (.tup xs) → (upd H8 B (.lst (ub ++ [.ref q9]))) b = some (.tup xs) := fun b xs e => tup_upd hB8 e
        refine ⟨ub, hB8, small (by omega), same_upd2 (s7.trans sq) nB, ub ++ [.ref q9], upd_same, ?_⟩
        rw [take_snoc ea, List.map_append]
        exact Paired.snoc (a4_keep (fun b xs e => kt _ _ (sq _ _ e)) hub) ⟨q9, rfl, kt _ _ hq9⟩
      · obtain ⟨s7, ub, hB7, hub⟩ := h
        rw [lul, List.take_length] at hub
        have hAr7 := s7 _ _ hAr
        have lub : ub.length ≤ 120 := by
          have h1 := Paired.length hub
          rw [List.length_map] at h1
          omega
        have nArH : H5 Ar = none := nAr
        have kt : ∀ b xs, H7 b = some (.tup xs) → (upd H7 Ar (.lst (us ++ ub))) b = some (.tup xs) := fun b xs e => tup_upd hAr7 e
        obtain ⟨z1, z2⟩ := a4_step ips ep x4 x5 ndA memA
        refine ⟨Ar, B, us, ub, rfl, rfl, hAr7, hB7, big' (by omega), A ++ as.map (toA4 Ps i), us ++ ub, some (.ref r), rfl, same_upd2 (s6.trans s7) nArH, upd_same, ?_, z1, z2, by rw [List.length_append, List.length_map]; omega⟩
        exact paired_app (a4_keep (fun b xs e => kt _ _ (s7 _ _ e)) hA) (a4_keep kt hub)
    · obtain ⟨A, us, y9, rfl, s6, hAr, hA, ndA, memA, lA⟩ := h
      rw [lvp] at memA lA
      have memA' : ∀ x, x ∈ A ↔ IsA4 Ta Ps x := fun x => ⟨fun h => ((memA x).mp h).2, fun h => (memA x).mpr ⟨by
        obtain ⟨p, _, e, _⟩ := h
        exact (List.getElem?_eq_some_iff.mp e).1, h⟩⟩
      have ias := as_of ndA memA'
      have lus : us.length = A.length := Paired.length hA
      have s26 := s25.trans s6
      refine ⟨.ref Pa, rfl, Pa, vp, rfl, .inl ⟨.inl (.inl (s6 _ _ hPa5)), fun T1 nT1 => ?_⟩⟩
      have c1 := same_new (o := .tup vp) nT1
      have hT1 : (upd H' T1 (.tup vp)) T1 = some (.tup vp) := upd_same
      generalize upd H' T1 (.tup vp) = G1 at c1 hT1 ⊢
      refine ⟨.ref F, rfl, F, _, rfl, .inl ⟨.inl (.inl (c1 _ _ (s6 _ _ hF))), fun T2 nT2 => ?_⟩⟩
      have c2 := same_new (o := .tup ((finsOf Ta Ps).map fun k => V.int (k : Nat))) nT2
      have hT2 : (upd G1 T2 (.tup ((finsOf Ta Ps).map fun k => V.int (k : Nat)))) T2 = some (.tup ((finsOf Ta Ps).map fun k => V.int (k : Nat))) := upd_same
      generalize upd G1 T2 (.tup ((finsOf Ta Ps).map fun k => V.int (k : Nat))) = G2 at c2 hT2 ⊢
      have cA2 := a4_keep (fun b xs e => c2 _ _ (c1 _ _ e)) hA
      refine ⟨.ref Ar, rfl, Ar, us, A.map a4D, rfl, .inl (.inl (c2 _ _ (c1 _ _ hAr))), a4_data cA2, PySem.W.AllAlike.of (fun b b' => rfl), PySem.W.Sortable.tuples (fun b => ⟨_, _, rfl⟩), fun d hd => ?_, fun S nS => ?_⟩
      · obtain ⟨x, _, rfl⟩ := List.mem_map.mp hd
        have : (a4D x).depth = 1 := by simp [a4D, PyData.depth, PyData.depthAll]
        omega
      have cS := same_new (o := .lst (((us.zip (A.map a4D)).mergeSort (PySem.W.dataLe false Prod.snd)).map Prod.fst)) nS
      have hS : (upd G2 S (.lst (((us.zip (A.map a4D)).mergeSort (PySem.W.dataLe false Prod.snd)).map Prod.fst))) S = some (.lst (((us.zip (A.map a4D)).mergeSort (PySem.W.dataLe false Prod.snd)).map Prod.fst)) := upd_same
      have pS : Paired (A4At G2) (((us.zip (A.map a4D)).mergeSort (PySem.W.dataLe false Prod.snd)).map Prod.fst) (A.mergeSort leA4) := by
        have h1 := srt_paired (R := A4At G2) (f := fun v => v) (enc := a4D) (as := us) (bs := A) lus (fun z hz => paired_zip cA2 z hz)
        have e9 : ((us.zip (A.map a4D)).mergeSort (PySem.W.dataLe false Prod.snd)).map Prod.fst = ((us.zip A).mergeSort (PySem.W.dataLe false fun z => a4D z.2)).map fun z => z.1 := by
          rw [zip_map_r]
          have h2 := List.map_mergeSort (r := PySem.W.dataLe false fun z : V × A4 => a4D z.2) (s := PySem.W.dataLe false (Prod.snd : V × PyData → PyData)) (f := fun z : V × A4 => (z.1, a4D z.2)) (l := us.zip A) (fun a _ b _ => rfl)
          rw [← h2, List.map_map]
          rfl
        rw [e9]
        exact h1
      have lS : (A.mergeSort leA4).length = A.length := List.length_mergeSort ..
      generalize ((us.zip (A.map a4D)).mergeSort (PySem.W.dataLe false Prod.snd)).map Prod.fst = zs at cS hS pS ⊢
      generalize A.mergeSort leA4 = As at ias pS lS
      generalize upd G2 S (.lst zs) = G3 at cS hS ⊢
      refine ⟨S, zs, rfl, .inl ⟨.inl (.inl hS), fun T3 nT3 => ?_⟩⟩
      have c3 := same_new (o := .tup zs) nT3
      have hT3 : (upd G3 T3 (.tup zs)) T3 = some (.tup zs) := upd_same
      generalize upd G3 T3 (.tup zs) = G4 at c3 hT3 ⊢
      refine ⟨small' (by simp), fun T4 nT4 => ?_⟩
      have c4 := same_new (o := .tup [V.ref T1, V.ref T2, V.ref T3]) nT4
      have hT4 : (upd G4 T4 (.tup [V.ref T1, V.ref T2, V.ref T3])) T4 = some (.tup [V.ref T1, V.ref T2, V.ref T3]) := upd_same
      generalize upd G4 T4 (.tup [V.ref T1, V.ref T2, V.ref T3]) = G5 at c4 hT4 ⊢
      have d24 := (((c1.trans c2).trans cS).trans c3).trans c4
      have d2 := (cS.trans c3).trans c4
      have sAll := s26.trans d24
      refine q _ G5 Ps As (e12.trans (ExtN.of sAll)) (t2.ext sAll) ips ias lPs (by omega) ?_
      refine .tup (.inl (.inl hT4)) (.cons (.tup (.inl (.inl (d2 _ _ (c2 _ _ hT1)))) (pls_data (pls_keep (fun b xs e => (s4.trans (s5.trans (s6.trans d24))) _ _ e) pb3))) (.cons (.tup (.inl (.inl (d2 _ _ hT2))) (dp_fins _)) (.cons (.tup (.inl (.inl (c4 _ _ hT3))) (a4_data (a4_keep (fun b xs e => d2 _ _ e) pS))) .nil)))
end
end K5
set_option Elab.async false
set_option linter.all false
set_option maxRecDepth 100000
set_option maxHeartbeats 2000000
namespace K5
open PySem PySem.Spec PyProof.Rows L2 Ver LamX
theorem eq_both {α : Type} {l a b : α} (h1 : a = l) (h2 : b = l) : a = b := h1.trans h2.symm
def costT (t : Int) : Int := if 0 ≤ t then 1 else 0
def costD (a : A4) : PyData := .tuple [.int a.k, .str a.l, .int a.j, .int (costT a.t)]
def prD (P : List Pl) (A : List A4) : PyData := .tuple [.int P.length, .tuple (A.map costD)]
def C4At (H : Hp) (v : V) (a : A4) : Prop := ∃ q, v = .ref q ∧ H q = some (.tup [.int (a.k : Nat), .str a.l, .int (a.j : Nat), .int (costT a.t)])
theorem c4_keep {H H' : Hp} (e : ∀ b xs, H b = some (.tup xs) → H' b = some (.tup xs)) : ∀ {vs : List V} {as : List A4}, Paired (C4At H) vs as → Paired (C4At H') vs as
  | _, _, .nil => .nil
  | _, _, .cons ⟨q, h1, h2⟩ t => .cons ⟨q, h1, e _ _ h2⟩ (c4_keep e t)
theorem c4_data {K : PySem.W.Frag} {H : Hp} : ∀ {vs : List V} {as : List A4}, Paired (C4At H) vs as → DpAll K H vs (as.map costD)
  | _, _, .nil => .nil
  | _, _, .cons ⟨q, h1, h2⟩ t => by
    subst h1
    exact .cons (.tup (.inl (.inl h2)) (.cons (.int _) (.cons (.str _) (.cons (.int _) (.cons (.int _) .nil))))) (c4_data t)
theorem dp_four {K : PySem.W.Frag} {H : Hp} {v : V} {a : A4} (h : Dp K H v (a4D a)) : ∃ q, v = .ref q ∧ SqT K H q [.int (a.k : Nat), .str a.l, .int (a.j : Nat), .int a.t] := by
  cases h with
  | tup hs ha =>
    cases ha with
    | cons h1 t1 =>
      cases h1
      cases t1 with
      | cons h2 t2 =>
        cases h2
        cases t2 with
        | cons h3 t3 =>
          cases h3
          cases t3 with
          | cons h4 t4 =>
            cases h4
            cases t4
            exact ⟨_, rfl, hs⟩
theorem dp_sp {K : PySem.W.Frag} {H : Hp} {v : V} {T : Ta} {P : List Pl} {A : List A4} (h : Dp K H v (spD T P A)) : ∃ q p f a vp vf va, v = .ref q ∧ SqT K H q [.ref p, .ref f, .ref a] ∧ SqT K H p vp ∧ DpAll K H vp (P.map plD) ∧ SqT K H f vf ∧ DpAll K H vf ((finsOf T P).map fun k => .int (k : Nat)) ∧ SqT K H a va ∧ DpAll K H va (A.map a4D) := by
  cases h with
  | tup hs ha =>
    cases ha with
    | cons h1 t1 =>
      cases h1 with
      | tup s1 d1 =>
        cases t1 with
        | cons h2 t2 =>
          cases h2 with
          | tup s2 d2 =>
            cases t2 with
            | cons h3 t3 =>
              cases h3 with
              | tup s3 d3 =>
                cases t3
                exact ⟨_, _, _, _, _, _, _, rfl, hs, s1, d1, s2, d2, s3, d3⟩
section
variable {P : Program} {w : World} {K : PySem.W.Frag} {mg : Str → Option Value} {base : Heap}
def sp_priced (K : PySem.W.Frag) (TS : List (Addr × Str)) : Sp := fun vs H Q _ => ∃ (t a : Addr) (T : Ta), vs = [.ref t, .ref a, .str T.g, .str (modeS T.hl)] ∧ SqT K H t (T.ts.map V.str) ∧ BkAt K H a T.bk ∧ T.Ok ∧ T.most ≤ 20000 ∧ Tabs TS H ∧
  ∀ (v : V) (H2 : Hp) (P : List Pl) (A : List A4), ExtN H H2 → Tabs TS H2 → IsPs T P → IsAs T P A → P.length ≤ 20000 → A.length ≤ 2400000 → Dp K H2 v (prD P A) → Q v H2
theorem ok_priced {cc cP cd cS : Addr} (T : Tx K mg) (TB : Tb T base cc cP cd cS) : FnOk P w K mg base CX0 6 T.f_priced T.d_priced ["tokens", "book", "begun", "mode"] (sp_priced K (TT cP cS)) := by
  refine T.F_priced.ok sc_priced (fun vs H Q E h => ?_) (fun cdv A outer s H vs Q E hr h => ?_)
  · obtain ⟨t, a, T, rfl, _⟩ := h; rfl
  · obtain ⟨t, a, Ta, rfl, hT, hB, ok, hm, hTb, q⟩ := h
    refine ⟨_, (pss_cons (ps_asg (pe_call (ok_speller T TB) hr rfl T.g_speller T.F_speller.kp T.b_speller .nil pass0 (pa_cons (pv 0) (pa_cons (pv 1) (pa_cons (pv 2) (pa_cons (pv 3) pa_nil))))) (pg_tup (by rfl) (pgs_cons (pg_name (i := 4) sc_priced.nd rfl (Or.inl rfl)) (pgs_cons (pg_name (i := 5) sc_priced.nd rfl (Or.inl rfl)) (pgs_cons (pg_name (i := 6) sc_priced.nd rfl (Or.inl rfl)) pgs_nil)))))
    (pss_cons (ps_setLc (i := 7) (own := [("here", 8), ("letter", 9), ("there", 10), ("token", 11)]) (g := _) (tt := tYes) (by rfl) sc_priced.nd rfl rfl (sw_true rfl rfl rfl (by decide +kernel)) (pi_tup (pv 6)) (blkOk_by (N := ["tokens", "book", "begun", "mode", "places", "_", "arcs", "costs", "here", "letter", "there", "token"]) (sc := defScope s_priced) (by decide +kernel)) (fun _ _ _ _ _ => (Ver.pg_tupK (K := K) (n := 4) rfl rfl rfl rfl (pgs_cons (pg_name (i := 8) sc_priced.nd rfl (Or.inl rfl)) (pgs_cons (pg_name (i := 9) sc_priced.nd rfl (Or.inl rfl)) (pgs_cons (pg_name (i := 10) sc_priced.nd rfl (Or.inl rfl)) (pgs_cons (pg_name (i := 11) sc_priced.nd rfl (Or.inl rfl)) pgs_nil)))))) (fun _ _ _ _ _ => pts_nil) (fun _ _ _ _ _ => (pe_tup (pa_cons (pv 8) (pa_cons (pv 9) (pa_cons (pv 10) (pa_cons (pe_ifExp (pt_cmpR op_ge (pv 11) pe_int (nomark _)) pe_int pe_int) pa_nil)))))))
    (pss_one (ps_ret (pe_tup (pa_cons (pe_callB call_len_seq (by rfl) T.n_len (by decide +kernel) (pa_cons (pv 4) pa_nil)) (pa_cons (pe_callTy call_tuple_of (by rfl) T.n_tuple (by decide +kernel) (pa_cons (pv 7) pa_nil)) pa_nil))))))), ?_⟩
    refine ⟨.ref t, rfl, .ref a, rfl, .str Ta.g, rfl, .str (modeS Ta.hl), rfl, t, a, Ta, rfl, hT, hB, ok, hm, hTb, fun v H2 Ps A e2 t2 ips ias lP lA hv => ?_⟩
    obtain ⟨q0, p0, f0, a0, vp, vf, va, rfl, s0, s1, d1, s2, d2, s3, d3⟩ := dp_sp hv
    have lvp : vp.length = Ps.length := by have := dpAll_len d1; rw [List.length_map] at this; exact this
    have lva : va.length = A.length := by have := dpAll_len d3; rw [List.length_map] at this; exact this
    refine ⟨q0, _, rfl, s0, rfl, .ref p0, _, rfl, .ref f0, _, rfl, .ref a0, _, rfl, rfl, ?_⟩
    refine ⟨.ref a0, rfl, a0, rfl, ⟨_, s3⟩, fun C nC => ?_⟩
    refine lc_tup (K := K) (a := a0) (xs := va) (fun n H' => Same H2 H' ∧ ∃ uc, H' C = some (.lst uc) ∧ Paired (C4At H') uc (A.take n)) ⟨same_new nC, [], upd_same, .nil⟩ (fun n H' _ h => seqT_grow h.1 s3) (fun n x H' ex h => ?_) (fun H' h => ?_)
    · obtain ⟨s7, uc, hC, hP⟩ := h
      have ltn := (List.getElem?_eq_some_iff.mp ex).1
      have ea : A[n]? = some (A[n]'(by omega)) := List.getElem?_eq_getElem _
      generalize A[n]'(by omega) = ar at ea
      obtain ⟨d, ed, hd⟩ := dpAll_get d3 ex
      rw [List.getElem?_map, ea] at ed
      have ed : a4D ar = d := Option.some.inj ed
      subst ed
      obtain ⟨q1, rfl, hq⟩ := dp_four hd
      have luc : uc.length ≤ 2400000 := by
        have h1 := Paired.length hP
        rw [List.length_take] at h1
        omega
      have fin : ∀ c : Int, c = costT ar.t → ∀ p, H' p = none → ∃ acc, (upd H' p (.tup [V.int (ar.k : Nat), V.str ar.l, V.int (ar.j : Nat), V.int c])) C = some (.lst acc) ∧ acc.length < sizeLine ∧
          (Same H2 (upd (upd H' p (.tup [V.int (ar.k : Nat), V.str ar.l, V.int (ar.j : Nat), V.int c])) C (.lst (acc ++ [.ref p]))) ∧ ∃ uc, (upd (upd H' p (.tup [V.int (ar.k : Nat), V.str ar.l, V.int (ar.j : Nat), V.int c])) C (.lst (acc ++ [.ref p]))) C = some (.lst uc) ∧ Paired (C4At (upd (upd H' p (.tup [V.int (ar.k : Nat), V.str ar.l, V.int (ar.j : Nat), V.int c])) C (.lst (acc ++ [.ref p])))) uc (A.take (n + 1))) := fun c ec p np => by
        subst ec
        have sp := same_new (o := .tup [V.int (ar.k : Nat), V.str ar.l, V.int (ar.j : Nat), V.int (costT ar.t)]) np
        have hp : (upd H' p (.tup [V.int (ar.k : Nat), V.str ar.l, V.int (ar.j : Nat), V.int (costT ar.t)])) p = some (.tup [V.int (ar.k : Nat), V.str ar.l, V.int (ar.j : Nat), V.int (costT ar.t)]) := upd_same
        generalize upd H' p (.tup [V.int (ar.k : Nat), V.str ar.l, V.int (ar.j : Nat), V.int (costT ar.t)]) = H8 at sp hp ⊢
        have hC8 := sp _ _ hC
        have kt : ∀ b xs, H8 b = some (.tup xs) → (upd H8 C (.lst (uc ++ [.ref p]))) b = some (.tup xs) := fun b xs e => tup_upd hC8 e
        refine ⟨uc, hC8, big (by omega), same_upd2 (s7.trans sp) nC, uc ++ [.ref p], upd_same, ?_⟩
        rw [take_snoc ea]
        exact Paired.snoc (c4_keep (fun b xs e => kt _ _ (sp _ _ e)) hP) ⟨p, rfl, kt _ _ hp⟩
      generalize hw : wipe _ _ = σw
      have hw2 : σw = [some (.ref t), some (.ref a), some (.str Ta.g), some (.str (modeS Ta.hl)), some (.ref p0), some (.ref f0), some (.ref a0), none, none, none, none, none] := hw.symm
      subst hw2
      refine ⟨q1, _, rfl, seqT_grow s7 hq, rfl, .int (ar.k : Nat), _, rfl, .str ar.l, _, rfl, .int (ar.j : Nat), _, rfl, .int ar.t, _, rfl, rfl, rfl, yes_on ?_⟩
      refine ⟨.int (ar.k : Nat), rfl, .str ar.l, rfl, .int (ar.j : Nat), rfl, .int ar.t, rfl, _, _, rfl, rfl, _, rfl, ite2 (fun z => ?_) (fun z => ?_)⟩
      · exact ⟨small' (by simp), fun p np => fin 1 (by unfold costT; rw [if_pos (of_decide_eq_true z)]) p np⟩
      · exact ⟨small' (by simp), fun p np => fin 0 (by unfold costT; rw [if_neg (fun h => z (decide_eq_true h))]) p np⟩
    · obtain ⟨s7, uc, hC, hP⟩ := h
      rw [lva, List.take_length] at hP
      refine ⟨.ref p0, rfl, p0, vp, rfl, .inr (seqT_grow s7 s1), ?_⟩
      rw [lvp]
      refine ⟨.ref C, rfl, C, uc, rfl, .inl ⟨.inl (.inl hC), fun T3 nT3 => ?_⟩⟩
      have c3 := same_new (o := .tup uc) nT3
      have hT3 : (upd H' T3 (.tup uc)) T3 = some (.tup uc) := upd_same
      generalize upd H' T3 (.tup uc) = G4 at c3 hT3 ⊢
      refine ⟨small' (by simp), fun T4 nT4 => ?_⟩
      have c4 := same_new (o := .tup [V.int (Ps.length : Nat), V.ref T3]) nT4
      have sAll := (s7.trans c3).trans c4
      refine q _ _ Ps A (e2.trans (ExtN.of sAll)) (t2.ext sAll) ips ias lP lA ?_
      exact .tup (.inl (.inl upd_same)) (.cons (.int _) (.cons (.tup (.inl (.inl (c4 _ _ hT3))) (c4_data (c4_keep (fun b xs e => c4 _ _ (c3 _ _ e)) hP))) .nil))
end
end K5
set_option Elab.async false
set_option linter.all false
set_option maxRecDepth 100000
set_option maxHeartbeats 2000000
namespace Ver
open PySem PySem.Spec PyProof.Rows L2
def repC (c n : Nat) : Str := ⟨(List.replicate n c).toArray⟩
theorem repC_len (c n : Nat) : (repC c n).length = n := by
  show (List.replicate n c).toArray.size = n
  rw [List.size_toArray, List.length_replicate]
theorem repC_mem {c n d : Nat} (h : d ∈ (repC c n).cps.toList) : d = c := List.eq_of_mem_replicate h
theorem fold_rep (c : Nat) : ∀ (n : Nat) (acc : Array Nat), ((List.replicate n (#[c] : Array Nat)).foldl (· ++ ·) acc).toList = acc.toList ++ List.replicate n c
  | 0, acc => by simp
  | n + 1, acc => by
    rw [List.replicate_succ, List.foldl_cons, fold_rep c n, List.replicate_succ, Array.toList_append, List.append_assoc]
    rfl
theorem mul_repC {c n : Nat} (h : 2 ≤ n) : Txt.mul ⟨#[c]⟩ (n : Int) = repC c n := by
  unfold Txt.mul
  have h1 : ¬ (n : Int) < 1 := by omega
  have h2 : ¬ (((n : Int) == 1 || (⟨#[c]⟩ : Str).length == 0) = true) := by
    have e1 : ((n : Int) == 1) = false := beq_eq_false_iff_ne.mpr (by omega)
    have e2 : ((⟨#[c]⟩ : Str).length == 0) = false := rfl
    rw [e1, e2]
    exact fun z => Bool.noConfusion z
  rw [if_neg h1, if_neg h2, Int.toNat_natCast]
  refine TL.ext_tl ?_
  show ((List.replicate n (#[c] : Array Nat)).foldl (· ++ ·) #[]).toList = List.replicate n c
  rw [fold_rep]
  rfl
theorem op_repC {X : Cx} : OpR X (binaryOp .Mult) (fun x y H Q => ∃ c n : Nat, x = .str ⟨#[c]⟩ ∧ y = .int (n : Int) ∧ 2 ≤ n ∧ n ≤ 100000 ∧ Q (.str (repC c n)) H) := by
  intro pins s σ H x y v u Q I rx ry h
  obtain ⟨c, n, rfl, rfl, h0, h1, q⟩ := h
  obtain ⟨t, rfl⟩ := rx
  obtain ⟨t', rfl⟩ := ry
  refine SB.mul ⟨?_, fun _ _ => ?_, fun _ _ => ?_⟩ fun t2 k => ?_
  · rw [decide_eq_false (by omega), decide_eq_false (by omega)]; rfl
  · have e : ((⟨#[c]⟩ : Str).length : Int) = 1 := rfl
    rw [e]
    have : (1 : Int) ≤ (2 ^ 63 - 1) / (n : Int) := Int.le_ediv_of_mul_le (by omega) (by omega)
    omega
  · have e : (⟨#[c]⟩ : Str).length * (n : Int).toNat = n := by
      rw [Int.toNat_natCast]
      exact Nat.one_mul n
    rw [e]
    have hs := small (n := n) h1
    unfold Builtin.Str.tooLong
    exact decide_eq_false (by omega)
  · rw [mul_repC h0]
    exact ⟨.str (repC c n), H, I.tok _, ⟨_, rfl⟩, q⟩
end Ver
set_option Elab.async false
set_option linter.all false
set_option maxRecDepth 100000
set_option maxHeartbeats 2000000
namespace Ver
open PySem PySem.Spec PyProof.Rows L2
theorem fold_len (x : Array Nat) : ∀ (n : Nat) (acc : Array Nat), ((List.replicate n x).foldl (· ++ ·) acc).size = acc.size + x.size * n
  | 0, acc => by simp
  | n + 1, acc => by
    rw [List.replicate_succ, List.foldl_cons, fold_len x n, Array.size_append, Nat.mul_succ]
    omega
theorem mul_len {z : Str} {n : Nat} (h : 2 ≤ n) (hz : 1 ≤ z.length) : (Txt.mul z (n : Int)).length = z.length * n := by
  unfold Txt.mul
  have h1 : ¬ (n : Int) < 1 := by omega
  have h2 : ¬ (((n : Int) == 1 || z.length == 0) = true) := by
    have e1 : ((n : Int) == 1) = false := beq_eq_false_iff_ne.mpr (by omega)
    have e2 : (z.length == 0) = false := beq_eq_false_iff_ne.mpr (by omega)
    rw [e1, e2]
    exact fun z => Bool.noConfusion z
  rw [if_neg h1, if_neg h2, Int.toNat_natCast]
  show ((List.replicate n z.cps).foldl (· ++ ·) #[]).size = z.length * n
  rw [fold_len]
  show 0 + z.cps.size * n = z.length * n
  rw [Nat.zero_add]
  rfl
theorem op_repS {X : Cx} : OpR X (binaryOp .Mult) (fun x y H Q => ∃ (z : Str) (n : Nat), x = .str z ∧ y = .int (n : Int) ∧ 2 ≤ n ∧ 1 ≤ z.length ∧ n ≤ 100000 ∧ z.length * n ≤ 100000 ∧ Q (.str (Txt.mul z (n : Int))) H) := by
  intro pins s σ H x y v u Q I rx ry h
  obtain ⟨z, n, rfl, rfl, h0, hz, h1, h2, q⟩ := h
  obtain ⟨t, rfl⟩ := rx
  obtain ⟨t', rfl⟩ := ry
  refine SB.mul ⟨?_, fun _ _ => ?_, fun _ _ => ?_⟩ fun t2 k => ?_
  · rw [decide_eq_false (by omega), decide_eq_false (by omega)]; rfl
  · have h3 : (z.length : Int) * (n : Int) ≤ 2 ^ 63 - 1 := by
      have h4 : ((z.length * n : Nat) : Int) ≤ 100000 := by omega
      rw [Int.natCast_mul] at h4
      omega
    have : (z.length : Int) ≤ (2 ^ 63 - 1) / (n : Int) := Int.le_ediv_of_mul_le (by omega) h3
    omega
  · rw [Int.toNat_natCast]
    have hs := small (n := z.length * n) h2
    unfold Builtin.Str.tooLong
    exact decide_eq_false (by omega)
  · exact ⟨.str _, H, I.tok _, ⟨_, rfl⟩, q⟩
end Ver
set_option Elab.async false
set_option linter.all false
set_option maxRecDepth 100000
set_option maxHeartbeats 2000000
namespace K5
open PySem PySem.Spec PyProof.Rows L2 Ver LamX
theorem Drawn.back {p D : Addr} {H H' : Hp} (d : Drawn p H H') (n : H' D = none) : H D = none := by
  cases e : H D with
  | none => rfl
  | some o =>
    by_cases q : D = p
    · obtain ⟨ns, _, _, h⟩ := d.2
      rw [q, h] at n
      cases n
    · rw [d.1 D o q e] at n
      cases n
def abS : Str := "ab"
def abcS : Str := "abc"
theorem abS_len : abS.length = 2 := by decide +kernel
theorem abcS_len : abcS.length = 3 := by decide +kernel
theorem inV_strs (s : Str) : ∀ l : List Str, inV (.str s) (l.map V.str) = decide (s ∈ l)
  | [] => rfl
  | x :: l => by
    have ih := inV_strs s l
    show (eqV (.str x) (.str s) || inV (.str s) (l.map V.str)) = _
    rw [ih]
    have e1 : eqV (.str x) (.str s) = decide (x = s) := by
      show (x == s) = decide (x = s)
      by_cases h : x = s
      · subst h; simp
      · rw [decide_eq_false h]; exact beq_eq_false_iff_ne.mpr h
    rw [e1]
    by_cases h : x = s
    · subst h; simp
    · have h' : ¬ s = x := fun q => h q.symm
      rw [decide_eq_false h, Bool.false_or]
      simp [h']
theorem sign_at {sg : Str} {i : Int} (h0 : 0 ≤ i) (h1 : i < sg.length) : ∃ c, atI sg.cps.toList i = some c ∧ c ∈ sg.cps.toList := by
  have lt : i.toNat < sg.cps.toList.length := by
    have e : sg.cps.toList.length = sg.length := by rw [Array.length_toList]; rfl
    omega
  have e0 : i = ((i.toNat : Nat) : Int) := by omega
  rw [e0]
  exact ⟨sg.cps.toList[i.toNat], atI_nat (j := i.toNat) (List.getElem?_eq_getElem lt), List.getElem_mem lt⟩
theorem flat_strs : ∀ ws : List Str, (ws.map V.str).all flatV = true
  | [] => rfl
  | _ :: ws => by rw [List.map_cons, List.all_cons, flat_strs ws]; rfl
def lowS (z : Str) : Prop := ∀ c ∈ z.cps.toList, c < 1114112
def lowT (ts : List Str) : Prop := ∀ z ∈ ts, lowS z
theorem low_take {z : Str} (h : lowS z) (n : Nat) : lowS (takeS z n) := fun d hd => h d (List.mem_of_mem_take hd)
theorem low_snoc {z : Str} (h : lowS z) {c : Nat} (hc : c < 1114112) : lowS (z ++ (⟨#[c]⟩ : Str)) := fun d hd => by
  have e : (z ++ (⟨#[c]⟩ : Str)).cps.toList = z.cps.toList ++ [c] := Array.toList_append
  rw [e] at hd
  rcases List.mem_append.mp hd with hd | hd
  · exact h d hd
  · rw [List.mem_singleton.mp hd]; exact hc
theorem low_nil : lowS "" := fun d hd => absurd hd (by show ¬ d ∈ (#[] : Array Nat).toList; simp)
theorem fold_low (x : Array Nat) (P : Nat → Prop) (h : ∀ c ∈ x.toList, P c) : ∀ (n : Nat) (acc : Array Nat), (∀ c ∈ acc.toList, P c) → ∀ c ∈ ((List.replicate n x).foldl (· ++ ·) acc).toList, P c
  | 0, _, ha => ha
  | n + 1, acc, ha => by
    rw [List.replicate_succ, List.foldl_cons]
    refine fold_low x P h n _ fun c hc => ?_
    rw [Array.toList_append] at hc
    exact (List.mem_append.mp hc).elim (ha c) (h c)
theorem low_mul {z : Str} (h : lowS z) (n : Nat) : lowS (Txt.mul z (n : Int)) := by
  unfold Txt.mul
  split
  · exact low_nil
  · split
    · exact h
    · exact fold_low z.cps (· < 1114112) h _ #[] (fun c hc => absurd hc (by simp))
theorem sign_low {sg : Str} (h : sg = abS ∨ sg = abcS) : lowS sg := by
  rcases h with rfl | rfl
  · show ∀ c ∈ abS.cps.toList, c < 1114112
    decide +kernel
  · show ∀ c ∈ abcS.cps.toList, c < 1114112
    decide +kernel
def sumL (ts : List Str) : Nat := (ts.map (·.length)).sum
structure Toks (ts : List Str) : Prop where
  one : 1 ≤ ts.length
  four : ts.length ≤ 4
  nd : ts.Nodup
  some : ∀ z ∈ ts, 1 ≤ z.length ∧ z.length ≤ 12
  sum : sumL ts ≤ 36
  low : lowT ts
theorem sumL_snoc (ts : List Str) (z : Str) : sumL (ts ++ [z]) = sumL ts + z.length := by
  unfold sumL
  rw [List.map_append, List.sum_append]
  simp
theorem sumL_le {k : Nat} : ∀ {ts : List Str}, (∀ z ∈ ts, z.length ≤ k) → sumL ts ≤ k * ts.length
  | [], _ => Nat.le_refl _
  | z :: ts, h => by
    have ih := sumL_le (ts := ts) fun y hy => h y (List.mem_cons_of_mem _ hy)
    have hz := h z (List.mem_cons_self ..)
    unfold sumL at ih ⊢
    rw [List.map_cons, List.sum_cons, List.length_cons, Nat.mul_succ]
    omega
section
variable {P : Program} {w : World} {K : PySem.W.Frag} {mg : Str → Option Value} {base : Heap}
def sp__law_drawn_tokens (K : PySem.W.Frag) : Sp := fun vs H Q _ => ∃ (p : Addr) (sg : Str), vs = [.ref p, .str sg] ∧ (sg = abS ∨ sg = abcS) ∧ Pool H p ∧ ∀ (t : Addr) (ts : List Str) H', Toks ts → Drawn p H H' → H' t = some (.tup (ts.map V.str)) → Q (.ref t) H'
theorem ok__law_drawn_tokens (T : Tx K mg) : FnOk P w K mg base CX0 2 T.f__law_drawn_tokens T.d__law_drawn_tokens ["pool", "signs"] (sp__law_drawn_tokens K) := by
  refine T.F__law_drawn_tokens.ok sc__law_drawn_tokens (fun vs H Q E h => ?_) (fun cdv A outer s H vs Q E hr h => ?_)
  · obtain ⟨p, sg, rfl, _⟩ := h; rfl
  · obtain ⟨p, sg, rfl, hsg, hP, q⟩ := h
    refine ⟨_, (pss_cons (ps_set (i := 2) sc__law_drawn_tokens.nd rfl (Or.inl rfl) (pe_ifExp (pt_cmpR op_eq (pe_call (ok__law_pick T) hr rfl T.g__law_pick T.F__law_pick.kp T.b__law_pick .nil pass0 (pa_cons (pv 0) (pa_cons pe_int pa_nil))) pe_int (nomark _)) pe_int pe_int))
    (pss_cons (ps_set (i := 3) sc__law_drawn_tokens.nd rfl (Or.inl rfl) (pe_lst pa_nil))
    (pss_cons (ps_for PassesOwn.never rfl (pi_range1 rfl T.n_range (pa_cons (pe_op op_add pe_int (pe_call (ok__law_pick T) hr rfl T.g__law_pick T.F__law_pick.kp T.b__law_pick .nil pass0 (pa_cons (pv 0) (pa_cons pe_int pa_nil)))) pa_nil)) (pg_name (i := 4) sc__law_drawn_tokens.nd rfl (Or.inl rfl))
    (pss_cons (ps_set (i := 5) sc__law_drawn_tokens.nd rfl (Or.inl rfl) pe_str)
    (pss_cons (ps_for PassesOwn.never rfl (pi_range1 rfl T.n_range (pa_cons (pe_op op_add pe_int (pe_call (ok__law_pick T) hr rfl T.g__law_pick T.F__law_pick.kp T.b__law_pick .nil pass0 (pa_cons (pv 0) (pa_cons (pv 2) pa_nil)))) pa_nil)) (pg_name (i := 6) sc__law_drawn_tokens.nd rfl (Or.inl rfl))
    (pss_one (ps_set (i := 5) sc__law_drawn_tokens.nd rfl (Or.inl rfl) (pe_op op_add_str (pv 5) (pe_ix ix_str (pv 1) (pe_call (ok__law_pick T) hr rfl T.g__law_pick T.F__law_pick.kp T.b__law_pick .nil pass0 (pa_cons (pv 0) (pa_cons (pe_callB call_len_str (by rfl) T.n_len (by decide +kernel) (pa_cons (pv 1) pa_nil)) pa_nil))) (fun _ _ => rfl))))))
    (pss_one (ps_if (pt_cmpR op_notIn_seq (pv 5) (pv 3) (by rfl)) (pss_one (ps_expr (pe_bm PySem.F.plainAttrs_list PySem.F.slot_list_append PySem.F.type_list_append mt_append (pv 3) (pa_cons (pv 5) pa_nil)))) pss_nil)))))
    (pss_cons (ps_if (PW.pt (pw_and (pt_cmpR op_eq (pe_call (ok__law_pick T) hr rfl T.g__law_pick T.F__law_pick.kp T.b__law_pick .nil pass0 (pa_cons (pv 0) (pa_cons pe_int pa_nil))) pe_int (nomark _)) (pw_and1 (pt_cmpR op_lt (pe_callB call_len_seq (by rfl) T.n_len (by decide +kernel) (pa_cons (pv 3) pa_nil)) pe_int (nomark _))))) (pss_one (ps_expr (pe_bm PySem.F.plainAttrs_list PySem.F.slot_list_append PySem.F.type_list_append mt_append (pv 3) (pa_cons (pe_op op_add_str (pe_slice C8.sl_txt (pe_op op_repS (pe_ix ix_list (pv 3) pe_int (fun _ _ => rfl)) pe_int) po_none (po_some pe_int)) (pe_ix ix_str (pv 1) (pe_call (ok__law_pick T) hr rfl T.g__law_pick T.F__law_pick.kp T.b__law_pick .nil pass0 (pa_cons (pv 0) (pa_cons (pe_callB call_len_str (by rfl) T.n_len (by decide +kernel) (pa_cons (pv 1) pa_nil)) pa_nil))) (fun _ _ => rfl))) pa_nil)))) pss_nil)
    (pss_one (ps_ret (pe_callTy call_tuple_of (by rfl) T.n_tuple (by decide +kernel) (pa_cons (pv 3) pa_nil)))))))), ?_⟩
    have lsg : 2 ≤ sg.length ∧ sg.length ≤ 3 := by
      rcases hsg with rfl | rfl
      · rw [abS_len]; decide
      · rw [abcS_len]; decide
    refine seq_via (fun σ' H' => ∃ m : Int, 3 ≤ m ∧ m ≤ 6 ∧ σ' = [some (.ref p), some (.str sg), some (.int m), none, none, none, none] ∧ Drawn p H H') (fun C hC => ?_) (fun σ' H2 h => ?_)
    · refine ⟨.ref p, rfl, p, 8, rfl, hP, by decide, by decide, fun r H2 r0 r1 d2 f2 => ⟨rfl, _, rfl, ?_⟩⟩
      refine ite2 (fun _ => hC _ _ ⟨6, by decide, by decide, rfl, d2⟩) (fun _ => hC _ _ ⟨3, by decide, by decide, rfl, d2⟩)
    obtain ⟨m, m3, m6, rfl, d2⟩ := h
    refine ⟨Nat.zero_le _, fun Rw nR => ?_⟩
    have d3 := d2.same (same_new (o := .lst []) nR)
    have hR : (upd H2 Rw (.lst [])) Rw = some (.lst []) := upd_same
    have pR := d2.2.ne_none nR
    have nRH := d2.back nR
    generalize upd H2 Rw (.lst []) = H3 at d3 hR ⊢
    refine ⟨.ref p, rfl, p, 4, rfl, d3.2, by decide, by decide, fun r H4 r0 r1 d4 f4 => ⟨1, r, rfl, rfl, 1 + r, rfl, by omega, by omega, ?_⟩⟩
    refine for_range0 (n := (1 + r).toNat) (fun i σ H' => ∃ (ws : List Str) (y3 y4 y5 : Option V), σ = [some (.ref p), some (.str sg), some (.int m), some (.ref Rw), y3, y4, y5] ∧ Drawn p H H' ∧ H' Rw = some (.lst (ws.map V.str)) ∧ ws.Nodup ∧ ws.length ≤ i ∧ (1 ≤ i → 1 ≤ ws.length) ∧ ∀ z ∈ ws, 1 ≤ z.length ∧ z.length ≤ 6 ∧ lowS z)
      ⟨[], none, none, none, rfl, d3.trans d4, d4.1 _ _ pR.symm hR, List.nodup_nil, by decide, fun h => absurd h (by decide), fun z hz => absurd hz (by simp)⟩ (fun i σ H' lt h => ?_) (fun σ H' h => ?_)
    · obtain ⟨ws, y3, y4, y5, rfl, d, hR, nd, li, one, ok⟩ := h
      refine ⟨.ref p, rfl, .int m, rfl, p, m, rfl, d.2, by omega, by omega, fun r2 H5 r20 r21 d5 f5 => ⟨1, r2, rfl, rfl, 1 + r2, rfl, by omega, by omega, ?_⟩⟩
      refine for_range0 (n := (1 + r2).toNat) (fun j σ H' => ∃ (z : Str) (y5 : Option V), σ = [some (.ref p), some (.str sg), some (.int m), some (.ref Rw), some (.int (i : Nat)), some (.str z), y5] ∧ z.length = j ∧ lowS z ∧ Drawn p H H' ∧ H' Rw = some (.lst (ws.map V.str)))
        ⟨"", y5, rfl, by decide, low_nil, d.trans d5, d5.1 _ _ pR.symm hR⟩ (fun j σ H' ltj h => ?_) (fun σ H' h => ?_)
      · obtain ⟨z, y5, rfl, zl, zlo, d6, hR6⟩ := h
        refine ⟨.str z, rfl, .str sg, rfl, .ref p, rfl, .str sg, rfl, sg, rfl, small' (by omega), p, (sg.length : Nat), rfl, d6.2, by omega, by omega, fun c0 H7 c1 c2 d7 f7 => ?_⟩
        obtain ⟨c, ec, hcm⟩ := sign_at (sg := sg) c1 (by omega)
        refine ⟨sg, c0, c, rfl, rfl, small' (by omega), ec, z, ⟨#[c]⟩, rfl, rfl, small' (by show z.length + 1 ≤ 100000; omega), ?_⟩
        have el : (z ++ (⟨#[c]⟩ : Str)).length = z.length + 1 := Str.length_append _ _
        exact ⟨z ++ ⟨#[c]⟩, some (.int (j : Nat)), rfl, by omega, low_snoc zlo (sign_low hsg c hcm), d6.trans d7, d7.1 _ _ pR.symm hR6⟩
      · obtain ⟨z, y5, rfl, zl, zlo, d6, hR6⟩ := h
        have zb : 1 ≤ z.length ∧ z.length ≤ 6 ∧ lowS z := ⟨by omega, by omega, zlo⟩
        refine ⟨.str z, rfl, .ref Rw, rfl, Rw, ws.map V.str, rfl, .inl (.inl (.inl hR6)), rfl, flat_strs ws, _, rfl, ?_⟩
        show (if (!inV (.str z) (ws.map V.str)) = true then _ else _)
        rw [inV_strs]
        refine ite2 (fun e1 => ?_) (fun e1 => ?_)
        · have nm : z ∉ ws := by simpa using e1
          exact ⟨.ref Rw, rfl, .inl ⟨rfl, _, .inl (.inl hR6)⟩, .str z, rfl, Rw, _, _, rfl, rfl, hR6, small (by rw [List.length_map]; omega), ws ++ [z], _, _, _, rfl, d6.at nRH pR, by rw [upd_same, List.map_append]; rfl, List.nodup_append.mpr ⟨nd, List.pairwise_singleton _ _, fun a ha b hb => by rw [List.mem_singleton.mp hb]; exact fun q => nm (q ▸ ha)⟩, by rw [List.length_append]; show ws.length + 1 ≤ i + 1; omega, fun _ => by simp, fun y hy => (List.mem_append.mp hy).elim (ok y) (fun h => by rw [List.mem_singleton.mp h]; exact zb)⟩
        · have mm : z ∈ ws := by simpa using e1
          exact ⟨ws, _, _, _, rfl, d6, hR6, nd, by omega, fun _ => List.length_pos_of_mem mm, ok⟩
    obtain ⟨ws, y3, y4, y5, rfl, d5, hR5, nd, li, one, ok⟩ := h
    have l4 : ws.length ≤ 4 := by omega
    have l1 : 1 ≤ ws.length := one (by omega)
    have l6 : ∀ z ∈ ws, z.length ≤ 6 := fun z hz => (ok z hz).2.1
    have sm : sumL ws ≤ 6 * ws.length := sumL_le l6
    have done : ∀ (zs : List Str) (Hx : Hp), Toks zs → Drawn p H Hx → Hx Rw = some (.lst (zs.map V.str)) → ∀ l, Hx l = none → Q (.ref l) (upd Hx l (.tup (zs.map V.str))) := fun zs Hx tk d hR l nl => q l zs _ tk (d.same (same_new nl)) upd_same
    have d0 : Toks ws := ⟨l1, l4, nd, fun z hz => ⟨(ok z hz).1, by have := l6 z hz; omega⟩, by omega, fun z hz => (ok z hz).2.2⟩
    refine ⟨.ref p, rfl, p, 12, rfl, d5.2, by decide, by decide, fun r6 H6 r60 r61 d6 f6 => ⟨rfl, ?_⟩⟩
    have hR6 := d6.1 _ _ pR.symm hR5
    have d56 := d5.trans d6
    refine ⟨_, rfl, ?_⟩
    have fin : ∀ (zs : List Str) (Hx : Hp), Toks zs → Drawn p H Hx → Hx Rw = some (.lst (zs.map V.str)) → (SqL K Hx Rw (zs.map V.str) ∧ ∀ l, Hx l = none → Q (.ref l) (upd Hx l (.tup (zs.map V.str)))) ∨ (SqT K Hx Rw (zs.map V.str) ∧ Q (.ref Rw) Hx) := fun zs Hx tk d hR => .inl ⟨.inl (.inl hR), done zs Hx tk d hR⟩
    refine ite2 (fun e4 => ?_) (fun e4 => ?_)
    · refine ⟨.ref Rw, rfl, Rw, _, rfl, .inl (.inl (.inl hR6)), _, 4, rfl, rfl, _, rfl, ?_⟩
      refine ite2 (fun e5 => ?_) (fun e5 => ?_)
      · have l3 : ws.length < 4 := by
          have := of_decide_eq_true e5
          rw [List.length_map] at this
          omega
        obtain ⟨z0, wr, rfl⟩ : ∃ z0 wr, ws = z0 :: wr := by
          cases ws with
          | nil => exact absurd l1 (by decide)
          | cons z0 wr => exact ⟨z0, wr, rfl⟩
        have k0 := ok z0 (List.mem_cons_self ..)
        have ml : (Txt.mul z0 ((12 : Nat) : Int)).length = z0.length * 12 := mul_len (by decide) k0.1
        have sl : Txt.slice (Txt.mul z0 ((12 : Nat) : Int)) none (some 11) = takeS (Txt.mul z0 ((12 : Nat) : Int)) 11 := slice_takeS _ 11
        have tl : (takeS (Txt.mul z0 ((12 : Nat) : Int)) 11).length = 11 := takeS_len (by omega)
        refine ⟨.ref Rw, rfl, .inl ⟨rfl, _, .inl (.inl hR6)⟩, .ref Rw, rfl, Rw, _, 0, .str z0, rfl, rfl, .inl (.inl hR6), atI_nat (j := 0) rfl, z0, 12, rfl, rfl, by decide, k0.1, by decide, by omega, 11, rfl, Txt.mul z0 ((12 : Nat) : Int), rfl, small' (by omega), ?_⟩
        rw [sl]
        have tlo : lowS (takeS (Txt.mul z0 ((12 : Nat) : Int)) 11) := low_take (low_mul k0.2.2 12) 11
        generalize takeS (Txt.mul z0 ((12 : Nat) : Int)) 11 = tx at tl tlo ⊢
        refine ⟨.str sg, rfl, .ref p, rfl, .str sg, rfl, sg, rfl, small' (by omega), p, (sg.length : Nat), rfl, d56.2, by omega, by omega, fun c0 H7 c1 c2 d7 f7 => ?_⟩
        obtain ⟨c, ec, hcm⟩ := sign_at (sg := sg) c1 (by omega)
        have hR7 := d7.1 _ _ pR.symm hR6
        refine ⟨sg, c0, c, rfl, rfl, small' (by omega), ec, tx, ⟨#[c]⟩, rfl, rfl, small' (by show tx.length + 1 ≤ 100000; omega), ?_⟩
        have el : (tx ++ (⟨#[c]⟩ : Str)).length = tx.length + 1 := Str.length_append _ _
        have ylo : lowS (tx ++ (⟨#[c]⟩ : Str)) := low_snoc tlo (sign_low hsg c hcm)
        generalize tx ++ (⟨#[c]⟩ : Str) = ty at el ylo ⊢
        have nm : ty ∉ z0 :: wr := fun h => by have := l6 ty h; omega
        refine ⟨Rw, _, _, rfl, rfl, hR7, small (by rw [List.length_map]; omega), ?_⟩
        refine ⟨.ref Rw, rfl, Rw, _, rfl, fin ((z0 :: wr) ++ [ty]) _ ⟨by simp, by rw [List.length_append]; show (z0 :: wr).length + 1 ≤ 4; omega, List.nodup_append.mpr ⟨nd, List.pairwise_singleton _ _, fun a ha b hb => by rw [List.mem_singleton.mp hb]; exact fun q => nm (q ▸ ha)⟩, fun y hy => (List.mem_append.mp hy).elim (fun h => ⟨(ok y h).1, by have := l6 y h; omega⟩) (fun h => by rw [List.mem_singleton.mp h]; omega), by rw [sumL_snoc]; omega, fun y hy => (List.mem_append.mp hy).elim (fun h => (ok y h).2.2) (fun h => by rw [List.mem_singleton.mp h]; exact ylo)⟩ ((d56.trans d7).at nRH pR) (by rw [upd_same, List.map_append]; rfl)⟩
      · exact ⟨.ref Rw, rfl, Rw, _, rfl, fin ws _ d0 d56 hR6⟩
    · exact ⟨.ref Rw, rfl, Rw, _, rfl, fin ws _ d0 d56 hR6⟩
end
end K5
set_option Elab.async false
set_option linter.all false
set_option maxRecDepth 100000
set_option maxHeartbeats 2000000
namespace K5
open PySem PySem.Spec PyProof.Rows L2 Ver
section
variable {P : Program} {w : World} {K : PySem.W.Frag} {mg : Str → Option Value} {base : Heap}
theorem flat_len0 : ∀ ys : List (List Nat), ys.flatten.length = (ys.map (·.length)).sum
  | [] => rfl
  | p :: ys => by rw [List.flatten_cons, List.length_append, flat_len0 ys, List.map_cons, List.sum_cons]
theorem join_len (ts : List Str) : (Txt.join "" ts).length = sumL ts := by
  have e : TL.tl (Str.ofString "") = [] := by rfl
  have e2 : (TL.tl (Txt.join (Str.ofString "") ts)) = (ts.map TL.tl).flatten := by rw [TL.join_eq, TL.tl_join, e, joinL_flat]
  have e3 : (TL.tl (Txt.join (Str.ofString "") ts)).length = (Txt.join (Str.ofString "") ts).length := by show (Array.toList _).length = _; rw [Array.length_toList]; rfl
  show (Txt.join (Str.ofString "") ts).length = _
  rw [← e3, e2, flat_len0, List.map_map]
  unfold sumL
  congr 1
theorem tup_drawn {H H' : Hp} {p a : Addr} {xs : List V} (hp : Pool H p) (d : Drawn p H H') (h : H a = some (.tup xs)) : H' a = some (.tup xs) := by
  obtain ⟨ns, _, _, e⟩ := hp
  exact d.1 a _ (ne_of h e (by intro z; cases z)) h
theorem Rows.keep {K : PySem.W.Frag} {H H' : Hp} (e : ∀ b xs, H b = some (.tup xs) → H' b = some (.tup xs)) : ∀ {vs : List V} {rs : List (List Int)}, Rows K H vs rs → Rows K H' vs rs
  | _, _, .nil => .nil
  | _, _, .cons ⟨p, h1, h2⟩ t => .cons ⟨p, h1, e _ _ h2⟩ (Rows.keep e t)
def sp__law_drawn_book (K : PySem.W.Frag) : Sp := fun vs H Q _ => ∃ (p t : Addr) (ts : List Str), vs = [.ref p, .ref t] ∧ Pool H p ∧ Toks ts ∧ SqT K H t (ts.map V.str) ∧
  ∀ a n fin tab H', Drawn p H H' → BkAt K H' a ⟨((n : Nat) : Int), fin, tab⟩ → 1 ≤ n → (n ≤ 3 ∨ (n ≤ 11 ∧ sumL ts < 5)) → tab.length = n → (∀ r ∈ tab, r.length = ts.length ∧ ∀ x ∈ r, -1 ≤ x ∧ x < (n : Int)) → fin.length ≤ 11 → Q (.ref a) H'
theorem ok__law_drawn_book (T : Tx K mg) : FnOk P w K mg base CX0 2 T.f__law_drawn_book T.d__law_drawn_book ["pool", "tokens"] (sp__law_drawn_book K) := by
  refine T.F__law_drawn_book.ok sc__law_drawn_book (fun vs H Q E h => ?_) (fun cdv A outer s H vs Q E hr h => ?_)
  · obtain ⟨p, t, ts, rfl, _⟩ := h; rfl
  · obtain ⟨p, t, ts, rfl, hP, tk, hT, q⟩ := h
    refine ⟨_, (pss_cons (ps_set (i := 2) sc__law_drawn_book.nd rfl (Or.inl rfl) (pe_callB call_len_seq (by rfl) T.n_len (by decide +kernel) (pa_cons (pv 1) pa_nil)))
    (pss_cons (ps_set (i := 3) sc__law_drawn_book.nd rfl (Or.inr rfl) (pe_op op_add pe_int (pe_call (ok__law_pick T) hr rfl T.g__law_pick T.F__law_pick.kp T.b__law_pick .nil pass0 (pa_cons (pv 0) (pa_cons pe_int pa_nil)))))
    (C8.pss_cut (ps_if (PW.pt (pw_and (pt_cmpR op_eq (pe_call (ok__law_pick T) hr rfl T.g__law_pick T.F__law_pick.kp T.b__law_pick .nil pass0 (pa_cons (pv 0) (pa_cons pe_int pa_nil))) pe_int (nomark _)) (pw_and1 (pt_cmpR op_lt (pe_callB call_len_str (by rfl) T.n_len (by decide +kernel) (pa_cons (pe_join pe_str (pv 1)) pa_nil)) pe_int (nomark _))))) (pss_one (ps_set (i := 3) sc__law_drawn_book.nd rfl (Or.inr rfl) pe_int)) pss_nil)
    (C8.pss_cut (ps_set (i := 5) sc__law_drawn_book.nd rfl (Or.inl rfl) (pe_callTy call_tuple_of (by rfl) T.n_tuple (by decide +kernel) (pa_cons (pe_lc (own := [("s", 4)]) (g := gName 4) (tt := _) (by rfl) sc__law_drawn_book.nd (pi_range1 rfl T.n_range (pa_cons (pv 3) pa_nil)) (blkOk_by (N := ["pool", "tokens", "m", "count", "s", "finals", "table", "state", "t"]) (sc := defScope s__law_drawn_book) (by decide +kernel)) (fun _ _ _ _ _ => (pg_name (i := 4) sc__law_drawn_book.nd rfl (Or.inl rfl))) (fun _ _ _ _ _ => (pts_one (pt_cmpR op_lt (pe_call (ok__law_pick T) hr rfl T.g__law_pick T.F__law_pick.kp T.b__law_pick .nil pass0 (pa_cons (pv 0) (pa_cons pe_int pa_nil))) pe_int (nomark _)))) (fun _ _ _ _ _ => (pv 4))) pa_nil)))
    (pss_cons (ps_set (i := 6) sc__law_drawn_book.nd rfl (Or.inl rfl) (pe_lst pa_nil))
    (C8.pss_cut (ps_for PassesOwn.never rfl (pi_range1 rfl T.n_range (pa_cons (pv 3) pa_nil)) (pg_name (i := 4) sc__law_drawn_book.nd rfl (Or.inl rfl))
    (pss_one (ps_expr (pe_bm PySem.F.plainAttrs_list PySem.F.slot_list_append PySem.F.type_list_append mt_append (pv 6) (pa_cons (pe_callTy call_tuple_of (by rfl) T.n_tuple (by decide +kernel) (pa_cons (pe_lc (own := [("t", 8)]) (g := gName 8) (tt := tYes) (by rfl) sc__law_drawn_book.nd (pi_range1 rfl T.n_range (pa_cons (pv 2) pa_nil)) (blkOk_by (N := ["pool", "tokens", "m", "count", "s", "finals", "table", "state", "t"]) (sc := defScope s__law_drawn_book) (by decide +kernel)) (fun _ _ _ _ _ => (pg_name (i := 8) sc__law_drawn_book.nd rfl (Or.inl rfl))) (fun _ _ _ _ _ => pts_nil) (fun _ _ _ _ _ => (pe_op op_sub (pe_callB (call_min2 rfl) (by rfl) T.n_min (by decide +kernel) (pa_cons (pe_call (ok__law_pick T) hr rfl T.g__law_pick T.F__law_pick.kp T.b__law_pick .nil pass0 (pa_cons (pv 0) (pa_cons (pe_op op_add (pv 3) pe_int) pa_nil))) (pa_cons (pv 3) pa_nil))) pe_int))) pa_nil)) pa_nil)))))
    (C8.pss_cut (ps_if (pt_cmpR op_eq (pe_call (ok__law_pick T) hr rfl T.g__law_pick T.F__law_pick.kp T.b__law_pick .nil pass0 (pa_cons (pv 0) (pa_cons pe_int pa_nil))) pe_int (nomark _)) (pss_one (ps_asg (pe_callTy call_tuple_of (by rfl) T.n_tuple (by decide +kernel) (pa_cons (pe_lc (own := [("state", 7)]) (g := gName 7) (tt := tYes) (by rfl) sc__law_drawn_book.nd (pi_tup (pe_ix (ix_listK (K := K) rfl) (pv 6) pe_int (fun _ _ => rfl))) (blkOk_by (N := ["pool", "tokens", "m", "count", "s", "finals", "table", "state", "t"]) (sc := defScope s__law_drawn_book) (by decide +kernel)) (fun _ _ _ _ _ => (pg_name (i := 7) sc__law_drawn_book.nd rfl (Or.inl rfl))) (fun _ _ _ _ _ => pts_nil) (fun _ _ _ _ _ => (pe_callB (call_max2 rfl) (by rfl) T.n_max (by decide +kernel) (pa_cons pe_int (pa_cons (pv 7) pa_nil))))) pa_nil)) (pg_sub (pv 6) pe_int set_list))) pss_nil)
    (pss_one (ps_ret (pe_tup (pa_cons (pv 3) (pa_cons (pv 5) (pa_cons (pe_callTy call_tuple_of (by rfl) T.n_tuple (by decide +kernel) (pa_cons (pv 6) pa_nil)) pa_nil))))))))))))), ?_⟩
    refine ⟨.ref t, rfl, t, _, rfl, .inr hT, ?_⟩
    rw [List.length_map]
    refine ⟨.ref p, rfl, p, 3, rfl, hP, by omega, by omega, fun r4 H1 r40 r41 d1 f1 => ⟨1, r4, rfl, rfl, ?_⟩⟩
    refine ⟨fun σ' H' => ∃ n : Nat, 1 ≤ n ∧ (n ≤ 3 ∨ (n ≤ 11 ∧ sumL ts < 5)) ∧ σ' = [some (.ref p), some (.ref t), some (.int (ts.length : Nat)), some (.int (n : Nat)), none, none, none, none, none] ∧ Drawn p H H', ?_, fun σ' H1 h => ?_⟩
    · have l0 : 1 + r4 = (((1 + r4).toNat : Nat) : Int) := by omega
      generalize (1 + r4).toNat = n at l0
      show tIfS _ _ _ _ [some (V.ref p), some (V.ref t), some (V.int (ts.length : Nat)), some (V.int (1 + r4)), none, none, none, none, none] H1
      rw [l0]
      refine ⟨.ref p, rfl, p, 12, rfl, d1.2, by decide, by decide, fun r6 H6 r60 r61 d6 f6 => ⟨rfl, _, rfl, ?_⟩⟩
      have d16 := d1.trans d6
      refine ite2 (fun e4 => ?_) (fun e4 => ?_)
      · refine ⟨⟨"", rfl⟩, .ref t, rfl, "", t, ts, rfl, rfl, .inr (seqT_drawn hP d16 hT), ?_, _, rfl, ?_, ?_⟩
        · have e0 : (Str.ofString "").length = 0 := by rfl
          have e1 : (ts.map fun x => x.length).sum = sumL ts := rfl
          rw [e0, e1]
          have := tk.sum
          omega
        · refine small' ?_
          have e1 := join_len ts
          have := tk.sum
          show (Txt.join "" ts).length ≤ 100000
          omega
        · refine ⟨_, 5, rfl, rfl, _, rfl, ite2 (fun e5 => ?_) (fun e5 => ?_)⟩
          · have e1 := join_len ts
            have e6 : (((Txt.join "" ts).length : Nat) : Int) < 5 := of_decide_eq_true e5
            exact ⟨11, by decide, .inr ⟨by decide, by omega⟩, rfl, d16⟩
          · exact ⟨n, by omega, .inl (by omega), rfl, d16⟩
      · exact ⟨n, by omega, .inl (by omega), rfl, d16⟩
    obtain ⟨n, n1, nb, rfl, d1⟩ := h
    have n11 : n ≤ 11 := by omega
    have m4 := tk.four
    refine ⟨fun σ' H' => ∃ (f : Addr) (fs : List Int), σ' = [some (.ref p), some (.ref t), some (.int (ts.length : Nat)), some (.int (n : Nat)), none, some (.ref f), none, none, none] ∧ Drawn p H H' ∧ H' f = some (.tup (fs.map V.int)) ∧ fs.length ≤ 11, ?_, fun σ' H1 h => ?_⟩
    · refine ⟨.int (n : Int), rfl, (n : Int), rfl, by omega, by omega, fun D nD => ?_⟩
      have pD : p ≠ D := d1.2.ne_none nD
      refine lc_range (lo := 0) (n := (n : Int).toNat) (fun k H' => ∃ fs : List Int, Drawn p H1 H' ∧ H' D = some (.lst (fs.map V.int)) ∧ fs.length ≤ k) ⟨[], (Drawn.refl d1.2).same (same_new nD), upd_same, Nat.le_refl _⟩ (fun k H' lt h => ?_) (fun H2 h => ?_)
      · obtain ⟨fs, d2, hD, lf⟩ := h
        refine ⟨wipe_one _ 4 _, ?_⟩
        refine ⟨.ref p, rfl, p, 4, rfl, d2.2, by omega, by omega, fun r H3 r0 r1 d3 f3 => ⟨_, _, rfl, rfl, _, rfl, ite2 (fun z => ?_) (fun z => ?_)⟩⟩
        · exact ⟨_, rfl, _, d3.1 _ _ pD.symm hD, small (by rw [List.length_map]; omega), fs ++ [0 + (k : Int)], (d2.trans d3).at nD pD, by rw [upd_same, List.map_append]; rfl, by rw [List.length_append]; exact Nat.succ_le_succ lf⟩
        · exact ⟨fs, d2.trans d3, d3.1 _ _ pD.symm hD, by omega⟩
      obtain ⟨fs, d2, hD, lf⟩ := h
      refine ⟨D, _, rfl, .inl ⟨.inl (.inl hD), fun f nf => ?_⟩⟩
      refine ⟨f, fs, rfl, (d1.trans d2).same (same_new nf), upd_same, by omega⟩
    obtain ⟨f, fs, rfl, d12, hf, fs11⟩ := h
    generalize em : ts.length = m at q m4 ⊢
    refine ⟨Nat.zero_le _, fun L nL => ?_⟩
    have pL : p ≠ L := d12.2.ne_none nL
    have d13 := d12.same (same_new (o := .lst []) nL)
    have nLH : H L = none := d12.back nL
    have fL : f ≠ L := ne_of_none hf nL
    refine ⟨fun σ' H' => ∃ (L : Addr) (y4 : Option V) (tv : List V) (tab : List (List Int)), σ' = [some (.ref p), some (.ref t), some (.int (m : Nat)), some (.int (n : Nat)), y4, some (.ref f), some (.ref L), none, none] ∧ Drawn p H H' ∧ H L = none ∧ H' f = some (.tup (fs.map V.int)) ∧ p ≠ L ∧ H' L = some (.lst tv) ∧ Rows K H' tv tab ∧ tab.length = n ∧ ∀ r ∈ tab, r.length = m ∧ ∀ x ∈ r, -1 ≤ x ∧ x < (n : Int), ?_, fun σ' H2 h => ?_⟩
    · refine ⟨.int (n : Int), rfl, (n : Int), rfl, by omega, by omega, ?_⟩
      refine for_range0 (n := (n : Int).toNat) (fun i σ H' => ∃ (y4 : Option V) (tv : List V) (tab : List (List Int)), σ = [some (.ref p), some (.ref t), some (.int (m : Nat)), some (.int (n : Nat)), y4, some (.ref f), some (.ref L), none, none] ∧ Drawn p H H' ∧ H' f = some (.tup (fs.map V.int)) ∧ H' L = some (.lst tv) ∧ Rows K H' tv tab ∧ tab.length = i ∧ ∀ r ∈ tab, r.length = m ∧ ∀ x ∈ r, -1 ≤ x ∧ x < (n : Int))
        ⟨none, [], [], rfl, d13, by rw [upd_ne fL]; exact hf, upd_same, .nil, rfl, by simp⟩ (fun i σ H' lt h => ?_) (fun σ H' h => ?_)
      · obtain ⟨y4, tv, tab, rfl, d4, hf4, hL, hr4, lt4, ok4⟩ := h
        have ltv : tv.length = tab.length := Paired.length hr4
        refine ⟨.ref L, rfl, .inl ⟨rfl, _, .inl (.inl hL)⟩, .int (m : Int), rfl, (m : Int), rfl, by omega, by omega, fun D2 nD2 => ?_⟩
        have pD2 : p ≠ D2 := d4.2.ne_none nD2
        refine comp_range (n := (m : Int).toNat) (i := 8) (fun acc H5 => Drawn p H' H5 ∧ ∃ r : List Int, acc = r.map V.int ∧ ∀ x ∈ r, -1 ≤ x ∧ x < (n : Int)) ⟨(Drawn.refl d4.2).same (same_new nD2), [], rfl, by simp⟩ (fun acc H5 la h hD => ?_) (fun acc H5 la h hD => ?_)
        · obtain ⟨d5, r, rfl, pr⟩ := h
          refine ⟨.ref p, rfl, .int (n : Int), rfl, (n : Int), 2, rfl, rfl, p, _, rfl, d5.2, by omega, by omega, fun x H6 x0 x1 d6 f6 => ⟨.int (n : Int), rfl, x, (n : Int), rfl, (if (n : Int) < x then (n : Int) else x), 1, rfl, rfl, ?_⟩⟩
          refine turned (d6.1 _ _ pD2.symm hD) (small (by omega)) ⟨(d5.trans d6).at nD2 pD2, r ++ [(if (n : Int) < x then (n : Int) else x) - 1], by rw [List.map_append]; rfl, fun z hz => ?_⟩
          rcases List.mem_append.mp hz with hz | hz
          · exact pr z hz
          · rw [List.mem_singleton.mp hz]
            constructor
            · split <;> omega
            · split <;> omega
        obtain ⟨d5, r, rfl, pr⟩ := h
        rw [List.length_map] at la
        refine ⟨D2, _, rfl, .inl ⟨.inl (.inl hD), fun g ng => ?_⟩⟩
        have sg := same_new (o := .tup (r.map V.int)) ng
        have hg : (upd H5 g (.tup (r.map V.int))) g = some (.tup (r.map V.int)) := upd_same
        have d6 := d5.same sg
        generalize upd H5 g (.tup (r.map V.int)) = H6 at hg d6 ⊢
        have hL6 := d6.1 _ _ pL.symm hL
        have keep : ∀ b xs, H6 b = some (.tup xs) → (upd H6 L (.lst (tv ++ [.ref g]))) b = some (.tup xs) := fun b xs e => by
          rw [upd_ne (fun z => by rw [z, hL6] at e; cases e)]
          exact e
        refine ⟨L, _, _, rfl, rfl, hL6, small (by omega), some (.int (i : Int)), tv ++ [.ref g], tab ++ [r], rfl, (d4.trans d6).at nLH pL, keep _ _ (tup_drawn d4.2 d6 hf4), upd_same, Paired.snoc (Rows.keep (fun b xs e => keep b xs (tup_drawn d4.2 d6 e)) hr4) ⟨g, rfl, keep _ _ hg⟩, by rw [List.length_append, lt4]; rfl, fun r' hr' => ?_⟩
        rcases List.mem_append.mp hr' with hr' | hr'
        · exact ok4 r' hr'
        · rw [List.mem_singleton.mp hr']
          exact ⟨by omega, pr⟩
      · obtain ⟨y4, tv, tab, rfl, d4, hf4, hL, hr4, lt4, ok4⟩ := h
        rw [Int.toNat_natCast] at lt4
        exact ⟨L, y4, tv, tab, rfl, d4, nLH, hf4, pL, hL, hr4, lt4, ok4⟩
    obtain ⟨L, y4, tv, tab, rfl, d4, nLH, hf4, pL, hL, hr4, lt4, ok4⟩ := h
    have put : ∀ (v0 : V) (tr : List V) (r0 : List Int) (rs : List (List Int)) (Hx : Hp) (g : Addr) (r : List Int), Rows K Hx (v0 :: tr) (r0 :: rs) → Hx L = some (.lst (v0 :: tr)) → Hx g = some (.tup (r.map V.int)) → Rows K (upd Hx L (.lst ((v0 :: tr).set 0 (.ref g)))) (.ref g :: tr) (r :: rs) := fun v0 tr r0 rs Hx g r hr hl hg => by
      have keep : ∀ b xs, Hx b = some (.tup xs) → (upd Hx L (.lst ((v0 :: tr).set 0 (.ref g)))) b = some (.tup xs) := fun b xs e => by
        rw [upd_ne (fun z => by rw [z, hl] at e; cases e)]
        exact e
      cases hr with
      | cons _ ht => exact .cons ⟨g, rfl, keep _ _ hg⟩ (Rows.keep keep ht)
    refine ⟨fun σ' H' => ∃ (y4 y7 : Option V) (tv : List V) (tab : List (List Int)), σ' = [some (.ref p), some (.ref t), some (.int (m : Nat)), some (.int (n : Nat)), y4, some (.ref f), some (.ref L), y7, none] ∧ Drawn p H H' ∧ H' f = some (.tup (fs.map V.int)) ∧ H' L = some (.lst tv) ∧ Rows K H' tv tab ∧ tab.length = n ∧ ∀ r ∈ tab, r.length = m ∧ ∀ x ∈ r, -1 ≤ x ∧ x < (n : Int), ?_, fun σ' H2 h => ?_⟩
    · refine ⟨.ref p, rfl, p, 3, rfl, d4.2, by decide, by decide, fun r6 H6 r60 r61 d6 f6 => ⟨rfl, _, rfl, ?_⟩⟩
      have hL6 := d6.1 _ _ pL.symm hL
      have hf6 := tup_drawn d4.2 d6 hf4
      have hr6 := Rows.keep (fun b xs e => tup_drawn d4.2 d6 e) hr4
      have d46 := d4.trans d6
      refine ite2 (fun e4 => ?_) (fun e4 => ?_)
      · obtain ⟨v0, tr, r0, rs, rfl, rfl⟩ : ∃ v0 tr r0 rs, tv = v0 :: tr ∧ tab = r0 :: rs := by
          cases hr6 with
          | nil => exact absurd lt4 (by simp; omega)
          | cons _ _ => exact ⟨_, _, _, _, rfl, rfl⟩
        obtain ⟨a0, rfl, ha0⟩ : ∃ a0, v0 = .ref a0 ∧ H6 a0 = some (.tup (r0.map V.int)) := by
          cases hr6 with
          | cons h _ => exact h
        have ok0 := ok4 r0 (List.mem_cons_self ..)
        refine ⟨.ref L, rfl, L, _, 0, .ref a0, rfl, rfl, .inl (.inl hL6), atI_nat (j := 0) rfl, a0, rfl, ⟨_, .inl (.inl ha0)⟩, fun D nD => ?_⟩
        refine comp_tup (K := K) (a := a0) (xs := r0.map V.int) (i := 7) (fun acc H' => Same H6 H' ∧ ∃ r : List Int, acc = r.map V.int ∧ ∀ x ∈ r, -1 ≤ x ∧ x < (n : Int)) ⟨same_new nD, [], rfl, by simp⟩ (fun acc H' h => seqT_grow h.1 (.inl (.inl ha0))) (fun acc y H' e h hD => ?_) (fun acc H' e h hD => ?_)
        · obtain ⟨s1, r, rfl, pr⟩ := h
          obtain ⟨x, ex, rfl⟩ : ∃ x, x ∈ r0 ∧ V.int x = y := List.mem_map.mp (List.mem_of_getElem? e)
          have lt := (List.getElem?_eq_some_iff.mp e).1
          have l0 := ok0.1
          refine ⟨.int x, rfl, 0, x, rfl, ?_⟩
          refine turned hD (small (by rw [List.length_map]; rw [List.length_map, List.length_map] at lt; omega)) ⟨fun b o eb => ?_, r ++ [(if x > 0 then x else 0)], by rw [List.map_append]; rfl, fun z hz => ?_⟩
          · rw [upd_ne (ne_of_none eb nD)]
            exact s1 b o eb
          · rcases List.mem_append.mp hz with hz | hz
            · exact pr z hz
            · rw [List.mem_singleton.mp hz]
              have := ok0.2 x ex
              constructor
              · split <;> omega
              · split <;> omega
        · obtain ⟨s1, r, rfl, pr⟩ := h
          rw [List.length_map, List.length_map] at e
          refine ⟨D, _, rfl, .inl ⟨.inl (.inl hD), fun g ng => ?_⟩⟩
          have sg := same_new (o := .tup (r.map V.int)) ng
          have hg : (upd H' g (.tup (r.map V.int))) g = some (.tup (r.map V.int)) := upd_same
          have s2 := s1.trans sg
          generalize upd H' g (.tup (r.map V.int)) = H7 at hg s2 ⊢
          have hL7 := s2 _ _ hL6
          refine ⟨.ref L, rfl, L, _, 0, 0, rfl, rfl, hL7, (by unfold ixN; rw [if_pos (by decide), if_pos (by show (0 : Int) < ((tr.length + 1 : Nat) : Int); omega)]; rfl), ?_⟩
          have hr7 := put (.ref a0) tr r0 rs H7 g r (hr6.grow s2) hL7 hg
          refine ⟨y4, none, _, r :: rs, rfl, (d46.same s2).at nLH pL, ?_, upd_same, hr7, lt4, fun r' hr' => ?_⟩
          · rw [upd_ne (fun z => by have := s2 _ _ hf6; rw [z, hL7] at this; cases this)]
            exact s2 _ _ hf6
          · rcases List.mem_cons.mp hr' with rfl | hr'
            · exact ⟨by have := ok0.1; omega, pr⟩
            · exact ok4 r' (List.mem_cons_of_mem _ hr')
      · exact ⟨y4, none, tv, tab, rfl, d46, hf6, hL6, hr6, lt4, ok4⟩
    obtain ⟨y4, y7, tv, tab, rfl, d4, hf4, hL, hr4, lt4, ok4⟩ := h
    refine ⟨.int (n : Int), rfl, .ref f, rfl, .ref L, rfl, L, tv, rfl, .inl ⟨.inl (.inl hL), fun g ng => ?_⟩⟩
    have sg := same_new (o := .tup tv) ng
    have hg : (upd H2 g (.tup tv)) g = some (.tup tv) := upd_same
    generalize upd H2 g (.tup tv) = H6 at sg hg ⊢
    refine ⟨small' (by simp), fun a na => ?_⟩
    have sa := same_new (o := .tup [.int (n : Int), .ref f, .ref g]) na
    exact q a n fs tab _ ((d4.same sg).same sa) ⟨f, g, tv, .inl (.inl upd_same), .inl (.inl (sa _ _ (sg _ _ hf4))), .inl (.inl (sa _ _ hg)), hr4.grow (sg.trans sa)⟩ n1 nb lt4 ok4 fs11
end
end K5
set_option Elab.async false
set_option linter.all false
set_option maxRecDepth 100000
set_option maxHeartbeats 2000000
namespace K5
open PySem PySem.Spec PyProof.Rows L2 Ver
theorem takeS_le (z : Str) (k : Nat) : (takeS z k).length ≤ k := by
  by_cases h : k ≤ z.length
  · rw [takeS_len h]; exact Nat.le_refl _
  · have e : takeS z k = takeS z z.length := by
      unfold takeS
      have l : z.cps.toList.length = z.length := by rw [Array.length_toList]; rfl
      rw [← l, List.take_length, List.take_of_length_le (by omega)]
    rw [e, takeS_len (Nat.le_refl _)]
    omega
theorem slice_le (z : Str) {i : Int} (h : 0 ≤ i) : ((Txt.slice z none (some i)).length : Int) ≤ i := by
  have e : i = ((i.toNat : Nat) : Int) := by omega
  rw [e, slice_takeS]
  have := takeS_le z i.toNat
  omega
section
variable {P : Program} {w : World} {K : PySem.W.Frag} {mg : Str → Option Value} {base : Heap}
def sp__law_drawn_begun (K : PySem.W.Frag) : Sp := fun vs H Q _ => ∃ (p t : Addr) (ts : List Str) (sg : Str), vs = [.ref p, .ref t, .str sg] ∧ (sg = abS ∨ sg = abcS) ∧ Pool H p ∧ Toks ts ∧ SqT K H t (ts.map V.str) ∧
  ∀ (g : Str) H', Drawn p H H' → g.length ≤ 24 → Q (.str g) H'
theorem ok__law_drawn_begun (T : Tx K mg) : FnOk P w K mg base CX0 2 T.f__law_drawn_begun T.d__law_drawn_begun ["pool", "tokens", "signs"] (sp__law_drawn_begun K) := by
  refine T.F__law_drawn_begun.ok sc__law_drawn_begun (fun vs H Q E h => ?_) (fun cdv A outer s H vs Q E hr h => ?_)
  · obtain ⟨p, t, ts, sg, rfl, _⟩ := h; rfl
  · obtain ⟨p, t, ts, sg, rfl, hsg, hP, tk, hT, q⟩ := h
    refine ⟨_, (pss_cons (ps_set (i := 3) sc__law_drawn_begun.nd rfl (Or.inl rfl) (pe_call (ok__law_pick T) hr rfl T.g__law_pick T.F__law_pick.kp T.b__law_pick .nil pass0 (pa_cons (pv 0) (pa_cons pe_int pa_nil))))
    (pss_cons (ps_set (i := 4) sc__law_drawn_begun.nd rfl (Or.inl rfl) pe_str)
    (C8.pss_cut (ps_for PassesOwn.never rfl (pi_range1 rfl T.n_range (pa_cons pe_int pa_nil)) (pg_name (i := 5) sc__law_drawn_begun.nd rfl (Or.inl rfl))
    (pss_one (ps_set (i := 4) sc__law_drawn_begun.nd rfl (Or.inl rfl) (pe_op op_add_str (pv 4) (pe_ix ix_tup (pv 1) (pe_call (ok__law_pick T) hr rfl T.g__law_pick T.F__law_pick.kp T.b__law_pick .nil pass0 (pa_cons (pv 0) (pa_cons (pe_callB call_len_seq (by rfl) T.n_len (by decide +kernel) (pa_cons (pv 1) pa_nil)) pa_nil))) (fun _ _ => rfl))))))
    (pss_cons (ps_if (pt_cmpR op_lt (pv 3) pe_int (nomark _)) (pss_one (ps_ret pe_str)) pss_nil)
    (pss_cons (ps_if (pt_cmpR op_lt (pv 3) pe_int (nomark _)) (pss_one (ps_ret (pe_slice C8.sl_txt (pv 4) po_none (po_some (pe_op op_add pe_int (pe_call (ok__law_pick T) hr rfl T.g__law_pick T.F__law_pick.kp T.b__law_pick .nil pass0 (pa_cons (pv 0) (pa_cons pe_int pa_nil)))))))) pss_nil)
    (pss_cons (ps_if (pt_cmpR op_eq (pv 3) pe_int (nomark _)) (pss_one (ps_ret (pe_slice C8.sl_txt (pv 4) po_none (po_some pe_int)))) pss_nil)
    (pss_cons (ps_if (pt_cmpR op_eq (pv 3) pe_int (nomark _)) (pss_one (ps_ret (pe_op op_add_str (pe_ix ix_str (pv 2) (pe_call (ok__law_pick T) hr rfl T.g__law_pick T.F__law_pick.kp T.b__law_pick .nil pass0 (pa_cons (pv 0) (pa_cons (pe_callB call_len_str (by rfl) T.n_len (by decide +kernel) (pa_cons (pv 2) pa_nil)) pa_nil))) (fun _ _ => rfl)) (pe_ix ix_str (pv 2) (pe_call (ok__law_pick T) hr rfl T.g__law_pick T.F__law_pick.kp T.b__law_pick .nil pass0 (pa_cons (pv 0) (pa_cons (pe_callB call_len_str (by rfl) T.n_len (by decide +kernel) (pa_cons (pv 2) pa_nil)) pa_nil))) (fun _ _ => rfl))))) pss_nil)
    (pss_one (ps_ret (pe_op op_add_str (pe_slice C8.sl_txt (pv 4) po_none (po_some (pe_call (ok__law_pick T) hr rfl T.g__law_pick T.F__law_pick.kp T.b__law_pick .nil pass0 (pa_cons (pv 0) (pa_cons pe_int pa_nil))))) pe_str)))))))))), ?_⟩
    have lsg : 2 ≤ sg.length ∧ sg.length ≤ 3 := by
      rcases hsg with rfl | rfl
      · rw [abS_len]; decide
      · rw [abcS_len]; decide
    have l1 := tk.one
    have l4 := tk.four
    refine ⟨.ref p, rfl, p, 8, rfl, hP, by decide, by decide, fun kd H1 k0 k8 d1 f1 => ?_⟩
    refine ⟨fun σ' H' => ∃ (z : Str) (y : Option V), σ' = [some (.ref p), some (.ref t), some (.str sg), some (.int kd), some (.str z), y] ∧ z.length ≤ 144 ∧ Drawn p H H', ?_, fun σ' H2 h => ?_⟩
    · refine ⟨12, rfl, by decide, by decide, ?_⟩
      refine for_range0 (n := (12 : Int).toNat) (fun i σ H' => ∃ (z : Str) (y : Option V), σ = [some (.ref p), some (.ref t), some (.str sg), some (.int kd), some (.str z), y] ∧ z.length ≤ 12 * i ∧ Drawn p H H')
        ⟨"", none, rfl, by decide, d1⟩ (fun i σ H' lt h => ?_) (fun σ H' h => ?_)
      · obtain ⟨z, y, rfl, lz, d⟩ := h
        refine ⟨.str z, rfl, .ref t, rfl, .ref p, rfl, .ref t, rfl, t, _, rfl, .inr (seqT_drawn hP d hT), ?_⟩
        rw [List.length_map]
        refine ⟨p, (ts.length : Nat), rfl, d.2, by omega, by omega, fun r H3 r0 r1 d3 f3 => ?_⟩
        obtain ⟨z2, hz2, e2⟩ : ∃ z2 : Str, z2.length ≤ 12 ∧ atI (ts.map V.str) r = some (.str z2) := by
          have lt2 : r.toNat < ts.length := by omega
          have e0 : r = ((r.toNat : Nat) : Int) := by omega
          rw [e0]
          exact ⟨ts[r.toNat], (tk.some _ (List.getElem_mem lt2)).2, atI_nat (by rw [List.getElem?_map, List.getElem?_eq_getElem lt2]; rfl)⟩
        have el : (z ++ z2).length = z.length + z2.length := Str.length_append _ _
        exact ⟨t, _, r, _, rfl, rfl, seqT_drawn hP (d.trans d3) hT, e2, z, z2, rfl, rfl, small' (by omega), z ++ z2, _, rfl, by omega, d.trans d3⟩
      · obtain ⟨z, y, rfl, lz, d⟩ := h
        exact ⟨z, y, rfl, lz, d⟩
    obtain ⟨z, y, rfl, lz, d2⟩ := h
    refine ⟨.int kd, rfl, kd, 2, rfl, rfl, _, rfl, ite2 (fun _ => ?_) (fun _ => ?_)⟩
    · exact q _ _ d2 (by decide)
    refine ⟨.int kd, rfl, kd, 5, rfl, rfl, _, rfl, ite2 (fun _ => ?_) (fun _ => ?_)⟩
    · refine ⟨.str z, rfl, .ref p, rfl, p, 3, rfl, d2.2, by decide, by decide, fun r H3 r0 r1 d3 f3 => ⟨1, r, rfl, rfl, 1 + r, rfl, z, rfl, small' (by omega), ?_⟩⟩
      have := slice_le z (i := 1 + r) (by omega)
      exact q _ _ (d2.trans d3) (by omega)
    refine ⟨.int kd, rfl, rfl, _, rfl, ite2 (fun _ => ?_) (fun _ => ?_)⟩
    · refine ⟨.str z, rfl, 24, rfl, z, rfl, small' (by omega), ?_⟩
      have := slice_le z (i := 24) (by omega)
      exact q _ _ d2 (by omega)
    refine ⟨.int kd, rfl, rfl, _, rfl, ite2 (fun _ => ?_) (fun _ => ?_)⟩
    · refine ⟨.str sg, rfl, .ref p, rfl, .str sg, rfl, sg, rfl, small' (by omega), p, (sg.length : Nat), rfl, d2.2, by omega, by omega, fun c0 H7 c1 c2 d7 f7 => ?_⟩
      obtain ⟨c, ec, _⟩ := sign_at (sg := sg) c1 (by omega)
      refine ⟨sg, c0, c, rfl, rfl, small' (by omega), ec, ?_⟩
      refine ⟨.str sg, rfl, .ref p, rfl, .str sg, rfl, sg, rfl, small' (by omega), p, (sg.length : Nat), rfl, d7.2, by omega, by omega, fun c20 H8 c21 c22 d8 f8 => ?_⟩
      obtain ⟨c2, ec2, _⟩ := sign_at (sg := sg) c21 (by omega)
      have el : ((⟨#[c]⟩ : Str) ++ (⟨#[c2]⟩ : Str)).length = 1 + 1 := Str.length_append _ _
      refine ⟨sg, c20, c2, rfl, rfl, small' (by omega), ec2, ⟨#[c]⟩, ⟨#[c2]⟩, rfl, rfl, small' (by show 1 + 1 ≤ 100000; omega), ?_⟩
      exact q _ _ ((d2.trans d7).trans d8) (by omega)
    · refine ⟨.str z, rfl, .ref p, rfl, p, 3, rfl, d2.2, by decide, by decide, fun r H3 r0 r1 d3 f3 => ⟨r, rfl, z, rfl, small' (by omega), ?_⟩⟩
      have h3 := slice_le z (i := r) (by omega)
      generalize Txt.slice z none (some r) = y2 at h3 ⊢
      have el : (y2 ++ Str.ofString "z").length = y2.length + 1 := Str.length_append _ _
      exact ⟨y2, _, rfl, rfl, small' (by show y2.length + 1 ≤ 100000; omega), q _ _ (d2.trans d3) (by omega)⟩
end
end K5
set_option Elab.async false
set_option linter.all false
set_option maxRecDepth 100000
set_option maxHeartbeats 2000000
namespace K5
open PySem PySem.Spec PyProof.Rows L2 Ver
def arD (a : Ar) : PyData := .tuple [.str a.l, plD a.to, .int a.t]
def shortA (a : Ar) : Prop := lowS a.l ∧ lowS a.to.u
theorem low_ok {z : Str} (h : lowS z) : PyData.strOk z = true := by
  unfold PyData.strOk
  rw [← Array.all_toList]
  exact List.all_eq_true.mpr fun c hc => decide_eq_true (h c hc)
theorem str_beq (x y : Str) : (x == y) = decide (x = y) := by
  by_cases h : x = y
  · subst h; simp
  · rw [decide_eq_false h]; exact beq_eq_false_iff_ne.mpr h
theorem int_beq (x y : Int) : (x == y) = decide (x = y) := by
  by_cases h : x = y
  · subst h; simp
  · rw [decide_eq_false h]; exact beq_eq_false_iff_ne.mpr h
theorem eqv_ar (a b : Ar) : PyData.eqv (arD a) (arD b) = decide (a = b) := by
  obtain ⟨l, ⟨i, bb, u⟩, t⟩ := a
  obtain ⟨l', ⟨i', bb', u'⟩, t'⟩ := b
  show ((l == l') && ((((i : Int) == (i' : Int)) && ((bb == bb') && ((u == u') && true))) && ((t == t') && true))) = _
  rw [str_beq, str_beq, int_beq, int_beq, int_beq, Bool.and_true, Bool.and_true]
  rw [Bool.eq_iff_iff]
  simp only [Bool.and_eq_true, decide_eq_true_eq, Ar.mk.injEq, Pl.mk.injEq]
  constructor
  · rintro ⟨h1, ⟨h2, h3, h4⟩, h5⟩; exact ⟨h1, ⟨by omega, h3, h4⟩, h5⟩
  · rintro ⟨h1, ⟨h2, h3, h4⟩, h5⟩; exact ⟨h1, ⟨by omega, h3, h4⟩, h5⟩
theorem any_ar (r : Ar) : ∀ rs : List Ar, ((rs.map arD).any fun z => PyData.eqv z (arD r)) = decide (r ∈ rs)
  | [] => rfl
  | x :: rs => by
    rw [List.map_cons, List.any_cons, any_ar r rs, eqv_ar]
    by_cases c : x = r
    · subst c
      simp
    · rw [decide_eq_false c, Bool.false_or]
      by_cases c2 : r ∈ rs
      · rw [decide_eq_true c2, decide_eq_true (List.mem_cons_of_mem _ c2)]
      · rw [decide_eq_false c2, decide_eq_false (fun z => (List.mem_cons.mp z).elim (fun e => c e.symm) c2)]
theorem lay_ar {a : Ar} (h : shortA a) : (arD a).canLay0 = true := by
  show (PyData.strOk a.l && ((true && (true && (PyData.strOk a.to.u && true))) && (true && true))) = true
  rw [low_ok h.1, low_ok h.2]
  rfl
theorem deep_ar (a : Ar) : (arD a).depth = 2 := rfl
theorem lay_ars : ∀ {as : List Ar}, (∀ a ∈ as, shortA a) → PyData.canLayAll0 (as.map arD) = true
  | [], _ => rfl
  | a :: as, h => by
    show ((arD a).canLay0 && PyData.canLayAll0 (as.map arD)) = true
    rw [lay_ar (h a List.mem_cons_self), lay_ars fun b hb => h b (List.mem_cons_of_mem _ hb)]
    rfl
theorem deep_ars : ∀ as : List Ar, PyData.depthAll (as.map arD) ≤ 2
  | [] => Nat.zero_le _
  | a :: as => by
    show max (arD a).depth (PyData.depthAll (as.map arD)) ≤ 2
    have := deep_ars as
    rw [deep_ar]
    omega
theorem shaped_ar {a : Ar} (h : shortA a) : SeqAt.shaped (arD a) = true := by
  show ((arD a).canLay0 && decide ((arD a).depth ≤ 64)) = true
  rw [lay_ar h, deep_ar]
  rfl
theorem shaped_ars {as : List Ar} (h : ∀ a ∈ as, shortA a) : SeqAt.shaped (.list (as.map arD)) = true := by
  show (PyData.canLayAll0 (as.map arD) && decide (PyData.depthAll (as.map arD) + 1 ≤ 64)) = true
  have := deep_ars as
  rw [lay_ars h, decide_eq_true (by omega)]
  rfl
theorem dp_arc {K : PySem.W.Frag} {H : Hp} {q r : Addr} {a : Ar} (h1 : H q = some (.tup [.str a.l, .ref r, .int a.t])) (h2 : H r = some (.tup [.int (a.to.i : Nat), .int a.to.b, .str a.to.u])) : Dp K H (.ref q) (arD a) :=
  .tup (.inl (.inl h1)) (.cons (.str _) (.cons (pl_at h2) (.cons (.int _) .nil)))
theorem dp_arcs {K : PySem.W.Frag} {H : Hp} : ∀ {vs : List V} {as : List Ar}, Paired (ArcAt H) vs as → DpAll K H vs (as.map arD)
  | _, _, .nil => .nil
  | _, _, .cons ⟨q, r, h0, h1, h2⟩ t => by
    subst h0
    exact .cons (dp_arc h1 h2) (dp_arcs t)
inductive OfTok (T : Ta) (p : Pl) (k : Nat) : Ar → Prop
  | inner {z : Str} {c : Nat} : T.ts[k]? = some z → p.u.length + 1 < z.length → takeS z p.u.length = p.u → z.cps.toList[p.u.length]? = some c → (∀ d, T.g.cps.toList[p.i]? = some d → d = c) → OfTok T p k ⟨oneS c, ⟨min T.g.length (p.i + 1), p.b, p.u ++ oneS c⟩, -1⟩
  | ends {z : Str} {c : Nat} : T.ts[k]? = some z → z.length = p.u.length + 1 → takeS z p.u.length = p.u → z.cps.toList[p.u.length]? = some c → (∀ d, T.g.cps.toList[p.i]? = some d → d = c) → 0 ≤ cellG T.tab p.b (k : Int) → OfTok T p k ⟨oneS c, ⟨min T.g.length (p.i + 1), cellG T.tab p.b (k : Int), ""⟩, (k : Int)⟩
theorem take_one {z u : Str} {c : Nat} (e : takeS z u.length = u) (h : z.cps.toList[u.length]? = some c) : u ++ oneS c = takeS z (u.length + 1) := by
  refine Ver.str_of_list ?_
  rw [cps_app]
  show u.cps.toList ++ [c] = z.cps.toList.take (u.length + 1)
  rw [List.take_add_one, h]
  have e2 : z.cps.toList.take u.length = u.cps.toList := congrArg (fun s : Str => s.cps.toList) e
  rw [e2]
  rfl
theorem one_take {z u : Str} {c n : Nat} (hn : n ≤ z.length) (e : u ++ oneS c = takeS z n) : n = u.length + 1 ∧ takeS z u.length = u ∧ z.cps.toList[u.length]? = some c := by
  have e1 := congrArg Str.length e
  rw [len_app, takeS_len hn] at e1
  subst e1
  have e2 : u.cps.toList ++ [c] = z.cps.toList.take (u.length + 1) := by
    rw [← show (u ++ oneS c).cps.toList = u.cps.toList ++ [c] from cps_app _ _, e]
    rfl
  refine ⟨rfl, Ver.str_of_list ?_, ?_⟩
  · show z.cps.toList.take u.length = u.cps.toList
    have := congrArg (List.take u.length) e2
    rw [← glen u, List.take_left, List.take_take, glen, Nat.min_eq_left (by omega)] at this
    exact this.symm
  · have := congrArg (fun l : List Nat => l[u.length]?) e2
    rw [List.getElem?_take, if_pos (by omega), ← glen u, List.getElem?_append_right (Nat.le_refl _), Nat.sub_self] at this
    rw [← glen u, ← this]
    rfl
theorem arc_tok {T : Ta} {p : Pl} (na : ¬ T.ahead p) (a : Ar) : (∃ k, k < T.ts.length ∧ OfTok T p k a) ↔ IsArc T p a := by
  constructor
  · rintro ⟨k, hk, h⟩
    cases h with
    | @inner z c h1 h2 h3 h4 h5 =>
      refine .inner na h5 ⟨z, List.mem_of_getElem? h1, p.u.length + 1, h2, take_one h3 h4⟩
    | @ends z c h1 h2 h3 h4 h5 h6 =>
      refine .ends na h5 ?_ h6
      rw [h1, take_one h3 h4, ← h2, takeS_all]
  · intro h
    cases h with
    | ahead e1 e2 =>
      have lt := (List.getElem?_eq_some_iff.mp e2).1
      rw [glen] at lt
      exact absurd ⟨e1, lt⟩ na
    | @inner c e1 e2 e3 =>
      obtain ⟨z, hz, n, hn, e⟩ := e3
      obtain ⟨h1, h2, h3⟩ := one_take (Nat.le_of_lt hn) e
      obtain ⟨k, hk⟩ := List.getElem?_of_mem hz
      subst h1
      exact ⟨k, (List.getElem?_eq_some_iff.mp hk).1, .inner hk hn h2 h3 e2⟩
    | @ends c t e1 e2 e3 e4 =>
      have hz : p.u ++ oneS c = takeS (p.u ++ oneS c) (p.u ++ oneS c).length := (takeS_all _).symm
      obtain ⟨h1, h2, h3⟩ := one_take (Nat.le_refl _) hz
      exact ⟨t, (List.getElem?_eq_some_iff.mp e3).1, .ends e3 h1 h2 h3 e2 e4⟩
structure Upto (T : Ta) (p : Pl) (k : Nat) (as : List Ar) : Prop where
  nd : as.Nodup
  mem : ∀ a, a ∈ as ↔ ∃ j, j < k ∧ OfTok T p j a
theorem tok_no {T : Ta} {p : Pl} {j k : Nat} {a : Ar} (ha : OfTok T p j a) (hb : a.t = (k : Int)) (lt : j < k) : False := by
  cases ha with
  | inner => exact absurd hb (by show ¬ ((-1 : Int) = (k : Int)); omega)
  | ends => exact absurd hb (by show ¬ ((j : Int) = (k : Int)); omega)
theorem low_one {z : Str} (h : lowS z) {i c : Nat} (e : z.cps.toList[i]? = some c) : lowS (oneS c) := fun d hd => by
  rw [List.mem_singleton.mp hd]
  exact h c (List.mem_of_getElem? e)
theorem ofTok_short {T : Ta} (lo : lowT T.ts) {p : Pl} {k : Nat} {a : Ar} (h : OfTok T p k a) : shortA a := by
  cases h with
  | inner h1 h2 h3 h4 =>
    have lz := lo _ (List.mem_of_getElem? h1)
    refine ⟨low_one lz h4, ?_⟩
    show lowS (p.u ++ oneS _)
    rw [take_one h3 h4]
    exact low_take lz _
  | ends h1 h2 h3 h4 => exact ⟨low_one (lo _ (List.mem_of_getElem? h1)) h4, fun d hd => absurd hd (by show ¬ d ∈ (#[] : Array Nat).toList; simp)⟩
end K5
namespace K5
open PySem PySem.Spec PyProof.Rows L2 Ver
def arcI (T : Ta) (p : Pl) (c : Nat) : Ar := ⟨oneS c, ⟨min T.g.length (p.i + 1), p.b, p.u ++ oneS c⟩, -1⟩
def arcF (T : Ta) (p : Pl) (c k : Nat) : Ar := ⟨oneS c, ⟨min T.g.length (p.i + 1), cellG T.tab p.b (k : Int), ""⟩, (k : Int)⟩
theorem ofTok_iff {T : Ta} {p : Pl} {k : Nat} {z : Str} {c : Nat} (h1 : T.ts[k]? = some z) (h3 : takeS z p.u.length = p.u) (h4 : z.cps.toList[p.u.length]? = some c) (h5 : ∀ d, T.g.cps.toList[p.i]? = some d → d = c) (a : Ar) :
    OfTok T p k a ↔ (p.u.length + 1 < z.length ∧ a = arcI T p c) ∨ ((z.length = p.u.length + 1 ∧ 0 ≤ cellG T.tab p.b (k : Int)) ∧ a = arcF T p c k) := by
  constructor
  · intro h
    cases h with
    | inner e1 e2 e3 e4 =>
      rw [h1] at e1
      cases e1
      rw [h4] at e4
      cases e4
      exact .inl ⟨e2, rfl⟩
    | ends e1 e2 e3 e4 e5 e6 =>
      rw [h1] at e1
      cases e1
      rw [h4] at e4
      cases e4
      exact .inr ⟨⟨e2, e6⟩, rfl⟩
  · rintro (⟨e2, rfl⟩ | ⟨⟨e2, e6⟩, rfl⟩)
    · exact .inner h1 e2 h3 h4 h5
    · exact .ends h1 e2 h3 h4 h5 e6
theorem ofTok_no {T : Ta} {p : Pl} {k : Nat} {z : Str} (h1 : T.ts[k]? = some z) (h : ¬ (p.u.length < z.length ∧ takeS z p.u.length = p.u ∧ ∀ c, z.cps.toList[p.u.length]? = some c → ∀ d, T.g.cps.toList[p.i]? = some d → d = c)) (a : Ar) : ¬ OfTok T p k a := fun o => by
  cases o with
  | inner e1 e2 e3 e4 e5 =>
    rw [h1] at e1
    cases e1
    exact h ⟨by omega, e3, fun c hc => by rw [hc] at e4; cases e4; exact e5⟩
  | ends e1 e2 e3 e4 e5 =>
    rw [h1] at e1
    cases e1
    exact h ⟨by omega, e3, fun c hc => by rw [hc] at e4; cases e4; exact e5⟩
theorem Upto.skip {T : Ta} {p : Pl} {k : Nat} {as : List Ar} (u : Upto T p k as) (h : ∀ a, ¬ OfTok T p k a) : Upto T p (k + 1) as := ⟨u.nd, fun a => (u.mem a).trans ⟨fun ⟨j, hj, o⟩ => ⟨j, by omega, o⟩, fun ⟨j, hj, o⟩ => ⟨j, by
  by_cases e : j = k
  · subst e; exact absurd o (h a)
  · omega, o⟩⟩⟩
structure Half (T : Ta) (p : Pl) (k : Nat) (c : Nat) (q : Prop) (as : List Ar) : Prop where
  nd : as.Nodup
  mem : ∀ a, a ∈ as ↔ (∃ j, j < k ∧ OfTok T p j a) ∨ (q ∧ a = arcI T p c)
theorem Upto.half {T : Ta} {p : Pl} {k c : Nat} {q : Prop} {as : List Ar} (u : Upto T p k as) (h : ¬ q ∨ arcI T p c ∈ as) : Half T p k c q as := ⟨u.nd, fun a => ⟨fun m => .inl ((u.mem a).mp m), fun m => by
  rcases m with m | ⟨m1, rfl⟩
  · exact (u.mem a).mpr m
  · exact h.elim (fun n => absurd m1 n) _root_.id⟩⟩
theorem Upto.halfp {T : Ta} {p : Pl} {k c : Nat} {q : Prop} {as : List Ar} (u : Upto T p k as) (hq : q) (n : arcI T p c ∉ as) : Half T p k c q (as ++ [arcI T p c]) := ⟨List.nodup_append.mpr ⟨u.nd, List.pairwise_singleton _ _, fun a ha b hb => by rw [List.mem_singleton.mp hb]; exact fun q => n (q ▸ ha)⟩, fun a => by
  rw [List.mem_append, List.mem_singleton, u.mem]
  exact ⟨fun h => h.imp _root_.id fun e => ⟨hq, e⟩, fun h => h.imp _root_.id fun e => e.2⟩⟩
theorem Half.whole {T : Ta} {p : Pl} {k c : Nat} {q r : Prop} {as : List Ar} (u : Half T p k c q as) (o : ∀ a, OfTok T p k a ↔ (q ∧ a = arcI T p c) ∨ (r ∧ a = arcF T p c k)) (h : ¬ r) : Upto T p (k + 1) as := ⟨u.nd, fun a => (u.mem a).trans ⟨fun m => by
    rcases m with ⟨j, hj, m⟩ | m
    · exact ⟨j, by omega, m⟩
    · exact ⟨k, by omega, (o a).mpr (.inl m)⟩, fun ⟨j, hj, m⟩ => by
    by_cases e : j = k
    · subst e
      rcases (o a).mp m with m | m
      · exact .inr m
      · exact absurd m.1 h
    · exact .inl ⟨j, by omega, m⟩⟩⟩
theorem Half.wholep {T : Ta} {p : Pl} {k c : Nat} {q r : Prop} {as : List Ar} (u : Half T p k c q as) (o : ∀ a, OfTok T p k a ↔ (q ∧ a = arcI T p c) ∨ (r ∧ a = arcF T p c k)) (h : r) : Upto T p (k + 1) (as ++ [arcF T p c k]) := ⟨List.nodup_append.mpr ⟨u.nd, List.pairwise_singleton _ _, fun a ha b hb => by
    rw [List.mem_singleton.mp hb]
    intro e
    subst e
    rcases (u.mem _).mp ha with ⟨j, hj, m⟩ | ⟨_, m⟩
    · exact tok_no m (k := k) rfl hj
    · have := congrArg Ar.t m
      exact absurd this (by show ¬ ((k : Int) = -1); omega)⟩, fun a => by
  rw [List.mem_append, List.mem_singleton, u.mem]
  constructor
  · rintro ((⟨j, hj, m⟩ | m) | m)
    · exact ⟨j, by omega, m⟩
    · exact ⟨k, by omega, (o a).mpr (.inl m)⟩
    · exact ⟨k, by omega, (o a).mpr (.inr ⟨h, m⟩)⟩
  · rintro ⟨j, hj, m⟩
    by_cases e : j = k
    · subst e
      rcases (o a).mp m with m | m
      · exact .inl (.inr m)
      · exact .inr m.2
    · exact .inl (.inl ⟨j, by omega, m⟩)⟩
theorem Upto.nil (T : Ta) (p : Pl) : Upto T p 0 [] := ⟨List.nodup_nil, fun a => ⟨fun h => (by cases h), fun ⟨j, h, _⟩ => absurd h (Nat.not_lt_zero j)⟩⟩
theorem Upto.short {T : Ta} (lo : lowT T.ts) {p : Pl} {k : Nat} {as : List Ar} (u : Upto T p k as) : ∀ a ∈ as, shortA a := fun a ha => by
  obtain ⟨j, _, o⟩ := (u.mem a).mp ha
  exact ofTok_short lo o
end K5
set_option Elab.async false
set_option linter.all false
set_option maxRecDepth 100000
set_option maxHeartbeats 2000000
namespace K5
open PySem PySem.Spec PyProof.Rows L2 Ver
theorem hu65 {A : Around} {k : Nat} (hr : Room k A) : A.units + 65 < cLine := by have := hr.un; omega
theorem or_split {t1 t2 : L2.TT} {σ : L2.St} {H : Hp} {C : Bool → Hp → Prop} (P : Prop) (h : ∀ C' : Bool → Hp → Prop, (P → C' true H) → (¬ P → C' false H) → tOr t1 t2 σ H C') (hT : P → C true H) (hF : ¬ P → C false H) : tOr t1 t2 σ H C := h C hT hF
section
variable {P : Program} {w : World} {K : PySem.W.Frag} {mg : Str → Option Value} {base : Heap}
def TaskAt (K : PySem.W.Frag) (H : Hp) (a : Addr) (T : Ta) : Prop := ∃ t b, SqT K H a [.ref t, .ref b, .str T.g, .str (modeS T.hl)] ∧ SqT K H t (T.ts.map V.str) ∧ BkAt K H b T.bk
def sp__law_arcs (K : PySem.W.Frag) : Sp := fun vs H Q _ => ∃ (a pa : Addr) (T : Ta) (p : Pl), vs = [.ref a, .ref pa] ∧ TaskAt K H a T ∧ H pa = some (.tup [.int (p.i : Nat), .int p.b, .str p.u]) ∧ T.Ok ∧ lowT T.ts ∧ T.In p ∧
  ∀ (L : Addr) (us : List V) (as : List Ar) H', Same H H' → H L = none → H' L = some (.lst us) → Paired (ArcAt H') us as → as.Nodup → (∀ a, a ∈ as ↔ IsArc T p a) → as.length ≤ 10 → Q (.ref L) H'
theorem ok__law_arcs (T : Tx K mg) : FnOk P w K mg base CX0 1 T.f__law_arcs T.d__law_arcs ["task", "place"] (sp__law_arcs K) := by
  refine T.F__law_arcs.ok sc__law_arcs (fun vs H Q E h => ?_) (fun cdv A outer s H vs Q E hr h => ?_)
  · obtain ⟨a, pa, T, p, rfl, _⟩ := h; rfl
  · obtain ⟨a, pa, Ta, p, rfl, ⟨ta, tb, hA, hT, hB⟩, hpa, ok, lo, hin, q⟩ := h
    refine ⟨_, (pss_cons (ps_asg (pv 0) (pg_tup (by rfl) (pgs_cons (pg_name (i := 2) sc__law_arcs.nd rfl (Or.inl rfl)) (pgs_cons (pg_name (i := 3) sc__law_arcs.nd rfl (Or.inl rfl)) (pgs_cons (pg_name (i := 4) sc__law_arcs.nd rfl (Or.inl rfl)) (pgs_cons (pg_name (i := 5) sc__law_arcs.nd rfl (Or.inl rfl)) pgs_nil))))))
    (pss_cons (ps_asg (pv 1) (pg_tup (by rfl) (pgs_cons (pg_name (i := 6) sc__law_arcs.nd rfl (Or.inl rfl)) (pgs_cons (pg_name (i := 7) sc__law_arcs.nd rfl (Or.inl rfl)) (pgs_cons (pg_name (i := 8) sc__law_arcs.nd rfl (Or.inl rfl)) pgs_nil)))))
    (pss_cons (ps_set (i := 9) sc__law_arcs.nd rfl (Or.inl rfl) (pe_callB call_len_str (by rfl) T.n_len (by decide +kernel) (pa_cons (pv 4) pa_nil)))
    (C8.pss_cut (ps_if (PW.pt (pw_and (pt_cmpR op_eq (pv 5) pe_str (nomark _)) (pw_and1 (pt_cmpR op_lt (pv 6) (pv 9) (nomark _))))) (pss_one (ps_ret (pe_lst (pa_cons (pe_tup (pa_cons (pe_ix ix_str (pv 4) (pv 6) (fun _ _ => rfl)) (pa_cons (pe_tup (pa_cons (pe_op op_add (pv 6) pe_int) (pa_cons pe_int (pa_cons pe_str pa_nil)))) (pa_cons (pe_un un_neg pe_int) pa_nil)))) pa_nil)))) pss_nil)
    (pss_cons (ps_set (i := 10) sc__law_arcs.nd rfl (Or.inl rfl) (pe_lst pa_nil))
    (pss_cons (ps_for PassesOwn.never rfl (pi_range1 rfl T.n_range (pa_cons (pe_callB call_len_seq (by rfl) T.n_len (by decide +kernel) (pa_cons (pv 2) pa_nil)) pa_nil)) (pg_name (i := 11) sc__law_arcs.nd rfl (Or.inl rfl))
    (pss_cons (ps_set (i := 12) sc__law_arcs.nd rfl (Or.inl rfl) (pe_ix ix_tup (pv 2) (pv 11) (fun _ _ => rfl)))
    (pss_one (ps_if (PW.pt (pw_and (pt_cmpR op_gt (pe_callB call_len_str (by rfl) T.n_len (by decide +kernel) (pa_cons (pv 12) pa_nil)) (pe_callB call_len_str (by rfl) T.n_len (by decide +kernel) (pa_cons (pv 8) pa_nil)) (nomark _)) (pw_and (pt_cmpR op_eq (pe_slice C8.sl_txt (pv 12) po_none (po_some (pe_callB call_len_str (by rfl) T.n_len (by decide +kernel) (pa_cons (pv 8) pa_nil)))) (pv 8) (nomark _)) (pw_and1 (PW.pt (pw_or (pt_cmpR op_ge (pv 6) (pv 9) (nomark _)) (pw_or1 (pt_cmpR op_eq (pe_ix ix_str (pv 12) (pe_callB call_len_str (by rfl) T.n_len (by decide +kernel) (pa_cons (pv 8) pa_nil)) (fun _ _ => rfl)) (pe_ix ix_str (pv 4) (pv 6) (fun _ _ => rfl)) (nomark _))))))))) (pss_cons (ps_set (i := 13) sc__law_arcs.nd rfl (Or.inl rfl) (pe_ix ix_str (pv 12) (pe_callB call_len_str (by rfl) T.n_len (by decide +kernel) (pa_cons (pv 8) pa_nil)) (fun _ _ => rfl)))
    (pss_cons (ps_set (i := 14) sc__law_arcs.nd rfl (Or.inl rfl) (pe_ix ix_tup (pe_ix ix_tup (pe_ix ix_tup (pv 3) pe_int (fun _ _ => rfl)) (pv 7) (fun _ _ => rfl)) (pv 11) (fun _ _ => rfl)))
    (C8.pss_cut (ps_if (PW.pt (pw_and (pt_cmpR op_gt (pe_callB call_len_str (by rfl) T.n_len (by decide +kernel) (pa_cons (pv 12) pa_nil)) (pe_op op_add (pe_callB call_len_str (by rfl) T.n_len (by decide +kernel) (pa_cons (pv 8) pa_nil)) pe_int) (nomark _)) (pw_and1 (pt_cmpR (op_notInD (hu65 hr)) (pe_tup (pa_cons (pv 13) (pa_cons (pe_tup (pa_cons (pe_callB (call_min2 rfl) (by rfl) T.n_min (by decide +kernel) (pa_cons (pv 9) (pa_cons (pe_op op_add (pv 6) pe_int) pa_nil))) (pa_cons (pv 7) (pa_cons (pe_op op_add_str (pv 8) (pv 13)) pa_nil)))) (pa_cons (pe_un un_neg pe_int) pa_nil)))) (pv 10) (by rfl))))) (pss_one (ps_expr (pe_bm PySem.F.plainAttrs_list PySem.F.slot_list_append PySem.F.type_list_append mt_append (pv 10) (pa_cons (pe_tup (pa_cons (pv 13) (pa_cons (pe_tup (pa_cons (pe_callB (call_min2 rfl) (by rfl) T.n_min (by decide +kernel) (pa_cons (pv 9) (pa_cons (pe_op op_add (pv 6) pe_int) pa_nil))) (pa_cons (pv 7) (pa_cons (pe_op op_add_str (pv 8) (pv 13)) pa_nil)))) (pa_cons (pe_un un_neg pe_int) pa_nil)))) pa_nil)))) pss_nil)
    (pss_one (ps_if (PW.pt (pw_and (pt_cmpR op_eq (pe_callB call_len_str (by rfl) T.n_len (by decide +kernel) (pa_cons (pv 12) pa_nil)) (pe_op op_add (pe_callB call_len_str (by rfl) T.n_len (by decide +kernel) (pa_cons (pv 8) pa_nil)) pe_int) (nomark _)) (pw_and1 (pt_cmpR op_ge (pv 14) pe_int (nomark _))))) (pss_one (ps_expr (pe_bm PySem.F.plainAttrs_list PySem.F.slot_list_append PySem.F.type_list_append mt_append (pv 10) (pa_cons (pe_tup (pa_cons (pv 13) (pa_cons (pe_tup (pa_cons (pe_callB (call_min2 rfl) (by rfl) T.n_min (by decide +kernel) (pa_cons (pv 9) (pa_cons (pe_op op_add (pv 6) pe_int) pa_nil))) (pa_cons (pv 14) (pa_cons pe_str pa_nil)))) (pa_cons (pv 11) pa_nil)))) pa_nil)))) pss_nil))))) pss_nil))))
    (pss_one (ps_ret (pv 10))))))))), ?_⟩
    have gl := ok.gl
    have l5 := ok.few
    have hu : p.u.length ≤ 100 := by
      obtain ⟨t9, ht, k, hk, e9⟩ := hin.2.2.2
      rw [e9, takeS_len (by omega)]
      have := (ok.len _ ht).2
      omega
    obtain ⟨fb, tt, tv, hB1, hB2, hB3, hR⟩ := hB
    refine ⟨.ref a, rfl, a, _, rfl, hA, rfl, .ref ta, _, rfl, .ref tb, _, rfl, .str Ta.g, _, rfl, .str (modeS Ta.hl), _, rfl, rfl, ?_⟩
    refine ⟨.ref pa, rfl, pa, _, rfl, .inl (.inl hpa), rfl, .int (p.i : Nat), _, rfl, .int p.b, _, rfl, .str p.u, _, rfl, rfl, ?_⟩
    refine ⟨.str Ta.g, rfl, Ta.g, rfl, small' (by omega), ?_⟩
    have yes : Ta.ahead p → ∀ c, Ta.g.cps.toList[p.i]? = some c → ∀ (L : Addr) (us : List V) H', Same H H' → H L = none → H' L = some (.lst us) → Paired (ArcAt H') us [⟨oneS c, ⟨p.i + 1, 0, ""⟩, -1⟩] → Q (.ref L) H' := fun ha c hc L us H' sm nL hL hp => by
      refine q L us _ H' sm nL hL hp (List.pairwise_singleton _ _) (fun a => ⟨fun h => ?_, fun h => ?_⟩) (by simp)
      · rw [List.mem_singleton.mp h]
        exact .ahead ha.1 hc
      · cases h with
        | ahead e1 e2 =>
          rw [hc] at e2
          rw [Option.some.inj e2]
          exact List.mem_cons_self
        | inner e1 => exact absurd ha e1
        | ends e1 => exact absurd ha e1
    refine ⟨fun σ' H' => H' = H ∧ ¬ Ta.ahead p ∧ σ' = [some (.ref a), some (.ref pa), some (.ref ta), some (.ref tb), some (.str Ta.g), some (.str (modeS Ta.hl)), some (.int (p.i : Nat)), some (.int p.b), some (.str p.u), some (.int (Ta.g.length : Nat)), none, none, none, none, none], ?_, fun σ' H1 h => ?_⟩
    · refine ⟨.str (modeS Ta.hl), rfl, rfl, _, rfl, ?_⟩
      rw [mode_eq]
      cases hh : Ta.hl with
      | true => exact if_ff ⟨rfl, fun z => (by rw [z.1] at hh; cases hh), rfl⟩
      | false =>
        refine if_tt ?_
        refine ⟨.int (p.i : Nat), rfl, .int (Ta.g.length : Nat), rfl, _, _, rfl, rfl, _, rfl, ite2 (fun z => ?_) (fun z => ?_)⟩
        · have lt : p.i < Ta.g.length := by have := of_decide_eq_true z; omega
          have ec : Ta.g.cps.toList[p.i]? = some (Ta.g.cps.toList[p.i]'(by rw [glen]; exact lt)) := List.getElem?_eq_getElem _
          generalize Ta.g.cps.toList[p.i]'(by rw [glen]; exact lt) = c at ec
          refine ⟨.str Ta.g, rfl, .int (p.i : Nat), rfl, Ta.g, (p.i : Nat), c, rfl, rfl, small' (by omega), atI_nat (j := p.i) ec, .int (p.i : Nat), rfl, _, _, rfl, rfl, small' (by simp), fun r nr => ?_⟩
          have sr := same_new (o := .tup [V.int ((p.i : Nat) + 1), V.int 0, V.str ""]) nr
          refine ⟨1, rfl, small' (by simp), fun r2 nr2 => ?_⟩
          have sr2 := same_new (o := .tup [V.str ⟨#[c]⟩, V.ref r, V.int (-1)]) nr2
          refine ⟨small' (by simp), fun L nL => ?_⟩
          have sL := same_new (o := .lst [V.ref r2]) nL
          exact yes ⟨hh, lt⟩ c ec L _ _ ((sr.trans sr2).trans sL) ((sr.trans sr2).free nL) upd_same (.cons ⟨r2, r, rfl, sL _ _ upd_same, sL _ _ (sr2 _ _ upd_same)⟩ .nil)
        · exact ⟨rfl, fun y => z (decide_eq_true (by have := y.2; omega)), rfl⟩
    obtain ⟨rfl, na, rfl⟩ := h
    have em : (if ((p.i : Nat) : Int) + 1 < ((Ta.g.length : Nat) : Int) then ((p.i : Nat) : Int) + 1 else ((Ta.g.length : Nat) : Int)) = ((min Ta.g.length (p.i + 1) : Nat) : Int) := by
      split <;> omega
    refine ⟨Nat.zero_le _, fun L nL => ?_⟩
    have sL := same_new (o := .lst []) nL
    have hL : (upd H1 L (.lst [])) L = some (.lst []) := upd_same
    generalize upd H1 L (.lst []) = H2 at sL hL ⊢
    refine ⟨.ref ta, rfl, ta, _, rfl, .inr (seqT_grow sL hT), ?_⟩
    rw [List.length_map]
    refine ⟨(Ta.ts.length : Nat), rfl, by omega, by omega, ?_⟩
    refine for_range0 (n := ((Ta.ts.length : Nat) : Int).toNat) (fun k σ H' => ∃ (y11 y12 y13 y14 : Option V) (vs : List V) (as : List Ar), σ = [some (.ref a), some (.ref pa), some (.ref ta), some (.ref tb), some (.str Ta.g), some (.str (modeS Ta.hl)), some (.int (p.i : Nat)), some (.int p.b), some (.str p.u), some (.int (Ta.g.length : Nat)), some (.ref L), y11, y12, y13, y14] ∧ Same H1 H' ∧ H' L = some (.lst vs) ∧ Paired (ArcAt H') vs as ∧ Upto Ta p k as ∧ as.length ≤ 2 * k)
      ⟨none, none, none, none, [], [], rfl, sL, hL, .nil, Upto.nil Ta p, Nat.zero_le _⟩ (fun k σ H' lt h => ?_) (fun σ H' h => ?_)
    · obtain ⟨y11, y12, y13, y14, vs, as, rfl, s3, hL3, hP, up, la⟩ := h
      have lvs : vs.length = as.length := Paired.length hP
      rw [Int.toNat_natCast] at lt
      obtain ⟨z, ez⟩ : ∃ z, Ta.ts[k]? = some z := ⟨_, List.getElem?_eq_getElem lt⟩
      have z12 := (ok.len z (List.mem_of_getElem? ez)).2
      have eat : atI (Ta.ts.map V.str) ((k : Nat) : Int) = some (.str z) := atI_nat (by rw [List.getElem?_map, ez]; rfl)
      have skp : ∀ (y13 y14 : Option V), ¬ (p.u.length < z.length ∧ takeS z p.u.length = p.u ∧ ∀ c, z.cps.toList[p.u.length]? = some c → ∀ d, Ta.g.cps.toList[p.i]? = some d → d = c) → ∃ (y11 y12 y13' y14' : Option V) (vs : List V) (as : List Ar), ([some (.ref a), some (.ref pa), some (.ref ta), some (.ref tb), some (.str Ta.g), some (.str (modeS Ta.hl)), some (.int (p.i : Nat)), some (.int p.b), some (.str p.u), some (.int (Ta.g.length : Nat)), some (.ref L), some (.int (k : Nat)), some (.str z), y13, y14] : L2.St) = [some (.ref a), some (.ref pa), some (.ref ta), some (.ref tb), some (.str Ta.g), some (.str (modeS Ta.hl)), some (.int (p.i : Nat)), some (.int p.b), some (.str p.u), some (.int (Ta.g.length : Nat)), some (.ref L), y11, y12, y13', y14'] ∧ Same H1 H' ∧ H' L = some (.lst vs) ∧ Paired (ArcAt H') vs as ∧ Upto Ta p (k + 1) as ∧ as.length ≤ 2 * (k + 1) := fun y13 y14 n => ⟨_, _, _, _, vs, as, rfl, s3, hL3, hP, up.skip fun a => ofTok_no ez n a, by omega⟩
      refine ⟨.ref ta, rfl, .int (k : Nat), rfl, ta, _, (k : Nat), _, rfl, rfl, seqT_grow s3 hT, eat, ?_⟩
      refine ⟨.str z, rfl, z, rfl, small' (by omega), .str p.u, rfl, p.u, rfl, small' (by omega), _, _, rfl, rfl, _, rfl, ite2 (fun c1 => ?_) (fun c1 => ?_)⟩
      · have l1 : p.u.length < z.length := by have := of_decide_eq_true c1; omega
        refine ⟨.str z, rfl, .str p.u, rfl, p.u, rfl, small' (by omega), (p.u.length : Nat), rfl, z, rfl, small' (by omega), .str p.u, rfl, rfl, _, rfl, ?_⟩
        rw [slice_takeS]
        refine ite2 (fun c2 => ?_) (fun c2 => ?_)
        · have l2 : takeS z p.u.length = p.u := V.str.inj (of_decide_eq_true c2)
          obtain ⟨c, ec⟩ : ∃ c, z.cps.toList[p.u.length]? = some c := ⟨_, List.getElem?_eq_getElem (by rw [glen]; exact l1)⟩
          refine or_split (∀ d, Ta.g.cps.toList[p.i]? = some d → d = c) (fun C h1 h2 => ?_) (fun hc => if_tt ?_) (fun hc => if_ff ?_)
          · refine ⟨.int (p.i : Nat), rfl, .int (Ta.g.length : Nat), rfl, _, _, rfl, rfl, _, rfl, ?_⟩
            by_cases ge : Ta.g.length ≤ p.i
            · rw [decide_eq_true (by omega)]
              refine if_tt (h1 fun d hd => ?_)
              have := (List.getElem?_eq_some_iff.mp hd).1
              rw [glen] at this
              omega
            · rw [decide_eq_false (by omega)]
              refine if_ff ?_
              have eg : Ta.g.cps.toList[p.i]? = some (Ta.g.cps.toList[p.i]'(by rw [glen]; omega)) := List.getElem?_eq_getElem _
              generalize Ta.g.cps.toList[p.i]'(by rw [glen]; omega) = d at eg
              refine ⟨.str z, rfl, .str p.u, rfl, p.u, rfl, small' (by omega), z, (p.u.length : Nat), c, rfl, rfl, small' (by omega), atI_nat (j := p.u.length) ec, .str Ta.g, rfl, .int (p.i : Nat), rfl, Ta.g, (p.i : Nat), d, rfl, rfl, small' (by omega), atI_nat (j := p.i) eg, rfl, _, rfl, ?_⟩
              by_cases e : c = d
              · subst e
                rw [decide_eq_true rfl]
                exact h1 fun d' hd => by rw [eg] at hd; exact (Option.some.inj hd).symm
              · have e1 : ¬ (V.str (⟨#[c]⟩ : Str) = V.str (⟨#[d]⟩ : Str)) := fun n => e (oneS_inj (V.str.inj n))
                rw [decide_eq_false e1]
                exact h2 fun n => e (n d eg).symm
          · refine ⟨.str z, rfl, .str p.u, rfl, p.u, rfl, small' (by omega), z, (p.u.length : Nat), c, rfl, rfl, small' (by omega), atI_nat (j := p.u.length) ec, ?_⟩
            have btab := ok.tl
            obtain ⟨t1, t2, _, _⟩ := (ok.bk).cell (s := p.b) (t := (k : Int)) hin.2.1 (by show p.b < (Ta.tab.length : Int); rw [btab]; exact hin.2.2.1) (by omega) (by omega)
            have t1 : Ta.tab[p.b.toNat]? = some (rowAt Ta.tab p.b) := t1
            have t2 : (rowAt Ta.tab p.b)[((k : Nat) : Int).toNat]? = some (cellG Ta.tab p.b (k : Int)) := t2
            obtain ⟨pn, epn, hpn⟩ := (hR.grow s3).get t1
            refine ⟨.ref tb, rfl, tb, _, 2, _, rfl, rfl, seqT_grow s3 hB1, (atI_nat (j := 2) rfl : atI _ ((2 : Nat) : Int) = _), .int p.b, rfl, tt, tv, p.b, _, rfl, rfl, seqT_grow s3 hB3, at_ref hin.2.1 epn, .int (k : Nat), rfl, pn, _, (k : Nat), _, rfl, rfl, hpn, at_map (by omega) t2, ?_⟩
            have oi := ofTok_iff ez l2 ec hc
            refine ⟨fun σ' H4 => ∃ (vs2 : List V) (as2 : List Ar), σ' = [some (.ref a), some (.ref pa), some (.ref ta), some (.ref tb), some (.str Ta.g), some (.str (modeS Ta.hl)), some (.int (p.i : Nat)), some (.int p.b), some (.str p.u), some (.int (Ta.g.length : Nat)), some (.ref L), some (.int (k : Nat)), some (.str z), some (.str (oneS c)), some (.int (cellG Ta.tab p.b (k : Int)))] ∧ Same H1 H4 ∧ H4 L = some (.lst vs2) ∧ Paired (ArcAt H4) vs2 as2 ∧ Half Ta p k c (p.u.length + 1 < z.length) as2 ∧ as2.length ≤ as.length + 1, ?_, fun σ' H4 h => ?_⟩
            · refine ⟨.str z, rfl, z, rfl, small' (by omega), .str p.u, rfl, p.u, rfl, small' (by omega), _, _, rfl, rfl, _, _, rfl, rfl, _, rfl, ite2 (fun c3 => ?_) (fun c3 => ?_)⟩
              · have l3 : p.u.length + 1 < z.length := by have := of_decide_eq_true c3; omega
                have sarc : shortA (arcI Ta p c) := ofTok_short lo ((oi _).mpr (.inl ⟨l3, rfl⟩))
                refine ⟨.str (oneS c), rfl, .int (Ta.g.length : Nat), rfl, .int (p.i : Nat), rfl, _, _, rfl, rfl, _, _, rfl, ?_⟩
                rw [em]
                refine ⟨.int p.b, rfl, .str p.u, rfl, .str (oneS c), rfl, p.u, oneS c, rfl, rfl, small' (by show p.u.length + 1 ≤ 100000; omega), small' (by simp), fun r nr => ?_⟩
                have sr := same_new (o := .tup [V.int ((min Ta.g.length (p.i + 1) : Nat) : Int), V.int p.b, V.str (p.u ++ oneS c)]) nr
                have hr1 : (upd H' r (.tup [V.int ((min Ta.g.length (p.i + 1) : Nat) : Int), V.int p.b, V.str (p.u ++ oneS c)])) r = some (.tup [V.int ((min Ta.g.length (p.i + 1) : Nat) : Int), V.int p.b, V.str (p.u ++ oneS c)]) := upd_same
                generalize upd H' r (.tup [V.int ((min Ta.g.length (p.i + 1) : Nat) : Int), V.int p.b, V.str (p.u ++ oneS c)]) = H5 at sr hr1 ⊢
                refine ⟨1, rfl, small' (by simp), fun r2 nr2 => ?_⟩
                have sr2 := same_new (o := .tup [V.str (oneS c), V.ref r, V.int (-1)]) nr2
                have hr2 : (upd H5 r2 (.tup [V.str (oneS c), V.ref r, V.int (-1)])) r2 = some (.tup [V.str (oneS c), V.ref r, V.int (-1)]) := upd_same
                generalize upd H5 r2 (.tup [V.str (oneS c), V.ref r, V.int (-1)]) = H6 at sr2 hr2 ⊢
                have hL6 := sr2 _ _ (sr _ _ hL3)
                have hP6 := arcs_keep (fun b xs ex => sr2 _ _ (sr _ _ ex)) hP
                refine ⟨.ref L, rfl, arD (arcI Ta p c), as.map arD, dp_arc (a := arcI Ta p c) hr2 (sr2 _ _ hr1), .lst (.inl (.inl hL6)) (dp_arcs hP6), shaped_ar sarc, shaped_ars (up.short lo), _, rfl, ?_⟩
                rw [any_ar]
                by_cases ha : arcI Ta p c ∈ as
                · rw [decide_eq_true ha]
                  exact if_ff ⟨vs, as, rfl, (s3.trans sr).trans sr2, hL6, hP6, up.half (.inr ha), by omega⟩
                rw [decide_eq_false ha]
                refine if_tt ?_
                refine ⟨.ref L, rfl, .inl ⟨rfl, _, .inl (.inl hL6)⟩, .str (oneS c), rfl, .int (Ta.g.length : Nat), rfl, .int (p.i : Nat), rfl, _, _, rfl, rfl, _, _, rfl, ?_⟩
                rw [em]
                refine ⟨.int p.b, rfl, .str p.u, rfl, .str (oneS c), rfl, p.u, oneS c, rfl, rfl, small' (by show p.u.length + 1 ≤ 100000; omega), small' (by simp), fun r3 nr3 => ?_⟩
                have sr3 := same_new (o := .tup [V.int ((min Ta.g.length (p.i + 1) : Nat) : Int), V.int p.b, V.str (p.u ++ oneS c)]) nr3
                have hr3 : (upd H6 r3 (.tup [V.int ((min Ta.g.length (p.i + 1) : Nat) : Int), V.int p.b, V.str (p.u ++ oneS c)])) r3 = some (.tup [V.int ((min Ta.g.length (p.i + 1) : Nat) : Int), V.int p.b, V.str (p.u ++ oneS c)]) := upd_same
                generalize upd H6 r3 (.tup [V.int ((min Ta.g.length (p.i + 1) : Nat) : Int), V.int p.b, V.str (p.u ++ oneS c)]) = H7 at sr3 hr3 ⊢
                refine ⟨1, rfl, small' (by simp), fun r4 nr4 => ?_⟩
                have sr4 := same_new (o := .tup [V.str (oneS c), V.ref r3, V.int (-1)]) nr4
                have hr4 : (upd H7 r4 (.tup [V.str (oneS c), V.ref r3, V.int (-1)])) r4 = some (.tup [V.str (oneS c), V.ref r3, V.int (-1)]) := upd_same
                generalize upd H7 r4 (.tup [V.str (oneS c), V.ref r3, V.int (-1)]) = H8 at sr4 hr4 ⊢
                have hL8 := sr4 _ _ (sr3 _ _ hL6)
                have kt : ∀ b xs, H8 b = some (.tup xs) → (upd H8 L (.lst (vs ++ [.ref r4]))) b = some (.tup xs) := fun b xs ex => tup_upd hL8 ex
                exact ⟨L, vs, .ref r4, rfl, rfl, hL8, small (by omega), vs ++ [.ref r4], as ++ [arcI Ta p c], rfl, same_upd2 ((((s3.trans sr).trans sr2).trans sr3).trans sr4) nL, upd_same,
                  Paired.snoc (arcs_keep (fun b xs ex => kt _ _ (sr4 _ _ (sr3 _ _ ex))) hP6) ⟨r4, r3, rfl, kt _ _ hr4, kt _ _ (sr4 _ _ hr3)⟩, up.halfp l3 ha, by rw [List.length_append]; exact Nat.le_refl _⟩
              · exact ⟨vs, as, rfl, s3, hL3, hP, up.half (.inl fun n => c3 (decide_eq_true (by omega))), by omega⟩
            obtain ⟨vs2, as2, rfl, s4, hL4, hP4, hh, la2⟩ := h
            have lv2 : vs2.length = as2.length := Paired.length hP4
            refine ⟨.str z, rfl, z, rfl, small' (by omega), .str p.u, rfl, p.u, rfl, small' (by omega), _, _, rfl, rfl, rfl, _, rfl, ite2 (fun c4 => ?_) (fun c4 => ?_)⟩
            · have l4 : z.length = p.u.length + 1 := by
                have := V.int.inj (of_decide_eq_true c4)
                omega
              refine ⟨.int (cellG Ta.tab p.b (k : Int)), rfl, _, 0, rfl, rfl, _, rfl, ite2 (fun c5 => ?_) (fun c5 => ?_)⟩
              · have l5 : 0 ≤ cellG Ta.tab p.b (k : Int) := of_decide_eq_true c5
                refine ⟨.ref L, rfl, .inl ⟨rfl, _, .inl (.inl hL4)⟩, .str (oneS c), rfl, .int (Ta.g.length : Nat), rfl, .int (p.i : Nat), rfl, _, _, rfl, rfl, _, _, rfl, ?_⟩
                rw [em]
                refine ⟨.int (cellG Ta.tab p.b (k : Int)), rfl, small' (by simp), fun r nr => ?_⟩
                have sr := same_new (o := .tup [V.int ((min Ta.g.length (p.i + 1) : Nat) : Int), V.int (cellG Ta.tab p.b (k : Int)), V.str ""]) nr
                have hr1 : (upd H4 r (.tup [V.int ((min Ta.g.length (p.i + 1) : Nat) : Int), V.int (cellG Ta.tab p.b (k : Int)), V.str ""])) r = some (.tup [V.int ((min Ta.g.length (p.i + 1) : Nat) : Int), V.int (cellG Ta.tab p.b (k : Int)), V.str ""]) := upd_same
                generalize upd H4 r (.tup [V.int ((min Ta.g.length (p.i + 1) : Nat) : Int), V.int (cellG Ta.tab p.b (k : Int)), V.str ""]) = H5 at sr hr1 ⊢
                refine ⟨.int (k : Nat), rfl, small' (by simp), fun r2 nr2 => ?_⟩
                have sr2 := same_new (o := .tup [V.str (oneS c), V.ref r, V.int (k : Nat)]) nr2
                have hr2 : (upd H5 r2 (.tup [V.str (oneS c), V.ref r, V.int (k : Nat)])) r2 = some (.tup [V.str (oneS c), V.ref r, V.int (k : Nat)]) := upd_same
                generalize upd H5 r2 (.tup [V.str (oneS c), V.ref r, V.int (k : Nat)]) = H6 at sr2 hr2 ⊢
                have hL6 := sr2 _ _ (sr _ _ hL4)
                have kt : ∀ b xs, H6 b = some (.tup xs) → (upd H6 L (.lst (vs2 ++ [.ref r2]))) b = some (.tup xs) := fun b xs ex => tup_upd hL6 ex
                exact ⟨L, vs2, .ref r2, rfl, rfl, hL6, small (by omega), _, _, _, _, vs2 ++ [.ref r2], as2 ++ [arcF Ta p c k], rfl, same_upd2 ((s4.trans sr).trans sr2) nL, upd_same,
                  Paired.snoc (arcs_keep (fun b xs ex => kt _ _ (sr2 _ _ (sr _ _ ex))) hP4) ⟨r2, r, rfl, kt _ _ hr2, kt _ _ (sr2 _ _ hr1)⟩, hh.wholep oi ⟨l4, l5⟩, by rw [List.length_append]; show as2.length + 1 ≤ _; omega⟩
              · exact ⟨_, _, _, _, vs2, as2, rfl, s4, hL4, hP4, hh.whole oi (fun n => c5 (decide_eq_true n.2)), by omega⟩
            · exact ⟨_, _, _, _, vs2, as2, rfl, s4, hL4, hP4, hh.whole oi (fun n => c4 (decide_eq_true (by rw [n.1]; rfl))), by omega⟩
          · exact skp _ _ fun n => hc (n.2.2 c ec)
        · exact skp _ _ fun n => c2 (decide_eq_true (by rw [n.2.1]))
      · exact skp _ _ fun n => c1 (decide_eq_true (by have := n.1; omega))
    · obtain ⟨y11, y12, y13, y14, vs, as, rfl, s3, hL3, hP, up, la⟩ := h
      refine ⟨.ref L, rfl, ?_⟩
      rw [Int.toNat_natCast] at la up
      exact q L vs as H' s3 nL hL3 hP up.nd (fun a => (up.mem a).trans (arc_tok na a)) (by omega)
end
end K5
set_option Elab.async false
set_option linter.all false
set_option maxRecDepth 100000
set_option maxHeartbeats 2000000
namespace K5
open PySem PySem.Spec PyProof.Rows L2 Ver LamX
theorem op_inDK {X : Cx} {K : PySem.W.Frag} (hK : X.K = K) (hu : X.A.units + 65 < cLine) : OpR X (compareOp .In) (rInD K) := by
  subst hK
  exact op_inD hu
def RowAt (H : Hp) (v : V) (p : Pl) : Prop := ∃ r, v = .ref r ∧ H r = some (.tup [.int (p.i : Nat), .int (p.u.length : Nat), .str p.u, .int p.b])
theorem rowsP_keep {H H' : Hp} (e : ∀ b xs, H b = some (.tup xs) → H' b = some (.tup xs)) : ∀ {vs : List V} {ps : List Pl}, Paired (RowAt H) vs ps → Paired (RowAt H') vs ps
  | _, _, .nil => .nil
  | _, _, .cons ⟨r, h1, h2⟩ t => .cons ⟨r, h1, e _ _ h2⟩ (rowsP_keep e t)
theorem rowsP_data {K : PySem.W.Frag} {H : Hp} : ∀ {vs : List V} {ps : List Pl}, Paired (RowAt H) vs ps → DpAll K H vs (ps.map plK)
  | _, _, .nil => .nil
  | _, _, .cons ⟨r, h1, h2⟩ t => by
    subst h1
    exact .cons (.tup (.inl (.inl h2)) (.cons (.int _) (.cons (.int _) (.cons (.str _) (.cons (.int _) .nil))))) (rowsP_data t)
theorem rowsP_get {H : Hp} : ∀ {vs : List V} {es : List Pl} {i : Nat} {v : V} {e : Pl}, Paired (RowAt H) vs es → vs[i]? = some v → es[i]? = some e → RowAt H v e
  | _, _, i, _, _, .nil, h, _ => by simp at h
  | _, _, 0, _, _, .cons h1 _, h, k => by
    rw [← Option.some.inj h, ← Option.some.inj k]
    exact h1
  | _, _, i + 1, _, _, .cons _ t, h, k => rowsP_get (i := i) t h k
theorem kvs_key {kvs : List (List L2.Key × V)} {N : List Pl} (h : kvs.map (·.1) = N.map plKey) {i : Nat} {k : List L2.Key} {v : V} (e : kvs[i]? = some (k, v)) : ∃ p, N[i]? = some p ∧ k = plKey p := by
  have h1 : (kvs.map (·.1))[i]? = some k := by rw [List.getElem?_map, e]; rfl
  rw [h, List.getElem?_map] at h1
  cases ep : N[i]? with
  | none => rw [ep] at h1; cases h1
  | some p => rw [ep] at h1; exact ⟨p, rfl, (Option.some.inj h1).symm⟩
section
variable {P : Program} {w : World} {K : PySem.W.Frag} {mg : Str → Option Value} {base : Heap}
theorem TaskAt.grow {K : PySem.W.Frag} {H H' : Hp} {a : Addr} {T : Ta} (h : TaskAt K H a T) (s : Same H H') : TaskAt K H' a T := by
  obtain ⟨t, b, h1, h2, h3⟩ := h
  exact ⟨t, b, seqT_grow s h1, seqT_grow s h2, h3.grow s⟩
theorem eqv_pl (a b : Pl) : PyData.eqv (plD a) (plD b) = decide (a = b) := by
  obtain ⟨i, bb, u⟩ := a
  obtain ⟨i', bb', u'⟩ := b
  show (((i : Int) == (i' : Int)) && ((bb == bb') && ((u == u') && true))) = _
  rw [str_beq, int_beq, int_beq, Bool.and_true, Bool.eq_iff_iff]
  simp only [Bool.and_eq_true, decide_eq_true_eq, Pl.mk.injEq]
  constructor
  · rintro ⟨h2, h3, h4⟩; exact ⟨by omega, h3, h4⟩
  · rintro ⟨h2, h3, h4⟩; exact ⟨by omega, h3, h4⟩
theorem any_pl (r : Pl) : ∀ rs : List Pl, ((rs.map plD).any fun z => PyData.eqv z (plD r)) = decide (r ∈ rs)
  | [] => rfl
  | x :: rs => by
    rw [List.map_cons, List.any_cons, any_pl r rs, eqv_pl]
    by_cases c : x = r
    · subst c
      simp
    · rw [decide_eq_false c, Bool.false_or]
      by_cases c2 : r ∈ rs
      · rw [decide_eq_true c2, decide_eq_true (List.mem_cons_of_mem _ c2)]
      · rw [decide_eq_false c2, decide_eq_false (fun z => (List.mem_cons.mp z).elim (fun e => c e.symm) c2)]
theorem lay_pl {p : Pl} (h : lowS p.u) : (plD p).canLay0 = true := by
  show (true && (true && (PyData.strOk p.u && true))) = true
  rw [low_ok h]
  rfl
theorem lay_pls : ∀ {ps : List Pl}, (∀ p ∈ ps, lowS p.u) → PyData.canLayAll0 (ps.map plD) = true
  | [], _ => rfl
  | p :: ps, h => by
    show ((plD p).canLay0 && PyData.canLayAll0 (ps.map plD)) = true
    rw [lay_pl (h p List.mem_cons_self), lay_pls fun b hb => h b (List.mem_cons_of_mem _ hb)]
    rfl
theorem deep_pls : ∀ ps : List Pl, PyData.depthAll (ps.map plD) ≤ 1
  | [] => Nat.zero_le _
  | p :: ps => by
    show max (plD p).depth (PyData.depthAll (ps.map plD)) ≤ 1
    have := deep_pls ps
    have e : (plD p).depth = 1 := rfl
    omega
theorem shaped_pl {p : Pl} (h : lowS p.u) : SeqAt.shaped (plD p) = true := by
  show ((plD p).canLay0 && decide ((plD p).depth ≤ 64)) = true
  rw [lay_pl h]
  rfl
theorem shaped_pls {ps : List Pl} (h : ∀ p ∈ ps, lowS p.u) : SeqAt.shaped (.list (ps.map plD)) = true := by
  show (PyData.canLayAll0 (ps.map plD) && decide (PyData.depthAll (ps.map plD) + 1 ≤ 64)) = true
  have := deep_pls ps
  rw [lay_pls h, decide_eq_true (by omega)]
  rfl
def endsP (T : Ta) : List Pl := T.fin.map fun s => ⟨T.g.length, s, ""⟩
theorem mem_ends (T : Ta) (p : Pl) : decide (p ∈ endsP T) = finalP T p := by
  unfold finalP endsP
  rw [Bool.eq_iff_iff]
  simp only [Bool.and_eq_true, decide_eq_true_eq, List.mem_map]
  constructor
  · rintro ⟨s, hs, rfl⟩; exact ⟨⟨rfl, rfl⟩, hs⟩
  · rintro ⟨⟨h1, h2⟩, h3⟩
    obtain ⟨i, b, u⟩ := p
    exact ⟨b, h3, by rw [← h1]; exact congrArg _ h2.symm⟩
def sp__law_due (K : PySem.W.Frag) : Sp := fun vs H Q _ => ∃ (a : Addr) (T : Ta), vs = [.ref a] ∧ TaskAt K H a T ∧ T.Ok ∧ lowT T.ts ∧ T.most ≤ (T.g.length + 1) * T.count * 60 ∧ T.most ≤ 20000 ∧ T.fin.length ≤ 1000 ∧
  ∀ (v : V) (H2 : Hp) (P : List Pl) (A : List A4), Same H H2 → IsPs T P → IsAs T P A → P.length ≤ 20000 → A.length ≤ 200000 → Dp K H2 v (spD T P A) → Q v H2
theorem ok__law_due (T : Tx K mg) : FnOk P w K mg base CX0 2 T.f__law_due T.d__law_due ["task"] (sp__law_due K) := by
  refine T.F__law_due.ok sc__law_due (fun vs H Q E h => ?_) (fun cdv A outer s H vs Q E hr h => ?_)
  · obtain ⟨a, T, rfl, _⟩ := h; rfl
  · obtain ⟨a, Ta, rfl, hA, ok, lo, hm1, hm2, hfl, q⟩ := h
    refine ⟨_, (pss_cons (ps_asg (pv 0) (pg_tup (by rfl) (pgs_cons (pg_name (i := 1) sc__law_due.nd rfl (Or.inl rfl)) (pgs_cons (pg_name (i := 2) sc__law_due.nd rfl (Or.inl rfl)) (pgs_cons (pg_name (i := 3) sc__law_due.nd rfl (Or.inr rfl)) (pgs_cons (pg_name (i := 4) sc__law_due.nd rfl (Or.inl rfl)) pgs_nil))))))
    (pss_cons (ps_set (i := 5) sc__law_due.nd rfl (Or.inl rfl) (pe_dispT1 (Nat.lt_of_succ_lt (hu_of hr)) (pe_tup (pa_cons pe_int (pa_cons pe_int (pa_cons pe_str pa_nil)))) pe_bl))
    (pss_cons (ps_set (i := 6) sc__law_due.nd rfl (Or.inl rfl) (pe_lst (pa_cons (pe_tup (pa_cons pe_int (pa_cons pe_int (pa_cons pe_str pa_nil)))) pa_nil)))
    (C8.pss_cut (ps_for PassesOwn.never rfl (pi_range1 rfl T.n_range (pa_cons (pe_op op_add (pe_op op_mul (pe_op op_mul (pe_op op_add (pe_callB call_len_str (by rfl) T.n_len (by decide +kernel) (pa_cons (pv 3) pa_nil)) pe_int) (pe_ix ix_tup (pv 2) pe_int (fun _ _ => rfl))) pe_int) pe_int) pa_nil)) (pg_name (i := 7) sc__law_due.nd rfl (Or.inl rfl))
    (pss_cons (ps_set (i := 8) sc__law_due.nd rfl (Or.inl rfl) (pe_lst pa_nil))
    (C8.pss_cut (ps_for PassesOwn.never rfl (pi_list (pv 6)) (pg_name (i := 9) sc__law_due.nd rfl (Or.inl rfl))
    (pss_one (ps_for PassesOwn.never rfl (pi_list (pe_call (ok__law_arcs T) hr rfl T.g__law_arcs T.F__law_arcs.kp T.b__law_arcs .nil pass0 (pa_cons (pv 0) (pa_cons (pv 9) pa_nil)))) (pg_tup (by rfl) (pgs_cons (pg_name (i := 10) sc__law_due.nd rfl (Or.inl rfl)) (pgs_cons (pg_name (i := 11) sc__law_due.nd rfl (Or.inl rfl)) (pgs_cons (pg_name (i := 12) sc__law_due.nd rfl (Or.inl rfl)) pgs_nil))))
    (pss_one (ps_if (pt_cmp (pc_dnotin (hu_of hr) (pv 11) (pv 5)) (by rfl)) (pss_cons (ps_dput (hu_of hr) (pv 5) (pv 11) pe_bl rfl)
    (pss_one (ps_expr (pe_bm PySem.F.plainAttrs_list PySem.F.slot_list_append PySem.F.type_list_append mt_append (pv 8) (pa_cons (pv 11) pa_nil))))) pss_nil)))))
    (C8.pss_cut (ps_if (pt_cmpR op_eq (pe_callB call_len_seq (by rfl) T.n_len (by decide +kernel) (pa_cons (pv 8) pa_nil)) pe_int (nomark _)) (pss_one ps_break) pss_nil)
    (pss_one (ps_set (i := 6) sc__law_due.nd rfl (Or.inl rfl) (pv 8)))))))
    (C8.pss_cut (ps_set (i := 13) sc__law_due.nd rfl (Or.inl rfl) (pe_callB (cr_sortDt hr) (by rfl) T.n_sorted (by decide +kernel) (pa_cons (pe_lock (pe_lc (own := [("place", 9)]) (g := gName 9) (tt := tYes) (by rfl) sc__law_due.nd (pi_keys (pv 5)) (blkOk_by (N := ["task", "tokens", "book", "begun", "mode", "known", "last", "turn", "fresh", "place", "letter", "other", "token", "rows", "places", "numbers", "ends", "k", "finals", "arcs", "row", "state"]) (sc := defScope s__law_due) (by decide +kernel)) (fun _ _ _ _ _ => (pg_name (i := 9) sc__law_due.nd rfl (Or.inl rfl))) (fun _ _ _ _ _ => pts_nil) (fun _ _ _ _ _ => (pe_tup (pa_cons (pe_ix (ix_tupK (K := K) rfl) (pv 9) pe_int (fun _ _ => rfl)) (pa_cons (pe_callB call_len_str (by rfl) T.n_len (by decide +kernel) (pa_cons (pe_ix (ix_tupK (K := K) rfl) (pv 9) pe_int (fun _ _ => rfl)) pa_nil)) (pa_cons (pe_ix (ix_tupK (K := K) rfl) (pv 9) pe_int (fun _ _ => rfl)) (pa_cons (pe_ix (ix_tupK (K := K) rfl) (pv 9) pe_int (fun _ _ => rfl)) pa_nil)))))))) pa_nil)))
    (C8.pss_cut (ps_set (i := 14) sc__law_due.nd rfl (Or.inr rfl) (pe_lc (own := [("row", 20)]) (g := gName 20) (tt := tYes) (by rfl) sc__law_due.nd (pi_list (pv 13)) (blkOk_by (N := ["task", "tokens", "book", "begun", "mode", "known", "last", "turn", "fresh", "place", "letter", "other", "token", "rows", "places", "numbers", "ends", "k", "finals", "arcs", "row", "state"]) (sc := defScope s__law_due) (by decide +kernel)) (fun _ _ _ _ _ => (pg_name (i := 20) sc__law_due.nd rfl (Or.inl rfl))) (fun _ _ _ _ _ => pts_nil) (fun _ _ _ _ _ => (pe_tup (pa_cons (pe_ix (ix_tupK (K := K) rfl) (pv 20) pe_int (fun _ _ => rfl)) (pa_cons (pe_ix (ix_tupK (K := K) rfl) (pv 20) pe_int (fun _ _ => rfl)) (pa_cons (pe_ix (ix_tupK (K := K) rfl) (pv 20) pe_int (fun _ _ => rfl)) pa_nil)))))))
    (pss_cons (ps_set (i := 15) sc__law_due.nd rfl (Or.inl rfl) pe_dnewT)
    (C8.pss_cut (ps_for PassesOwn.never rfl (pi_list (pv 14)) (pg_name (i := 9) sc__law_due.nd rfl (Or.inl rfl))
    (pss_one (ps_dput (hu_of hr) (pv 15) (pv 9) (pe_callB call_len_dT (by rfl) T.n_len (by decide +kernel) (pa_cons (pv 15) pa_nil)) rfl)))
    (C8.pss_cut (ps_set (i := 16) sc__law_due.nd rfl (Or.inr rfl) (pe_lc (own := [("state", 21)]) (g := gName 21) (tt := tYes) (by rfl) sc__law_due.nd (pi_tup (pe_ix (ix_tupK (K := K) rfl) (pv 2) pe_int (fun _ _ => rfl))) (blkOk_by (N := ["task", "tokens", "book", "begun", "mode", "known", "last", "turn", "fresh", "place", "letter", "other", "token", "rows", "places", "numbers", "ends", "k", "finals", "arcs", "row", "state"]) (sc := defScope s__law_due) (by decide +kernel)) (fun _ _ _ _ _ => (pg_name (i := 21) sc__law_due.nd rfl (Or.inl rfl))) (fun _ _ _ _ _ => pts_nil) (fun _ _ _ _ _ => (pe_tup (pa_cons (pe_callB call_len_str (by rfl) T.n_len (by decide +kernel) (pa_cons (pv 3) pa_nil)) (pa_cons (pv 21) (pa_cons pe_str pa_nil)))))))
    (C8.pss_cut (ps_setLc (i := 18) (own := [("k", 17)]) (g := gName 17) (tt := _) (by rfl) sc__law_due.nd rfl rfl (sw_true rfl rfl rfl (by decide +kernel)) (pi_range1 rfl T.n_range (pa_cons (pe_callB call_len_seq (by rfl) T.n_len (by decide +kernel) (pa_cons (pv 14) pa_nil)) pa_nil)) (blkOk_by (N := ["task", "tokens", "book", "begun", "mode", "known", "last", "turn", "fresh", "place", "letter", "other", "token", "rows", "places", "numbers", "ends", "k", "finals", "arcs", "row", "state"]) (sc := defScope s__law_due) (by decide +kernel)) (fun _ _ _ _ _ => (pg_name (i := 17) sc__law_due.nd rfl (Or.inl rfl))) (fun _ _ _ _ _ => (pts_one (pt_cmpR (op_inDK (K := K) rfl (hu65 hr)) (pe_ix (ix_listK (K := K) rfl) (pv 14) (pv 17) (fun _ _ => rfl)) (pv 16) (by rfl)))) (fun _ _ _ _ _ => (pv 17)))
    (pss_cons (ps_set (i := 19) sc__law_due.nd rfl (Or.inl rfl) (pe_lst pa_nil))
    (C8.pss_cut (ps_for PassesOwn.never rfl (pi_range1 rfl T.n_range (pa_cons (pe_callB call_len_seq (by rfl) T.n_len (by decide +kernel) (pa_cons (pv 14) pa_nil)) pa_nil)) (pg_name (i := 17) sc__law_due.nd rfl (Or.inl rfl))
    (pss_one (ps_for PassesOwn.never rfl (pi_list (pe_call (ok__law_arcs T) hr rfl T.g__law_arcs T.F__law_arcs.kp T.b__law_arcs .nil pass0 (pa_cons (pv 0) (pa_cons (pe_ix (ix_listK (K := K) rfl) (pv 14) (pv 17) (fun _ _ => rfl)) pa_nil)))) (pg_tup (by rfl) (pgs_cons (pg_name (i := 10) sc__law_due.nd rfl (Or.inl rfl)) (pgs_cons (pg_name (i := 11) sc__law_due.nd rfl (Or.inl rfl)) (pgs_cons (pg_name (i := 12) sc__law_due.nd rfl (Or.inl rfl)) pgs_nil))))
    (pss_one (ps_expr (pe_bm PySem.F.plainAttrs_list PySem.F.slot_list_append PySem.F.type_list_append mt_append (pv 19) (pa_cons (pe_tup (pa_cons (pv 17) (pa_cons (pv 10) (pa_cons (pe_dget (hu_of hr) (pv 15) (pv 11) (fun _ _ => rfl)) (pa_cons (pv 12) pa_nil))))) pa_nil)))))))
    (pss_one (ps_ret (pe_tup (pa_cons (pe_callTy call_tuple_of (by rfl) T.n_tuple (by decide +kernel) (pa_cons (pv 14) pa_nil)) (pa_cons (pe_callTy call_tuple_of (by rfl) T.n_tuple (by decide +kernel) (pa_cons (pv 18) pa_nil)) (pa_cons (pe_callTy call_tuple_of (by rfl) T.n_tuple (by decide +kernel) (pa_cons (pe_callB (cr_sortDt hr) (by rfl) T.n_sorted (by decide +kernel) (pa_cons (pv 19) pa_nil)) pa_nil)) pa_nil)))))))))))))))))), ?_⟩
    obtain ⟨ta, tb, hA1, hA2, hA3⟩ := _root_.id hA
    have gl := ok.gl
    have cnt := ok.cnt
    have lbeg : 1 ≤ (begL Ta.ts).length := List.length_pos_of_mem (begL_mem.mpr (inner_nil ok))
    have hc : (Ta.g.length + 1) * Ta.count ≤ 20000 := by
      refine Nat.le_trans ?_ hm2
      show _ ≤ (Ta.g.length + 1) * (Ta.count * (begL Ta.ts).length)
      rw [← Nat.mul_assoc]
      exact Nat.le_mul_of_pos_right _ lbeg
    refine ⟨.ref a, rfl, a, _, rfl, hA1, rfl, .ref ta, _, rfl, .ref tb, _, rfl, .str Ta.g, _, rfl, .str (modeS Ta.hl), _, rfl, rfl, ?_⟩
    refine fun D nD => ?_
    have sD := same_new (o := .dT []) nD
    have hD : (upd H D (.dT [])) D = some (.dT []) := upd_same
    generalize upd H D (.dT []) = H1 at sD hD ⊢
    refine ⟨small' (by simp), fun sp nsp => ?_⟩
    have sS := same_new (o := .tup [V.int 0, V.int 0, V.str ""]) nsp
    have hS : (upd H1 sp (.tup [V.int 0, V.int 0, V.str ""])) sp = some (.tup (plV ⟨0, 0, ""⟩)) := upd_same
    have hD2 := sS _ _ hD
    have s2 := sD.trans sS
    generalize upd H1 sp (.tup [V.int 0, V.int 0, V.str ""]) = H2 at hS hD2 s2 ⊢
    refine ⟨[], plKey ⟨0, 0, ""⟩, sp, rfl, hS, hD2, (by show 0 < sizeLine; decide), ?_⟩
    have s3 : Same H (upd H2 D (.dT (putK [] (plKey ⟨0, 0, ""⟩) (.bl true)))) := same_upd2 s2 nD
    have hD3 : (upd H2 D (.dT (putK [] (plKey ⟨0, 0, ""⟩) (.bl true)))) D = some (.dT [(plKey ⟨0, 0, ""⟩, .bl true)]) := upd_same
    generalize upd H2 D (.dT (putK [] (plKey ⟨0, 0, ""⟩) (.bl true))) = H3 at s3 hD3 ⊢
    refine ⟨small' (by simp), fun sp2 nsp2 => ?_⟩
    have sS2 := same_new (o := .tup [V.int 0, V.int 0, V.str ""]) nsp2
    have hS2 : (upd H3 sp2 (.tup [V.int 0, V.int 0, V.str ""])) sp2 = some (.tup (plV ⟨0, 0, ""⟩)) := upd_same
    have hD4 := sS2 _ _ hD3
    have s4 := s3.trans sS2
    generalize upd H3 sp2 (.tup [V.int 0, V.int 0, V.str ""]) = H4 at hS2 hD4 s4 ⊢
    refine ⟨small' (by simp), fun la0 nla => ?_⟩
    have sla := same_new (o := .lst [V.ref sp2]) nla
    have hla : (upd H4 la0 (.lst [V.ref sp2])) la0 = some (.lst [V.ref sp2]) := upd_same
    have hD5 := sla _ _ hD4
    have hS5 := sla _ _ hS2
    have s5 := s4.trans sla
    generalize upd H4 la0 (.lst [V.ref sp2]) = H5 at hla hD5 hS5 s5 ⊢
    refine ⟨fun σ' H' => ∃ (N : List Pl) (kvs : List (List L2.Key × V)) (la : Addr) (y7 y8 y9 y10 y11 y12 : Option V), σ' = [some (.ref a), some (.ref ta), some (.ref tb), some (.str Ta.g), some (.str (modeS Ta.hl)), some (.ref D), some (.ref la), y7, y8, y9, y10, y11, y12, none, none, none, none, none, none, none, none, none] ∧ Same H H' ∧ H' D = some (.dT kvs) ∧ kvs.map (·.1) = N.map plKey ∧ N.Nodup ∧ ∀ p, p ∈ N ↔ Reach Ta p, ?_, fun σ' H6 h => ?_⟩
    · obtain ⟨nT, en, hnT⟩ : ∃ n : Nat, (((Ta.g.length : Nat) : Int) + 1) * ((Ta.count : Nat) : Int) * 60 + 1 = (n : Int) ∧ Ta.most < n := by
        refine ⟨(Ta.g.length + 1) * Ta.count * 60 + 1, by push_cast; rfl, by omega⟩
      obtain ⟨fb, tt, tv, hB1, hB2, hB3, hR⟩ := _root_.id hA3
      refine ⟨.str Ta.g, rfl, Ta.g, rfl, small' (by omega), _, 1, rfl, rfl, .ref tb, rfl, tb, _, 0, _, rfl, rfl, seqT_grow s5 hB1, (atI_nat (j := 0) rfl : atI _ ((0 : Nat) : Int) = _), _, _, rfl, rfl, .inl ⟨by omega, by omega⟩, _, 60, rfl, rfl, .inr ⟨by decide, by decide⟩, _, 1, rfl, rfl, (nT : Int), congrArg (fun z => [V.int z]) en, ?_⟩
      have nTb : nT ≤ 1200001 := by
        have : (nT : Int) = (((Ta.g.length + 1) * Ta.count * 60 + 1 : Nat) : Int) := by rw [← en]; push_cast; rfl
        omega
      refine ⟨by omega, by omega, ?_⟩
      refine for_range0 (n := ((nT : Int)).toNat) (fun t σ H' => ∃ (N La : List Pl) (kvs : List (List L2.Key × V)) (la : Addr) (vl : List V) (y7 y8 y9 y10 y11 y12 : Option V), σ = [some (.ref a), some (.ref ta), some (.ref tb), some (.str Ta.g), some (.str (modeS Ta.hl)), some (.ref D), some (.ref la), y7, y8, y9, y10, y11, y12, none, none, none, none, none, none, none, none, none] ∧ Same H H' ∧ H' D = some (.dT kvs) ∧ kvs.map (·.1) = N.map plKey ∧ N.Nodup ∧ (∀ p ∈ N, Reach Ta p) ∧ (⟨0, 0, ""⟩ : Pl) ∈ N ∧ H' la = some (.lst vl) ∧ Paired (PlAt H') vl La ∧ (∀ p ∈ La, p ∈ N) ∧ (∀ p ∈ N, p ∉ La → ∀ a, IsArc Ta p a → a.to ∈ N) ∧ t < N.length)
        ⟨[⟨0, 0, ""⟩], [⟨0, 0, ""⟩], _, la0, _, none, none, none, none, none, none, rfl, s5, hD5, rfl, List.pairwise_singleton _ _, fun p hp => by rw [List.mem_singleton.mp hp]; exact .start, List.mem_cons_self, hla, .cons ⟨sp2, rfl, hS5⟩ .nil, fun p hp => hp, fun p hp np => absurd hp np, Nat.zero_lt_one⟩ (fun t σ H' lt h => ?_) (fun σ H' h => ?_)
      · obtain ⟨N, La, kvs, la, vl, y7, y8, y9, y10, y11, y12, rfl, s6, hD6, ek, nd, hN, hst, hla6, hLa, sub, don, ltN⟩ := h
        refine ⟨Nat.zero_le _, fun fr nfr => ?_⟩
        have sfr := same_new (o := .lst []) nfr
        have hfr : (upd H' fr (.lst [])) fr = some (.lst []) := upd_same
        have hD7 := sfr _ _ hD6
        have hla7 := sfr _ _ hla6
        have nfH : H fr = none := s6.free nfr
        have lafr : la ≠ fr := fun e => by rw [e, nfr] at hla6; cases hla6
        have Dfr : D ≠ fr := fun e => by rw [e, nfr] at hD6; cases hD6
        have hLa7 := pls_keep (fun b xs e => sfr _ _ e) hLa
        have s7 := s6.trans sfr
        generalize upd H' fr (.lst []) = H7 at hfr hD7 hla7 hLa7 s7 ⊢
        refine ⟨fun σ' H' => ∃ (F : List Pl) (kvs : List (List L2.Key × V)) (vf : List V) (y7 y9 y10 y11 y12 : Option V), σ' = [some (.ref a), some (.ref ta), some (.ref tb), some (.str Ta.g), some (.str (modeS Ta.hl)), some (.ref D), some (.ref la), y7, some (.ref fr), y9, y10, y11, y12, none, none, none, none, none, none, none, none, none] ∧ Same H H' ∧ H' D = some (.dT kvs) ∧ kvs.map (·.1) = (N ++ F).map plKey ∧ (N ++ F).Nodup ∧ (∀ p ∈ N ++ F, Reach Ta p) ∧ H' la = some (.lst vl) ∧ Paired (PlAt H') vl La ∧ la ≠ fr ∧ H fr = none ∧ H' fr = some (.lst vf) ∧ Paired (PlAt H') vf F ∧ ∀ p ∈ La, ∀ a, IsArc Ta p a → a.to ∈ N ++ F, ?_, fun σ' H8 h => ?_⟩
        · refine ⟨.ref la, rfl, la, rfl, ⟨_, .inl (.inl hla7)⟩, ?_⟩
          refine for_list (K := K) (a := la) (xs := vl) (fun j σ H' => ∃ (F : List Pl) (kvs : List (List L2.Key × V)) (vf : List V) (y7 y9 y10 y11 y12 : Option V), σ = [some (.ref a), some (.ref ta), some (.ref tb), some (.str Ta.g), some (.str (modeS Ta.hl)), some (.ref D), some (.ref la), y7, some (.ref fr), y9, y10, y11, y12, none, none, none, none, none, none, none, none, none] ∧ Same H H' ∧ H' D = some (.dT kvs) ∧ kvs.map (·.1) = (N ++ F).map plKey ∧ (N ++ F).Nodup ∧ (∀ p ∈ N ++ F, Reach Ta p) ∧ H' la = some (.lst vl) ∧ Paired (PlAt H') vl La ∧ la ≠ fr ∧ H fr = none ∧ H' fr = some (.lst vf) ∧ Paired (PlAt H') vf F ∧ ∀ p ∈ La.take j, ∀ a, IsArc Ta p a → a.to ∈ N ++ F)
            ⟨[], kvs, [], _, _, _, _, _, rfl, s7, hD7, by rw [List.append_nil]; exact ek, by rw [List.append_nil]; exact nd, by rw [List.append_nil]; exact hN, hla7, hLa7, lafr, nfH, hfr, .nil, fun p hp => (by rw [List.take_zero] at hp; cases hp)⟩ (fun j σ H' _ h => ?_) (fun j x σ H' ex h => ?_) (fun σ H' h => ?_)
          · obtain ⟨_, _, _, _, _, _, _, _, _, _, _, _, _, _, hl, _⟩ := h
            exact .inl (.inl hl)
          · obtain ⟨F, kvs, vf, y7, y9, y10, y11, y12, rfl, b1, b2, b3, b4, b5, b6, b7, b8, b9, b10, b11, b12⟩ := h
            have lvl := Paired.length hLa
            have ltj := (List.getElem?_eq_some_iff.mp ex).1
            have ep : La[j]? = some (La[j]'(by omega)) := List.getElem?_eq_getElem _
            generalize La[j]'(by omega) = p at ep
            have pN : p ∈ N := sub p (List.mem_of_getElem? ep)
            obtain ⟨pr, rfl, hpr⟩ := pls_get b7 ex ep
            refine ⟨.ref a, rfl, .ref pr, rfl, a, pr, Ta, p, rfl, hA.grow b1, hpr, ok, lo, reach_in ok (hN p pN), fun L0 us as H9 s9 nL0 hL0 hAs ndA memA lA => ?_⟩
            have L0fr : L0 ≠ fr := fun e => by rw [e, b10] at nL0; cases nL0
            have lus : us.length = as.length := Paired.length hAs
            refine ⟨L0, rfl, ⟨_, .inl (.inl hL0)⟩, ?_⟩
            refine for_list (K := K) (a := L0) (xs := us) (fun k σ H' => ∃ (F : List Pl) (kvs : List (List L2.Key × V)) (vf : List V) (y10 y11 y12 : Option V), σ = [some (.ref a), some (.ref ta), some (.ref tb), some (.str Ta.g), some (.str (modeS Ta.hl)), some (.ref D), some (.ref la), y7, some (.ref fr), some (.ref pr), y10, y11, y12, none, none, none, none, none, none, none, none, none] ∧ Same H H' ∧ H' D = some (.dT kvs) ∧ kvs.map (·.1) = (N ++ F).map plKey ∧ (N ++ F).Nodup ∧ (∀ p ∈ N ++ F, Reach Ta p) ∧ H' la = some (.lst vl) ∧ Paired (PlAt H') vl La ∧ la ≠ fr ∧ H fr = none ∧ H' fr = some (.lst vf) ∧ Paired (PlAt H') vf F ∧ (∀ p ∈ La.take j, ∀ a, IsArc Ta p a → a.to ∈ N ++ F) ∧ H' L0 = some (.lst us) ∧ Paired (ArcAt H') us as ∧ ∀ a ∈ as.take k, a.to ∈ N ++ F)
              ⟨F, kvs, vf, _, _, _, rfl, b1.trans s9, s9 _ _ b2, b3, b4, b5, s9 _ _ b6, pls_keep (fun b xs e => s9 _ _ e) b7, b8, b9, s9 _ _ b10, pls_keep (fun b xs e => s9 _ _ e) b11, b12, hL0, hAs, fun a ha => (by rw [List.take_zero] at ha; cases ha)⟩ (fun k σ H' _ h => ?_) (fun k x σ H' ex h => ?_) (fun σ H' h => ?_)
            · obtain ⟨_, _, _, _, _, _, _, _, _, _, _, _, _, _, _, _, _, _, _, hl, _⟩ := h
              exact .inl (.inl hl)
            · obtain ⟨F, kvs, vf, y10, y11, y12, rfl, c1, c2, c3, c4, c5, c6, c7, c8, c9, c10, c11, c12, c13, c14, c15⟩ := h
              have ltk := (List.getElem?_eq_some_iff.mp ex).1
              have ea : as[k]? = some (as[k]'(by omega)) := List.getElem?_eq_getElem _
              generalize as[k]'(by omega) = ar at ea
              obtain ⟨q0, r0, rfl, hq0, hr0⟩ := arcs_get c14 ex ea
              have marc : IsArc Ta p ar := (memA ar).mp (List.mem_of_getElem? ea)
              have l2N := nodup_sub_len ok c4 c5
              have lkv : kvs.length = (N ++ F).length := by have := congrArg List.length c3; rw [List.length_map, List.length_map] at this; exact this
              refine ⟨q0, _, rfl, .inl (.inl hq0), rfl, .str ar.l, _, rfl, .ref r0, _, rfl, .int ar.t, _, rfl, rfl, ?_⟩
              have gD := DGet.t (k := plKey ar.to) c2 hr0
              refine ⟨.ref r0, rfl, .ref D, rfl, D, _, rfl, gD, _, rfl, ?_⟩
              rw [keys_none c3]
              by_cases c : ar.to ∈ N ++ F
              · rw [decide_eq_true c]
                refine if_ff ⟨F, kvs, vf, _, _, _, rfl, c1, c2, c3, c4, c5, c6, c7, c8, c9, c10, c11, c12, c13, c14, fun a ha => ?_⟩
                rw [take_snoc ea] at ha
                rcases List.mem_append.mp ha with ha | ha
                · exact c15 a ha
                · rw [List.mem_singleton.mp ha]; exact c
              · rw [decide_eq_false c]
                refine if_tt ?_
                have noneT : valV kvs (plKey ar.to) = none := none_of_isSome ((keys_none c3).trans (decide_eq_false c))
                refine ⟨.ref D, rfl, .ref r0, rfl, D, _, rfl, DPut.t (k := plKey ar.to) c2 hr0 (big (by omega)), ?_⟩
                rw [putK_new _ noneT]
                have hD12 : (upd H' D (.dT (kvs ++ [(plKey ar.to, .bl true)]))) D = some (.dT (kvs ++ [(plKey ar.to, .bl true)])) := upd_same
                have s12 : Same H (upd H' D (.dT (kvs ++ [(plKey ar.to, .bl true)]))) := same_upd2 c1 nD
                have kt12 : ∀ b xs, H' b = some (.tup xs) → (upd H' D (.dT (kvs ++ [(plKey ar.to, .bl true)]))) b = some (.tup xs) := fun b xs e => by rw [upd_ne (fun q => by rw [q, c2] at e; cases e)]; exact e
                have kl12 : ∀ b xs, H' b = some (.lst xs) → (upd H' D (.dT (kvs ++ [(plKey ar.to, .bl true)]))) b = some (.lst xs) := fun b xs e => by rw [upd_ne (fun q => by rw [q, c2] at e; cases e)]; exact e
                generalize upd H' D (.dT (kvs ++ [(plKey ar.to, .bl true)])) = H12 at hD12 s12 kt12 kl12 ⊢
                have hfr12 := kl12 _ _ c10
                have lvf : vf.length = F.length := Paired.length c11
                rw [List.length_append] at lkv l2N
                refine ⟨.ref fr, rfl, .inl ⟨rfl, _, .inl (.inl hfr12)⟩, .ref r0, rfl, fr, _, _, rfl, rfl, hfr12, big (by omega), ?_⟩
                have kt13 : ∀ b xs, H' b = some (.tup xs) → (upd H12 fr (.lst (vf ++ [.ref r0]))) b = some (.tup xs) := fun b xs e => tup_upd hfr12 (kt12 _ _ e)
                have kl13 : ∀ b xs, b ≠ fr → H' b = some (.lst xs) → (upd H12 fr (.lst (vf ++ [.ref r0]))) b = some (.lst xs) := fun b xs nb e => by rw [upd_ne nb]; exact kl12 _ _ e
                have s13 : Same H (upd H12 fr (.lst (vf ++ [.ref r0]))) := same_upd2 s12 c9
                have eNF : N ++ (F ++ [ar.to]) = (N ++ F) ++ [ar.to] := (List.append_assoc ..).symm
                have sn : ∀ q ∈ N ++ F, q ∈ N ++ (F ++ [ar.to]) := fun q hq => by rw [eNF]; exact List.mem_append_left _ hq
                refine ⟨F ++ [ar.to], _, _, _, _, _, rfl, s13, by rw [upd_ne Dfr]; exact hD12, ?_, ?_, ?_, kl13 _ _ c8 c6, pls_keep kt13 c7, c8, c9, upd_same, Paired.snoc (pls_keep kt13 c11) ⟨r0, rfl, kt13 _ _ hr0⟩, fun q hq a ha => sn _ (c12 q hq a ha), kl13 _ _ L0fr c13, arcs_keep kt13 c14, ?_⟩
                · rw [eNF, List.map_append, List.map_append, c3]; rfl
                · rw [eNF]
                  exact List.nodup_append.mpr ⟨c4, List.pairwise_singleton _ _, fun x hx y hy e => c (by rw [← List.mem_singleton.mp hy, ← e]; exact hx)⟩
                · intro q hq
                  rw [eNF] at hq
                  rcases List.mem_append.mp hq with hq | hq
                  · exact c5 q hq
                  · rw [List.mem_singleton.mp hq]; exact .step (hN p pN) marc
                · intro a ha
                  rw [take_snoc ea] at ha
                  rcases List.mem_append.mp ha with ha | ha
                  · exact sn _ (c15 a ha)
                  · rw [List.mem_singleton.mp ha, eNF]; exact List.mem_append_right _ List.mem_cons_self
            · obtain ⟨F, kvs, vf, y10, y11, y12, rfl, c1, c2, c3, c4, c5, c6, c7, c8, c9, c10, c11, c12, c13, c14, c15⟩ := h
              rw [lus, List.take_length] at c15
              refine ⟨F, kvs, vf, _, _, _, _, _, rfl, c1, c2, c3, c4, c5, c6, c7, c8, c9, c10, c11, fun q hq a ha => ?_⟩
              rw [take_snoc ep] at hq
              rcases List.mem_append.mp hq with hq | hq
              · exact c12 q hq a ha
              · rw [List.mem_singleton.mp hq] at ha
                exact c15 a ((memA a).mpr ha)
          · obtain ⟨F, kvs, vf, y7, y9, y10, y11, y12, rfl, b1, b2, b3, b4, b5, b6, b7, b8, b9, b10, b11, b12⟩ := h
            rw [Paired.length hLa, List.take_length] at b12
            exact ⟨F, kvs, vf, y7, y9, y10, y11, y12, rfl, b1, b2, b3, b4, b5, b6, b7, b8, b9, b10, b11, b12⟩
        obtain ⟨F, kvs, vf, y7, y9, y10, y11, y12, rfl, b1, b2, b3, b4, b5, b6, b7, b8, b9, b10, b11, b12⟩ := h
        have lvf : vf.length = F.length := Paired.length b11
        refine ⟨fun σ' H' => H' = H8 ∧ F ≠ [] ∧ σ' = [some (.ref a), some (.ref ta), some (.ref tb), some (.str Ta.g), some (.str (modeS Ta.hl)), some (.ref D), some (.ref la), y7, some (.ref fr), y9, y10, y11, y12, none, none, none, none, none, none, none, none, none], ?_, fun σ' H9 h => ?_⟩
        · refine ⟨.ref fr, rfl, fr, vf, rfl, .inl (.inl (.inl b10)), rfl, _, rfl, ite2 (fun z => ?_) (fun z => ?_)⟩
          · have e0 : F = [] := by
              have := V.int.inj (of_decide_eq_true z)
              exact List.eq_nil_of_length_eq_zero (by omega)
            subst e0
            rw [List.append_nil] at b3 b4 b5 b12
            refine ⟨N, kvs, la, _, _, _, _, _, _, rfl, b1, b2, b3, b4, fun p => ⟨b5 p, fun hr => ?_⟩⟩
            induction hr with
            | start => exact hst
            | @step p ar hp ha ih =>
              by_cases pl : p ∈ La
              · exact b12 p pl ar ha
              · exact don p ih pl ar ha
          · exact ⟨rfl, fun e => z (decide_eq_true (by rw [lvf, e]; rfl)), rfl⟩
        obtain ⟨rfl, nF, rfl⟩ := h
        refine ⟨.ref fr, rfl, N ++ F, F, kvs, fr, vf, _, _, _, _, _, _, rfl, b1, b2, b3, b4, b5, List.mem_append_left _ hst, b10, b11, fun p hp => List.mem_append_right _ hp, fun p hp np a ha => ?_, ?_⟩
        · have pN : p ∈ N := (List.mem_append.mp hp).resolve_right np
          by_cases pl : p ∈ La
          · exact b12 p pl a ha
          · exact List.mem_append_left _ (don p pN pl a ha)
        · have := List.length_pos_iff.mpr nF
          rw [List.length_append]
          omega
      · obtain ⟨N, La, kvs, la, vl, y7, y8, y9, y10, y11, y12, rfl, s6, hD6, ek, nd, hN, hst, hla6, hLa, sub, don, ltN⟩ := h
        have := nodup_sub_len ok nd hN
        rw [Int.toNat_natCast] at ltN
        omega
    obtain ⟨N, kvs, la, y7, y8, y9, y10, y11, y12, rfl, s6, hD6, ek, nd, mem⟩ := h
    have lN : N.length ≤ 20000 := Nat.le_trans (nodup_sub_len ok nd fun p hp => (mem p).mp hp) hm2
    have lkv : kvs.length = N.length := by have := congrArg List.length ek; rw [List.length_map, List.length_map] at this; exact this
    have uN : ∀ p, Reach Ta p → p.u.length ≤ 100 := fun p hp => by
      obtain ⟨t9, ht, k, hk, e9⟩ := (reach_in ok hp).2.2.2
      rw [e9, takeS_len (by omega)]
      have := (ok.len _ ht).2
      omega
    refine ⟨fun σ' H' => ∃ (Rw : Addr) (vr : List V) (Ps : List Pl), σ' = [some (.ref a), some (.ref ta), some (.ref tb), some (.str Ta.g), some (.str (modeS Ta.hl)), some (.ref D), some (.ref la), y7, y8, y9, y10, y11, y12, some (.ref Rw), none, none, none, none, none, none, none, none] ∧ Same H H' ∧ IsPs Ta Ps ∧ Ps.length ≤ 20000 ∧ H' Rw = some (.lst vr) ∧ Paired (RowAt H') vr Ps, ?_, fun σ' H7 h => ?_⟩
    · refine ⟨D, _, hD6, by trivial, fun od => ?_⟩
      have sF : ∀ b, b ≠ D → (upd H6 D (.frz od (.dT kvs))) b = H6 b := fun b ne => upd_ne ne
      generalize hHF : upd H6 D (.frz od (.dT kvs)) = HF at sF
      have hF : HF D = some (.frz od (.dT kvs)) := by rw [← hHF]; exact upd_same
      refine ⟨.ref D, rfl, D, od, rfl, .inr ⟨kvs, hF, fun Rl nRl => ?_⟩⟩
      have RlD : Rl ≠ D := fun e => by rw [e, hF] at nRl; cases nRl
      refine lc_it (walk_keysT (d := D) (o := od) (kvs := kvs)) (fun i H' => Same HF H' ∧ ∃ vs, H' Rl = some (.lst vs) ∧ Paired (RowAt H') vs (N.take i)) ⟨same_new nRl, [], upd_same, .nil⟩ (fun i H' _ h => h.1 _ _ hF) ?_ ?_
      · rintro i x H5 H' lt ⟨s8, vs, hRl, hvs⟩ ⟨rfl, k, v, q9, ekv, rfl, hq⟩
        obtain ⟨p, ep, rfl⟩ := kvs_key ek ekv
        have hq : H' q9 = some (.tup (plV p)) := hq
        have up := uN p ((mem p).mp (List.mem_of_getElem? ep))
        have a0 : atI (plV p) 0 = some (.int (p.i : Nat)) := (atI_nat (j := 0) rfl : atI _ ((0 : Nat) : Int) = _)
        have a1 : atI (plV p) 1 = some (.int p.b) := (atI_nat (j := 1) rfl : atI _ ((1 : Nat) : Int) = _)
        have a2 : atI (plV p) 2 = some (.str p.u) := (atI_nat (j := 2) rfl : atI _ ((2 : Nat) : Int) = _)
        have lvs : vs.length ≤ 20000 := by
          have h1 := Paired.length hvs
          rw [List.length_take] at h1
          omega
        refine ⟨wipe_one _ _ _, yes_on ?_⟩
        refine ⟨.ref q9, rfl, q9, _, 0, _, rfl, rfl, .inl (.inl hq), a0, .ref q9, rfl, q9, _, 2, _, rfl, rfl, .inl (.inl hq), a2, p.u, rfl, small' (by omega), .ref q9, rfl, q9, _, 2, _, rfl, rfl, .inl (.inl hq), a2, .ref q9, rfl, q9, _, 1, _, rfl, rfl, .inl (.inl hq), a1, small' (by simp), fun r nr => ?_⟩
        have sr := same_new (o := .tup [V.int (p.i : Nat), V.int (p.u.length : Nat), V.str p.u, V.int p.b]) nr
        have hr9 : (upd H' r (.tup [V.int (p.i : Nat), V.int (p.u.length : Nat), V.str p.u, V.int p.b])) r = some (.tup [V.int (p.i : Nat), V.int (p.u.length : Nat), V.str p.u, V.int p.b]) := upd_same
        generalize upd H' r (.tup [V.int (p.i : Nat), V.int (p.u.length : Nat), V.str p.u, V.int p.b]) = H9 at sr hr9 ⊢
        have hRl9 := sr _ _ hRl
        have kt : ∀ b xs, H9 b = some (.tup xs) → (upd H9 Rl (.lst (vs ++ [.ref r]))) b = some (.tup xs) := fun b xs e => tup_upd hRl9 e
        refine ⟨vs, hRl9, big (by omega), same_upd2 (s8.trans sr) nRl, vs ++ [.ref r], upd_same, ?_⟩
        rw [take_snoc ep]
        exact Paired.snoc (rowsP_keep (fun b xs e => kt _ _ (sr _ _ e)) hvs) ⟨r, rfl, kt _ _ hr9⟩
      · rintro H8 ⟨s8, vs, hRl, hvs⟩
        rw [lkv, List.take_length] at hvs
        have hD8 := s8 _ _ hF
        refine ⟨hD8, ?_⟩
        have s69 : Same H6 (upd H8 D (.dT kvs)) := fun b o e => by
          by_cases q : b = D
          · subst q
            rw [upd_same, ← hD6, e]
          · rw [upd_ne q]
            exact s8 _ _ ((sF b q).trans e)
        have hRl9 : (upd H8 D (.dT kvs)) Rl = some (.lst vs) := by rw [upd_ne RlD]; exact hRl
        have hvs9 : Paired (RowAt (upd H8 D (.dT kvs))) vs N := rowsP_keep (fun b xs e => by rw [upd_ne (fun q => by rw [q, hD8] at e; cases e)]; exact e) hvs
        generalize upd H8 D (.dT kvs) = H9 at s69 hRl9 hvs9 ⊢
        have lvs : vs.length = N.length := Paired.length hvs9
        refine ⟨Rl, vs, N.map plK, rfl, .inl (.inl hRl9), rowsP_data hvs9, PySem.W.AllAlike.of (fun b b' => rfl), PySem.W.Sortable.tuples (fun b => ⟨_, _, rfl⟩), fun d hd => ?_, fun S nS => ?_⟩
        · obtain ⟨x, _, rfl⟩ := List.mem_map.mp hd
          have : (plK x).depth = 1 := by simp [plK, PyData.depth, PyData.depthAll]
          omega
        have pS : Paired (RowAt H9) (((vs.zip (N.map plK)).mergeSort (PySem.W.dataLe false Prod.snd)).map Prod.fst) (N.mergeSort lePl) := by
          have h1 := srt_paired (R := RowAt H9) (f := fun v => v) (enc := plK) (as := vs) (bs := N) lvs (fun z hz => paired_zip hvs9 z hz)
          have e9 : ((vs.zip (N.map plK)).mergeSort (PySem.W.dataLe false Prod.snd)).map Prod.fst = ((vs.zip N).mergeSort (PySem.W.dataLe false fun z => plK z.2)).map fun z => z.1 := by
            rw [zip_map_r]
            have h2 := List.map_mergeSort (r := PySem.W.dataLe false fun z : V × Pl => plK z.2) (s := PySem.W.dataLe false (Prod.snd : V × PyData → PyData)) (f := fun z : V × Pl => (z.1, plK z.2)) (l := vs.zip N) (fun a _ b _ => rfl)
            rw [← h2, List.map_map]
            rfl
          rw [e9]
          exact h1
        have cS := same_new (o := .lst (((vs.zip (N.map plK)).mergeSort (PySem.W.dataLe false Prod.snd)).map Prod.fst)) nS
        have lS : (N.mergeSort lePl).length = N.length := List.length_mergeSort ..
        exact ⟨S, _, N.mergeSort lePl, rfl, (s6.trans s69).trans cS, ps_of nd mem, by omega, upd_same, rowsP_keep (fun b xs e => cS _ _ e) pS⟩
    obtain ⟨Rw, vr, Ps, rfl, s7, ips, lPs, hRw, pr⟩ := h
    have uP : ∀ p ∈ Ps, p.u.length ≤ 100 := fun p hp => uN p ((ips.mem p).mp hp)
    have lowP : ∀ p ∈ Ps, lowS p.u := fun p hp => by
      obtain ⟨t9, ht, k, hk, e9⟩ := (reach_in ok ((ips.mem p).mp hp)).2.2.2
      rw [e9]
      exact low_take (lo t9 ht) k
    have lvr : vr.length = Ps.length := Paired.length pr
    refine ⟨fun σ' H' => ∃ (Pa : Addr) (vp : List V), σ' = [some (.ref a), some (.ref ta), some (.ref tb), some (.str Ta.g), some (.str (modeS Ta.hl)), some (.ref D), some (.ref la), y7, y8, y9, y10, y11, y12, some (.ref Rw), some (.ref Pa), none, none, none, none, none, none, none] ∧ Same H H' ∧ H' Pa = some (.lst vp) ∧ Paired (PlAt H') vp Ps, ?_, fun σ' H8 h => ?_⟩
    · refine ⟨.ref Rw, rfl, Rw, rfl, ⟨_, .inl (.inl hRw)⟩, fun Pa nPa => ?_⟩
      refine lc_list (K := K) (a := Rw) (xs := vr) (fun n H' => Same H7 H' ∧ ∃ vp, H' Pa = some (.lst vp) ∧ Paired (PlAt H') vp (Ps.take n)) ⟨same_new nPa, [], upd_same, .nil⟩ (fun n H' _ h => .inl (.inl (h.1 _ _ hRw))) (fun n x H' ex h => ?_) (fun H' h => ?_)
      · obtain ⟨s8, vp, hPa, hvp⟩ := h
        have ltn := (List.getElem?_eq_some_iff.mp ex).1
        have ep : Ps[n]? = some (Ps[n]'(by omega)) := List.getElem?_eq_getElem _
        generalize Ps[n]'(by omega) = p at ep
        obtain ⟨q9, rfl, hq7⟩ := rowsP_get pr ex ep
        have hq := s8 _ _ hq7
        have a0 : atI [V.int (p.i : Nat), V.int (p.u.length : Nat), V.str p.u, V.int p.b] 0 = some (.int (p.i : Nat)) := (atI_nat (j := 0) rfl : atI _ ((0 : Nat) : Int) = _)
        have a2 : atI [V.int (p.i : Nat), V.int (p.u.length : Nat), V.str p.u, V.int p.b] 2 = some (.str p.u) := (atI_nat (j := 2) rfl : atI _ ((2 : Nat) : Int) = _)
        have a3 : atI [V.int (p.i : Nat), V.int (p.u.length : Nat), V.str p.u, V.int p.b] 3 = some (.int p.b) := (atI_nat (j := 3) rfl : atI _ ((3 : Nat) : Int) = _)
        have lvp : vp.length ≤ 20000 := by
          have h1 := Paired.length hvp
          rw [List.length_take] at h1
          omega
        refine ⟨wipe_one _ _ _, yes_on ?_⟩
        refine ⟨.ref q9, rfl, q9, _, 0, _, rfl, rfl, .inl (.inl hq), a0, .ref q9, rfl, q9, _, 3, _, rfl, rfl, .inl (.inl hq), a3, .ref q9, rfl, q9, _, 2, _, rfl, rfl, .inl (.inl hq), a2, small' (by simp), fun r nr => ?_⟩
        have sr := same_new (o := .tup [V.int (p.i : Nat), V.int p.b, V.str p.u]) nr
        have hr9 : (upd H' r (.tup [V.int (p.i : Nat), V.int p.b, V.str p.u])) r = some (.tup (plV p)) := upd_same
        generalize upd H' r (.tup [V.int (p.i : Nat), V.int p.b, V.str p.u]) = H9 at sr hr9 ⊢
        have hPa9 := sr _ _ hPa
        have kt : ∀ b xs, H9 b = some (.tup xs) → (upd H9 Pa (.lst (vp ++ [.ref r]))) b = some (.tup xs) := fun b xs e => tup_upd hPa9 e
        refine ⟨vp, hPa9, big (by omega), same_upd2 (s8.trans sr) nPa, vp ++ [.ref r], upd_same, ?_⟩
        rw [take_snoc ep]
        exact Paired.snoc (pls_keep (fun b xs e => kt _ _ (sr _ _ e)) hvp) ⟨r, rfl, kt _ _ hr9⟩
      · obtain ⟨s8, vp, hPa, hvp⟩ := h
        rw [lvr, List.take_length] at hvp
        exact ⟨Pa, vp, rfl, s7.trans s8, hPa, hvp⟩
    obtain ⟨Pa, vp, rfl, s8, hPa, pb⟩ := h
    have lvp : vp.length = Ps.length := Paired.length pb
    refine fun Nu nNu => ?_
    have sNu := same_new (o := .dT []) nNu
    have hNu0 : (upd H8 Nu (.dT [])) Nu = some (.dT []) := upd_same
    generalize upd H8 Nu (.dT []) = H9 at sNu hNu0 ⊢
    have hPa9 := sNu _ _ hPa
    have pb9 := pls_keep (fun b xs e => sNu _ _ e) pb
    have s9 := s8.trans sNu
    refine ⟨fun σ' H' => ∃ (y9 : Option V), σ' = [some (.ref a), some (.ref ta), some (.ref tb), some (.str Ta.g), some (.str (modeS Ta.hl)), some (.ref D), some (.ref la), y7, y8, y9, y10, y11, y12, some (.ref Rw), some (.ref Pa), some (.ref Nu), none, none, none, none, none, none] ∧ Same H8 H' ∧ H' Nu = some (.dT (numF Ps 0)), ?_, fun σ' H10 h => ?_⟩
    · refine ⟨.ref Pa, rfl, Pa, rfl, ⟨_, .inl (.inl hPa9)⟩, ?_⟩
      refine for_list (K := K) (a := Pa) (xs := vp) (fun i σ H' => ∃ (y9 : Option V), σ = [some (.ref a), some (.ref ta), some (.ref tb), some (.str Ta.g), some (.str (modeS Ta.hl)), some (.ref D), some (.ref la), y7, y8, y9, y10, y11, y12, some (.ref Rw), some (.ref Pa), some (.ref Nu), none, none, none, none, none, none] ∧ Same H8 H' ∧ H' Nu = some (.dT (numF (Ps.take i) 0)))
        ⟨y9, rfl, sNu, hNu0⟩ (fun i σ H' _ h => ?_) (fun i x σ H' ex h => ?_) (fun σ H' h => ?_)
      · obtain ⟨_, _, s10, _⟩ := h
        exact .inl (.inl (s10 _ _ hPa))
      · obtain ⟨y9, rfl, s10, hNu⟩ := h
        have lti := (List.getElem?_eq_some_iff.mp ex).1
        have ep : Ps[i]? = some (Ps[i]'(by omega)) := List.getElem?_eq_getElem _
        generalize Ps[i]'(by omega) = p at ep
        obtain ⟨r, rfl, hr8⟩ := pls_get pb ex ep
        have hr10 := s10 _ _ hr8
        have ln : (numF (Ps.take i) 0).length = i := by rw [numF_len, List.length_take]; omega
        refine ⟨.ref Nu, rfl, Nu, _, rfl, hNu, .ref Nu, rfl, .ref r, rfl, Nu, _, rfl, DPut.t (k := plKey p) hNu hr10 (big (by omega)), some (.ref r), rfl, same_upd2 s10 nNu, ?_⟩
        have none1 : valV (numF (Ps.take i) 0) (plKey p) = none := none_of_isSome ((keys_none (numF_keys _ _)).trans (decide_eq_false (nodup_take ips.nd ep)))
        rw [upd_same, putK_new _ none1, take_snoc ep, numF_snoc, ln, List.length_take, Nat.min_eq_left (by omega), Nat.zero_add]
      · obtain ⟨y9, rfl, s10, hNu⟩ := h
        rw [lvp, List.take_length] at hNu
        exact ⟨y9, rfl, s10, hNu⟩
    obtain ⟨y9, rfl, s10, hNu⟩ := h
    have hPa10 := s10 _ _ hPa
    have s11 := s8.trans s10
    have pb10 := pls_keep (fun b xs e => s10 _ _ e) pb
    obtain ⟨fb, tt, tv, hB1, hB2, hB3, hR⟩ := _root_.id hA3
    have pb10 : Paired (PlAt H10) vp Ps := pb10
    refine ⟨fun σ' H' => ∃ (En : Addr) (ve : List V), σ' = [some (.ref a), some (.ref ta), some (.ref tb), some (.str Ta.g), some (.str (modeS Ta.hl)), some (.ref D), some (.ref la), y7, y8, y9, y10, y11, y12, some (.ref Rw), some (.ref Pa), some (.ref Nu), some (.ref En), none, none, none, none, none] ∧ Same H10 H' ∧ H' En = some (.lst ve) ∧ Paired (PlAt H') ve (endsP Ta), ?_, fun σ' H11 h => ?_⟩
    · refine ⟨.ref tb, rfl, tb, _, 1, _, rfl, rfl, seqT_grow s11 hB1, (atI_nat (j := 1) rfl : atI _ ((1 : Nat) : Int) = _), fb, rfl, ⟨_, seqT_grow s11 hB2⟩, fun En nEn => ?_⟩
      refine lc_tup (K := K) (a := fb) (xs := Ta.fin.map V.int) (fun n H' => Same H10 H' ∧ ∃ ve, H' En = some (.lst ve) ∧ Paired (PlAt H') ve ((endsP Ta).take n)) ⟨same_new nEn, [], upd_same, .nil⟩ (fun n H' _ h => seqT_grow (s11.trans h.1) hB2) (fun n x H' ex h => ?_) (fun H' h => ?_)
      · obtain ⟨s12, ve, hEn, hve⟩ := h
        obtain ⟨b, eb, rfl⟩ : ∃ b, Ta.fin[n]? = some b ∧ V.int b = x := by
          rw [List.getElem?_map] at ex
          cases ez : Ta.fin[n]? with
          | none => rw [ez] at ex; cases ex
          | some z => rw [ez] at ex; exact ⟨z, rfl, Option.some.inj ex⟩
        have ep : (endsP Ta)[n]? = some ⟨Ta.g.length, b, ""⟩ := by unfold endsP; rw [List.getElem?_map, eb]; rfl
        have lve : ve.length ≤ 1000 := by
          have h1 := Paired.length hve
          have h2 : (endsP Ta).length = Ta.fin.length := List.length_map ..
          rw [List.length_take] at h1
          omega
        refine ⟨wipe_one _ _ _, yes_on ?_⟩
        refine ⟨.str Ta.g, rfl, Ta.g, rfl, small' (by omega), .int b, rfl, small' (by simp), fun r nr => ?_⟩
        have sr := same_new (o := .tup [V.int (Ta.g.length : Nat), V.int b, V.str ""]) nr
        have hr9 : (upd H' r (.tup [V.int (Ta.g.length : Nat), V.int b, V.str ""])) r = some (.tup (plV ⟨Ta.g.length, b, ""⟩)) := upd_same
        generalize upd H' r (.tup [V.int (Ta.g.length : Nat), V.int b, V.str ""]) = H9 at sr hr9 ⊢
        have hEn9 := sr _ _ hEn
        have kt : ∀ b xs, H9 b = some (.tup xs) → (upd H9 En (.lst (ve ++ [.ref r]))) b = some (.tup xs) := fun b xs e => tup_upd hEn9 e
        refine ⟨ve, hEn9, big (by omega), same_upd2 (s12.trans sr) nEn, ve ++ [.ref r], upd_same, ?_⟩
        rw [take_snoc ep]
        exact Paired.snoc (pls_keep (fun b xs e => kt _ _ (sr _ _ e)) hve) ⟨r, rfl, kt _ _ hr9⟩
      · obtain ⟨s12, ve, hEn, hve⟩ := h
        have e9 : (Ta.fin.map V.int).length = (endsP Ta).length := by unfold endsP; rw [List.length_map, List.length_map]
        rw [e9, List.take_length] at hve
        exact ⟨En, ve, rfl, s12, hEn, hve⟩
    obtain ⟨En, ve, rfl, s12, hEn, hve⟩ := h
    have hPa11 := s12 _ _ hPa10
    have pb11 : Paired (PlAt H11) vp Ps := pls_keep (fun b xs e => s12 _ _ e) pb10
    refine ⟨fun σ' H' => ∃ (F : Addr), σ' = [some (.ref a), some (.ref ta), some (.ref tb), some (.str Ta.g), some (.str (modeS Ta.hl)), some (.ref D), some (.ref la), y7, y8, y9, y10, y11, y12, some (.ref Rw), some (.ref Pa), some (.ref Nu), some (.ref En), none, some (.ref F), none, none, none] ∧ Same H11 H' ∧ H' F = some (.lst ((finsOf Ta Ps).map fun k => V.int (k : Nat))), ?_, fun σ' H12 h => ?_⟩
    · refine ⟨.ref Pa, rfl, Pa, vp, rfl, .inl (.inl (.inl hPa11)), ?_⟩
      refine ⟨(vp.length : Nat), rfl, by omega, by omega, fun F nF => ?_⟩
      refine lc_range (lo := 0) (n := ((vp.length : Nat) : Int).toNat) (fun n H' => Same H11 H' ∧ H' F = some (.lst ((finsN Ta Ps n).map fun k => V.int (k : Nat)))) ⟨same_new nF, upd_same⟩ (fun n H' lt h => ?_) (fun H' h => ?_)
      · obtain ⟨s13, hF⟩ := h
        rw [Int.toNat_natCast] at lt
        have ep : Ps[n]? = some (Ps[n]'(by omega)) := List.getElem?_eq_getElem _
        generalize Ps[n]'(by omega) = p at ep
        have ev : vp[n]? = some (vp[n]'lt) := List.getElem?_eq_getElem lt
        generalize vp[n]'lt = v at ev
        obtain ⟨r, rfl, hr3⟩ := pls_get pb11 ev ep
        have pP := List.mem_of_getElem? ep
        have hr5 := s13 _ _ hr3
        have lf := finsN_len Ta Ps n
        refine ⟨wipe_one _ _ _, ?_⟩
        rw [Int.zero_add]
        refine ⟨.ref Pa, rfl, .int (n : Nat), rfl, Pa, vp, (n : Nat), .ref r, rfl, rfl, .inl (.inl (s13 _ _ hPa11)), atI_nat ev, .ref En, rfl, plD p, (endsP Ta).map plD, pl_at hr5, .lst (.inl (.inl (s13 _ _ hEn))) (pls_data (pls_keep (fun b xs e => s13 _ _ e) hve)), shaped_pl (lowP p pP), shaped_pls (fun q hq => ?_), _, rfl, ?_⟩
        · obtain ⟨b, _, rfl⟩ := List.mem_map.mp hq
          exact low_nil
        rw [any_pl, mem_ends, finsN_succ ep]
        refine ite2 (fun z => ?_) (fun z => ?_)
        · refine ⟨.int (n : Nat), rfl, _, hF, big (by rw [List.length_map]; omega), same_upd2 s13 nF, ?_⟩
          rw [upd_same, if_pos z, List.map_append]
          rfl
        · rw [if_neg z, List.append_nil]
          exact ⟨s13, hF⟩
      · obtain ⟨s13, hF⟩ := h
        rw [Int.toNat_natCast, lvp, finsN_all] at hF
        exact ⟨F, rfl, s13, hF⟩
    obtain ⟨F, rfl, s13, hF⟩ := h
    have hPa12 := s13 _ _ hPa11
    have pb12 : Paired (PlAt H12) vp Ps := pls_keep (fun b xs e => s13 _ _ e) pb11
    have s1012 := s12.trans s13
    have s012 := s11.trans s1012
    have hNu12 := s1012 _ _ hNu
    refine ⟨Nat.zero_le _, fun Ar nAr => ?_⟩
    have sAr := same_new (o := .lst []) nAr
    have hAr0 : (upd H12 Ar (.lst [])) Ar = some (.lst []) := upd_same
    generalize upd H12 Ar (.lst []) = H13 at sAr hAr0 ⊢
    refine ⟨fun σ' H' => ∃ (A : List A4) (us : List V) (z10 z11 z12 y17 : Option V), σ' = [some (.ref a), some (.ref ta), some (.ref tb), some (.str Ta.g), some (.str (modeS Ta.hl)), some (.ref D), some (.ref la), y7, y8, y9, z10, z11, z12, some (.ref Rw), some (.ref Pa), some (.ref Nu), some (.ref En), y17, some (.ref F), some (.ref Ar), none, none] ∧ Same H12 H' ∧ H' Ar = some (.lst us) ∧ Paired (A4At H') us A ∧ A.Nodup ∧ (∀ x, x ∈ A ↔ x.k < Ps.length ∧ IsA4 Ta Ps x) ∧ A.length ≤ 10 * Ps.length, ?_, fun σ' H14 h => ?_⟩
    · refine ⟨.ref Pa, rfl, Pa, vp, rfl, .inl (.inl (.inl (sAr _ _ hPa12))), ?_⟩
      refine ⟨(vp.length : Nat), rfl, by omega, by omega, ?_⟩
      refine for_range0 (n := ((vp.length : Nat) : Int).toNat) (fun i σ H' => ∃ (A : List A4) (us : List V) (z10 z11 z12 y17 : Option V), σ = [some (.ref a), some (.ref ta), some (.ref tb), some (.str Ta.g), some (.str (modeS Ta.hl)), some (.ref D), some (.ref la), y7, y8, y9, z10, z11, z12, some (.ref Rw), some (.ref Pa), some (.ref Nu), some (.ref En), y17, some (.ref F), some (.ref Ar), none, none] ∧ Same H12 H' ∧ H' Ar = some (.lst us) ∧ Paired (A4At H') us A ∧ A.Nodup ∧ (∀ x, x ∈ A ↔ x.k < i ∧ IsA4 Ta Ps x) ∧ A.length ≤ 10 * i)
        ⟨[], [], y10, y11, y12, none, rfl, sAr, hAr0, .nil, List.nodup_nil, (fun x => ⟨(fun h => by cases h), fun h => absurd h.1 (Nat.not_lt_zero _)⟩), Nat.zero_le _⟩ (fun i σ H' lt h => ?_) (fun σ H' h => ?_)
      · obtain ⟨A, us, z10, z11, z12, y17, rfl, s14, hAr, hA4, ndA, memA, lA⟩ := h
        rw [Int.toNat_natCast] at lt
        have ep : Ps[i]? = some (Ps[i]'(by omega)) := List.getElem?_eq_getElem _
        generalize Ps[i]'(by omega) = p at ep
        have ev : vp[i]? = some (vp[i]'lt) := List.getElem?_eq_getElem lt
        generalize vp[i]'lt = v at ev
        obtain ⟨r, rfl, hr3⟩ := pls_get pb12 ev ep
        have pP := List.mem_of_getElem? ep
        have hr5 := s14 _ _ hr3
        have s014 := s012.trans s14
        refine ⟨.ref a, rfl, .ref Pa, rfl, .int (i : Nat), rfl, Pa, vp, (i : Nat), .ref r, rfl, rfl, .inl (.inl (s14 _ _ hPa12)), atI_nat ev, a, r, Ta, p, rfl, hA.grow s014, hr5, ok, lo, reach_in ok ((ips.mem p).mp pP), fun L0 ul as H15 s15 nL0 hL0 hAs nda ma la10 => ?_⟩
        have L0Ar : L0 ≠ Ar := fun e => by rw [e, hAr] at nL0; cases nL0
        have lul : ul.length = as.length := Paired.length hAs
        have lus : us.length = A.length := Paired.length hA4
        refine ⟨L0, rfl, ⟨_, .inl (.inl hL0)⟩, ?_⟩
        refine for_list (K := K) (a := L0) (xs := ul) (fun j σ H' => ∃ (us2 : List V) (z10 z11 z12 : Option V), σ = [some (.ref a), some (.ref ta), some (.ref tb), some (.str Ta.g), some (.str (modeS Ta.hl)), some (.ref D), some (.ref la), y7, y8, y9, z10, z11, z12, some (.ref Rw), some (.ref Pa), some (.ref Nu), some (.ref En), some (.int (i : Nat)), some (.ref F), some (.ref Ar), none, none] ∧ Same H12 H' ∧ H' Ar = some (.lst us2) ∧ Paired (A4At H') us2 (A ++ (as.take j).map (toA4 Ps i)) ∧ H' L0 = some (.lst ul) ∧ Paired (ArcAt H') ul as)
          ⟨us, z10, z11, z12, rfl, s14.trans s15, s15 _ _ hAr, by rw [List.take_zero, List.map_nil, List.append_nil]; exact a4_keep (fun b xs e => s15 _ _ e) hA4, hL0, hAs⟩ (fun j σ H' _ h => ?_) (fun j x σ H' ex h => ?_) (fun σ H' h => ?_)
        · obtain ⟨_, _, _, _, _, _, _, _, hl, _⟩ := h
          exact .inl (.inl hl)
        · obtain ⟨us2, z10, z11, z12, rfl, s16, hAr2, hA2, hL2, hAs2⟩ := h
          have ltj := (List.getElem?_eq_some_iff.mp ex).1
          have ea : as[j]? = some (as[j]'(by omega)) := List.getElem?_eq_getElem _
          generalize as[j]'(by omega) = ar at ea
          obtain ⟨q0, r0, rfl, hq0, hr0⟩ := arcs_get hAs2 ex ea
          have toP : ar.to ∈ Ps := (ips.mem _).mpr (.step ((ips.mem p).mp pP) ((ma ar).mp (List.mem_of_getElem? ea)))
          have g := DGet.t (k := plKey ar.to) (s16 _ _ hNu12) hr0
          rw [numF_get toP, Nat.zero_add] at g
          have lus2 : us2.length ≤ 10 * i + 10 := by
            have h1 := Paired.length hA2
            rw [List.length_append, List.length_map, List.length_take] at h1
            omega
          refine ⟨q0, _, rfl, .inl (.inl hq0), rfl, .str ar.l, _, rfl, .ref r0, _, rfl, .int ar.t, _, rfl, rfl, ?_⟩
          refine ⟨.ref Ar, rfl, .inl ⟨rfl, _, .inl (.inl hAr2)⟩, .int (i : Nat), rfl, .str ar.l, rfl, .ref Nu, rfl, .ref r0, rfl, Nu, _, rfl, g, .int ar.t, rfl, small' (by simp), fun q9 nq9 => ?_⟩
          have sq := same_new (o := .tup [V.int (i : Nat), V.str ar.l, V.int (Ps.idxOf ar.to : Nat), V.int ar.t]) nq9
          have hq9 : (upd H' q9 (.tup [V.int (i : Nat), V.str ar.l, V.int (Ps.idxOf ar.to : Nat), V.int ar.t])) q9 = some (.tup [V.int (i : Nat), V.str ar.l, V.int (Ps.idxOf ar.to : Nat), V.int ar.t]) := upd_same
          generalize upd H' q9 (.tup [V.int (i : Nat), V.str ar.l, V.int (Ps.idxOf ar.to : Nat), V.int ar.t]) = H16 at sq hq9 ⊢
          have hAr16 := sq _ _ hAr2
          have kt : ∀ b xs, H16 b = some (.tup xs) → (upd H16 Ar (.lst (us2 ++ [.ref q9]))) b = some (.tup xs) := fun b xs e => tup_upd hAr16 e
          refine ⟨Ar, us2, .ref q9, rfl, rfl, hAr16, big (by omega), us2 ++ [.ref q9], _, _, _, rfl, same_upd2 (s16.trans sq) nAr, upd_same, ?_, by rw [upd_ne L0Ar]; exact sq _ _ hL2, arcs_keep (fun b xs e => kt _ _ (sq _ _ e)) hAs2⟩
          rw [take_snoc ea, List.map_append, ← List.append_assoc]
          exact Paired.snoc (a4_keep (fun b xs e => kt _ _ (sq _ _ e)) hA2) ⟨q9, rfl, kt _ _ hq9⟩
        · obtain ⟨us2, z10, z11, z12, rfl, s16, hAr2, hA2, hL2, hAs2⟩ := h
          rw [lul, List.take_length] at hA2
          obtain ⟨z1, z2⟩ := a4_step ips ep nda ma ndA memA
          exact ⟨_, us2, z10, z11, z12, _, rfl, s16, hAr2, hA2, z1, z2, by rw [List.length_append, List.length_map]; omega⟩
      · obtain ⟨A, us, z10, z11, z12, y17, rfl, s14, hAr, hA4, ndA, memA, lA⟩ := h
        rw [Int.toNat_natCast, lvp] at memA lA
        exact ⟨A, us, z10, z11, z12, y17, rfl, s14, hAr, hA4, ndA, memA, lA⟩
    obtain ⟨A, us, z10, z11, z12, y17, rfl, s14, hAr, hA4, ndA, memA, lA⟩ := h
    have memA' : ∀ x, x ∈ A ↔ IsA4 Ta Ps x := fun x => ⟨fun h => ((memA x).mp h).2, fun h => (memA x).mpr ⟨by
      obtain ⟨p, _, e, _⟩ := h
      exact (List.getElem?_eq_some_iff.mp e).1, h⟩⟩
    have ias := as_of ndA memA'
    have lus : us.length = A.length := Paired.length hA4
    have hPa14 := s14 _ _ hPa12
    have pb14 : Paired (PlAt H14) vp Ps := pls_keep (fun b xs e => s14 _ _ e) pb12
    refine ⟨.ref Pa, rfl, Pa, vp, rfl, .inl ⟨.inl (.inl hPa14), fun T1 nT1 => ?_⟩⟩
    have c1 := same_new (o := .tup vp) nT1
    have hT1 : (upd H14 T1 (.tup vp)) T1 = some (.tup vp) := upd_same
    generalize upd H14 T1 (.tup vp) = G1 at c1 hT1 ⊢
    refine ⟨.ref F, rfl, F, _, rfl, .inl ⟨.inl (.inl (c1 _ _ (s14 _ _ hF))), fun T2 nT2 => ?_⟩⟩
    have c2 := same_new (o := .tup ((finsOf Ta Ps).map fun k => V.int (k : Nat))) nT2
    have hT2 : (upd G1 T2 (.tup ((finsOf Ta Ps).map fun k => V.int (k : Nat)))) T2 = some (.tup ((finsOf Ta Ps).map fun k => V.int (k : Nat))) := upd_same
    generalize upd G1 T2 (.tup ((finsOf Ta Ps).map fun k => V.int (k : Nat))) = G2 at c2 hT2 ⊢
    have cA2 := a4_keep (fun b xs e => c2 _ _ (c1 _ _ e)) hA4
    refine ⟨.ref Ar, rfl, Ar, us, A.map a4D, rfl, .inl (.inl (c2 _ _ (c1 _ _ hAr))), a4_data cA2, PySem.W.AllAlike.of (fun b b' => rfl), PySem.W.Sortable.tuples (fun b => ⟨_, _, rfl⟩), fun d hd => ?_, fun S nS => ?_⟩
    · obtain ⟨x, _, rfl⟩ := List.mem_map.mp hd
      have : (a4D x).depth = 1 := by simp [a4D, PyData.depth, PyData.depthAll]
      omega
    have cS := same_new (o := .lst (((us.zip (A.map a4D)).mergeSort (PySem.W.dataLe false Prod.snd)).map Prod.fst)) nS
    have hS : (upd G2 S (.lst (((us.zip (A.map a4D)).mergeSort (PySem.W.dataLe false Prod.snd)).map Prod.fst))) S = some (.lst (((us.zip (A.map a4D)).mergeSort (PySem.W.dataLe false Prod.snd)).map Prod.fst)) := upd_same
    have pS : Paired (A4At G2) (((us.zip (A.map a4D)).mergeSort (PySem.W.dataLe false Prod.snd)).map Prod.fst) (A.mergeSort leA4) := by
      have h1 := srt_paired (R := A4At G2) (f := fun v => v) (enc := a4D) (as := us) (bs := A) lus (fun z hz => paired_zip cA2 z hz)
      have e9 : ((us.zip (A.map a4D)).mergeSort (PySem.W.dataLe false Prod.snd)).map Prod.fst = ((us.zip A).mergeSort (PySem.W.dataLe false fun z => a4D z.2)).map fun z => z.1 := by
        rw [zip_map_r]
        have h2 := List.map_mergeSort (r := PySem.W.dataLe false fun z : V × A4 => a4D z.2) (s := PySem.W.dataLe false (Prod.snd : V × PyData → PyData)) (f := fun z : V × A4 => (z.1, a4D z.2)) (l := us.zip A) (fun a _ b _ => rfl)
        rw [← h2, List.map_map]
        rfl
      rw [e9]
      exact h1
    have lS : (A.mergeSort leA4).length = A.length := List.length_mergeSort ..
    generalize ((us.zip (A.map a4D)).mergeSort (PySem.W.dataLe false Prod.snd)).map Prod.fst = zs at cS hS pS ⊢
    generalize A.mergeSort leA4 = As at ias pS lS
    generalize upd G2 S (.lst zs) = G3 at cS hS ⊢
    refine ⟨S, zs, rfl, .inl ⟨.inl (.inl hS), fun T3 nT3 => ?_⟩⟩
    have c3 := same_new (o := .tup zs) nT3
    have hT3 : (upd G3 T3 (.tup zs)) T3 = some (.tup zs) := upd_same
    generalize upd G3 T3 (.tup zs) = G4 at c3 hT3 ⊢
    refine ⟨small' (by simp), fun T4 nT4 => ?_⟩
    have c4 := same_new (o := .tup [V.ref T1, V.ref T2, V.ref T3]) nT4
    have hT4 : (upd G4 T4 (.tup [V.ref T1, V.ref T2, V.ref T3])) T4 = some (.tup [V.ref T1, V.ref T2, V.ref T3]) := upd_same
    generalize upd G4 T4 (.tup [V.ref T1, V.ref T2, V.ref T3]) = G5 at c4 hT4 ⊢
    have d24 := (((c1.trans c2).trans cS).trans c3).trans c4
    have d2 := (cS.trans c3).trans c4
    refine q _ G5 Ps As ((s012.trans s14).trans d24) ips ias lPs (by omega) ?_
    exact .tup (.inl (.inl hT4)) (.cons (.tup (.inl (.inl (d2 _ _ (c2 _ _ hT1)))) (pls_data (pls_keep (fun b xs e => d24 _ _ e) pb14))) (.cons (.tup (.inl (.inl (d2 _ _ hT2))) (dp_fins _)) (.cons (.tup (.inl (.inl (c4 _ _ hT3))) (a4_data (a4_keep (fun b xs e => d2 _ _ e) pS))) .nil)))
end
end K5
set_option Elab.async false
set_option linter.all false
set_option maxRecDepth 100000
set_option maxHeartbeats 2000000
namespace K5
open PySem PySem.Spec PyProof.Rows L2 Ver
theorem rowS_snoc {ts : List Str} {is : List Int} {j : Nat} {t : Int} (e : is[j]? = some t) : rowS ts (is.take (j + 1)) = rowS ts (is.take j) ++ ts.getD t.toNat "" := by
  refine Ver.str_of_list ?_
  rw [cps_app]
  show rowL ts (is.take (j + 1)) = rowL ts (is.take j) ++ _
  unfold rowL
  rw [take_snoc e, List.flatMap_append, List.flatMap_singleton]
theorem takeS_succ {x y : Str} {k c d : Nat} (h : takeS x k = takeS y k) (hx : x.cps.toList[k]? = some c) (hy : y.cps.toList[k]? = some d) (e : c = d) : takeS x (k + 1) = takeS y (k + 1) := by
  refine Ver.str_of_list ?_
  show x.cps.toList.take (k + 1) = y.cps.toList.take (k + 1)
  rw [List.take_add_one, List.take_add_one, hx, hy, e]
  have := congrArg (fun s : Str => s.cps.toList) h
  show x.cps.toList.take k ++ _ = y.cps.toList.take k ++ _
  rw [show x.cps.toList.take k = y.cps.toList.take k from this]
theorem takeS_ne {x y : Str} {k n c d : Nat} (hk : k < n) (hx : x.cps.toList[k]? = some c) (hy : y.cps.toList[k]? = some d) (e : ¬ c = d) : ¬ takeS x n = takeS y n := fun h => by
  have := congrArg (fun s : Str => s.cps.toList[k]?) h
  have : (x.cps.toList.take n)[k]? = (y.cps.toList.take n)[k]? := this
  rw [List.getElem?_take, List.getElem?_take, if_pos hk, if_pos hk, hx, hy] at this
  exact e (Option.some.inj this)
theorem takeS_zero (x y : Str) : takeS x 0 = takeS y 0 := rfl
section
variable {P : Program} {w : World} {K : PySem.W.Frag} {mg : Str → Option Value} {base : Heap}
def sp__law_place (K : PySem.W.Frag) : Sp := fun vs H Q _ => ∃ (a r : Addr) (T : Ta) (is : List Int), vs = [.ref a, .ref r] ∧ TaskAt K H a T ∧ T.Ok ∧ SqT K H r (is.map V.int) ∧ is.length ≤ 60 ∧ (∀ i ∈ is, 0 ≤ i ∧ i < T.ts.length) ∧
  ∀ v H', Same H H' → Dp K H' v (optD (placeG T.ts T.tab T.g T.hl is)) → Q v H'
theorem ok__law_place (T : Tx K mg) : FnOk P w K mg base CX0 1 T.f__law_place T.d__law_place ["task", "row"] (sp__law_place K) := by
  refine T.F__law_place.ok sc__law_place (fun vs H Q E h => ?_) (fun cdv A outer s H vs Q E hr h => ?_)
  · obtain ⟨a, r, T, is, rfl, _⟩ := h; rfl
  · obtain ⟨a, r, Ta, is, rfl, hA, ok, hr0, l60, hi, q⟩ := h
    refine ⟨_, (pss_cons (ps_asg (pv 0) (pg_tup (by rfl) (pgs_cons (pg_name (i := 2) sc__law_place.nd rfl (Or.inl rfl)) (pgs_cons (pg_name (i := 3) sc__law_place.nd rfl (Or.inl rfl)) (pgs_cons (pg_name (i := 4) sc__law_place.nd rfl (Or.inl rfl)) (pgs_cons (pg_name (i := 5) sc__law_place.nd rfl (Or.inl rfl)) pgs_nil))))))
    (pss_cons (ps_set (i := 6) sc__law_place.nd rfl (Or.inl rfl) pe_int)
    (pss_cons (ps_set (i := 7) sc__law_place.nd rfl (Or.inl rfl) pe_str)
    (C8.pss_cut (ps_for PassesOwn.never rfl (pi_tup (pv 1)) (pg_name (i := 8) sc__law_place.nd rfl (Or.inl rfl))
    (C8.pss_cut (ps_if (pt_cmpR op_ge (pv 6) pe_int (nomark _)) (pss_one (ps_set (i := 6) sc__law_place.nd rfl (Or.inl rfl) (pe_ix ix_tup (pe_ix ix_tup (pe_ix ix_tup (pv 3) pe_int (fun _ _ => rfl)) (pv 6) (fun _ _ => rfl)) (pv 8) (fun _ _ => rfl)))) pss_nil)
    (pss_one (ps_set (i := 7) sc__law_place.nd rfl (Or.inl rfl) (pe_op op_add_str (pv 7) (pe_ix ix_tup (pv 2) (pv 8) (fun _ _ => rfl)))))))
    (C8.pss_cut (ps_if (pt_cmpR op_lt (pv 6) pe_int (nomark _)) (pss_one (ps_ret pe_non)) pss_nil)
    (C8.pss_cut (ps_if (pt_cmpR op_eq (pv 5) pe_str (nomark _)) (pss_one (ps_ret (pe_tup (pa_cons (pe_callB call_len_str (by rfl) T.n_len (by decide +kernel) (pa_cons (pv 4) pa_nil)) (pa_cons (pv 6) (pa_cons pe_str pa_nil)))))) pss_nil)
    (pss_cons (ps_set (i := 9) sc__law_place.nd rfl (Or.inl rfl) (pe_callB (call_min2 rfl) (by rfl) T.n_min (by decide +kernel) (pa_cons (pe_callB call_len_str (by rfl) T.n_len (by decide +kernel) (pa_cons (pv 7) pa_nil)) (pa_cons (pe_callB call_len_str (by rfl) T.n_len (by decide +kernel) (pa_cons (pv 4) pa_nil)) pa_nil))))
    (pss_cons (ps_for PassesOwn.never rfl (pi_range1 rfl T.n_range (pa_cons (pv 9) pa_nil)) (pg_name (i := 10) sc__law_place.nd rfl (Or.inl rfl))
    (pss_one (ps_if (pt_cmpR op_ne (pe_ix ix_str (pv 7) (pv 10) (fun _ _ => rfl)) (pe_ix ix_str (pv 4) (pv 10) (fun _ _ => rfl)) (nomark _)) (pss_one (ps_ret pe_non)) pss_nil)))
    (pss_one (ps_ret (pe_tup (pa_cons (pv 9) (pa_cons (pv 6) (pa_cons pe_str pa_nil)))))))))))))), ?_⟩
    obtain ⟨ta, tb, hA1, hA2, fb, tt, tv, hB1, hB2, hB3, hR⟩ := hA
    have gl := ok.gl
    refine ⟨.ref a, rfl, a, _, rfl, hA1, rfl, .ref ta, _, rfl, .ref tb, _, rfl, .str Ta.g, _, rfl, .str (modeS Ta.hl), _, rfl, rfl, ?_⟩
    have btab := ok.tl
    have cnt := ok.cnt
    have l12 : ∀ z ∈ Ta.ts, z.length ≤ 12 := fun z hz => (ok.len z hz).2
    have lrow : ∀ js : List Int, js.length ≤ 60 → (rowS Ta.ts js).length ≤ 720 := fun js hj => by
      have := rowS_len Ta.ts 12 l12 js
      omega
    refine ⟨fun σ' H' => ∃ (s : Int) (y8 : Option V), σ' = [some (.ref a), some (.ref r), some (.ref ta), some (.ref tb), some (.str Ta.g), some (.str (modeS Ta.hl)), some (.int s), some (.str (rowS Ta.ts is)), y8, none, none] ∧ H' = H ∧ (s < 0 → runG Ta.tab 0 is < 0) ∧ (0 ≤ s → s = runG Ta.tab 0 is), ?_, fun σ' H1 h => ?_⟩
    · refine ⟨.ref r, rfl, r, rfl, ⟨_, hr0⟩, ?_⟩
      refine for_tup (K := K) (a := r) (xs := is.map V.int) (fun j σ H' => ∃ (s : Int) (y8 : Option V), σ = [some (.ref a), some (.ref r), some (.ref ta), some (.ref tb), some (.str Ta.g), some (.str (modeS Ta.hl)), some (.int s), some (.str (rowS Ta.ts (is.take j))), y8, none, none] ∧ H' = H ∧ (s < 0 → runG Ta.tab 0 is < 0) ∧ (0 ≤ s → s < Ta.tab.length ∧ runG Ta.tab s (is.drop j) = runG Ta.tab 0 is)) ⟨0, none, rfl, rfl, fun h => absurd h (by decide), fun _ => ⟨by omega, rfl⟩⟩ (fun j σ H' _ h => by obtain ⟨_, _, _, h, _⟩ := h; rw [h]; exact hr0) (fun j x σ H' ex h => ?_) (fun σ H' h => ?_)
      · obtain ⟨s, y8, rfl, rfl, e1, e2⟩ := h
        obtain ⟨t, et, rfl⟩ : ∃ t, is[j]? = some t ∧ V.int t = x := by
          rw [List.getElem?_map] at ex
          cases ez : is[j]? with
          | none => rw [ez] at ex; cases ex
          | some z => rw [ez] at ex; exact ⟨z, rfl, Option.some.inj ex⟩
        obtain ⟨t0, t1⟩ := hi t (List.mem_of_getElem? et)
        refine ⟨fun σ' H1 => ∃ (s : Int), σ' = [some (.ref a), some (.ref r), some (.ref ta), some (.ref tb), some (.str Ta.g), some (.str (modeS Ta.hl)), some (.int s), some (.str (rowS Ta.ts (is.take j))), some (.int t), none, none] ∧ H1 = H' ∧ (s < 0 → runG Ta.tab 0 is < 0) ∧ (0 ≤ s → s < Ta.tab.length ∧ runG Ta.tab s (is.drop (j + 1)) = runG Ta.tab 0 is), ?_, fun σ' H1 h => ?_⟩
        · refine ⟨.int s, rfl, _, _, rfl, rfl, _, rfl, ite2 (fun z => ?_) (fun z => ?_)⟩
          · have z0 : 0 ≤ s := of_decide_eq_true z
            obtain ⟨k1, e⟩ := e2 z0
            obtain ⟨c1, c2, c3, c4⟩ := (ok.bk).cell (s := s) (t := t) z0 k1 t0 t1
            have c1 : Ta.tab[s.toNat]? = some (rowAt Ta.tab s) := c1
            have c2 : (rowAt Ta.tab s)[t.toNat]? = some (cellG Ta.tab s t) := c2
            have c4 : cellG Ta.tab s t < (Ta.tab.length : Int) := c4
            obtain ⟨pn, epn, hpn⟩ := hR.get c1
            rw [runG_step et] at e
            refine ⟨.ref tb, rfl, tb, _, 2, _, rfl, rfl, hB1, (atI_nat (j := 2) rfl : atI _ ((2 : Nat) : Int) = _), .int s, rfl, tt, tv, s, _, rfl, rfl, hB3, at_ref z0 epn, .int t, rfl, pn, _, t, _, rfl, rfl, hpn, at_map t0 c2, cellG Ta.tab s t, rfl, rfl, fun n => ?_, fun n => ⟨c4, ?_⟩⟩
            · rw [if_pos n] at e
              omega
            · rw [if_neg (by omega)] at e
              exact e
          · exact ⟨s, rfl, rfl, e1, fun n => absurd (decide_eq_true n) z⟩
        · obtain ⟨s, rfl, rfl, e1, e2⟩ := h
          have lt2 : t.toNat < Ta.ts.length := by omega
          have eg : Ta.ts.getD t.toNat "" = Ta.ts[t.toNat] := by rw [List.getD_eq_getElem?_getD, List.getElem?_eq_getElem lt2]; rfl
          have zl : (Ta.ts.getD t.toNat "").length ≤ 12 := by rw [eg]; exact l12 _ (List.getElem_mem lt2)
          have eat : atI (Ta.ts.map V.str) t = some (.str (Ta.ts.getD t.toNat "")) := by
            have e0 : t = ((t.toNat : Nat) : Int) := by omega
            rw [eg]
            conv => lhs; rw [e0]
            exact atI_nat (by rw [List.getElem?_map, List.getElem?_eq_getElem lt2]; rfl)
          have lr := lrow (is.take j) (by rw [List.length_take]; omega)
          refine ⟨.str (rowS Ta.ts (is.take j)), rfl, .ref ta, rfl, .int t, rfl, ta, _, t, _, rfl, rfl, hA2, eat, _, _, rfl, rfl, small' (by omega), ?_⟩
          rw [← rowS_snoc et]
          exact ⟨s, some (.int t), rfl, rfl, e1, e2⟩
      · obtain ⟨s, y8, rfl, rfl, e1, e2⟩ := h
        rw [List.length_map] at e2
        rw [List.length_map, List.take_length]
        rw [List.drop_length] at e2
        exact ⟨s, y8, rfl, rfl, e1, fun n => (e2 n).2⟩
    obtain ⟨s, y8, rfl, rfl, e1, e2⟩ := h
    have lr := lrow is l60
    refine ⟨fun σ' H' => H' = H1 ∧ 0 ≤ s ∧ σ' = [some (.ref a), some (.ref r), some (.ref ta), some (.ref tb), some (.str Ta.g), some (.str (modeS Ta.hl)), some (.int s), some (.str (rowS Ta.ts is)), y8, none, none], ?_, fun σ' H2 h => ?_⟩
    · refine ⟨.int s, rfl, _, _, rfl, rfl, _, rfl, ite2 (fun z => ?_) (fun z => ?_)⟩
      · have e3 : placeG Ta.ts Ta.tab Ta.g Ta.hl is = none := by
          unfold placeG
          rw [if_pos (e1 (of_decide_eq_true z))]
        refine q _ _ (fun b o e => e) ?_
        rw [e3]
        exact .non
      · exact ⟨rfl, by have : ¬ s < 0 := fun n => z (decide_eq_true n); omega, rfl⟩
    obtain ⟨rfl, s0, rfl⟩ := h
    have es := e2 s0
    have ep : placeG Ta.ts Ta.tab Ta.g Ta.hl is = if Ta.hl = false then some ⟨Ta.g.length, s, ""⟩ else
        if takeS (rowS Ta.ts is) (min Ta.g.length (rowS Ta.ts is).length) = takeS Ta.g (min Ta.g.length (rowS Ta.ts is).length) then some ⟨min Ta.g.length (rowS Ta.ts is).length, s, ""⟩ else none := by
      unfold placeG
      rw [← es, if_neg (by omega)]
    rw [ep] at q
    generalize rowS Ta.ts is = tx at q lr ⊢
    refine ⟨fun σ' H' => H' = H2 ∧ Ta.hl = true ∧ σ' = [some (.ref a), some (.ref r), some (.ref ta), some (.ref tb), some (.str Ta.g), some (.str (modeS Ta.hl)), some (.int s), some (.str tx), y8, none, none], ?_, fun σ' H3 h => ?_⟩
    · refine ⟨.str (modeS Ta.hl), rfl, rfl, _, rfl, ?_⟩
      rw [mode_eq]
      cases hh : Ta.hl with
      | true => exact if_ff ⟨rfl, rfl, rfl⟩
      | false =>
        rw [if_pos hh] at q
        refine if_tt ?_
        refine ⟨.str Ta.g, rfl, Ta.g, rfl, small' (by omega), .int s, rfl, small' (by simp), fun p np => ?_⟩
        have sp := same_new (o := .tup [V.int (Ta.g.length : Nat), V.int s, V.str ""]) np
        exact q _ _ sp (pl_at (p := ⟨Ta.g.length, s, ""⟩) upd_same)
    obtain ⟨rfl, hh, rfl⟩ := h
    rw [hh] at q
    rw [if_neg (by decide)] at q
    have em : (if ((Ta.g.length : Nat) : Int) < ((tx.length : Nat) : Int) then ((Ta.g.length : Nat) : Int) else ((tx.length : Nat) : Int)) = ((min Ta.g.length tx.length : Nat) : Int) := by
      split <;> omega
    refine ⟨.str tx, rfl, tx, rfl, small' (by omega), .str Ta.g, rfl, Ta.g, rfl, small' (by omega), _, _, rfl, ?_⟩
    rw [em]
    generalize eb : min Ta.g.length tx.length = both at q ⊢
    refine ⟨.int (both : Nat), rfl, (both : Nat), rfl, by omega, by omega, ?_⟩
    refine for_range0 (n := ((both : Nat) : Int).toNat) (fun k σ H' => ∃ (y10 : Option V), σ = [some (.ref a), some (.ref r), some (.ref ta), some (.ref tb), some (.str Ta.g), some (.str (modeS Ta.hl)), some (.int s), some (.str tx), y8, some (.int (both : Nat)), y10] ∧ H' = H3 ∧ takeS tx k = takeS Ta.g k) ⟨none, rfl, rfl, takeS_zero _ _⟩ (fun k σ H' lt h => ?_) (fun σ H' h => ?_)
    · obtain ⟨y10, rfl, rfl, et⟩ := h
      rw [Int.toNat_natCast] at lt
      have ex : tx.cps.toList[k]? = some (tx.cps.toList[k]'(by rw [glen]; omega)) := List.getElem?_eq_getElem _
      generalize tx.cps.toList[k]'(by rw [glen]; omega) = c at ex
      have ey : Ta.g.cps.toList[k]? = some (Ta.g.cps.toList[k]'(by rw [glen]; omega)) := List.getElem?_eq_getElem _
      generalize Ta.g.cps.toList[k]'(by rw [glen]; omega) = d at ey
      refine ⟨.str tx, rfl, .int (k : Nat), rfl, tx, (k : Nat), c, rfl, rfl, small' (by omega), atI_nat (j := k) ex, .str Ta.g, rfl, .int (k : Nat), rfl, Ta.g, (k : Nat), d, rfl, rfl, small' (by omega), atI_nat (j := k) ey, rfl, _, rfl, ?_⟩
      by_cases cd : c = d
      · have e9 : (V.str (⟨#[c]⟩ : Str) = V.str (⟨#[d]⟩ : Str)) := by rw [cd]
        rw [decide_eq_true e9]
        exact if_ff ⟨_, rfl, rfl, takeS_succ et ex ey cd⟩
      · have e9 : ¬ (V.str (⟨#[c]⟩ : Str) = V.str (⟨#[d]⟩ : Str)) := fun n => cd (oneS_inj (V.str.inj n))
        rw [decide_eq_false e9]
        rw [if_neg (takeS_ne lt ex ey cd)] at q
        exact if_tt (q _ _ (fun b o e => e) .non)
    · obtain ⟨y10, rfl, rfl, et⟩ := h
      rw [Int.toNat_natCast] at et
      rw [if_pos et] at q
      refine ⟨.int (both : Nat), rfl, .int s, rfl, small' (by simp), fun p np => ?_⟩
      have sp := same_new (o := .tup [V.int (both : Nat), V.int s, V.str ""]) np
      exact q _ _ sp (pl_at (p := ⟨both, s, ""⟩) upd_same)
end
end K5
set_option Elab.async false
set_option linter.all false
set_option maxRecDepth 100000
set_option maxHeartbeats 2000000
namespace K5
open PySem PySem.Spec PyProof.Rows L2 Ver
def noD (z : Str) : PyData := .list [.str "not usable", .str z]
theorem no_at {K : PySem.W.Frag} {H : Hp} {L : Addr} {z : Str} (h : H L = some (.lst [.str "not usable", .str z])) : Dp K H (.ref L) (noD z) := .lst (.inl (.inl h)) (.cons (.str _) (.cons (.str _) .nil))
section
variable {P : Program} {w : World} {K : PySem.W.Frag} {mg : Str → Option Value} {base : Heap}
def sp__law_place_told (K : PySem.W.Frag) : Sp := fun vs H Q _ => ∃ (a : Addr) (x : V) (T : Ta) (d : PyData) (b : Bool), vs = [.ref a, x, .bl b] ∧ TaskAt K H a T ∧ T.Ok ∧ Dp K H x d ∧ lenD d ≤ 1000 ∧
  (rowD T.ts.length d = false → ∀ v H', Same H H' → Dp K H' v (noD "row") → Q v H') ∧ (∀ is : List Int, d = .tuple (is.map PyData.int) → rowD T.ts.length d = true → ∀ v H', Same H H' → Dp K H' v (optD (placeG T.ts T.tab T.g T.hl is)) → Q v H')
theorem ok__law_place_told (T : Tx K mg) : FnOk P w K mg base CX0 7 T.f__law_place_told T.d__law_place_told ["task", "row", "named"] (sp__law_place_told K) := by
  refine T.F__law_place_told.ok sc__law_place_told (fun vs H Q E h => ?_) (fun cdv A outer s H vs Q E hr h => ?_)
  · obtain ⟨a, x, T, d, b, rfl, _⟩ := h; rfl
  · obtain ⟨a, x, Ta, d, b, rfl, hA, ok, hd, hz, q1, q2⟩ := h
    refine ⟨_, (pss_cons (ps_asg (pv 0) (pg_tup (by rfl) (pgs_cons (pg_name (i := 3) sc__law_place_told.nd rfl (Or.inl rfl)) (pgs_cons (pg_name (i := 4) sc__law_place_told.nd rfl (Or.inl rfl)) (pgs_cons (pg_name (i := 5) sc__law_place_told.nd rfl (Or.inl rfl)) (pgs_cons (pg_name (i := 6) sc__law_place_told.nd rfl (Or.inl rfl)) pgs_nil))))))
    (pss_one (ps_try_as (i := 7) (Wout := fun _ _ _ _ => False) rfl rfl sc__law_place_told.nd rfl rfl ⟨rfl, by decide, Or.inl T.nus.gC⟩ takes0
    (fun W pn xe tk _ => (pss_cons (ps_if (pt_val (pv 2)) (pss_one (ps_ret (pe_callKw (ok_place_behind T) hr rfl T.g_place_behind T.F_place_behind.kp T.k_place_behind (fun σ => passAt tk σ) (pk_cons (pv 1) (pk_cons (pv 6) (pk_cons (pv 5) (pk_cons (pv 4) (pk_cons (pv 3) pk_nil)))))))) pss_nil)
    (pss_one (ps_ret (pe_callS (ok_place_behind T) hr rfl T.g_place_behind T.F_place_behind.kp T.b_place_behind (fun σ => passAt tk σ) (pa_cons (pv 3) (pa_cons (pv 4) (pa_cons (pv 5) (pa_cons (pv 6) (pa_cons (pv 1) pa_nil))))))))))
    (fun a oe cls d pn hz hf => (pss_one (ps_ret (pe_lst (pa_cons pe_str (pa_cons (pe_byNus T.nus hz hf (pv 7)) pa_nil))))))))), ?_⟩
    obtain ⟨ta, tb, hA1, hA2, hA3⟩ := hA
    have gl := ok.gl
    have l100 : ∀ z ∈ Ta.ts, z.length ≤ 100 := fun z hz => Nat.le_trans (ok.len z hz).2 (by decide)
    refine ⟨.ref a, rfl, a, _, rfl, hA1, rfl, .ref ta, _, rfl, .ref tb, _, rfl, .str Ta.g, _, rfl, .str (modeS Ta.hl), _, rfl, rfl, ?_⟩
    refine ⟨.bl b, rfl, b, rfl, ?_⟩
    cases b with
    | true =>
      refine ⟨x, rfl, .str (modeS Ta.hl), rfl, .str Ta.g, rfl, .ref tb, rfl, .ref ta, rfl, rfl, ta, tb, x, Ta.ts, Ta.bk, Ta.g, Ta.hl, d, rfl, hA2, hA3, ok.bk, hd, hz, l100, by omega, fun k => ?_, q2⟩
      exact fun H' dd sm n => ⟨true, T.nus.te, fun _ u hu => ⟨.ref u, rfl, rfl, rfl, dd, _, rfl, upd_same, small' (by simp), fun L nL => q1 k _ _ ((sm.trans (same_new n)).trans (same_new nL)) (no_at upd_same)⟩, fun z => Bool.noConfusion z⟩
    | false =>
      refine ⟨.ref ta, rfl, .ref tb, rfl, .str Ta.g, rfl, .str (modeS Ta.hl), rfl, x, rfl, ta, tb, x, Ta.ts, Ta.bk, Ta.g, Ta.hl, d, rfl, hA2, hA3, ok.bk, hd, hz, l100, by omega, fun k => ?_, q2⟩
      exact fun H' dd sm n => ⟨true, T.nus.te, fun _ u hu => ⟨.ref u, rfl, rfl, rfl, dd, _, rfl, upd_same, small' (by simp), fun L nL => q1 k _ _ ((sm.trans (same_new n)).trans (same_new nL)) (no_at upd_same)⟩, fun z => Bool.noConfusion z⟩
end
end K5
set_option Elab.async false
set_option linter.all false
set_option maxRecDepth 100000
set_option maxHeartbeats 2000000
namespace K5
open PySem PySem.Spec PyProof.Rows L2 Ver
theorem toks_a4 (a : A4) : PySem.W.keyToks (a4D a) = [.inl 1, .inl a.k, .inl 1, .inr a.l.cps.toList, .inl 1, .inl a.j, .inl 1, .inl a.t, .inl 0] := rfl
theorem toks_c4 (a : A4) : PySem.W.keyToks (costD a) = [.inl 1, .inl a.k, .inl 1, .inr a.l.cps.toList, .inl 1, .inl a.j, .inl 1, .inl (costT a.t), .inl 0] := rfl
abbrev lx := PyProof.Rows.lexLt PyProof.Rows.itemOrd
theorem lx_self (x : Int ⊕ List Nat) (l m : List (Int ⊕ List Nat)) : lx (x :: l) (x :: m) = lx l m := PyProof.Rows.lex_self (O := PyProof.Rows.itemOrd) x l m
theorem lx_diff {x y : Int ⊕ List Nat} (h : x ≠ y) (l m : List (Int ⊕ List Nat)) : lx (x :: l) (y :: m) = lx [x] [y] := PySem.W.lex_atom h l m
theorem lx_int {a b : Int} (h : lx [.inl a] [.inl b] = true) : a < b := by
  rcases (PyProof.Rows.lex_true (O := PyProof.Rows.itemOrd)).mp h with h | h
  · exact of_decide_eq_true h
  · have : PyProof.Rows.lexLt PyProof.Rows.itemOrd [] [] = true := h.2
    rw [PyProof.Rows.lexLt] at this
    cases this
theorem int_lx {a b : Int} (h : a < b) : lx [.inl a] [.inl b] = true := (PyProof.Rows.lex_true (O := PyProof.Rows.itemOrd)).mpr (.inl (decide_eq_true h))
theorem cost_lt {a b : A4} (h : PySem.W.dataLt (costD a) (costD b) = true) (ht : costT a.t < costT b.t → a.t < b.t) : PySem.W.dataLt (a4D a) (a4D b) = true := by
  have h : lx (PySem.W.keyToks (costD a)) (PySem.W.keyToks (costD b)) = true := h
  show lx (PySem.W.keyToks (a4D a)) (PySem.W.keyToks (a4D b)) = true
  rw [toks_c4, toks_c4] at h
  rw [toks_a4, toks_a4]
  rw [lx_self] at h ⊢
  by_cases c1 : a.k = b.k
  · rw [c1, lx_self, lx_self] at h ⊢
    by_cases c2 : a.l.cps.toList = b.l.cps.toList
    · rw [c2, lx_self, lx_self] at h ⊢
      by_cases c3 : a.j = b.j
      · rw [c3, lx_self, lx_self] at h ⊢
        by_cases c4 : costT a.t = costT b.t
        · rw [c4, lx_self, lx_self] at h
          cases h
        · rw [lx_diff (fun e => c4 (Sum.inl.inj e))] at h
          have lt := ht (lx_int h)
          rw [lx_diff (fun e => by have := Sum.inl.inj e; omega)]
          exact int_lx lt
      · have ne : ¬ (Sum.inl (a.j : Int) : Int ⊕ List Nat) = .inl (b.j : Int) := fun e => c3 (by have := Sum.inl.inj e; omega)
        rw [lx_diff ne] at h ⊢
        exact h
    · have ne : ¬ (Sum.inr a.l.cps.toList : Int ⊕ List Nat) = .inr b.l.cps.toList := fun e => c2 (Sum.inr.inj e)
      rw [lx_diff ne] at h ⊢
      exact h
  · have ne : ¬ (Sum.inl (a.k : Int) : Int ⊕ List Nat) = .inl (b.k : Int) := fun e => c1 (by have := Sum.inl.inj e; omega)
    rw [lx_diff ne] at h ⊢
    exact h
def leC4 : A4 → A4 → Bool := PySem.W.dataLe false costD
theorem costs_sorted {A : List A4} (ord : A.mergeSort leA4 = A) : A.mergeSort leC4 = A := by
  refine srt_done ?_
  have pw := srt_pw a4D A
  have e : A.mergeSort (PySem.W.dataLe false a4D) = A := ord
  rw [e] at pw
  refine pw.imp fun {a b} h => ?_
  show (!PySem.W.dataLt (costD b) (costD a)) = true
  have h : (!PySem.W.dataLt (a4D b) (a4D a)) = true := h
  cases hc : PySem.W.dataLt (costD b) (costD a) with
  | false => rfl
  | true =>
    rw [cost_lt hc (fun l => by unfold costT at l; split at l <;> split at l <;> omega)] at h
    cases h
end K5
set_option Elab.async false
set_option linter.all false
set_option maxRecDepth 100000
set_option maxHeartbeats 2000000
namespace K5
open PySem PySem.Spec PyProof.Rows L2 Ver LamX
theorem seqL_ext {K : PySem.W.Frag} {H H' : Hp} {a : Addr} {xs : List V} (e : ExtN H H') (h : SqL K H a xs) : SqL K H' a xs := by
  rcases h with (h | ⟨o, h⟩) | h
  · exact .inl (.inl (e _ _ h fun ps z => by cases z))
  · exact .inl (.inr ⟨o, e _ _ h fun ps z => by cases z⟩)
  · exact .inr h
mutual
theorem dp_ext {K : PySem.W.Frag} {H H' : Hp} (e : ExtN H H') : ∀ {d : PyData} {v : V}, Dp K H v d → Dp K H' v d
  | .none, _, h => by cases h; exact .non
  | .bool b, _, h => by cases h; exact .bl b
  | .int i, _, h => by cases h; exact .int i
  | .str x, _, h => by cases h; exact .str x
  | .list ds, _, h => by
    cases h with
    | lst hs ha => exact .lst (seqL_ext e hs) (dpAll_ext e ha)
  | .tuple ds, _, h => by
    cases h with
    | tup hs ha => exact .tup (seqT_ext e hs) (dpAll_ext e ha)
  | .dict _, _, h => by cases h
theorem dpAll_ext {K : PySem.W.Frag} {H H' : Hp} (e : ExtN H H') : ∀ {ds : List PyData} {vs : List V}, DpAll K H vs ds → DpAll K H' vs ds
  | [], _, h => by cases h; exact .nil
  | d :: ds, _, h => by
    cases h with
    | cons h1 h2 => exact .cons (dp_ext e h1) (dpAll_ext e h2)
end
theorem BkAt.ext {K : PySem.W.Frag} {H H' : Hp} {a : Addr} {B : Bk} (e : ExtN H H') (h : BkAt K H a B) : BkAt K H' a B := by
  obtain ⟨f, t, tv, h1, h2, h3, h4⟩ := h
  exact ⟨f, t, tv, seqT_ext e h1, seqT_ext e h2, seqT_ext e h3, rows_keep (fun b xs x => e _ _ x fun ps z => by cases z) h4⟩
theorem TaskAt.ext {K : PySem.W.Frag} {H H' : Hp} {a : Addr} {T : Ta} (e : ExtN H H') (h : TaskAt K H a T) : TaskAt K H' a T := by
  obtain ⟨t, b, h1, h2, h3⟩ := h
  exact ⟨t, b, seqT_ext e h1, seqT_ext e h2, h3.ext e⟩
theorem ok_four {n : Nat} (a b c d : PyData) (ha : okD n a) (hb : okD n b) (hc : okD n c) (hd : okD n d) : okD (n + 1) (.tuple [a, b, c, d]) := ⟨by show 4 ≤ 10000000; decide, fun e he => by
  simp only [List.mem_cons, List.not_mem_nil, or_false] at he
  rcases he with rfl | rfl | rfl | rfl <;> assumption⟩
theorem ok_sp {T : Ta} {P : List Pl} {A : List A4} (hp : P.length ≤ 20000) (ha : A.length ≤ 2400000) : okD 5 (spD T P A) := by
  refine ⟨by show 3 ≤ 10000000; decide, fun e he => ?_⟩
  simp only [List.mem_cons, List.not_mem_nil, or_false] at he
  rcases he with rfl | rfl | rfl
  · refine ⟨by rw [List.length_map]; omega, fun e he => ?_⟩
    obtain ⟨p, _, rfl⟩ := List.mem_map.mp he
    refine ⟨by show 3 ≤ _; decide, fun e he => ?_⟩
    simp only [List.mem_cons, List.not_mem_nil, or_false] at he
    rcases he with rfl | rfl | rfl <;> trivial
  · refine ⟨?_, fun e he => ?_⟩
    · have h := finsN_len T P P.length
      rw [finsN_all] at h
      rw [List.length_map]
      omega
    · obtain ⟨p, _, rfl⟩ := List.mem_map.mp he
      trivial
  · refine ⟨by rw [List.length_map]; omega, fun e he => ?_⟩
    obtain ⟨p, _, rfl⟩ := List.mem_map.mp he
    exact ok_four _ _ _ _ trivial trivial trivial trivial
theorem ok_pr {P : List Pl} {A : List A4} (ha : A.length ≤ 2400000) : okD 5 (prD P A) := by
  refine ⟨by show 2 ≤ 10000000; decide, fun e he => ?_⟩
  simp only [List.mem_cons, List.not_mem_nil, or_false] at he
  rcases he with rfl | rfl
  · trivial
  · refine ⟨by rw [List.length_map]; omega, fun e he => ?_⟩
    obtain ⟨p, _, rfl⟩ := List.mem_map.mp he
    exact ok_four _ _ _ _ trivial trivial trivial trivial
theorem a4_tok {T : Ta} {P : List Pl} {a : A4} (h : IsA4 T P a) : a.t = -1 ∨ 0 ≤ a.t := by
  obtain ⟨p, r, _, hr, _, _, e⟩ := h
  cases hr with
  | ahead => exact .inl e
  | inner => exact .inl e
  | ends => exact .inr (by rw [e]; show (0 : Int) ≤ ((_ : Nat) : Int); omega)
theorem passAny0 {X : Cx} {σ : L2.St} : PassesAt CX0 X σ L2.E0 := fun _ _ _ _ _ _ h => h.elim
section
variable {P : Program} {w : World} {K : PySem.W.Frag} {mg : Str → Option Value} {base : Heap}
def sp__law_speller_right (K : PySem.W.Frag) (TS : List (Addr × Str)) : Sp := fun vs H Q _ => ∃ (a : Addr) (y : V) (T : Ta) (P : List Pl) (A : List A4), vs = [.ref a, y] ∧ TaskAt K H a T ∧ T.Ok ∧ T.most ≤ 20000 ∧ Tabs TS H ∧ Dp K H y (spD T P A) ∧ IsPs T P ∧ IsAs T P A ∧ P.length ≤ 20000 ∧ A.length ≤ 200000 ∧
  ∀ H2, ExtN H H2 → Tabs TS H2 → Q (.bl true) H2
theorem ok__law_speller_right {cc cP cd cS : Addr} (T : Tx K mg) (TB : Tb T base cc cP cd cS) : FnOk P w K mg base CX0 7 T.f__law_speller_right T.d__law_speller_right ["task", "due"] (sp__law_speller_right K (TT cP cS)) := by
  refine T.F__law_speller_right.ok sc__law_speller_right (fun vs H Q E h => ?_) (fun cdv A outer s H vs Q E hr h => ?_)
  · obtain ⟨a, y, T, P, A, rfl, _⟩ := h; rfl
  · obtain ⟨a, y, Ta, Ps, A, rfl, hA, ok, hm, hTb, hy, ips, ias, lP, lA, q⟩ := h
    refine ⟨_, (pss_cons (ps_asg (pv 0) (pg_tup (by rfl) (pgs_cons (pg_name (i := 2) sc__law_speller_right.nd rfl (Or.inl rfl)) (pgs_cons (pg_name (i := 3) sc__law_speller_right.nd rfl (Or.inl rfl)) (pgs_cons (pg_name (i := 4) sc__law_speller_right.nd rfl (Or.inl rfl)) (pgs_cons (pg_name (i := 5) sc__law_speller_right.nd rfl (Or.inl rfl)) pgs_nil))))))
    (C8.pss_cut (ps_if (pt_not (pt_val (pe_call (ok__law_same T 5) hr rfl T.g__law_same T.F__law_same.kp T.b__law_same .nil pass0 (pa_cons (pe_call (ok_speller T TB) (hr.mono (by decide)) rfl T.g_speller T.F_speller.kp T.b_speller .nil pass0 (pa_cons (pv 2) (pa_cons (pv 3) (pa_cons (pv 4) (pa_cons (pv 5) pa_nil))))) (pa_cons (pv 1) pa_nil))))) (pss_one (ps_ret pe_bl)) pss_nil)
    (C8.pss_cut (ps_set (i := 6) sc__law_speller_right.nd rfl (Or.inl rfl) (pe_callTy call_tuple_of (by rfl) T.n_tuple (by decide +kernel) (pa_cons (pe_lc (own := [("arc", 8)]) (g := gName 8) (tt := tYes) (by rfl) sc__law_speller_right.nd (pi_tup (pe_ix ix_tup (pv 1) pe_int (fun _ _ => rfl))) (blkOk_by (N := ["task", "due", "tokens", "book", "begun", "mode", "prices", "machine", "arc"]) (sc := defScope s__law_speller_right) (by decide +kernel)) (fun _ _ _ _ _ => (pg_name (i := 8) sc__law_speller_right.nd rfl (Or.inl rfl))) (fun _ _ _ _ _ => pts_nil) (fun _ _ _ _ _ => (pe_tup (pa_cons (pe_ix (ix_tupK (K := K) rfl) (pv 8) pe_int (fun _ _ => rfl)) (pa_cons (pe_ix (ix_tupK (K := K) rfl) (pv 8) pe_int (fun _ _ => rfl)) (pa_cons (pe_ix (ix_tupK (K := K) rfl) (pv 8) pe_int (fun _ _ => rfl)) (pa_cons (pe_ifExp (pt_cmpR op_eq (pe_ix (ix_tupK (K := K) rfl) (pv 8) pe_int (fun _ _ => rfl)) (pe_un un_neg pe_int) (nomark _)) pe_int pe_int) pa_nil))))))) pa_nil)))
    (pss_cons (ps_set (i := 7) sc__law_speller_right.nd rfl (Or.inl rfl) (pe_callKw (ok_priced T TB) hr rfl T.g_priced T.F_priced.kp T.k_priced (fun _ => passAny0) (pk_cons (pv 5) (pk_cons (pv 4) (pk_cons (pv 3) (pk_cons (pv 2) pk_nil))))))
    (pss_one (ps_ret (pe_call (ok__law_same T 5) hr rfl T.g__law_same T.F__law_same.kp T.b__law_same .nil pass0 (pa_cons (pv 7) (pa_cons (pe_tup (pa_cons (pe_callB call_len_seq (by rfl) T.n_len (by decide +kernel) (pa_cons (pe_ix ix_tup (pv 1) pe_int (fun _ _ => rfl)) pa_nil)) (pa_cons (pe_callTy call_tuple_of (by rfl) T.n_tuple (by decide +kernel) (pa_cons (pe_callB (cr_sortDt hr) (by rfl) T.n_sorted (by decide +kernel) (pa_cons (pe_callTy call_list_of (by rfl) T.n_list (by decide +kernel) (pa_cons (pv 6) pa_nil)) pa_nil)) pa_nil)) pa_nil))) pa_nil))))))))), ?_⟩
    obtain ⟨ta, tb, hA1, hA2, hA3⟩ := hA
    have gl := ok.gl
    obtain ⟨q0, p0, f0, a0, vp, vf, va, rfl, s0, s1, d1, s2, d2, s3, d3⟩ := dp_sp hy
    have lvp : vp.length = Ps.length := by have := dpAll_len d1; rw [List.length_map] at this; exact this
    have lva : va.length = A.length := by have := dpAll_len d3; rw [List.length_map] at this; exact this
    refine ⟨.ref a, rfl, a, _, rfl, hA1, rfl, .ref ta, _, rfl, .ref tb, _, rfl, .str Ta.g, _, rfl, .str (modeS Ta.hl), _, rfl, rfl, ?_⟩
    refine ⟨fun σ' H' => σ' = [some (.ref a), some (.ref q0), some (.ref ta), some (.ref tb), some (.str Ta.g), some (.str (modeS Ta.hl)), none, none, none] ∧ ExtN H H' ∧ Tabs (TT cP cS) H', ?_, fun σ' H1 h => ?_⟩
    · refine ⟨.ref ta, rfl, .ref tb, rfl, .str Ta.g, rfl, .str (modeS Ta.hl), rfl, ta, tb, Ta, rfl, hA2, hA3, ok, hm, hTb, fun v H2 Ps' A' e2 t2 ips' ias' lP' lA' hv => ?_⟩
      have e1 := ps_one ips' ips
      subst e1
      have e3 := as_one ias' ias
      subst e3
      refine ⟨.ref q0, rfl, v, .ref q0, _, rfl, hv, dp_ext e2 hy, ok_sp lP' lA', fun H3 s3 => ⟨true, rfl, if_ff ⟨rfl, e2.trans (ExtN.of s3), t2.ext s3⟩⟩⟩
    obtain ⟨rfl, e1, t1⟩ := h
    refine ⟨fun σ' H' => ∃ (pr : Addr) (vc : List V), σ' = [some (.ref a), some (.ref q0), some (.ref ta), some (.ref tb), some (.str Ta.g), some (.str (modeS Ta.hl)), some (.ref pr), none, none] ∧ ExtN H H' ∧ Tabs (TT cP cS) H' ∧ H' pr = some (.tup vc) ∧ Paired (C4At H') vc A, ?_, fun σ' H2 h => ?_⟩
    · have s0' := seqT_ext e1 s0
      have s3' := seqT_ext e1 s3
      have d3' := dpAll_ext e1 d3
      refine ⟨.ref q0, rfl, q0, _, 2, .ref a0, rfl, rfl, s0', (atI_nat (j := 2) rfl : atI _ ((2 : Nat) : Int) = _), a0, rfl, ⟨_, s3'⟩, fun C nC => ?_⟩
      refine lc_tup (K := K) (a := a0) (xs := va) (fun n H' => Same H1 H' ∧ ∃ uc, H' C = some (.lst uc) ∧ Paired (C4At H') uc (A.take n)) ⟨same_new nC, [], upd_same, .nil⟩ (fun n H' _ h => seqT_grow h.1 s3') (fun n x H' ex h => ?_) (fun H' h => ?_)
      · obtain ⟨s7, uc, hC, hP⟩ := h
        have ltn := (List.getElem?_eq_some_iff.mp ex).1
        have ea : A[n]? = some (A[n]'(by omega)) := List.getElem?_eq_getElem _
        generalize A[n]'(by omega) = ar at ea
        obtain ⟨d, ed, hd⟩ := dpAll_get d3' ex
        rw [List.getElem?_map, ea] at ed
        have ed : a4D ar = d := Option.some.inj ed
        subst ed
        obtain ⟨q1, rfl, hq⟩ := dp_four hd
        have tok := a4_tok ((ias.mem ar).mp (List.mem_of_getElem? ea))
        have luc : uc.length ≤ 2400000 := by
          have h1 := Paired.length hP
          rw [List.length_take] at h1
          omega
        have fin : ∀ c : Int, c = costT ar.t → ∀ p, H' p = none → ∃ acc, (upd H' p (.tup [V.int (ar.k : Nat), V.str ar.l, V.int (ar.j : Nat), V.int c])) C = some (.lst acc) ∧ acc.length < sizeLine ∧
            (Same H1 (upd (upd H' p (.tup [V.int (ar.k : Nat), V.str ar.l, V.int (ar.j : Nat), V.int c])) C (.lst (acc ++ [.ref p]))) ∧ ∃ uc, (upd (upd H' p (.tup [V.int (ar.k : Nat), V.str ar.l, V.int (ar.j : Nat), V.int c])) C (.lst (acc ++ [.ref p]))) C = some (.lst uc) ∧ Paired (C4At (upd (upd H' p (.tup [V.int (ar.k : Nat), V.str ar.l, V.int (ar.j : Nat), V.int c])) C (.lst (acc ++ [.ref p])))) uc (A.take (n + 1))) := fun c ec p np => by
          subst ec
          have sp := same_new (o := .tup [V.int (ar.k : Nat), V.str ar.l, V.int (ar.j : Nat), V.int (costT ar.t)]) np
          have hp : (upd H' p (.tup [V.int (ar.k : Nat), V.str ar.l, V.int (ar.j : Nat), V.int (costT ar.t)])) p = some (.tup [V.int (ar.k : Nat), V.str ar.l, V.int (ar.j : Nat), V.int (costT ar.t)]) := upd_same
          generalize upd H' p (.tup [V.int (ar.k : Nat), V.str ar.l, V.int (ar.j : Nat), V.int (costT ar.t)]) = H8 at sp hp ⊢
          have hC8 := sp _ _ hC
          have kt : ∀ b xs, H8 b = some (.tup xs) → (upd H8 C (.lst (uc ++ [.ref p]))) b = some (.tup xs) := fun b xs e => tup_upd hC8 e
          refine ⟨uc, hC8, big (by omega), same_upd2 (s7.trans sp) nC, uc ++ [.ref p], upd_same, ?_⟩
          rw [take_snoc ea]
          exact Paired.snoc (c4_keep (fun b xs e => kt _ _ (sp _ _ e)) hP) ⟨p, rfl, kt _ _ hp⟩
        have hq' := seqT_grow s7 hq
        have a0' : atI [V.int (ar.k : Nat), V.str ar.l, V.int (ar.j : Nat), V.int ar.t] 0 = some (.int (ar.k : Nat)) := (atI_nat (j := 0) rfl : atI _ ((0 : Nat) : Int) = _)
        have a1' : atI [V.int (ar.k : Nat), V.str ar.l, V.int (ar.j : Nat), V.int ar.t] 1 = some (.str ar.l) := (atI_nat (j := 1) rfl : atI _ ((1 : Nat) : Int) = _)
        have a2' : atI [V.int (ar.k : Nat), V.str ar.l, V.int (ar.j : Nat), V.int ar.t] 2 = some (.int (ar.j : Nat)) := (atI_nat (j := 2) rfl : atI _ ((2 : Nat) : Int) = _)
        have a3' : atI [V.int (ar.k : Nat), V.str ar.l, V.int (ar.j : Nat), V.int ar.t] 3 = some (.int ar.t) := (atI_nat (j := 3) rfl : atI _ ((3 : Nat) : Int) = _)
        refine ⟨wipe_one _ _ _, yes_on ?_⟩
        refine ⟨.ref q1, rfl, q1, _, 0, _, rfl, rfl, hq', a0', .ref q1, rfl, q1, _, 1, _, rfl, rfl, hq', a1', .ref q1, rfl, q1, _, 2, _, rfl, rfl, hq', a2', .ref q1, rfl, q1, _, 3, _, rfl, rfl, hq', a3', 1, rfl, rfl, _, rfl, ?_⟩
        refine ite2 (fun z => ?_) (fun z => ?_)
        · have z1 : ar.t = -1 := V.int.inj (of_decide_eq_true z)
          exact ⟨small' (by simp), fun p np => fin 0 (by unfold costT; rw [if_neg (by omega)]) p np⟩
        · have z1 : ¬ ar.t = -1 := fun e => z (decide_eq_true (by rw [e]))
          exact ⟨small' (by simp), fun p np => fin 1 (by unfold costT; rw [if_pos (by omega)]) p np⟩
      · obtain ⟨s7, uc, hC, hP⟩ := h
        rw [lva, List.take_length] at hP
        refine ⟨C, uc, rfl, .inl ⟨.inl (.inl hC), fun T3 nT3 => ?_⟩⟩
        have c3 := same_new (o := .tup uc) nT3
        exact ⟨T3, uc, rfl, e1.trans (ExtN.of (s7.trans c3)), t1.ext (s7.trans c3), upd_same, c4_keep (fun b xs e => c3 _ _ e) hP⟩
    obtain ⟨pr, vc, rfl, e2, t2, hpr, hvc⟩ := h
    refine ⟨.str (modeS Ta.hl), rfl, .str Ta.g, rfl, .ref tb, rfl, .ref ta, rfl, rfl, ta, tb, Ta, rfl, seqT_ext e2 hA2, hA3.ext e2, ok, hm, t2, fun v H3 Ps' A' e3 t3 ips' ias' lP' lA' hv => ?_⟩
    have e4 := ps_one ips' ips
    subst e4
    have e5 := as_one ias' ias
    subst e5
    have e23 := e2.trans e3
    have hpr3 : H3 pr = some (.tup vc) := e3 _ _ hpr fun ps z => by cases z
    have hvc3 : Paired (C4At H3) vc A' := c4_keep (fun b xs x => e3 _ _ x fun ps z => by cases z) hvc
    have lvc : vc.length = A'.length := Paired.length hvc3
    refine ⟨v, rfl, .ref q0, rfl, q0, _, 0, .ref p0, rfl, rfl, seqT_ext e23 s0, (atI_nat (j := 0) rfl : atI _ ((0 : Nat) : Int) = _), p0, vp, rfl, .inr (seqT_ext e23 s1), ?_⟩
    rw [lvp]
    refine ⟨.ref pr, rfl, pr, vc, rfl, .inr (.inl (.inl hpr3)), fun l nl => ?_⟩
    have sl := same_new (o := .lst vc) nl
    have hl : (upd H3 l (.lst vc)) l = some (.lst vc) := upd_same
    have hvc4 : Paired (C4At (upd H3 l (.lst vc))) vc A' := c4_keep (fun b xs x => sl _ _ x) hvc3
    generalize upd H3 l (.lst vc) = G2 at sl hl hvc4 ⊢
    refine ⟨l, vc, A'.map costD, rfl, .inl (.inl hl), c4_data hvc4, PySem.W.AllAlike.of (fun b b' => rfl), PySem.W.Sortable.tuples (fun b => ⟨_, _, rfl⟩), fun d hd => ?_, fun S nS => ?_⟩
    · obtain ⟨x, _, rfl⟩ := List.mem_map.mp hd
      have : (costD x).depth = 1 := by simp [costD, PyData.depth, PyData.depthAll]
      omega
    have cS := same_new (o := .lst (((vc.zip (A'.map costD)).mergeSort (PySem.W.dataLe false Prod.snd)).map Prod.fst)) nS
    have hS : (upd G2 S (.lst (((vc.zip (A'.map costD)).mergeSort (PySem.W.dataLe false Prod.snd)).map Prod.fst))) S = some (.lst (((vc.zip (A'.map costD)).mergeSort (PySem.W.dataLe false Prod.snd)).map Prod.fst)) := upd_same
    have pS : Paired (C4At G2) (((vc.zip (A'.map costD)).mergeSort (PySem.W.dataLe false Prod.snd)).map Prod.fst) A' := by
      have h1 := srt_paired (R := C4At G2) (f := fun v => v) (enc := costD) (as := vc) (bs := A') lvc (fun z hz => paired_zip hvc4 z hz)
      have e8 : A'.mergeSort (PySem.W.dataLe false costD) = A' := costs_sorted ias'.ord
      have e9 : ((vc.zip (A'.map costD)).mergeSort (PySem.W.dataLe false Prod.snd)).map Prod.fst = ((vc.zip A').mergeSort (PySem.W.dataLe false fun z => costD z.2)).map fun z => z.1 := by
        rw [zip_map_r]
        have h2 := List.map_mergeSort (r := PySem.W.dataLe false fun z : V × A4 => costD z.2) (s := PySem.W.dataLe false (Prod.snd : V × PyData → PyData)) (f := fun z : V × A4 => (z.1, costD z.2)) (l := vc.zip A') (fun a _ b _ => rfl)
        rw [← h2, List.map_map]
        rfl
      rw [e9]
      rw [e8] at h1
      exact h1
    generalize ((vc.zip (A'.map costD)).mergeSort (PySem.W.dataLe false Prod.snd)).map Prod.fst = zs at cS hS pS ⊢
    generalize upd G2 S (.lst zs) = G3 at cS hS ⊢
    refine ⟨S, zs, rfl, .inl ⟨.inl (.inl hS), fun T3 nT3 => ?_⟩⟩
    have c3 := same_new (o := .tup zs) nT3
    have hT3 : (upd G3 T3 (.tup zs)) T3 = some (.tup zs) := upd_same
    generalize upd G3 T3 (.tup zs) = G4 at c3 hT3 ⊢
    refine ⟨small' (by simp), fun T4 nT4 => ?_⟩
    have c4 := same_new (o := .tup [V.int (Ps'.length : Nat), V.ref T3]) nT4
    have d2' := (cS.trans c3).trans c4
    have d3' := sl.trans d2'
    refine ⟨v, .ref T4, prD Ps' A', rfl, dp_grow d3' hv, .tup (.inl (.inl upd_same)) (.cons (.int _) (.cons (.tup (.inl (.inl (c4 _ _ hT3))) (c4_data (c4_keep (fun b xs e => d2' _ _ e) pS))) .nil)), ok_pr lA', fun H9 s9 => ?_⟩
    exact q H9 (e23.trans (ExtN.of (d3'.trans s9))) (t3.ext (d3'.trans s9))
end
end K5
set_option Elab.async false
set_option linter.all false
set_option maxRecDepth 100000
set_option maxHeartbeats 4000000
namespace K5
open PySem PySem.Spec PyProof.Rows L2 Ver
def offP (p : Addr) (H : Hp) : Hp := fun b => if b = p then none else H b
theorem offP_at {p A : Addr} {H : Hp} {o : HO} (ne : p ≠ A) (h : H A = some o) : offP p H A = some o := by
  unfold offP
  rw [if_neg (Ne.symm ne)]
  exact h
theorem offP_none {p : Addr} {H : Hp} : offP p H p = none := by unfold offP; rw [if_pos rfl]
theorem offP_same {p : Addr} {H : Hp} : Same (offP p H) H := fun b o e => by
  unfold offP at e
  split at e
  · cases e
  · exact e
theorem offP_drawn {p : Addr} {H H' : Hp} (d : Drawn p H H') : Same (offP p H) (offP p H') := fun b o e => by
  unfold offP at e ⊢
  split at e
  · cases e
  · rename_i ne
    rw [if_neg ne]
    exact d.1 b o ne e
theorem odd_get {K : PySem.W.Frag} {H : Hp} : ∀ (xs : List V) (ds : List PyData), DpAll K H xs ds → ∀ j, j < xs.length → ∃ v d, xs[j]? = some v ∧ Dp K H v d ∧ d ∈ ds
  | [], _, _, j, h => by simp at h
  | x :: xs, ds, h, j, hj => by
    cases h with
    | cons hd hr =>
      match j, hj with
      | 0, _ => exact ⟨_, _, rfl, hd, List.mem_cons_self⟩
      | j + 1, hj =>
        obtain ⟨v, d, e, h1, h2⟩ := odd_get xs _ hr j (by simpa using hj)
        exact ⟨v, d, e, h1, List.mem_cons_of_mem _ h2⟩
theorem odd_at {p : Addr} {K : PySem.W.Frag} {H : Hp} {xs : List V} {ds : List PyData} {i : Int} (h : DpAll K (offP p H) xs ds) (h0 : 0 ≤ i) {n : Int} (h1 : i < n) (hn : n = xs.length) : ∃ v d, atI xs i = some v ∧ Dp K H v d ∧ d ∈ ds := by
  obtain ⟨j, rfl⟩ : ∃ j : Nat, i = (j : Int) := ⟨i.toNat, by omega⟩
  obtain ⟨v, d, e, h2, h3⟩ := odd_get xs ds h j (by omega)
  exact ⟨v, d, atI_nat (j := j) e, dp_grow offP_same h2, h3⟩
theorem below_no {b i : Int} (h : i < 0 ∨ b ≤ i) : belowD b (.int i) = false := by
  show (decide (0 ≤ i) && decide (i < b)) = false
  rcases h with h | h
  · rw [decide_eq_false (by omega)]; rfl
  · rw [decide_eq_false (p := i < b) (by omega)]; exact Bool.and_false _
theorem all_no {f : PyData → Bool} {ds : List PyData} {e : PyData} (h : e ∈ ds) (n : f e = false) : ds.all f = false := by
  cases k : ds.all f with
  | false => rfl
  | true =>
    have := List.all_eq_true.mp k e h
    rw [n] at this
    cases this
theorem row_no {n : Nat} {ds : List PyData} {e : PyData} (h : e ∈ ds) (k : belowD n e = false) : rowD n (.tuple ds) = false := by
  show (ds.all (belowD n) && _) = false
  rw [all_no h k]
  rfl
theorem row_long {n : Nat} {ds : List PyData} (h : 60 < ds.length) : rowD n (.tuple ds) = false := by
  show (ds.all (belowD n) && decide (ds.length ≤ 60)) = false
  rw [decide_eq_false (p := ds.length ≤ 60) (by omega), Bool.and_false]
theorem ok_no (z : Str) : okD 5 (noD z) := ⟨by show 2 ≤ 10000000; decide, fun e he => by
  rcases List.mem_cons.mp he with rfl | he
  · exact trivial
  · rw [List.mem_singleton.mp he]; exact trivial⟩
theorem dpAll_app {K : PySem.W.Frag} {H : Hp} : ∀ {xs ys : List V} {ds es : List PyData}, DpAll K H xs ds → DpAll K H ys es → DpAll K H (xs ++ ys) (ds ++ es)
  | [], _, _, _, h, h2 => by cases h; exact h2
  | x :: xs, _, _, _, h, h2 => by
    cases h with
    | cons a b => exact .cons a (dpAll_app b h2)
theorem Pool.ne_tup {H : Hp} {p b : Addr} {xs : List V} (hp : Pool H p) (h : H b = some (.tup xs)) : p ≠ b := by
  obtain ⟨ns, _, _, e⟩ := hp
  exact (ne_of h e (by intro z; cases z)).symm
theorem flat_map {n : Nat} (ks : List Int) : (List.replicate n (ks.map V.int)).flatten = ((List.replicate n ks).flatten).map V.int := by
  rw [List.map_flatten, List.map_replicate]
theorem flat_mem {n : Nat} {ks : List Int} {x : Int} (h : x ∈ (List.replicate n ks).flatten) : x ∈ ks := by
  obtain ⟨l, hl, hx⟩ := List.mem_flatten.mp h
  rw [List.eq_of_mem_replicate hl] at hx
  exact hx
theorem rep_len {n : Nat} (ks : List Int) : ((List.replicate n ks).flatten).length = n * ks.length := by
  rw [List.length_flatten, List.map_replicate, List.sum_replicate_nat]
theorem cut_to {xs : List V} {k : Nat} (h : k ≤ xs.length) : cutV xs none (some (k : Int)) = xs.take k := by
  unfold cutV
  rw [HT.sIx_none, HT.sIx_nat, Nat.min_eq_left h]
  show (xs.drop 0).take (k - 0) = xs.take k
  rw [List.drop_zero, Nat.sub_zero]
theorem Rows.drawn {K : PySem.W.Frag} {H H' : Hp} {p : Addr} (hp : Pool H p) (d : Drawn p H H') {vs : List V} {rs : List (List Int)} (h : Rows K H vs rs) : Rows K H' vs rs := by
  induction h with
  | nil => exact .nil
  | cons h1 _ ih =>
    obtain ⟨a, h1, h2⟩ := h1
    exact .cons ⟨a, h1, tup_drawn hp d h2⟩ ih
theorem slA_take {K : PySem.W.Frag} {H : Hp} {a : Addr} {xs : List V} {k : Nat} {Q : VK} (ha : H a = some (.tup xs))
    (q : ∀ b H', Same H H' → H' b = some (.tup (xs.take k)) → Q (.ref b) H') : rSlA K (.ref a) none (some (k : Int)) H Q := by
  refine ⟨a, xs, rfl, .inl (.inl ha), fun h => q a H (Same.refl H) ?_, fun h p np => ?_⟩
  · have h2 := h.2
    rw [HT.sIx_nat] at h2
    rw [List.take_of_length_le (by omega)]
    exact ha
  · have e : cutV xs none (some (k : Int)) = xs.take k := by
      unfold cutV
      rw [HT.sIx_none, HT.sIx_nat]
      show (xs.drop 0).take (min k xs.length - 0) = _
      rw [List.drop_zero, Nat.sub_zero, List.take_eq_take_iff]
      omega
    rw [e]
    exact q p _ (same_new np) upd_same
theorem data_inj : ∀ {a b : List Int}, a.map PyData.int = b.map PyData.int → a = b
  | [], [], _ => rfl
  | x :: a, [], h => by cases h
  | [], y :: b, h => by cases h
  | x :: a, y :: b, h => by
    injection h with h1 h2
    injection h1 with h1
    rw [h1, data_inj h2]
theorem row_inj {a b : List Int} (h : PyData.tuple (a.map PyData.int) = .tuple (b.map PyData.int)) : a = b := by
  injection h with h
  exact data_inj h
def RowI (n : Nat) (r : List Int) : Prop := r.length ≤ 60 ∧ ∀ x ∈ r, 0 ≤ x ∧ x < (n : Int)
theorem RowI.row {n : Nat} {r : List Int} (h : RowI n r) : rowD n (.tuple (r.map PyData.int)) = true := by
  show ((r.map PyData.int).all (belowD n) && decide ((r.map PyData.int).length ≤ 60)) = true
  rw [List.length_map, decide_eq_true h.1, Bool.and_true, List.all_map]
  refine List.all_eq_true.mpr fun x hx => ?_
  obtain ⟨h0, h1⟩ := h.2 x hx
  show (decide (0 ≤ x) && decide (x < (n : Int))) = true
  rw [decide_eq_true h0, decide_eq_true h1]; rfl
theorem rowsG_ok {m n : Nat} (hn : n ≤ 60) {r : List Int} (h : r ∈ rowsG m n) : RowI m r := by
  obtain ⟨j, hj, hr⟩ := List.mem_flatMap.mp h
  have hj' := List.mem_range.mp hj
  obtain ⟨h1, h2⟩ := layG_mem hr
  exact ⟨by omega, h2⟩
theorem BkAt.drawn {K : PySem.W.Frag} {H H' : Hp} {p a : Addr} {B : Bk} (hp : Pool H p) (d : Drawn p H H') (h : BkAt K H a B) : BkAt K H' a B := by
  obtain ⟨f, t, tv, h1, h2, h3, h4⟩ := h
  exact ⟨f, t, tv, seqT_drawn hp d h1, seqT_drawn hp d h2, seqT_drawn hp d h3, h4.drawn hp d⟩
theorem TaskAt.drawn {K : PySem.W.Frag} {H H' : Hp} {p a : Addr} {T : Ta} (hp : Pool H p) (d : Drawn p H H') (h : TaskAt K H a T) : TaskAt K H' a T := by
  obtain ⟨t, b, h1, h2, h3⟩ := h
  exact ⟨t, b, seqT_drawn hp d h1, seqT_drawn hp d h2, h3.drawn hp d⟩
theorem ok_opt : ∀ o : Option Pl, okD 5 (optD o)
  | none => trivial
  | some p => ⟨by show 3 ≤ 10000000; decide, fun e he => by
    simp only [List.mem_cons, List.not_mem_nil, or_false] at he
    rcases he with rfl | rfl | rfl <;> trivial⟩
section
variable {P : Program} {w : World} {K : PySem.W.Frag} {mg : Str → Option Value} {base : Heap}
def sp__law_rows_right (K : PySem.W.Frag) : Sp := fun vs H Q _ => ∃ (p a : Addr) (T : Ta), vs = [.ref p, .ref a] ∧ Pool H p ∧ TaskAt K H a T ∧ T.Ok ∧ T.ts.length ≤ 4 ∧ ∀ H', Drawn p H H' → Q (.bl true) H'
theorem ok__law_rows_right (T : Tx K mg) : FnOk P w K mg base CX0 8 T.f__law_rows_right T.d__law_rows_right ["pool", "task"] (sp__law_rows_right K) := by
  refine T.F__law_rows_right.ok sc__law_rows_right (fun vs H Q E h => ?_) (fun cdv A outer s H vs Q E hr h => ?_)
  · obtain ⟨p, a, T, rfl, _⟩ := h; rfl
  · obtain ⟨p, a, Ta, rfl, hP, hA, ok, l4, q⟩ := h
    refine ⟨_, (pss_cons (ps_set (i := 2) sc__law_rows_right.nd rfl (Or.inr rfl) (pe_callB call_len_seq (by rfl) T.n_len (by decide +kernel) (pa_cons (pe_ix ix_tup (pv 1) pe_int (fun _ _ => rfl)) pa_nil)))
    (C8.pss_cut (ps_set (i := 3) sc__law_rows_right.nd rfl (Or.inl rfl) (pe_callTy call_tuple_of (by rfl) T.n_tuple (by decide +kernel) (pa_cons (pe_lc (own := [("k", 7)]) (g := gName 7) (tt := tYes) (by rfl) sc__law_rows_right.nd (pi_range1 rfl T.n_range (pa_cons (pe_op op_add pe_int (pe_call (ok__law_pick T) (hr.mono (by decide)) rfl T.g__law_pick T.F__law_pick.kp T.b__law_pick .nil pass0 (pa_cons (pv 0) (pa_cons pe_int pa_nil)))) pa_nil)) (blkOk_by (N := ["pool", "task", "m", "row", "some", "odd", "named", "k"]) (sc := defScope s__law_rows_right) (by decide +kernel)) (fun _ _ _ _ _ => (pg_name (i := 7) sc__law_rows_right.nd rfl (Or.inl rfl))) (fun _ _ _ _ _ => pts_nil) (fun _ _ _ _ _ => (pe_call (ok__law_pick T) (hr.mono (by decide)) rfl T.g__law_pick T.F__law_pick.kp T.b__law_pick .nil pass0 (pa_cons (pv 0) (pa_cons (pv 2) pa_nil))))) pa_nil)))
    (C8.pss_cut (ps_for PassesOwn.never rfl (pi_list (pe_op op_cat (pe_call (ok__law_rows T) (hr.mono (by decide)) rfl T.g__law_rows T.F__law_rows.kp T.b__law_rows .nil pass0 (pa_cons (pv 2) (pa_cons (pe_ifExp (pt_cmpR op_le (pv 2) pe_int (nomark _)) pe_int pe_int) pa_nil))) (pe_lst (pa_cons (pv 3) (pa_cons (pe_slice sl_tupA (pe_op op_repT (pv 3) pe_int) po_none (po_some pe_int)) pa_nil))))) (pg_name (i := 4) sc__law_rows_right.nd rfl (Or.inl rfl))
    (pss_one (ps_if (pt_not (pt_val (pe_call (ok__law_same T 5) (hr.mono (by decide)) rfl T.g__law_same T.F__law_same.kp T.b__law_same .nil pass0 (pa_cons (pe_call (ok__law_place_told T) hr rfl T.g__law_place_told T.F__law_place_told.kp T.b__law_place_told .nil pass0 (pa_cons (pv 1) (pa_cons (pv 4) (pa_cons (pe_cmpR op_eq (pe_callB call_len_seq (by rfl) T.n_len (by decide +kernel) (pa_cons (pv 4) pa_nil)) pe_int (nomark _)) pa_nil)))) (pa_cons (pe_call (ok__law_place T) (hr.mono (by decide)) rfl T.g__law_place T.F__law_place.kp T.b__law_place .nil pass0 (pa_cons (pv 1) (pa_cons (pv 4) pa_nil))) pa_nil))))) (pss_one (ps_ret pe_bl)) pss_nil)))
    (C8.pss_cut (ps_set (i := 5) sc__law_rows_right.nd rfl (Or.inl rfl) (pe_lst (pa_cons (pe_slice sl_tupA (pe_op op_repT (pv 3) pe_int) po_none (po_some pe_int)) (pa_cons (pe_callTy call_list_of (by rfl) T.n_list (by decide +kernel) (pa_cons (pv 3) pa_nil)) (pa_cons (pe_op op_catA (pv 3) (pe_tup (pa_cons (pv 2) pa_nil))) (pa_cons (pe_op op_catA (pe_tup (pa_cons (pe_un un_neg pe_int) pa_nil)) (pv 3)) (pa_cons (pe_op op_catA (pv 3) (pe_tup (pa_cons pe_bl pa_nil))) (pa_cons pe_non (pa_cons pe_str (pa_cons pe_int (pa_cons (pe_tup (pa_cons (pv 3) pa_nil)) (pa_cons (pe_tup (pa_cons (pe_lst (pa_cons pe_int pa_nil)) pa_nil)) (pa_cons (pe_lst pa_nil) (pa_cons pe_bl pa_nil))))))))))))))
    (pss_cons (ps_for PassesOwn.never rfl (pi_list (pe_lst (pa_cons pe_bl (pa_cons pe_bl pa_nil)))) (pg_name (i := 6) sc__law_rows_right.nd rfl (Or.inl rfl))
    (pss_one (ps_if (pt_not (pt_val (pe_call (ok__law_same T 5) (hr.mono (by decide)) rfl T.g__law_same T.F__law_same.kp T.b__law_same .nil pass0 (pa_cons (pe_call (ok__law_place_told T) hr rfl T.g__law_place_told T.F__law_place_told.kp T.b__law_place_told .nil pass0 (pa_cons (pv 1) (pa_cons (pe_ix ix_list (pv 5) (pe_call (ok__law_pick T) (hr.mono (by decide)) rfl T.g__law_pick T.F__law_pick.kp T.b__law_pick .nil pass0 (pa_cons (pv 0) (pa_cons pe_int pa_nil))) (fun _ _ => rfl)) (pa_cons (pv 6) pa_nil)))) (pa_cons (pe_lst (pa_cons pe_str (pa_cons pe_str pa_nil))) pa_nil))))) (pss_one (ps_ret pe_bl)) pss_nil)))
    (pss_one (ps_ret pe_bl))))))), ?_⟩
    have l1 := ok.one
    obtain ⟨ta, tb, hA1, hA2, hA3⟩ := _root_.id hA
    refine ⟨.ref a, rfl, a, _, 0, .ref ta, rfl, rfl, hA1, (atI_nat (j := 0) rfl : atI _ ((0 : Nat) : Int) = _), ta, _, rfl, .inr hA2, ?_⟩
    rw [List.length_map]
    generalize em : Ta.ts.length = m at l4 l1 ⊢
    refine ⟨fun σ' H3 => ∃ (rw : Addr) (r : List Int), σ' = [some (.ref p), some (.ref a), some (.int (m : Nat)), some (.ref rw), none, none, none, none] ∧ Drawn p H H3 ∧ H3 rw = some (.tup (r.map V.int)) ∧ 1 ≤ r.length ∧ r.length ≤ 9 ∧ ∀ x ∈ r, 0 ≤ x ∧ x < (m : Int), ?_, fun σ' H3 h => ?_⟩
    · refine ⟨.ref p, rfl, p, 9, rfl, hP, by decide, by decide, fun nk H3 k0 k1 d3 f3 => ⟨1, nk, rfl, rfl, 1 + nk, rfl, by omega, by omega, fun D nD => ?_⟩⟩
      have pD : p ≠ D := d3.2.ne_none nD
      refine comp_range (n := (1 + nk).toNat) (i := 7) (fun acc H' => Drawn p H H' ∧ ∃ r : List Int, acc = r.map V.int ∧ ∀ x ∈ r, 0 ≤ x ∧ x < (m : Int)) ⟨d3.same (same_new nD), [], rfl, fun x hx => absurd hx (by simp)⟩ (fun acc H' lt h hD => ?_) (fun acc H' e h hD => ?_)
      · obtain ⟨d4, r, rfl, hr⟩ := h
        refine ⟨.ref p, rfl, .int (m : Nat), rfl, p, m, rfl, d4.2, by omega, by omega, fun x H5 x0 x1 d5 f5 => ?_⟩
        refine turned (d5.1 _ _ pD.symm hD) (small (by omega)) ⟨(d4.trans d5).at (d3.back nD) pD, r ++ [x], by rw [List.map_append]; rfl, fun y hy => ?_⟩
        rcases List.mem_append.mp hy with h | h
        · exact hr y h
        · rw [List.mem_singleton.mp h]
          exact ⟨x0, x1⟩
      · obtain ⟨d4, r, rfl, hr⟩ := h
        rw [List.length_map] at e
        refine ⟨D, r.map V.int, rfl, .inl ⟨.inl (.inl hD), fun rw nrw => ?_⟩⟩
        exact ⟨rw, r, rfl, d4.same (same_new nrw), upd_same, by omega, by omega, hr⟩
    obtain ⟨rw, r, rfl, d3, hrw, r1, r9, hr⟩ := h
    have lr : (r.map V.int).length = r.length := List.length_map ..
    have rne : r.map V.int ≠ [] := fun z => by rw [z] at lr; simp at lr; omega
    have qrw : p ≠ rw := d3.2.ne_tup hrw
    refine ⟨fun σ' H' => ∃ (y4 : Option V), σ' = [some (.ref p), some (.ref a), some (.int (m : Nat)), some (.ref rw), y4, none, none, none] ∧ Same H3 H', ?_, fun σ' H8 h => ?_⟩
    · have cl : ∀ k : Nat, k ≤ 3 → ∀ (us : List V) (H4 : Hp), Rows K H4 us (rowsG m k) → ∃ rs, Rows K H4 us rs ∧ us.length ≤ 20000 ∧ ∀ r ∈ rs, RowI m r := fun k hk us H4 rR => by
        have lu := Paired.length rR
        have lg := rowsG_len (m := m) (by omega) k (by omega)
        exact ⟨_, rR, by omega, fun r hr => rowsG_ok (by omega) hr⟩
      refine ⟨.int (m : Nat), rfl, .int (m : Nat), rfl, _, 3, rfl, rfl, _, rfl, ite2 (fun c => ?_) (fun c => ?_)⟩
      · refine ⟨m, 3, rfl, by omega, by decide, fun R0 us H4 s4 nR hR rR => ?_⟩
        replace rR := cl 3 (by decide) us H4 rR
        obtain ⟨rs, rR, lus, okR⟩ := rR
        have hrw4 := s4 _ _ hrw
        refine ⟨.ref rw, rfl, .ref rw, rfl, rw, 60, r.map V.int, rfl, rfl, .inl (.inl hrw4), rne, by decide, by decide, by rw [lr]; omega, fun z0 nz0 => ?_⟩
        have e5 := same_new (o := .tup (List.replicate (60 : Int).toNat (r.map V.int)).flatten) nz0
        have hz0 : (upd H4 z0 (.tup (List.replicate (60 : Int).toNat (r.map V.int)).flatten)) z0 = some (.tup (List.replicate (60 : Int).toNat (r.map V.int)).flatten) := upd_same
        generalize upd H4 z0 (.tup (List.replicate (60 : Int).toNat (r.map V.int)).flatten) = H5 at e5 hz0 ⊢
        have fl60 : (List.replicate (60 : Int).toNat (r.map V.int)).flatten = ((List.replicate 60 r).flatten).map V.int := flat_map r
        rw [fl60] at hz0
        refine ⟨60, rfl, slA_take (k := 60) hz0 fun b H6 s6 hb => ?_⟩
        rw [← List.map_take] at hb
        have e46 := e5.trans s6
        have hR6 := e46 _ _ hR
        have rR6 := rR.grow e46
        have hrw6 := e46 _ _ hrw4
        have s36 := s4.trans e46
        refine ⟨small' (by simp), fun L2 nL2 => ?_⟩
        have sL2 := same_new (o := .lst [V.ref rw, V.ref b]) nL2
        have hL2 : (upd H6 L2 (.lst [V.ref rw, V.ref b])) L2 = some (.lst [V.ref rw, V.ref b]) := upd_same
        generalize upd H6 L2 (.lst [V.ref rw, V.ref b]) = H7 at sL2 hL2 ⊢
        refine ⟨R0, L2, us, [V.ref rw, V.ref b], rfl, rfl, sL2 _ _ hR6, hL2, small' (by show us.length + 2 ≤ 100000; omega), fun Lq nLq => ?_⟩
        have sLq := same_new (o := .lst (us ++ [V.ref rw, V.ref b])) nLq
        have hLq : (upd H7 Lq (.lst (us ++ [V.ref rw, V.ref b]))) Lq = some (.lst (us ++ [V.ref rw, V.ref b])) := upd_same
        have rL : Rows K (upd H7 Lq (.lst (us ++ [V.ref rw, V.ref b]))) (us ++ [V.ref rw, V.ref b]) (rs ++ [r, ((List.replicate 60 r).flatten).take 60]) := ((rR6.grow sL2).grow sLq).app (.cons ⟨rw, rfl, sLq _ _ (sL2 _ _ hrw6)⟩ (.cons ⟨b, rfl, sLq _ _ (sL2 _ _ hb)⟩ .nil))
        have s38 := (s36.trans sL2).trans sLq
        generalize upd H7 Lq (.lst (us ++ [V.ref rw, V.ref b])) = H8 at hLq rL s38 ⊢
        have okR7 : ∀ q ∈ rs ++ [r, ((List.replicate 60 r).flatten).take 60], RowI m q := fun q hq => by
          rcases List.mem_append.mp hq with hq | hq
          · exact okR q hq
          · simp only [List.mem_cons, List.not_mem_nil, or_false] at hq
            rcases hq with rfl | rfl
            · exact ⟨by omega, hr⟩
            · refine ⟨by rw [List.length_take]; omega, fun x hx => hr x (flat_mem (List.mem_of_mem_take hx))⟩
        generalize us ++ [V.ref rw, V.ref b] = us7 at hLq rL
        generalize rs ++ [r, ((List.replicate 60 r).flatten).take 60] = rs7 at rL okR7
        refine ⟨Lq, rfl, ⟨_, .inl (.inl hLq)⟩, ?_⟩
        refine for_list (K := K) (a := Lq) (xs := us7) (fun i σ H9 => ∃ y4, σ = [some (.ref p), some (.ref a), some (.int (m : Nat)), some (.ref rw), y4, none, none, none] ∧ Same H8 H9) ⟨none, rfl, Same.refl H8⟩ (fun i σ H9 _ h => ?_) (fun i x σ H9 ex h => ?_) (fun σ H9 h => ?_)
        · obtain ⟨_, _, k⟩ := h
          exact .inl (.inl (k _ _ hLq))
        · obtain ⟨y4, rfl, k⟩ := h
          have lti : i < us7.length := (List.getElem?_eq_some_iff.mp ex).1
          obtain ⟨q7, er⟩ : ∃ q7, rs7[i]? = some q7 := ⟨_, List.getElem?_eq_getElem (by rw [← Paired.length rL]; exact lti)⟩
          obtain ⟨pr, epr, hpr⟩ := rL.getT er
          have ex2 : x = .ref pr := Option.some.inj (ex.symm.trans epr)
          subst ex2
          have ok7 := okR7 q7 (List.mem_of_getElem? er)
          have hpr8 := k _ _ hpr
          have hA8 := (hA.drawn hP d3).grow (s38.trans k)
          refine ⟨.ref a, rfl, .ref pr, rfl, .ref pr, rfl, pr, _, rfl, .inr (.inl (.inl hpr8)), rfl, a, .ref pr, Ta, .tuple (q7.map PyData.int), _, rfl, hA8, ok, .tup (.inl (.inl hpr8)) (dpAll_ints q7), by show (q7.map PyData.int).length ≤ 1000; rw [List.length_map]; have := ok7.1; omega, fun hno => absurd (ok7.row.symm.trans (em ▸ hno)) (by decide), fun is ei _ v1 H10 s10 hv1 => ?_⟩
          have ei2 : q7 = is := row_inj ei
          subst ei2
          refine ⟨.ref a, rfl, .ref pr, rfl, a, pr, Ta, q7, rfl, hA8.grow s10, ok, .inl (.inl (s10 _ _ hpr8)), ok7.1, fun i hi => by rw [em]; exact ok7.2 i hi, fun v2 H11 s11 hv2 => ?_⟩
          exact ⟨v1, v2, _, rfl, dp_grow s11 hv1, hv2, ok_opt _, fun H12 s12 => ⟨true, rfl, if_ff ⟨_, rfl, ((k.trans s10).trans s11).trans s12⟩⟩⟩
        · obtain ⟨y4, rfl, k⟩ := h
          exact ⟨y4, rfl, s38.trans k⟩
      · refine ⟨m, 2, rfl, by omega, by decide, fun R0 us H4 s4 nR hR rR => ?_⟩
        replace rR := cl 2 (by decide) us H4 rR
        obtain ⟨rs, rR, lus, okR⟩ := rR
        have hrw4 := s4 _ _ hrw
        refine ⟨.ref rw, rfl, .ref rw, rfl, rw, 60, r.map V.int, rfl, rfl, .inl (.inl hrw4), rne, by decide, by decide, by rw [lr]; omega, fun z0 nz0 => ?_⟩
        have e5 := same_new (o := .tup (List.replicate (60 : Int).toNat (r.map V.int)).flatten) nz0
        have hz0 : (upd H4 z0 (.tup (List.replicate (60 : Int).toNat (r.map V.int)).flatten)) z0 = some (.tup (List.replicate (60 : Int).toNat (r.map V.int)).flatten) := upd_same
        generalize upd H4 z0 (.tup (List.replicate (60 : Int).toNat (r.map V.int)).flatten) = H5 at e5 hz0 ⊢
        have fl60 : (List.replicate (60 : Int).toNat (r.map V.int)).flatten = ((List.replicate 60 r).flatten).map V.int := flat_map r
        rw [fl60] at hz0
        refine ⟨60, rfl, slA_take (k := 60) hz0 fun b H6 s6 hb => ?_⟩
        rw [← List.map_take] at hb
        have e46 := e5.trans s6
        have hR6 := e46 _ _ hR
        have rR6 := rR.grow e46
        have hrw6 := e46 _ _ hrw4
        have s36 := s4.trans e46
        refine ⟨small' (by simp), fun L2 nL2 => ?_⟩
        have sL2 := same_new (o := .lst [V.ref rw, V.ref b]) nL2
        have hL2 : (upd H6 L2 (.lst [V.ref rw, V.ref b])) L2 = some (.lst [V.ref rw, V.ref b]) := upd_same
        generalize upd H6 L2 (.lst [V.ref rw, V.ref b]) = H7 at sL2 hL2 ⊢
        refine ⟨R0, L2, us, [V.ref rw, V.ref b], rfl, rfl, sL2 _ _ hR6, hL2, small' (by show us.length + 2 ≤ 100000; omega), fun Lq nLq => ?_⟩
        have sLq := same_new (o := .lst (us ++ [V.ref rw, V.ref b])) nLq
        have hLq : (upd H7 Lq (.lst (us ++ [V.ref rw, V.ref b]))) Lq = some (.lst (us ++ [V.ref rw, V.ref b])) := upd_same
        have rL : Rows K (upd H7 Lq (.lst (us ++ [V.ref rw, V.ref b]))) (us ++ [V.ref rw, V.ref b]) (rs ++ [r, ((List.replicate 60 r).flatten).take 60]) := ((rR6.grow sL2).grow sLq).app (.cons ⟨rw, rfl, sLq _ _ (sL2 _ _ hrw6)⟩ (.cons ⟨b, rfl, sLq _ _ (sL2 _ _ hb)⟩ .nil))
        have s38 := (s36.trans sL2).trans sLq
        generalize upd H7 Lq (.lst (us ++ [V.ref rw, V.ref b])) = H8 at hLq rL s38 ⊢
        have okR7 : ∀ q ∈ rs ++ [r, ((List.replicate 60 r).flatten).take 60], RowI m q := fun q hq => by
          rcases List.mem_append.mp hq with hq | hq
          · exact okR q hq
          · simp only [List.mem_cons, List.not_mem_nil, or_false] at hq
            rcases hq with rfl | rfl
            · exact ⟨by omega, hr⟩
            · refine ⟨by rw [List.length_take]; omega, fun x hx => hr x (flat_mem (List.mem_of_mem_take hx))⟩
        generalize us ++ [V.ref rw, V.ref b] = us7 at hLq rL
        generalize rs ++ [r, ((List.replicate 60 r).flatten).take 60] = rs7 at rL okR7
        refine ⟨Lq, rfl, ⟨_, .inl (.inl hLq)⟩, ?_⟩
        refine for_list (K := K) (a := Lq) (xs := us7) (fun i σ H9 => ∃ y4, σ = [some (.ref p), some (.ref a), some (.int (m : Nat)), some (.ref rw), y4, none, none, none] ∧ Same H8 H9) ⟨none, rfl, Same.refl H8⟩ (fun i σ H9 _ h => ?_) (fun i x σ H9 ex h => ?_) (fun σ H9 h => ?_)
        · obtain ⟨_, _, k⟩ := h
          exact .inl (.inl (k _ _ hLq))
        · obtain ⟨y4, rfl, k⟩ := h
          have lti : i < us7.length := (List.getElem?_eq_some_iff.mp ex).1
          obtain ⟨q7, er⟩ : ∃ q7, rs7[i]? = some q7 := ⟨_, List.getElem?_eq_getElem (by rw [← Paired.length rL]; exact lti)⟩
          obtain ⟨pr, epr, hpr⟩ := rL.getT er
          have ex2 : x = .ref pr := Option.some.inj (ex.symm.trans epr)
          subst ex2
          have ok7 := okR7 q7 (List.mem_of_getElem? er)
          have hpr8 := k _ _ hpr
          have hA8 := (hA.drawn hP d3).grow (s38.trans k)
          refine ⟨.ref a, rfl, .ref pr, rfl, .ref pr, rfl, pr, _, rfl, .inr (.inl (.inl hpr8)), rfl, a, .ref pr, Ta, .tuple (q7.map PyData.int), _, rfl, hA8, ok, .tup (.inl (.inl hpr8)) (dpAll_ints q7), by show (q7.map PyData.int).length ≤ 1000; rw [List.length_map]; have := ok7.1; omega, fun hno => absurd (ok7.row.symm.trans (em ▸ hno)) (by decide), fun is ei _ v1 H10 s10 hv1 => ?_⟩
          have ei2 : q7 = is := row_inj ei
          subst ei2
          refine ⟨.ref a, rfl, .ref pr, rfl, a, pr, Ta, q7, rfl, hA8.grow s10, ok, .inl (.inl (s10 _ _ hpr8)), ok7.1, fun i hi => by rw [em]; exact ok7.2 i hi, fun v2 H11 s11 hv2 => ?_⟩
          exact ⟨v1, v2, _, rfl, dp_grow s11 hv1, hv2, ok_opt _, fun H12 s12 => ⟨true, rfl, if_ff ⟨_, rfl, ((k.trans s10).trans s11).trans s12⟩⟩⟩
        · obtain ⟨y4, rfl, k⟩ := h
          exact ⟨y4, rfl, s38.trans k⟩
    obtain ⟨y4, rfl, s8⟩ := h
    have d08 := d3.same s8
    have hrw8 := s8 _ _ hrw
    refine ⟨fun σ' H9 => ∃ (L : Addr) (us : List V) (ds : List PyData), σ' = [some (.ref p), some (.ref a), some (.int (m : Nat)), some (.ref rw), y4, some (.ref L), none, none] ∧ Drawn p H8 H9 ∧ H9 L = some (.lst us) ∧ p ≠ L ∧ DpAll K (offP p H9) us ds ∧ us.length = 12 ∧ ∀ d ∈ ds, rowD m d = false ∧ lenD d ≤ 1000, ?_, fun σ' H9 h => ?_⟩
    · have dA : Drawn p H8 H8 := Drawn.refl d08.2
      have hrw := hrw8
      refine ⟨.ref rw, rfl, rw, 61, r.map V.int, rfl, rfl, .inl (.inl hrw), rne, by decide, by decide, by rw [lr]; omega, fun z0 nz0 => ?_⟩
      have e1 : Same H8 (upd H8 z0 (.tup (List.replicate (61 : Int).toNat (r.map V.int)).flatten)) := same_new nz0
      have hz0 : (upd H8 z0 (.tup (List.replicate (61 : Int).toNat (r.map V.int)).flatten)) z0 = some (.tup (List.replicate (61 : Int).toNat (r.map V.int)).flatten) := upd_same
      have qz0 : p ≠ z0 := dA.2.ne_none nz0
      generalize upd H8 z0 (.tup (List.replicate (61 : Int).toNat (r.map V.int)).flatten) = G1 at e1 hz0 ⊢
      have dd1 := dA.same e1
      replace hrw := e1 _ _ hrw
      have fl61 : (List.replicate (61 : Int).toNat (r.map V.int)).flatten = ((List.replicate 61 r).flatten).map V.int := flat_map r
      rw [fl61] at hz0
      refine ⟨61, rfl, slA_take (k := 61) hz0 fun z1 Gz sz1 hz1 => ?_⟩
      have ddz := dd1.same sz1
      replace hrw := sz1 _ _ hrw
      replace hz0 := sz1 _ _ hz0
      rw [← List.map_take] at hz1
      have qz1 : p ≠ z1 := ddz.2.ne_tup hz1
      refine ⟨.ref rw, rfl, rw, _, rfl, .inr (.inl (.inl hrw)), fun l2 nl2 => ?_⟩
      have e2 : Same Gz (upd Gz l2 (.lst (r.map V.int))) := same_new nl2
      have hl2 : (upd Gz l2 (.lst (r.map V.int))) l2 = some (.lst (r.map V.int)) := upd_same
      have ql2 : p ≠ l2 := ddz.2.ne_none nl2
      generalize upd Gz l2 (.lst (r.map V.int)) = G2 at e2 hl2 ⊢
      have dd2 := ddz.same e2
      replace hrw := e2 _ _ hrw
      replace hz0 := e2 _ _ hz0
      replace hz1 := e2 _ _ hz1
      refine ⟨.ref rw, rfl, .int m, rfl, small' (by simp), fun t3 nt3 => ?_⟩
      have e3 : Same G2 (upd G2 t3 (.tup [.int (m : Int)])) := same_new nt3
      have ht3 : (upd G2 t3 (.tup [.int (m : Int)])) t3 = some (.tup [.int (m : Int)]) := upd_same
      have qt3 : p ≠ t3 := dd2.2.ne_none nt3
      generalize upd G2 t3 (.tup [.int (m : Int)]) = G3 at e3 ht3 ⊢
      have dd3 := dd2.same e3
      replace hrw := e3 _ _ hrw
      replace hz0 := e3 _ _ hz0
      replace hz1 := e3 _ _ hz1
      replace hl2 := e3 _ _ hl2
      refine ⟨rw, t3, (r.map V.int), [.int (m : Int)], rfl, rfl, .inl (.inl hrw), .inl (.inl ht3), small' (by first | (simp; omega) | (simp [List.length_map]; omega)), fun z => absurd z (rne), fun _ z => absurd z (List.cons_ne_nil _ _), fun _ _ c3 nc3 => ?_⟩
      have e4 : Same G3 (upd G3 c3 (.tup ((r.map V.int) ++ [.int (m : Int)]))) := same_new nc3
      have hc3 : (upd G3 c3 (.tup ((r.map V.int) ++ [.int (m : Int)]))) c3 = some (.tup ((r.map V.int) ++ [.int (m : Int)])) := upd_same
      have qc3 : p ≠ c3 := dd3.2.ne_none nc3
      generalize upd G3 c3 (.tup ((r.map V.int) ++ [.int (m : Int)])) = G4 at e4 hc3 ⊢
      have dd4 := dd3.same e4
      replace hrw := e4 _ _ hrw
      replace hz0 := e4 _ _ hz0
      replace hz1 := e4 _ _ hz1
      replace hl2 := e4 _ _ hl2
      replace ht3 := e4 _ _ ht3
      refine ⟨1, rfl, small' (by simp), fun t4 nt4 => ?_⟩
      have e5 : Same G4 (upd G4 t4 (.tup [.int (-1)])) := same_new nt4
      have ht4 : (upd G4 t4 (.tup [.int (-1)])) t4 = some (.tup [.int (-1)]) := upd_same
      have qt4 : p ≠ t4 := dd4.2.ne_none nt4
      generalize upd G4 t4 (.tup [.int (-1)]) = G5 at e5 ht4 ⊢
      have dd5 := dd4.same e5
      replace hrw := e5 _ _ hrw
      replace hz0 := e5 _ _ hz0
      replace hz1 := e5 _ _ hz1
      replace hl2 := e5 _ _ hl2
      replace ht3 := e5 _ _ ht3
      replace hc3 := e5 _ _ hc3
      refine ⟨.ref rw, rfl, ?_⟩
      refine ⟨t4, rw, [.int (-1)], (r.map V.int), rfl, rfl, .inl (.inl ht4), .inl (.inl hrw), small' (by first | (simp; omega) | (simp [List.length_map]; omega)), fun z => absurd z (List.cons_ne_nil _ _), fun _ z => absurd z (rne), fun _ _ c4 nc4 => ?_⟩
      have e6 : Same G5 (upd G5 c4 (.tup ([.int (-1)] ++ (r.map V.int)))) := same_new nc4
      have hc4 : (upd G5 c4 (.tup ([.int (-1)] ++ (r.map V.int)))) c4 = some (.tup ([.int (-1)] ++ (r.map V.int))) := upd_same
      have qc4 : p ≠ c4 := dd5.2.ne_none nc4
      generalize upd G5 c4 (.tup ([.int (-1)] ++ (r.map V.int))) = G6 at e6 hc4 ⊢
      have dd6 := dd5.same e6
      replace hrw := e6 _ _ hrw
      replace hz0 := e6 _ _ hz0
      replace hz1 := e6 _ _ hz1
      replace hl2 := e6 _ _ hl2
      replace ht3 := e6 _ _ ht3
      replace hc3 := e6 _ _ hc3
      replace ht4 := e6 _ _ ht4
      refine ⟨.ref rw, rfl, small' (by simp), fun t5 nt5 => ?_⟩
      have e7 : Same G6 (upd G6 t5 (.tup [.bl false])) := same_new nt5
      have ht5 : (upd G6 t5 (.tup [.bl false])) t5 = some (.tup [.bl false]) := upd_same
      have qt5 : p ≠ t5 := dd6.2.ne_none nt5
      generalize upd G6 t5 (.tup [.bl false]) = G7 at e7 ht5 ⊢
      have dd7 := dd6.same e7
      replace hrw := e7 _ _ hrw
      replace hz0 := e7 _ _ hz0
      replace hz1 := e7 _ _ hz1
      replace hl2 := e7 _ _ hl2
      replace ht3 := e7 _ _ ht3
      replace hc3 := e7 _ _ hc3
      replace ht4 := e7 _ _ ht4
      replace hc4 := e7 _ _ hc4
      refine ⟨rw, t5, (r.map V.int), [.bl false], rfl, rfl, .inl (.inl hrw), .inl (.inl ht5), small' (by first | (simp; omega) | (simp [List.length_map]; omega)), fun z => absurd z (rne), fun _ z => absurd z (List.cons_ne_nil _ _), fun _ _ c5 nc5 => ?_⟩
      have e8 : Same G7 (upd G7 c5 (.tup ((r.map V.int) ++ [.bl false]))) := same_new nc5
      have hc5 : (upd G7 c5 (.tup ((r.map V.int) ++ [.bl false]))) c5 = some (.tup ((r.map V.int) ++ [.bl false])) := upd_same
      have qc5 : p ≠ c5 := dd7.2.ne_none nc5
      generalize upd G7 c5 (.tup ((r.map V.int) ++ [.bl false])) = G8 at e8 hc5 ⊢
      have dd8 := dd7.same e8
      replace hrw := e8 _ _ hrw
      replace hz0 := e8 _ _ hz0
      replace hz1 := e8 _ _ hz1
      replace hl2 := e8 _ _ hl2
      replace ht3 := e8 _ _ ht3
      replace hc3 := e8 _ _ hc3
      replace ht4 := e8 _ _ ht4
      replace hc4 := e8 _ _ hc4
      replace ht5 := e8 _ _ ht5
      refine ⟨.ref rw, rfl, small' (by simp), fun t9 nt9 => ?_⟩
      have e9 : Same G8 (upd G8 t9 (.tup [.ref rw])) := same_new nt9
      have ht9 : (upd G8 t9 (.tup [.ref rw])) t9 = some (.tup [.ref rw]) := upd_same
      have qt9 : p ≠ t9 := dd8.2.ne_none nt9
      generalize upd G8 t9 (.tup [.ref rw]) = G9 at e9 ht9 ⊢
      have dd9 := dd8.same e9
      replace hrw := e9 _ _ hrw
      replace hz0 := e9 _ _ hz0
      replace hz1 := e9 _ _ hz1
      replace hl2 := e9 _ _ hl2
      replace ht3 := e9 _ _ ht3
      replace hc3 := e9 _ _ hc3
      replace ht4 := e9 _ _ ht4
      replace hc4 := e9 _ _ hc4
      replace ht5 := e9 _ _ ht5
      replace hc5 := e9 _ _ hc5
      refine ⟨small' (by simp), fun l10 nl10 => ?_⟩
      have e10 : Same G9 (upd G9 l10 (.lst [.int 0])) := same_new nl10
      have hl10 : (upd G9 l10 (.lst [.int 0])) l10 = some (.lst [.int 0]) := upd_same
      have ql10 : p ≠ l10 := dd9.2.ne_none nl10
      generalize upd G9 l10 (.lst [.int 0]) = G10 at e10 hl10 ⊢
      have dd10 := dd9.same e10
      replace hrw := e10 _ _ hrw
      replace hz0 := e10 _ _ hz0
      replace hz1 := e10 _ _ hz1
      replace hl2 := e10 _ _ hl2
      replace ht3 := e10 _ _ ht3
      replace hc3 := e10 _ _ hc3
      replace ht4 := e10 _ _ ht4
      replace hc4 := e10 _ _ hc4
      replace ht5 := e10 _ _ ht5
      replace hc5 := e10 _ _ hc5
      replace ht9 := e10 _ _ ht9
      refine ⟨small' (by simp), fun t10 nt10 => ?_⟩
      have e11 : Same G10 (upd G10 t10 (.tup [.ref l10])) := same_new nt10
      have ht10 : (upd G10 t10 (.tup [.ref l10])) t10 = some (.tup [.ref l10]) := upd_same
      have qt10 : p ≠ t10 := dd10.2.ne_none nt10
      generalize upd G10 t10 (.tup [.ref l10]) = G11 at e11 ht10 ⊢
      have dd11 := dd10.same e11
      replace hrw := e11 _ _ hrw
      replace hz0 := e11 _ _ hz0
      replace hz1 := e11 _ _ hz1
      replace hl2 := e11 _ _ hl2
      replace ht3 := e11 _ _ ht3
      replace hc3 := e11 _ _ hc3
      replace ht4 := e11 _ _ ht4
      replace hc4 := e11 _ _ hc4
      replace ht5 := e11 _ _ ht5
      replace hc5 := e11 _ _ hc5
      replace ht9 := e11 _ _ ht9
      replace hl10 := e11 _ _ hl10
      refine ⟨small' (by simp), fun l11 nl11 => ?_⟩
      have e12 : Same G11 (upd G11 l11 (.lst [])) := same_new nl11
      have hl11 : (upd G11 l11 (.lst [])) l11 = some (.lst []) := upd_same
      have ql11 : p ≠ l11 := dd11.2.ne_none nl11
      generalize upd G11 l11 (.lst []) = G12 at e12 hl11 ⊢
      have dd12 := dd11.same e12
      replace hrw := e12 _ _ hrw
      replace hz0 := e12 _ _ hz0
      replace hz1 := e12 _ _ hz1
      replace hl2 := e12 _ _ hl2
      replace ht3 := e12 _ _ ht3
      replace hc3 := e12 _ _ hc3
      replace ht4 := e12 _ _ ht4
      replace hc4 := e12 _ _ hc4
      replace ht5 := e12 _ _ ht5
      replace hc5 := e12 _ _ hc5
      replace ht9 := e12 _ _ ht9
      replace hl10 := e12 _ _ hl10
      replace ht10 := e12 _ _ ht10
      refine ⟨small' (by simp), fun L nL => ?_⟩
      have e13 : Same G12 (upd G12 L (.lst [.ref z1, .ref l2, .ref c3, .ref c4, .ref c5, .non, .str "0", .int 0, .ref t9, .ref t10, .ref l11, .bl true])) := same_new nL
      have hL : (upd G12 L (.lst [.ref z1, .ref l2, .ref c3, .ref c4, .ref c5, .non, .str "0", .int 0, .ref t9, .ref t10, .ref l11, .bl true])) L = some (.lst [.ref z1, .ref l2, .ref c3, .ref c4, .ref c5, .non, .str "0", .int 0, .ref t9, .ref t10, .ref l11, .bl true]) := upd_same
      have qL : p ≠ L := dd12.2.ne_none nL
      generalize upd G12 L (.lst [.ref z1, .ref l2, .ref c3, .ref c4, .ref c5, .non, .str "0", .int 0, .ref t9, .ref t10, .ref l11, .bl true]) = G13 at e13 hL ⊢
      have dd13 := dd12.same e13
      replace hrw := e13 _ _ hrw
      replace hz0 := e13 _ _ hz0
      replace hz1 := e13 _ _ hz1
      replace hl2 := e13 _ _ hl2
      replace ht3 := e13 _ _ ht3
      replace hc3 := e13 _ _ hc3
      replace ht4 := e13 _ _ ht4
      replace hc4 := e13 _ _ hc4
      replace ht5 := e13 _ _ ht5
      replace hc5 := e13 _ _ hc5
      replace ht9 := e13 _ _ ht9
      replace hl10 := e13 _ _ hl10
      replace ht10 := e13 _ _ ht10
      replace hl11 := e13 _ _ hl11
      refine ⟨L, _, _, rfl, dd13, hL, qL, .cons (.tup (.inl (.inl (offP_at qz1 hz1))) (dpAll_ints _)) (.cons (.lst (.inl (.inl (offP_at ql2 hl2))) (dpAll_ints r)) (.cons (.tup (.inl (.inl (offP_at qc3 hc3))) (dpAll_app (dpAll_ints r) (.cons (.int _) .nil))) (.cons (.tup (.inl (.inl (offP_at qc4 hc4))) (.cons (.int _) (dpAll_ints r))) (.cons (.tup (.inl (.inl (offP_at qc5 hc5))) (dpAll_app (dpAll_ints r) (.cons (.bl _) .nil))) (.cons (.non) (.cons (.str _) (.cons (.int _) (.cons (.tup (.inl (.inl (offP_at qt9 ht9))) (.cons (.tup (.inl (.inl (offP_at qrw hrw))) (dpAll_ints r)) .nil)) (.cons (.tup (.inl (.inl (offP_at qt10 ht10))) (.cons (.lst (.inl (.inl (offP_at ql10 hl10))) (.cons (.int _) .nil)) .nil)) (.cons (.lst (.inl (.inl (offP_at ql11 hl11))) (.nil)) (.cons (.bl _) (.nil)))))))))))), rfl, fun d hd => ?_⟩
      simp only [List.mem_cons, List.not_mem_nil, or_false] at hd
      rcases hd with rfl | rfl | rfl | rfl | rfl | rfl | rfl | rfl | rfl | rfl | rfl | rfl
      · exact ⟨row_long (by rw [List.length_map, List.length_take, rep_len]; omega), by show List.length _ ≤ 1000; rw [List.length_map, List.length_take, rep_len]; omega⟩
      · exact ⟨rfl, by show List.length _ ≤ 1000; rw [List.length_map]; omega⟩
      · exact ⟨row_no (e := .int m) (List.mem_append_right _ List.mem_cons_self) (below_no (.inr (Int.le_refl _))), by show List.length _ ≤ 1000; rw [List.length_append, List.length_map]; show r.length + 1 ≤ 1000; omega⟩
      · exact ⟨row_no (e := .int (-1)) (List.mem_cons_self) rfl, by show List.length _ ≤ 1000; rw [List.length_cons, List.length_map]; omega⟩
      · exact ⟨row_no (e := .bool false) (List.mem_append_right _ List.mem_cons_self) rfl, by show List.length _ ≤ 1000; rw [List.length_append, List.length_map]; show r.length + 1 ≤ 1000; omega⟩
      · exact ⟨rfl, Nat.le_of_ble_eq_true rfl⟩
      · exact ⟨rfl, Nat.le_of_ble_eq_true rfl⟩
      · exact ⟨rfl, Nat.le_of_ble_eq_true rfl⟩
      · exact ⟨row_no (e := .tuple _) List.mem_cons_self rfl, Nat.le_of_ble_eq_true rfl⟩
      · exact ⟨row_no (e := .list _) List.mem_cons_self rfl, Nat.le_of_ble_eq_true rfl⟩
      · exact ⟨rfl, Nat.le_of_ble_eq_true rfl⟩
      · exact ⟨rfl, Nat.le_of_ble_eq_true rfl⟩
    obtain ⟨L, us, ds, rfl, d9, hL, qL, hds, lus, bad⟩ := h
    refine ⟨small' (by simp), fun J nJ => ?_⟩
    have qJ : p ≠ J := d9.2.ne_none nJ
    have sJ : Same H9 (upd H9 J (.lst [.bl false, .bl true])) := same_new nJ
    have hJ : (upd H9 J (.lst [.bl false, .bl true])) J = some (.lst [.bl false, .bl true]) := upd_same
    generalize upd H9 J (.lst [.bl false, .bl true]) = HJ at sJ hJ ⊢
    have dJ := d9.same sJ
    have dsJ : Drawn p H9 HJ := (Drawn.refl d9.2).same sJ
    refine ⟨J, rfl, ⟨_, .inl (.inl hJ)⟩, ?_⟩
    refine for_list (K := K) (a := J) (xs := [.bl false, .bl true]) (fun i σ H' => ∃ y6, σ = [some (.ref p), some (.ref a), some (.int (m : Nat)), some (.ref rw), y4, some (.ref L), y6, none] ∧ Drawn p HJ H')
      ⟨none, rfl, Drawn.refl dJ.2⟩ (fun i σ H' _ h => ?_) (fun i x σ H' ex h => ?_) (fun σ H' h => ?_)
    · obtain ⟨_, _, k⟩ := h
      exact .inl (.inl (k.1 _ _ qJ.symm hJ))
    · obtain ⟨y6, rfl, k⟩ := h
      obtain ⟨w9, rfl⟩ : ∃ w9 : Bool, x = .bl w9 := by
        match i, ex with
        | 0, ex => exact ⟨false, (Option.some.inj ex).symm⟩
        | 1, ex => exact ⟨true, (Option.some.inj ex).symm⟩
      refine ⟨.ref a, rfl, .ref L, rfl, .ref p, rfl, p, 12, rfl, k.2, by omega, by omega, fun i0 H3 i00 i01 dd ff => ?_⟩
      have kd := dsJ.trans (k.trans dd)
      have hL3 := kd.1 _ _ qL.symm hL
      obtain ⟨v, dv, atv, Dv, mem⟩ := odd_at (dpAll_grow (offP_drawn kd) hds) i00 i01 (by rw [lus]; rfl)
      obtain ⟨bad1, bad2⟩ := bad dv mem
      have hA3' := hA.drawn hP ((d08.trans d9).trans kd)
      refine ⟨L, us, i0, v, rfl, rfl, .inl (.inl hL3), atv, .bl w9, rfl, a, v, Ta, dv, w9, rfl, hA3', ok, Dv, bad2, fun _ u H4 s4 hu => ?_, fun is _ z => absurd (bad1.symm.trans (em ▸ z)) (by decide)⟩
      refine ⟨small' (by simp), fun M nM => ?_⟩
      have sM := same_new (o := .lst [.str "not usable", .str "row"]) nM
      exact ⟨u, .ref M, noD "row", rfl, dp_grow sM hu, no_at upd_same, ok_no _, fun H5 s5 => ⟨true, rfl, if_ff ⟨_, rfl, (((k.trans dd).same s4).same sM).same s5⟩⟩⟩
    · obtain ⟨y6, rfl, k⟩ := h
      exact q H' ((d08.trans dJ).trans k)
end
end K5
set_option Elab.async false
set_option linter.all false
set_option maxRecDepth 100000
set_option maxHeartbeats 4000000
namespace K5
open PySem PySem.Spec PyProof.Rows L2 Ver
theorem tabs_drawn {T : List (Addr × Str)} {p : Addr} {H H' : Hp} (hp : Pool H p) (d : Drawn p H H') (t : LamX.Tabs T H) : LamX.Tabs T H' := fun x hx => by
  obtain ⟨ps, h1, h2, h3⟩ := t x hx
  obtain ⟨ns, _, _, e⟩ := hp
  refine ⟨ps, d.1 _ _ (fun z => ?_) h1, h2, fun pos cv hc => ?_⟩
  · rw [z, e] at h1
    cases h1
  · obtain ⟨c, e1, e2⟩ := h3 pos cv hc
    refine ⟨c, e1, d.1 _ _ (fun z => ?_) e2⟩
    rw [z, e] at e2
    have e3 := Option.some.inj e2
    unfold LamX.CodeO at e3
    cases e3
theorem pool_extN {p : Addr} {H H' : Hp} (e : LamX.ExtN H H') (hp : Pool H p) : Pool H' p := by
  obtain ⟨ns, a, b, c⟩ := hp
  exact ⟨ns, a, b, e _ _ c fun ps z => by cases z⟩
mutual
def tupD : PyData → Bool
  | .tuple ds => tupAll ds
  | .list _ => false
  | .dict _ => false
  | .none => true
  | .bool _ => true
  | .int _ => true
  | .str _ => true
def tupAll : List PyData → Bool
  | [] => true
  | d :: ds => tupD d && tupAll ds
end
theorem tupAll_map {α : Type} {f : α → PyData} (h : ∀ x, tupD (f x) = true) : ∀ l : List α, tupAll (l.map f) = true
  | [] => by rw [List.map_nil, tupAll]
  | x :: l => by rw [List.map_cons, tupAll, h x, tupAll_map h l]; rfl
theorem tup_sp (T : Ta) (P : List Pl) (A : List A4) : tupD (spD T P A) = true := by
  have h1 : ∀ p : Pl, tupD (plD p) = true := fun p => by simp [plD, tupD, tupAll]
  have h2 : ∀ k : Nat, tupD (PyData.int (k : Int)) = true := fun k => by simp [tupD]
  have h3 : ∀ a : A4, tupD (a4D a) = true := fun a => by simp [a4D, tupD, tupAll]
  simp [spD, tupD, tupAll, tupAll_map h1, tupAll_map h2, tupAll_map h3]
mutual
theorem dp_drawn {K : PySem.W.Frag} {p : Addr} {H H' : Hp} (hp : Pool H p) (e : Drawn p H H') : ∀ {d : PyData} {v : V}, tupD d = true → Dp K H v d → Dp K H' v d
  | .none, _, _, h => by cases h; exact .non
  | .bool b, _, _, h => by cases h; exact .bl b
  | .int i, _, _, h => by cases h; exact .int i
  | .str x, _, _, h => by cases h; exact .str x
  | .list ds, _, t, h => by rw [tupD] at t; cases t
  | .tuple ds, _, t, h => by
    rw [tupD] at t
    cases h with
    | tup hs ha => exact .tup (seqT_drawn hp e hs) (dpAll_drawn hp e t ha)
  | .dict _, _, _, h => by cases h
theorem dpAll_drawn {K : PySem.W.Frag} {p : Addr} {H H' : Hp} (hp : Pool H p) (e : Drawn p H H') : ∀ {ds : List PyData} {vs : List V}, tupAll ds = true → DpAll K H vs ds → DpAll K H' vs ds
  | [], _, _, h => by cases h; exact .nil
  | d :: ds, _, t, h => by
    rw [tupAll, Bool.and_eq_true] at t
    cases h with
    | cons h1 h2 => exact .cons (dp_drawn hp e t.1 h1) (dpAll_drawn hp e t.2 h2)
end
theorem begL_sum (ts : List Str) : (begL ts).length = sumL ts := by
  unfold begL sumL
  rw [List.length_flatMap]
  congr 1
  refine List.map_congr_left fun z _ => ?_
  rw [List.length_map, List.length_range]
section
variable {P : Program} {w : World} {K : PySem.W.Frag} {mg : Str → Option Value} {base : Heap}
def sp_law (K : PySem.W.Frag) (TS : List (Addr × Str)) : Sp := fun vs H Q _ => ∃ (a : Addr) (ns : List Int), vs = [.ref a] ∧ SqL K H a (ns.map V.int) ∧ ns.length ≤ 63 ∧ LamX.Tabs TS H ∧ ∀ H', Q (.bl true) H'
theorem ok_law {cc cP cd cS : Addr} (T : Tx K mg) (TB : Tb T base cc cP cd cS) : FnOk P w K mg base CX0 9 T.f_law T.d_law ["script"] (sp_law K (TT cP cS)) := by
  refine T.F_law.ok sc_law (fun vs H Q E h => ?_) (fun cdv A outer s H vs Q E hr h => ?_)
  · obtain ⟨a, ns, rfl, _⟩ := h; rfl
  · obtain ⟨a, ns, rfl, hS, h63, hB, q⟩ := h
    refine ⟨_, (pss_cons (ps_set (i := 1) sc_law.nd rfl (Or.inl rfl) (pe_call (ok__law_pool T) (hr.mono (by decide)) rfl T.g__law_pool T.F__law_pool.kp T.b__law_pool .nil pass0 (pa_cons (pv 0) pa_nil)))
    (C8.pss_cut (ps_set (i := 2) sc_law.nd rfl (Or.inl rfl) (pe_ifExp (pt_cmpR op_eq (pe_call (ok__law_pick T) (hr.mono (by decide)) rfl T.g__law_pick T.F__law_pick.kp T.b__law_pick .nil pass0 (pa_cons (pv 1) (pa_cons pe_int pa_nil))) pe_int (nomark _)) pe_str pe_str))
    (pss_cons (ps_set (i := 3) sc_law.nd rfl (Or.inl rfl) (pe_call (ok__law_drawn_tokens T) (hr.mono (by decide)) rfl T.g__law_drawn_tokens T.F__law_drawn_tokens.kp T.b__law_drawn_tokens .nil pass0 (pa_cons (pv 1) (pa_cons (pv 2) pa_nil))))
    (pss_cons (ps_set (i := 4) sc_law.nd rfl (Or.inl rfl) (pe_call (ok__law_drawn_book T) (hr.mono (by decide)) rfl T.g__law_drawn_book T.F__law_drawn_book.kp T.b__law_drawn_book .nil pass0 (pa_cons (pv 1) (pa_cons (pv 3) pa_nil))))
    (pss_cons (ps_set (i := 5) sc_law.nd rfl (Or.inl rfl) (pe_call (ok__law_drawn_begun T) (hr.mono (by decide)) rfl T.g__law_drawn_begun T.F__law_drawn_begun.kp T.b__law_drawn_begun .nil pass0 (pa_cons (pv 1) (pa_cons (pv 3) (pa_cons (pv 2) pa_nil)))))
    (pss_cons (ps_set (i := 6) sc_law.nd rfl (Or.inl rfl) (pv 5))
    (C8.pss_cut (ps_if (pt_cmpR op_eq (pe_call (ok__law_pick T) (hr.mono (by decide)) rfl T.g__law_pick T.F__law_pick.kp T.b__law_pick .nil pass0 (pa_cons (pv 1) (pa_cons pe_int pa_nil))) pe_int (nomark _)) (pss_one (ps_set (i := 6) sc_law.nd rfl (Or.inl rfl) (pe_call (ok__law_drawn_begun T) (hr.mono (by decide)) rfl T.g__law_drawn_begun T.F__law_drawn_begun.kp T.b__law_drawn_begun .nil pass0 (pa_cons (pv 1) (pa_cons (pv 3) (pa_cons (pv 2) pa_nil)))))) pss_nil)
    (pss_cons (ps_set (i := 7) sc_law.nd rfl (Or.inl rfl) (pe_tup (pa_cons (pv 3) (pa_cons (pv 4) (pa_cons (pv 5) (pa_cons pe_str pa_nil))))))
    (pss_cons (ps_set (i := 8) sc_law.nd rfl (Or.inl rfl) (pe_call (ok__law_due T) (hr.mono (by decide)) rfl T.g__law_due T.F__law_due.kp T.b__law_due .nil pass0 (pa_cons (pv 7) pa_nil)))
    (pss_cons (ps_if (PW.pt (pw_or (pt_not (pt_val (pe_call (ok__law_speller_right T TB) (hr.mono (by decide)) rfl T.g__law_speller_right T.F__law_speller_right.kp T.b__law_speller_right .nil pass0 (pa_cons (pv 7) (pa_cons (pv 8) pa_nil))))) (pw_or1 (pt_not (pt_val (pe_call (ok__law_rows_right T) hr rfl T.g__law_rows_right T.F__law_rows_right.kp T.b__law_rows_right .nil pass0 (pa_cons (pv 1) (pa_cons (pv 7) pa_nil)))))))) (pss_one (ps_ret pe_bl)) pss_nil)
    (pss_cons (ps_set (i := 9) sc_law.nd rfl (Or.inl rfl) (pe_tup (pa_cons (pv 3) (pa_cons (pv 4) (pa_cons (pv 6) (pa_cons pe_str pa_nil))))))
    (pss_cons (ps_if (PW.pt (pw_or (pt_not (pt_val (pe_call (ok__law_speller_right T TB) (hr.mono (by decide)) rfl T.g__law_speller_right T.F__law_speller_right.kp T.b__law_speller_right .nil pass0 (pa_cons (pv 9) (pa_cons (pe_call (ok__law_due T) (hr.mono (by decide)) rfl T.g__law_due T.F__law_due.kp T.b__law_due .nil pass0 (pa_cons (pv 9) pa_nil)) pa_nil))))) (pw_or1 (pt_not (pt_val (pe_call (ok__law_rows_right T) hr rfl T.g__law_rows_right T.F__law_rows_right.kp T.b__law_rows_right .nil pass0 (pa_cons (pv 1) (pa_cons (pv 9) pa_nil)))))))) (pss_one (ps_ret pe_bl)) pss_nil)
    (pss_one (ps_ret (pe_call (ok__law_same T 5) (hr.mono (by decide)) rfl T.g__law_same T.F__law_same.kp T.b__law_same .nil pass0 (pa_cons (pe_callKw (ok_speller T TB) (hr.mono (by decide)) rfl T.g_speller T.F_speller.kp T.k_speller (fun _ => passAny0) (pk_cons pe_str (pk_cons (pv 5) (pk_cons (pv 4) (pk_cons (pv 3) pk_nil))))) (pa_cons (pv 8) pa_nil))))))))))))))))), ?_⟩
    refine ⟨.ref a, rfl, a, ns, rfl, hS, h63, fun p H1 s1 hP => ?_⟩
    have b1 := hB.ext s1
    refine ⟨fun σ' H' => ∃ sg, (sg = abS ∨ sg = abcS) ∧ σ' = [some (.ref a), some (.ref p), some (.str sg), none, none, none, none, none, none, none] ∧ Drawn p H1 H', ?_, fun σ' H2 h => ?_⟩
    · refine ⟨.ref p, rfl, p, 2, rfl, hP, by decide, by decide, fun r0 H2 _ _ d2 f2 => ⟨rfl, _, rfl, ?_⟩⟩
      refine ite2 (fun _ => ⟨abcS, .inr rfl, rfl, d2⟩) (fun _ => ⟨abS, .inl rfl, rfl, d2⟩)
    obtain ⟨sg, hsg, rfl, d2⟩ := h
    have b2 := tabs_drawn hP d2 b1
    refine ⟨.ref p, rfl, .str sg, rfl, p, sg, rfl, hsg, d2.2, fun t ts H3 tk d3 ht3 => ?_⟩
    have b3 := tabs_drawn d2.2 d3 b2
    refine ⟨.ref p, rfl, .ref t, rfl, p, t, ts, rfl, d3.2, tk, .inl (.inl ht3), fun b n fin tab H4 d4 hB4 n1 nb tl hrow fl => ?_⟩
    have b4 := tabs_drawn d3.2 d4 b3
    have ht4 := tup_drawn d3.2 d4 ht3
    refine ⟨.ref p, rfl, .ref t, rfl, .str sg, rfl, p, t, ts, sg, rfl, hsg, d4.2, tk, .inl (.inl ht4), fun g H5 d5 lg => ?_⟩
    have b5 := tabs_drawn d4.2 d5 b4
    have ht5 := tup_drawn d4.2 d5 ht4
    have hB5 := hB4.drawn d4.2 d5
    refine ⟨.str g, rfl, ?_⟩
    have l4 := tk.four
    have okT : ∀ (g : Str) (hl : Bool), g.length ≤ 24 → (⟨ts, n, fin, tab, g, hl⟩ : K5.Ta).Ok := fun g hl hg => ⟨n1, tl, hrow, tk.one, Nat.le_succ_of_le l4, tk.some, tk.nd, Nat.le_trans hg (by decide)⟩
    have mostT : ∀ (g : Str) (hl : Bool), g.length ≤ 24 → (⟨ts, n, fin, tab, g, hl⟩ : K5.Ta).most ≤ (g.length + 1) * n * 60 ∧ (⟨ts, n, fin, tab, g, hl⟩ : K5.Ta).most ≤ 20000 := fun g hl hg => by
      have sm := tk.sum
      have hS : n * sumL ts ≤ 108 := by
        rcases nb with h | ⟨h, h2⟩
        · exact Nat.le_trans (Nat.mul_le_mul h sm) (by decide)
        · exact Nat.le_trans (Nat.mul_le_mul h (show sumL ts ≤ 4 by omega)) (by decide)
      have e : (⟨ts, n, fin, tab, g, hl⟩ : K5.Ta).most = (g.length + 1) * (n * sumL ts) := by
        rw [← begL_sum]
        rfl
      rw [e]
      refine ⟨?_, Nat.le_trans (Nat.mul_le_mul (show g.length + 1 ≤ 25 by omega) hS) (by decide)⟩
      rw [← Nat.mul_assoc]
      exact Nat.mul_le_mul_left _ (by omega)
    refine ⟨fun σ' H' => ∃ g2 : Str, g2.length ≤ 24 ∧ σ' = [some (.ref a), some (.ref p), some (.str sg), some (.ref t), some (.ref b), some (.str g), some (.str g2), none, none, none] ∧ Drawn p H5 H', ?_, fun σ' H6 h => ?_⟩
    · refine ⟨.ref p, rfl, p, 2, rfl, d5.2, by decide, by decide, fun r0 H6 _ _ d6 f6 => ⟨rfl, _, rfl, ?_⟩⟩
      refine ite2 (fun _ => ?_) (fun _ => ?_)
      · refine ⟨.ref p, rfl, .ref t, rfl, .str sg, rfl, p, t, ts, sg, rfl, hsg, d6.2, tk, .inl (.inl (tup_drawn d5.2 d6 ht5)), fun g2 H7 d7 lg2 => ?_⟩
        exact ⟨g2, lg2, rfl, d6.trans d7⟩
      · exact ⟨g, lg, rfl, d6⟩
    obtain ⟨g2, lg2, rfl, d6⟩ := h
    have b6 := tabs_drawn d5.2 d6 b5
    have ht6 := tup_drawn d5.2 d6 ht5
    have hB6 := hB5.drawn d5.2 d6
    refine ⟨.ref t, rfl, .ref b, rfl, .str g, rfl, small' (by simp), fun A nA => ?_⟩
    have sA := same_new (o := .tup [V.ref t, V.ref b, V.str g, V.str "healed"]) nA
    have hA : (upd H6 A (.tup [V.ref t, V.ref b, V.str g, V.str "healed"])) A = some (.tup [V.ref t, V.ref b, V.str g, V.str "healed"]) := upd_same
    have hP7 := (Drawn.refl d6.2).same sA |>.2
    have b7 := b6.ext sA
    have ht7 := sA _ _ ht6
    have hB7 := hB6.grow sA
    generalize upd H6 A (.tup [V.ref t, V.ref b, V.str g, V.str "healed"]) = H7 at hA hP7 b7 ht7 hB7 ⊢
    have k7 : TaskAt K H7 A ⟨ts, n, fin, tab, g, true⟩ := ⟨t, b, .inl (.inl hA), .inl (.inl ht7), hB7⟩
    obtain ⟨m1, m2⟩ := mostT g true lg
    refine ⟨.ref A, rfl, A, ⟨ts, n, fin, tab, g, true⟩, rfl, k7, okT g true lg, tk.low, m1, m2, Nat.le_trans fl (by decide), fun v H8 P1 A1 s8 ips ias lP lA hv => ?_⟩
    have hP8 := (Drawn.refl hP7).same s8 |>.2
    have b8 := b7.ext s8
    have ht8 := s8 _ _ ht7
    have hB8 := hB7.grow s8
    have k8 := k7.grow s8
    refine ⟨.ref A, rfl, v, rfl, A, v, ⟨ts, n, fin, tab, g, true⟩, P1, A1, rfl, k8, okT g true lg, m2, b8, hv, ips, ias, lP, lA, fun H9 e9 b9 => ⟨true, rfl, if_ff ?_⟩⟩
    have hP9 := pool_extN e9 hP8
    have ht9 : H9 t = some (.tup (ts.map V.str)) := e9 _ _ ht8 fun ps z => by cases z
    have hB9 := hB8.ext e9
    have k9 := k8.ext e9
    have hv9 := dp_ext e9 hv
    refine ⟨.ref p, rfl, .ref A, rfl, p, A, ⟨ts, n, fin, tab, g, true⟩, rfl, hP9, k9, okT g true lg, l4, fun H10 d10 => ⟨true, rfl, if_ff ?_⟩⟩
    have b10 := tabs_drawn hP9 d10 b9
    have ht10 := tup_drawn hP9 d10 ht9
    have hB10 := hB9.drawn hP9 d10
    have hv10 := dp_drawn hP9 d10 (tup_sp _ _ _) hv9
    refine ⟨.ref t, rfl, .ref b, rfl, .str g2, rfl, small' (by simp), fun A' nA' => ?_⟩
    have sA' := same_new (o := .tup [V.ref t, V.ref b, V.str g2, V.str "behind"]) nA'
    have hA' : (upd H10 A' (.tup [V.ref t, V.ref b, V.str g2, V.str "behind"])) A' = some (.tup [V.ref t, V.ref b, V.str g2, V.str "behind"]) := upd_same
    have hP11 := (Drawn.refl d10.2).same sA' |>.2
    have b11 := b10.ext sA'
    have ht11 := sA' _ _ ht10
    have hB11 := hB10.grow sA'
    have hv11 := dp_grow sA' hv10
    generalize upd H10 A' (.tup [V.ref t, V.ref b, V.str g2, V.str "behind"]) = H11 at hA' hP11 b11 ht11 hB11 hv11 ⊢
    have k11 : TaskAt K H11 A' ⟨ts, n, fin, tab, g2, false⟩ := ⟨t, b, .inl (.inl hA'), .inl (.inl ht11), hB11⟩
    obtain ⟨m3, m4⟩ := mostT g2 false lg2
    refine ⟨.ref A', rfl, .ref A', rfl, A', ⟨ts, n, fin, tab, g2, false⟩, rfl, k11, okT g2 false lg2, tk.low, m3, m4, Nat.le_trans fl (by decide), fun v2 H12 P2 A2 s12 ips2 ias2 lP2 lA2 hv2 => ?_⟩
    have hP12 := (Drawn.refl hP11).same s12 |>.2
    have k12 := k11.grow s12
    have hv12 := dp_grow s12 hv11
    refine ⟨A', v2, ⟨ts, n, fin, tab, g2, false⟩, P2, A2, rfl, k12, okT g2 false lg2, m4, b11.ext s12, hv2, ips2, ias2, lP2, lA2, fun H13 e13 b13 => ⟨true, rfl, if_ff ?_⟩⟩
    have hP13 := pool_extN e13 hP12
    have ht13 : H13 t = some (.tup (ts.map V.str)) := e13 _ _ (s12 _ _ ht11) fun ps z => by cases z
    have hB13 := (hB11.grow s12).ext e13
    have hv13 := dp_ext e13 hv12
    refine ⟨.ref p, rfl, .ref A', rfl, p, A', ⟨ts, n, fin, tab, g2, false⟩, rfl, hP13, k12.ext e13, okT g2 false lg2, l4, fun H14 d14 => ⟨true, rfl, if_ff ?_⟩⟩
    have b14 := tabs_drawn hP13 d14 b13
    have ht14 := tup_drawn hP13 d14 ht13
    have hB14 := hB13.drawn hP13 d14
    have hv14 := dp_drawn hP13 d14 (tup_sp _ _ _) hv13
    refine ⟨.str g, rfl, .ref b, rfl, .ref t, rfl, rfl, t, b, ⟨ts, n, fin, tab, g, true⟩, rfl, .inl (.inl ht14), hB14, okT g true lg, m2, b14, fun v3 H15 P3 A3 e15 b15 ips3 ias3 lP3 lA3 hv3 => ?_⟩
    have e1 := ps_one ips3 ips
    subst e1
    have e2 := as_one ias3 ias
    subst e2
    exact ⟨v, rfl, v3, v, _, rfl, hv3, dp_ext e15 hv14, ok_sp lP3 lA3, fun H16 _ => q H16⟩
end
end K5
set_option Elab.async false
set_option linter.all false
set_option maxRecDepth 100000
set_option maxHeartbeats 8000000
namespace K5
open PySem PySem.Spec PyProof.Rows L2 Ver
theorem exm_self {K : PySem.W.Frag} {S : Addr} (h1 : PySem.W.subIn K (.ref S) (.type "BaseException") = some true) (h2 : PySem.W.isClsIn K S = true) (h3 : PySem.W.typeIn K (.ref S) = some (.type "type")) (h4 : PySem.W.subIn K (.ref S) (.ref S) = some true) :
    PySem.W.exmOne K (.ref S) (.ref S) = some true := by
  have e1 : (PySem.W.subIn K (.ref S) (.type "BaseException") == some true) = true := by rw [h1] <;> rfl
  have e2 : ((PySem.W.clsIn K S).isSome && PySem.W.typeIn K (.ref S) == some (.type "type")) = true := by
    have h2' : (PySem.W.clsIn K S).isSome = true := h2
    rw [h2', h3] <;> rfl
  show (if (PySem.W.subIn K (.ref S) (.type "BaseException") == some true) = true then (if ((PySem.W.clsIn K S).isSome && PySem.W.typeIn K (.ref S) == some (.type "type")) = true then PySem.W.subIn K (.ref S) (.ref S) else none) else none) = some true
  rw [if_pos e1, if_pos e2]
  exact h4
theorem exm_other {K : PySem.W.Frag} {S D : Addr} (h1 : PySem.W.subIn K (.ref S) (.type "BaseException") = some true) (h2 : PySem.W.isClsIn K S = true) (h3 : PySem.W.typeIn K (.ref S) = some (.type "type")) (h4 : PySem.W.subIn K (.ref D) (.ref S) = some false) :
    PySem.W.exmOne K (.ref D) (.ref S) = some false := by
  have e1 : (PySem.W.subIn K (.ref S) (.type "BaseException") == some true) = true := by rw [h1] <;> rfl
  have e2 : ((PySem.W.clsIn K S).isSome && PySem.W.typeIn K (.ref S) == some (.type "type")) = true := by
    have h2' : (PySem.W.clsIn K S).isSome = true := h2
    rw [h2', h3] <;> rfl
  show (if (PySem.W.subIn K (.ref S) (.type "BaseException") == some true) = true then (if ((PySem.W.clsIn K S).isSome && PySem.W.typeIn K (.ref S) == some (.type "type")) = true then PySem.W.subIn K (.ref D) (.ref S) else none) else none) = some false
  rw [if_pos e1, if_pos e2]
  exact h4

theorem all_mk {l : PySem.W.OpenLaw} {w : World} {K : PySem.W.Frag} {h : Heap} {mg : Str → Option Value} {fa C C1 C2 fI cc cP cd cS : Addr} (X : K.In h) (G : h.Ns mainGlobals mg) (hfa : mg "law" = some (.ref fa))
    {nm qn : Str} {N : Addr} {bs : List Value} {sn : List Str} {sub : List Value} {ab : Bool} {col : Option Bool} {dd : Option Addr} {m0 m1 m2 m3 m5 : Option Value} {ocI dcI pmI cdI ctI : Value} {odI anI : Option Addr} {slI : Array (Option Value)}
    {f0 f1 f2 f3 f4 f5 f6 f7 f8 f9 f10 f11 f12 f13 f14 f15 f16 f17 f18 f19 f20 f21 f22 f23 f24 f25 f26 f27 f28 f29 f30 f31 : Addr}
    {od0 an0 od1 an1 od2 an2 od3 an3 od4 an4 od5 an5 od6 an6 od7 an7 od8 an8 od9 an9 od10 an10 od11 an11 od12 an12 od13 an13 od14 an14 od15 an15 od16 an16 od17 an17 od18 an18 od19 an19 od20 an20 od21 an21 od22 an22 od23 an23 od24 an24 od25 an25 od26 an26 od27 an27 od28 an28 od29 an29 od30 an30 od31 an31 : Option Addr}
    {sl0 sl1 sl2 sl3 sl4 sl5 sl6 sl7 sl8 sl9 sl10 sl11 sl12 sl13 sl14 sl15 sl16 sl17 sl18 sl19 sl20 sl21 sl22 sl23 sl24 sl25 sl26 sl27 sl28 sl29 sl30 sl31 : Array (Option Value)}
    {oc0 kV0 dc0 pm0 cd0 ct0 oc1 kV1 dc1 pm1 cd1 ct1 oc2 kV2 dc2 pm2 cd2 ct2 oc3 kV3 dc3 pm3 cd3 ct3 oc4 kV4 dc4 pm4 cd4 ct4 oc5 kV5 dc5 pm5 cd5 ct5 oc6 kV6 dc6 pm6 cd6 ct6 oc7 kV7 dc7 pm7 ct7 oc8 kV8 dc8 pm8 cd8 ct8 oc9 kV9 dc9 pm9 cd9 ct9 oc10 kV10 dc10 pm10 cd10 ct10 oc11 kV11 dc11 pm11 ct11 oc12 kV12 dc12 pm12 cd12 ct12 oc13 kV13 dc13 pm13 cd13 ct13 oc14 kV14 dc14 pm14 cd14 ct14 oc15 kV15 dc15 pm15 cd15 ct15 oc16 kV16 dc16 pm16 cd16 ct16 oc17 kV17 dc17 pm17 cd17 ct17 oc18 kV18 dc18 pm18 cd18 ct18 oc19 kV19 dc19 pm19 cd19 ct19 oc20 kV20 dc20 pm20 cd20 ct20 oc21 kV21 dc21 pm21 cd21 ct21 oc22 kV22 dc22 pm22 cd22 ct22 oc23 kV23 dc23 pm23 cd23 ct23 oc24 kV24 dc24 pm24 cd24 ct24 oc25 kV25 dc25 pm25 cd25 ct25 oc26 kV26 dc26 pm26 cd26 ct26 oc27 kV27 dc27 pm27 cd27 ct27 oc28 kV28 dc28 pm28 cd28 ct28 oc29 kV29 dc29 pm29 cd29 ct29 oc30 kV30 dc30 pm30 cd30 ct30 oc31 kV31 dc31 pm31 cd31 ct31 : Value}
    (aC : PySem.W.nsIn K mainGlobals "NotUsable" = some (some (.ref C)))
    (xL : K.lookup C = some (excClassObj nm qn C N bs [.ref C2, .ref C1, .type "ValueError", .type "Exception", .type "BaseException", .type "object"] true sn sub ab col dd m0 m1 m2 m3 m5 "ValueError.__new__"))
    (sa : PySem.W.findIn K (.ref C) "__setattr__" = some (some (.builtin "object.__setattr__"))) (ga : PySem.W.findIn K (.ref C) "__getattribute__" = some (some (.builtin "BaseException.__getattribute__"))) (gg : PySem.W.findIn K (.ref C) "__getattr__" = some none) (nb : PySem.W.findIn K (.ref C) "word" = some none)
    (iC : PySem.W.findIn K (.ref C) "__init__" = some (some (.ref fI))) (tI : PySem.W.typeIn K (.ref fI) = some (.type "function"))
    (lI : K.lookup fI = some ⟨ocI, odI, .func (PySem.W.fnOf "__init__" "NotUsable.__init__" (PySem.NUsX.iA ⟨8, 17, 8, 21⟩ ⟨8, 23, 8, 27⟩) (PySem.NUsX.iB ⟨9, 8, 9, 12⟩ ⟨9, 8, 9, 17⟩ ⟨9, 20, 9, 24⟩ ⟨9, 8, 9, 24⟩) PySem.NUsX.iS .none .none dcI pmI anI cdI ctI), slI⟩) (cI : PySem.W.codeIn K cdI "NotUsable.__init__" = true)
    (kC : PySem.W.keepIn K (.ref C) = true) (eC : PySem.W.subIn K (.ref C) (.type "BaseException") = some true) (tC : PySem.W.typeIn K (.ref C) = some (.type "type")) (hC : PySem.W.hasDictIn K C = true) (clC : PySem.W.isClsIn K C = true) (sC : PySem.W.subIn K (.ref C) (.ref C) = some true)
    (a0 : PySem.W.nsIn K mainGlobals "is_int" = some (some (.ref f0))) (l0 : K.lookup f0 = some ⟨oc0, od0, .func (PySem.W.fnOf "is_int" "is_int" (defArgs s_is_int) (defBody s_is_int) (defScope s_is_int) .none kV0 dc0 pm0 an0 cd0 ct0), sl0⟩) (c0 : PySem.W.codeIn K cd0 "is_int" = true) (k0 : PySem.W.keepIn K (.ref f0) = true)
    (a1 : PySem.W.nsIn K mainGlobals "is_number" = some (some (.ref f1))) (l1 : K.lookup f1 = some ⟨oc1, od1, .func (PySem.W.fnOf "is_number" "is_number" (defArgs s_is_number) (defBody s_is_number) (defScope s_is_number) .none kV1 dc1 pm1 an1 cd1 ct1), sl1⟩) (c1 : PySem.W.codeIn K cd1 "is_number" = true) (k1 : PySem.W.keepIn K (.ref f1) = true)
    (a2 : PySem.W.nsIn K mainGlobals "is_below" = some (some (.ref f2))) (l2 : K.lookup f2 = some ⟨oc2, od2, .func (PySem.W.fnOf "is_below" "is_below" (defArgs s_is_below) (defBody s_is_below) (defScope s_is_below) .none kV2 dc2 pm2 an2 cd2 ct2), sl2⟩) (c2 : PySem.W.codeIn K cd2 "is_below" = true) (k2 : PySem.W.keepIn K (.ref f2) = true)
    (a3 : PySem.W.nsIn K mainGlobals "are_below" = some (some (.ref f3))) (l3 : K.lookup f3 = some ⟨oc3, od3, .func (PySem.W.fnOf "are_below" "are_below" (defArgs s_are_below) (defBody s_are_below) (defScope s_are_below) .none kV3 dc3 pm3 an3 cd3 ct3), sl3⟩) (c3 : PySem.W.codeIn K cd3 "are_below" = true) (k3 : PySem.W.keepIn K (.ref f3) = true)
    (a4 : PySem.W.nsIn K mainGlobals "ask_row" = some (some (.ref f4))) (l4 : K.lookup f4 = some ⟨oc4, od4, .func (PySem.W.fnOf "ask_row" "ask_row" (defArgs s_ask_row) (defBody s_ask_row) (defScope s_ask_row) .none kV4 dc4 pm4 an4 cd4 ct4), sl4⟩) (c4 : PySem.W.codeIn K cd4 "ask_row" = true) (k4 : PySem.W.keepIn K (.ref f4) = true)
    (a5 : PySem.W.nsIn K mainGlobals "state_after" = some (some (.ref f5))) (l5 : K.lookup f5 = some ⟨oc5, od5, .func (PySem.W.fnOf "state_after" "state_after" (defArgs s_state_after) (defBody s_state_after) (defScope s_state_after) .none kV5 dc5 pm5 an5 cd5 ct5), sl5⟩) (c5 : PySem.W.codeIn K cd5 "state_after" = true) (k5 : PySem.W.keepIn K (.ref f5) = true)
    (a6 : PySem.W.nsIn K mainGlobals "joined" = some (some (.ref f6))) (l6 : K.lookup f6 = some ⟨oc6, od6, .func (PySem.W.fnOf "joined" "joined" (defArgs s_joined) (defBody s_joined) (defScope s_joined) .none kV6 dc6 pm6 an6 cd6 ct6), sl6⟩) (c6 : PySem.W.codeIn K cd6 "joined" = true) (k6 : PySem.W.keepIn K (.ref f6) = true)
    (a7 : PySem.W.nsIn K mainGlobals "by_length" = some (some (.ref f7))) (l7 : K.lookup f7 = some ⟨oc7, od7, .func (PySem.W.fnOf "by_length" "by_length" (defArgs s_by_length) (defBody s_by_length) (defScope s_by_length) .none kV7 dc7 pm7 an7 (Value.ref cc) ct7), sl7⟩) (c7 : PySem.W.codeIn K (Value.ref cc) "by_length" = true) (k7 : PySem.W.keepIn K (.ref f7) = true)
    (a8 : PySem.W.nsIn K mainGlobals "inner_texts" = some (some (.ref f8))) (l8 : K.lookup f8 = some ⟨oc8, od8, .func (PySem.W.fnOf "inner_texts" "inner_texts" (defArgs s_inner_texts) (defBody s_inner_texts) (defScope s_inner_texts) .none kV8 dc8 pm8 an8 cd8 ct8), sl8⟩) (c8 : PySem.W.codeIn K cd8 "inner_texts" = true) (k8 : PySem.W.keepIn K (.ref f8) = true)
    (a9 : PySem.W.nsIn K mainGlobals "token_numbers" = some (some (.ref f9))) (l9 : K.lookup f9 = some ⟨oc9, od9, .func (PySem.W.fnOf "token_numbers" "token_numbers" (defArgs s_token_numbers) (defBody s_token_numbers) (defScope s_token_numbers) .none kV9 dc9 pm9 an9 cd9 ct9), sl9⟩) (c9 : PySem.W.codeIn K cd9 "token_numbers" = true) (k9 : PySem.W.keepIn K (.ref f9) = true)
    (a10 : PySem.W.nsIn K mainGlobals "spelled_on" = some (some (.ref f10))) (l10 : K.lookup f10 = some ⟨oc10, od10, .func (PySem.W.fnOf "spelled_on" "spelled_on" (defArgs s_spelled_on) (defBody s_spelled_on) (defScope s_spelled_on) .none kV10 dc10 pm10 an10 cd10 ct10), sl10⟩) (c10 : PySem.W.codeIn K cd10 "spelled_on" = true) (k10 : PySem.W.keepIn K (.ref f10) = true)
    (a11 : PySem.W.nsIn K mainGlobals "speller" = some (some (.ref f11))) (l11 : K.lookup f11 = some ⟨oc11, od11, .func (PySem.W.fnOf "speller" "speller" (defArgs s_speller) (defBody s_speller) (defScope s_speller) .none kV11 dc11 pm11 an11 (Value.ref cd) ct11), sl11⟩) (c11 : PySem.W.codeIn K (Value.ref cd) "speller" = true) (k11 : PySem.W.keepIn K (.ref f11) = true)
    (a12 : PySem.W.nsIn K mainGlobals "_places_and_arcs" = some (some (.ref f12))) (l12 : K.lookup f12 = some ⟨oc12, od12, .func (PySem.W.fnOf "_places_and_arcs" "_places_and_arcs" (defArgs s__places_and_arcs) (defBody s__places_and_arcs) (defScope s__places_and_arcs) .none kV12 dc12 pm12 an12 cd12 ct12), sl12⟩) (c12 : PySem.W.codeIn K cd12 "_places_and_arcs" = true) (k12 : PySem.W.keepIn K (.ref f12) = true)
    (a13 : PySem.W.nsIn K mainGlobals "_arcs_from" = some (some (.ref f13))) (l13 : K.lookup f13 = some ⟨oc13, od13, .func (PySem.W.fnOf "_arcs_from" "_arcs_from" (defArgs s__arcs_from) (defBody s__arcs_from) (defScope s__arcs_from) .none kV13 dc13 pm13 an13 cd13 ct13), sl13⟩) (c13 : PySem.W.codeIn K cd13 "_arcs_from" = true) (k13 : PySem.W.keepIn K (.ref f13) = true)
    (a14 : PySem.W.nsIn K mainGlobals "_is_final" = some (some (.ref f14))) (l14 : K.lookup f14 = some ⟨oc14, od14, .func (PySem.W.fnOf "_is_final" "_is_final" (defArgs s__is_final) (defBody s__is_final) (defScope s__is_final) .none kV14 dc14 pm14 an14 cd14 ct14), sl14⟩) (c14 : PySem.W.codeIn K cd14 "_is_final" = true) (k14 : PySem.W.keepIn K (.ref f14) = true)
    (a15 : PySem.W.nsIn K mainGlobals "place_behind" = some (some (.ref f15))) (l15 : K.lookup f15 = some ⟨oc15, od15, .func (PySem.W.fnOf "place_behind" "place_behind" (defArgs s_place_behind) (defBody s_place_behind) (defScope s_place_behind) .none kV15 dc15 pm15 an15 cd15 ct15), sl15⟩) (c15 : PySem.W.codeIn K cd15 "place_behind" = true) (k15 : PySem.W.keepIn K (.ref f15) = true)
    (a16 : PySem.W.nsIn K mainGlobals "border_behind" = some (some (.ref f16))) (l16 : K.lookup f16 = some ⟨oc16, od16, .func (PySem.W.fnOf "border_behind" "border_behind" (defArgs s_border_behind) (defBody s_border_behind) (defScope s_border_behind) .none kV16 dc16 pm16 an16 cd16 ct16), sl16⟩) (c16 : PySem.W.codeIn K cd16 "border_behind" = true) (k16 : PySem.W.keepIn K (.ref f16) = true)
    (a17 : PySem.W.nsIn K mainGlobals "priced" = some (some (.ref f17))) (l17 : K.lookup f17 = some ⟨oc17, od17, .func (PySem.W.fnOf "priced" "priced" (defArgs s_priced) (defBody s_priced) (defScope s_priced) .none kV17 dc17 pm17 an17 cd17 ct17), sl17⟩) (c17 : PySem.W.codeIn K cd17 "priced" = true) (k17 : PySem.W.keepIn K (.ref f17) = true)
    (a18 : PySem.W.nsIn K mainGlobals "_law_pool" = some (some (.ref f18))) (l18 : K.lookup f18 = some ⟨oc18, od18, .func (PySem.W.fnOf "_law_pool" "_law_pool" (defArgs s__law_pool) (defBody s__law_pool) (defScope s__law_pool) .none kV18 dc18 pm18 an18 cd18 ct18), sl18⟩) (c18 : PySem.W.codeIn K cd18 "_law_pool" = true) (k18 : PySem.W.keepIn K (.ref f18) = true)
    (a19 : PySem.W.nsIn K mainGlobals "_law_pick" = some (some (.ref f19))) (l19 : K.lookup f19 = some ⟨oc19, od19, .func (PySem.W.fnOf "_law_pick" "_law_pick" (defArgs s__law_pick) (defBody s__law_pick) (defScope s__law_pick) .none kV19 dc19 pm19 an19 cd19 ct19), sl19⟩) (c19 : PySem.W.codeIn K cd19 "_law_pick" = true) (k19 : PySem.W.keepIn K (.ref f19) = true)
    (a20 : PySem.W.nsIn K mainGlobals "_law_same" = some (some (.ref f20))) (l20 : K.lookup f20 = some ⟨oc20, od20, .func (PySem.W.fnOf "_law_same" "_law_same" (defArgs s__law_same) (defBody s__law_same) (defScope s__law_same) .none kV20 dc20 pm20 an20 cd20 ct20), sl20⟩) (c20 : PySem.W.codeIn K cd20 "_law_same" = true) (k20 : PySem.W.keepIn K (.ref f20) = true)
    (a21 : PySem.W.nsIn K mainGlobals "_law_rows" = some (some (.ref f21))) (l21 : K.lookup f21 = some ⟨oc21, od21, .func (PySem.W.fnOf "_law_rows" "_law_rows" (defArgs s__law_rows) (defBody s__law_rows) (defScope s__law_rows) .none kV21 dc21 pm21 an21 cd21 ct21), sl21⟩) (c21 : PySem.W.codeIn K cd21 "_law_rows" = true) (k21 : PySem.W.keepIn K (.ref f21) = true)
    (a22 : PySem.W.nsIn K mainGlobals "_law_drawn_tokens" = some (some (.ref f22))) (l22 : K.lookup f22 = some ⟨oc22, od22, .func (PySem.W.fnOf "_law_drawn_tokens" "_law_drawn_tokens" (defArgs s__law_drawn_tokens) (defBody s__law_drawn_tokens) (defScope s__law_drawn_tokens) .none kV22 dc22 pm22 an22 cd22 ct22), sl22⟩) (c22 : PySem.W.codeIn K cd22 "_law_drawn_tokens" = true) (k22 : PySem.W.keepIn K (.ref f22) = true)
    (a23 : PySem.W.nsIn K mainGlobals "_law_drawn_book" = some (some (.ref f23))) (l23 : K.lookup f23 = some ⟨oc23, od23, .func (PySem.W.fnOf "_law_drawn_book" "_law_drawn_book" (defArgs s__law_drawn_book) (defBody s__law_drawn_book) (defScope s__law_drawn_book) .none kV23 dc23 pm23 an23 cd23 ct23), sl23⟩) (c23 : PySem.W.codeIn K cd23 "_law_drawn_book" = true) (k23 : PySem.W.keepIn K (.ref f23) = true)
    (a24 : PySem.W.nsIn K mainGlobals "_law_drawn_begun" = some (some (.ref f24))) (l24 : K.lookup f24 = some ⟨oc24, od24, .func (PySem.W.fnOf "_law_drawn_begun" "_law_drawn_begun" (defArgs s__law_drawn_begun) (defBody s__law_drawn_begun) (defScope s__law_drawn_begun) .none kV24 dc24 pm24 an24 cd24 ct24), sl24⟩) (c24 : PySem.W.codeIn K cd24 "_law_drawn_begun" = true) (k24 : PySem.W.keepIn K (.ref f24) = true)
    (a25 : PySem.W.nsIn K mainGlobals "_law_arcs" = some (some (.ref f25))) (l25 : K.lookup f25 = some ⟨oc25, od25, .func (PySem.W.fnOf "_law_arcs" "_law_arcs" (defArgs s__law_arcs) (defBody s__law_arcs) (defScope s__law_arcs) .none kV25 dc25 pm25 an25 cd25 ct25), sl25⟩) (c25 : PySem.W.codeIn K cd25 "_law_arcs" = true) (k25 : PySem.W.keepIn K (.ref f25) = true)
    (a26 : PySem.W.nsIn K mainGlobals "_law_due" = some (some (.ref f26))) (l26 : K.lookup f26 = some ⟨oc26, od26, .func (PySem.W.fnOf "_law_due" "_law_due" (defArgs s__law_due) (defBody s__law_due) (defScope s__law_due) .none kV26 dc26 pm26 an26 cd26 ct26), sl26⟩) (c26 : PySem.W.codeIn K cd26 "_law_due" = true) (k26 : PySem.W.keepIn K (.ref f26) = true)
    (a27 : PySem.W.nsIn K mainGlobals "_law_place" = some (some (.ref f27))) (l27 : K.lookup f27 = some ⟨oc27, od27, .func (PySem.W.fnOf "_law_place" "_law_place" (defArgs s__law_place) (defBody s__law_place) (defScope s__law_place) .none kV27 dc27 pm27 an27 cd27 ct27), sl27⟩) (c27 : PySem.W.codeIn K cd27 "_law_place" = true) (k27 : PySem.W.keepIn K (.ref f27) = true)
    (a28 : PySem.W.nsIn K mainGlobals "_law_place_told" = some (some (.ref f28))) (l28 : K.lookup f28 = some ⟨oc28, od28, .func (PySem.W.fnOf "_law_place_told" "_law_place_told" (defArgs s__law_place_told) (defBody s__law_place_told) (defScope s__law_place_told) .none kV28 dc28 pm28 an28 cd28 ct28), sl28⟩) (c28 : PySem.W.codeIn K cd28 "_law_place_told" = true) (k28 : PySem.W.keepIn K (.ref f28) = true)
    (a29 : PySem.W.nsIn K mainGlobals "_law_speller_right" = some (some (.ref f29))) (l29 : K.lookup f29 = some ⟨oc29, od29, .func (PySem.W.fnOf "_law_speller_right" "_law_speller_right" (defArgs s__law_speller_right) (defBody s__law_speller_right) (defScope s__law_speller_right) .none kV29 dc29 pm29 an29 cd29 ct29), sl29⟩) (c29 : PySem.W.codeIn K cd29 "_law_speller_right" = true) (k29 : PySem.W.keepIn K (.ref f29) = true)
    (a30 : PySem.W.nsIn K mainGlobals "_law_rows_right" = some (some (.ref f30))) (l30 : K.lookup f30 = some ⟨oc30, od30, .func (PySem.W.fnOf "_law_rows_right" "_law_rows_right" (defArgs s__law_rows_right) (defBody s__law_rows_right) (defScope s__law_rows_right) .none kV30 dc30 pm30 an30 cd30 ct30), sl30⟩) (c30 : PySem.W.codeIn K cd30 "_law_rows_right" = true) (k30 : PySem.W.keepIn K (.ref f30) = true)
    (a31 : PySem.W.nsIn K mainGlobals "law" = some (some (.ref f31))) (l31 : K.lookup f31 = some ⟨oc31, od31, .func (PySem.W.fnOf "law" "law" (defArgs s_law) (defBody s_law) (defScope s_law) .none kV31 dc31 pm31 an31 cd31 ct31), sl31⟩) (c31 : PySem.W.codeIn K cd31 "law" = true) (k31 : PySem.W.keepIn K (.ref f31) = true)
    (qROW_LIMIT : ∃ t, PySem.W.nsIn K mainGlobals "ROW_LIMIT" = some (some (.int (60) t)))
    (zall : PySem.W.nsIn K mainGlobals "all" = some none)
    (zbool : PySem.W.nsIn K mainGlobals "bool" = some none)
    (zenumerate : PySem.W.nsIn K mainGlobals "enumerate" = some none)
    (zint : PySem.W.nsIn K mainGlobals "int" = some none)
    (zisinstance : PySem.W.nsIn K mainGlobals "isinstance" = some none)
    (zlen : PySem.W.nsIn K mainGlobals "len" = some none)
    (zlist : PySem.W.nsIn K mainGlobals "list" = some none)
    (zmax : PySem.W.nsIn K mainGlobals "max" = some none)
    (zmin : PySem.W.nsIn K mainGlobals "min" = some none)
    (zrange : PySem.W.nsIn K mainGlobals "range" = some none)
    (zsorted : PySem.W.nsIn K mainGlobals "sorted" = some none)
    (zstr : PySem.W.nsIn K mainGlobals "str" = some none)
    (ztuple : PySem.W.nsIn K mainGlobals "tuple" = some none)
    (zzip : PySem.W.nsIn K mainGlobals "zip" = some none)
    (hT : h.get? cP = some { cls := .none, data := .fields #[] }) (nT : K.lookup cP = none) (hCd : PySem.W.codeHdIn K cc cP = true)
    (hT2 : h.get? cS = some { cls := .none, data := .fields #[] }) (nT2 : K.lookup cS = none) (hCd2 : PySem.W.codeHdIn K cd cS = true) (hNe : cP ≠ cS)
    : LamX.LawAtS l w K CX0 9 63 "script" mg fa h := by
  have e := hfa.symm.trans (PySem.W.mg_of X G a31)
  cases e
  have nus : PySem.NUsX.NUsTxt K mg C fI :=
    { gC := PySem.W.mg_of X G aC, cls := ⟨nm, qn, N, bs, _, sn, sub, ab, col, dd, m0, m1, m2, m3, m5, xL, by rfl⟩, sa := sa, ga := ga, gg := gg, noN := nb, iC := iC, tC := tI, kC := kC, exC := eC, tyC := tC, hdC := hC, te := exm_self eC clC tC sC,
      fn := ⟨_, _, _, _, _, _, _, _, _, _, _, _, _, _, lI, cI⟩ }
  have F0 := fun_mk (st := s_is_int) l0 c0 k0
  have F1 := fun_mk (st := s_is_number) l1 c1 k1
  have F2 := fun_mk (st := s_is_below) l2 c2 k2
  have F3 := fun_mk (st := s_are_below) l3 c3 k3
  have F4 := fun_mk (st := s_ask_row) l4 c4 k4
  have F5 := fun_mk (st := s_state_after) l5 c5 k5
  have F6 := fun_mk (st := s_joined) l6 c6 k6
  have F7 := fun_mk (st := s_by_length) l7 c7 k7
  have F8 := fun_mk (st := s_inner_texts) l8 c8 k8
  have F9 := fun_mk (st := s_token_numbers) l9 c9 k9
  have F10 := fun_mk (st := s_spelled_on) l10 c10 k10
  have F11 := fun_mk (st := s_speller) l11 c11 k11
  have F12 := fun_mk (st := s__places_and_arcs) l12 c12 k12
  have F13 := fun_mk (st := s__arcs_from) l13 c13 k13
  have F14 := fun_mk (st := s__is_final) l14 c14 k14
  have F15 := fun_mk (st := s_place_behind) l15 c15 k15
  have F16 := fun_mk (st := s_border_behind) l16 c16 k16
  have F17 := fun_mk (st := s_priced) l17 c17 k17
  have F18 := fun_mk (st := s__law_pool) l18 c18 k18
  have F19 := fun_mk (st := s__law_pick) l19 c19 k19
  have F20 := fun_mk (st := s__law_same) l20 c20 k20
  have F21 := fun_mk (st := s__law_rows) l21 c21 k21
  have F22 := fun_mk (st := s__law_drawn_tokens) l22 c22 k22
  have F23 := fun_mk (st := s__law_drawn_book) l23 c23 k23
  have F24 := fun_mk (st := s__law_drawn_begun) l24 c24 k24
  have F25 := fun_mk (st := s__law_arcs) l25 c25 k25
  have F26 := fun_mk (st := s__law_due) l26 c26 k26
  have F27 := fun_mk (st := s__law_place) l27 c27 k27
  have F28 := fun_mk (st := s__law_place_told) l28 c28 k28
  have F29 := fun_mk (st := s__law_speller_right) l29 c29 k29
  have F30 := fun_mk (st := s__law_rows_right) l30 c30 k30
  have F31 := fun_mk (st := s_law) l31 c31 k31
  let T : Tx K mg := {
    f_is_int := _, d_is_int := _, F_is_int := F0, g_is_int := PySem.W.mg_of X G a0, b_is_int := F0.binds (ps := ["thing"]) fun _ _ _ _ _ _ us hl => match us, hl with | [_], _ => rfl
    f_is_number := _, d_is_number := _, F_is_number := F1, g_is_number := PySem.W.mg_of X G a1, b_is_number := F1.binds (ps := ["thing"]) fun _ _ _ _ _ _ us hl => match us, hl with | [_], _ => rfl
    f_is_below := _, d_is_below := _, F_is_below := F2, g_is_below := PySem.W.mg_of X G a2, b_is_below := F2.binds (ps := ["thing", "bound"]) fun _ _ _ _ _ _ us hl => match us, hl with | [_, _], _ => rfl
    f_are_below := _, d_are_below := _, F_are_below := F3, g_are_below := PySem.W.mg_of X G a3, b_are_below := F3.binds (ps := ["thing", "bound"]) fun _ _ _ _ _ _ us hl => match us, hl with | [_, _], _ => rfl
    f_ask_row := _, d_ask_row := _, F_ask_row := F4, g_ask_row := PySem.W.mg_of X G a4, b_ask_row := F4.binds (ps := ["tokens", "row"]) fun _ _ _ _ _ _ us hl => match us, hl with | [_, _], _ => rfl
    f_state_after := _, d_state_after := _, F_state_after := F5, g_state_after := PySem.W.mg_of X G a5, b_state_after := F5.binds (ps := ["book", "row"]) fun _ _ _ _ _ _ us hl => match us, hl with | [_, _], _ => rfl
    f_joined := _, d_joined := _, F_joined := F6, g_joined := PySem.W.mg_of X G a6, b_joined := F6.binds (ps := ["tokens", "row"]) fun _ _ _ _ _ _ us hl => match us, hl with | [_, _], _ => rfl
    f_by_length := _, d_by_length := _, F_by_length := F7, g_by_length := PySem.W.mg_of X G a7, b_by_length := F7.binds (ps := ["things"]) fun _ _ _ _ _ _ us hl => match us, hl with | [_], _ => rfl
    f_inner_texts := _, d_inner_texts := _, F_inner_texts := F8, g_inner_texts := PySem.W.mg_of X G a8, b_inner_texts := F8.binds (ps := ["tokens"]) fun _ _ _ _ _ _ us hl => match us, hl with | [_], _ => rfl
    f_token_numbers := _, d_token_numbers := _, F_token_numbers := F9, g_token_numbers := PySem.W.mg_of X G a9, b_token_numbers := F9.binds (ps := ["tokens"]) fun _ _ _ _ _ _ us hl => match us, hl with | [_], _ => rfl
    f_spelled_on := _, d_spelled_on := _, F_spelled_on := F10, g_spelled_on := PySem.W.mg_of X G a10, b_spelled_on := F10.binds (ps := ["tokens"]) fun _ _ _ _ _ _ us hl => match us, hl with | [_], _ => rfl
    f_speller := _, d_speller := _, F_speller := F11, g_speller := PySem.W.mg_of X G a11, b_speller := F11.binds (ps := ["tokens", "book", "begun", "mode"]) fun _ _ _ _ _ _ us hl => match us, hl with | [_, _, _, _], _ => rfl
    f__places_and_arcs := _, d__places_and_arcs := _, F__places_and_arcs := F12, g__places_and_arcs := PySem.W.mg_of X G a12, b__places_and_arcs := F12.binds (ps := ["tokens", "book", "begun", "mode"]) fun _ _ _ _ _ _ us hl => match us, hl with | [_, _, _, _], _ => rfl
    f__arcs_from := _, d__arcs_from := _, F__arcs_from := F13, g__arcs_from := PySem.W.mg_of X G a13, b__arcs_from := F13.binds (ps := ["place", "ways", "table", "begun", "mode"]) fun _ _ _ _ _ _ us hl => match us, hl with | [_, _, _, _, _], _ => rfl
    f__is_final := _, d__is_final := _, F__is_final := F14, g__is_final := PySem.W.mg_of X G a14, b__is_final := F14.binds (ps := ["place", "book", "begun"]) fun _ _ _ _ _ _ us hl => match us, hl with | [_, _, _], _ => rfl
    f_place_behind := _, d_place_behind := _, F_place_behind := F15, g_place_behind := PySem.W.mg_of X G a15, b_place_behind := F15.binds (ps := ["tokens", "book", "begun", "mode", "row"]) fun _ _ _ _ _ _ us hl => match us, hl with | [_, _, _, _, _], _ => rfl
    f_border_behind := _, d_border_behind := _, F_border_behind := F16, g_border_behind := PySem.W.mg_of X G a16, b_border_behind := F16.binds (ps := ["tokens", "book", "begun", "mode", "row"]) fun _ _ _ _ _ _ us hl => match us, hl with | [_, _, _, _, _], _ => rfl
    f_priced := _, d_priced := _, F_priced := F17, g_priced := PySem.W.mg_of X G a17, b_priced := F17.binds (ps := ["tokens", "book", "begun", "mode"]) fun _ _ _ _ _ _ us hl => match us, hl with | [_, _, _, _], _ => rfl
    f__law_pool := _, d__law_pool := _, F__law_pool := F18, g__law_pool := PySem.W.mg_of X G a18, b__law_pool := F18.binds (ps := ["script"]) fun _ _ _ _ _ _ us hl => match us, hl with | [_], _ => rfl
    f__law_pick := _, d__law_pick := _, F__law_pick := F19, g__law_pick := PySem.W.mg_of X G a19, b__law_pick := F19.binds (ps := ["pool", "many"]) fun _ _ _ _ _ _ us hl => match us, hl with | [_, _], _ => rfl
    f__law_same := _, d__law_same := _, F__law_same := F20, g__law_same := PySem.W.mg_of X G a20, b__law_same := F20.binds (ps := ["told", "due"]) fun _ _ _ _ _ _ us hl => match us, hl with | [_, _], _ => rfl
    f__law_rows := _, d__law_rows := _, F__law_rows := F21, g__law_rows := PySem.W.mg_of X G a21, b__law_rows := F21.binds (ps := ["m", "most"]) fun _ _ _ _ _ _ us hl => match us, hl with | [_, _], _ => rfl
    f__law_drawn_tokens := _, d__law_drawn_tokens := _, F__law_drawn_tokens := F22, g__law_drawn_tokens := PySem.W.mg_of X G a22, b__law_drawn_tokens := F22.binds (ps := ["pool", "signs"]) fun _ _ _ _ _ _ us hl => match us, hl with | [_, _], _ => rfl
    f__law_drawn_book := _, d__law_drawn_book := _, F__law_drawn_book := F23, g__law_drawn_book := PySem.W.mg_of X G a23, b__law_drawn_book := F23.binds (ps := ["pool", "tokens"]) fun _ _ _ _ _ _ us hl => match us, hl with | [_, _], _ => rfl
    f__law_drawn_begun := _, d__law_drawn_begun := _, F__law_drawn_begun := F24, g__law_drawn_begun := PySem.W.mg_of X G a24, b__law_drawn_begun := F24.binds (ps := ["pool", "tokens", "signs"]) fun _ _ _ _ _ _ us hl => match us, hl with | [_, _, _], _ => rfl
    f__law_arcs := _, d__law_arcs := _, F__law_arcs := F25, g__law_arcs := PySem.W.mg_of X G a25, b__law_arcs := F25.binds (ps := ["task", "place"]) fun _ _ _ _ _ _ us hl => match us, hl with | [_, _], _ => rfl
    f__law_due := _, d__law_due := _, F__law_due := F26, g__law_due := PySem.W.mg_of X G a26, b__law_due := F26.binds (ps := ["task"]) fun _ _ _ _ _ _ us hl => match us, hl with | [_], _ => rfl
    f__law_place := _, d__law_place := _, F__law_place := F27, g__law_place := PySem.W.mg_of X G a27, b__law_place := F27.binds (ps := ["task", "row"]) fun _ _ _ _ _ _ us hl => match us, hl with | [_, _], _ => rfl
    f__law_place_told := _, d__law_place_told := _, F__law_place_told := F28, g__law_place_told := PySem.W.mg_of X G a28, b__law_place_told := F28.binds (ps := ["task", "row", "named"]) fun _ _ _ _ _ _ us hl => match us, hl with | [_, _, _], _ => rfl
    f__law_speller_right := _, d__law_speller_right := _, F__law_speller_right := F29, g__law_speller_right := PySem.W.mg_of X G a29, b__law_speller_right := F29.binds (ps := ["task", "due"]) fun _ _ _ _ _ _ us hl => match us, hl with | [_, _], _ => rfl
    f__law_rows_right := _, d__law_rows_right := _, F__law_rows_right := F30, g__law_rows_right := PySem.W.mg_of X G a30, b__law_rows_right := F30.binds (ps := ["pool", "task"]) fun _ _ _ _ _ _ us hl => match us, hl with | [_, _], _ => rfl
    f_law := _, d_law := _, F_law := F31, g_law := PySem.W.mg_of X G a31, b_law := F31.binds (ps := ["script"]) fun _ _ _ _ _ _ us hl => match us, hl with | [_], _ => rfl
    k_place_behind := ⟨fun s us ws _ hu hw => match us, hu, ws, hw with | [], _, [_, _, _, _, _], _ => .of_eq rfl, fun _ rz => kwr_place_behind rz⟩
    k_priced := ⟨fun s us ws _ hu hw => match us, hu, ws, hw with | [], _, [_, _, _, _], _ => .of_eq rfl, fun _ rz => kwr_priced rz⟩
    k_speller := ⟨fun s us ws _ hu hw => match us, hu, ws, hw with | [], _, [_, _, _, _], _ => .of_eq rfl, fun _ rz => kwr_speller rz⟩
    c_ROW_LIMIT := let ⟨t, e⟩ := qROW_LIMIT; ⟨t, PySem.W.mg_of X G e⟩
    n_all := PySem.W.mg_none_of X G zall
    n_bool := PySem.W.mg_none_of X G zbool
    n_enumerate := PySem.W.mg_none_of X G zenumerate
    n_int := PySem.W.mg_none_of X G zint
    n_isinstance := PySem.W.mg_none_of X G zisinstance
    n_len := PySem.W.mg_none_of X G zlen
    n_list := PySem.W.mg_none_of X G zlist
    n_max := PySem.W.mg_none_of X G zmax
    n_min := PySem.W.mg_none_of X G zmin
    n_range := PySem.W.mg_none_of X G zrange
    n_sorted := PySem.W.mg_none_of X G zsorted
    n_str := PySem.W.mg_none_of X G zstr
    n_tuple := PySem.W.mg_none_of X G ztuple
    n_zip := PySem.W.mg_none_of X G zzip
    C_NotUsable := C, I_NotUsable := fI, nus := nus}
  have two : ∀ {A : Addr × Addr → Prop}, A (cc, cP) → A (cd, cS) → ∀ p ∈ [(cc, cP), (cd, cS)], A p := fun {A} h1 h2 p hp => by
    rcases List.mem_cons.mp hp with e | hp
    · rw [e]; exact h1
    · rw [List.mem_singleton.mp hp]; exact h2
  refine ⟨T.d_law, [(cc, cP), (cd, cS)], sp_law K (TT cP cS), two hT hT2, two nT nT2, two (PySem.W.codeHd_of_K X hCd) (PySem.W.codeHd_of_K X hCd2), fun s v => .of_eq rfl, fun H a ns hl _ hB hS => ⟨a, ns, rfl, hS, hl, fun p hp => ?_, fun _ => rfl⟩, fun base _ _ hTB => ok_law T ⟨rfl, hTB (cc, cP) List.mem_cons_self, rfl, hTB (cd, cS) (List.mem_cons_of_mem _ List.mem_cons_self), hNe⟩⟩
  rcases List.mem_cons.mp hp with e | hp
  · rw [e]
    exact LamX.TabS.nil (hB (cc, cP) List.mem_cons_self)
  · rw [List.mem_singleton.mp hp]
    exact LamX.TabS.nil (hB (cd, cS) (List.mem_cons_of_mem _ List.mem_cons_self))
end K5
set_option Elab.async false
set_option linter.all false
set_option maxRecDepth 100000
open PySem PySem.W PyProof.Rows
set_option maxHeartbeats 0 in
theorem PySem.Challenge.cw_stillends_k05_whole_places_holds : PySem.Challenge.rw_stillends_k05_whole_places.Holds := by
  w_on; o_law; k_head; (case hw => w_witness2)
  k_fill
  refine LamX.walk_ofTs (l := PySem.Challenge.rw_stillends_k05_whole_places) (n := 63) (k := 9) (x := "script") (CX := fun _ => L2.CX0) rfl (by decide) rfl ⟨rfl, by decide, by decide⟩ (fun w h Y => PySem.W.km_in_of Y) ?F (fun _ _ _ _ _ h => h)
  case F =>
    intro w mg fa h Y KX G hmg
    have hT8 := PySem.W.km_tabs_of Y
    refine' K5.all_mk KX G hmg ?aC ?xL ?sa ?ga ?gg ?nb ?iC ?tI ?lI ?cI ?kC ?eC ?tC ?hC ?clC ?sC ?a0 ?l0 ?c0 ?k0 ?a1 ?l1 ?c1 ?k1 ?a2 ?l2 ?c2 ?k2 ?a3 ?l3 ?c3 ?k3 ?a4 ?l4 ?c4 ?k4 ?a5 ?l5 ?c5 ?k5 ?a6 ?l6 ?c6 ?k6 ?a7 ?l7 ?c7 ?k7 ?a8 ?l8 ?c8 ?k8 ?a9 ?l9 ?c9 ?k9 ?a10 ?l10 ?c10 ?k10 ?a11 ?l11 ?c11 ?k11 ?a12 ?l12 ?c12 ?k12 ?a13 ?l13 ?c13 ?k13 ?a14 ?l14 ?c14 ?k14 ?a15 ?l15 ?c15 ?k15 ?a16 ?l16 ?c16 ?k16 ?a17 ?l17 ?c17 ?k17 ?a18 ?l18 ?c18 ?k18 ?a19 ?l19 ?c19 ?k19 ?a20 ?l20 ?c20 ?k20 ?a21 ?l21 ?c21 ?k21 ?a22 ?l22 ?c22 ?k22 ?a23 ?l23 ?c23 ?k23 ?a24 ?l24 ?c24 ?k24 ?a25 ?l25 ?c25 ?k25 ?a26 ?l26 ?c26 ?k26 ?a27 ?l27 ?c27 ?k27 ?a28 ?l28 ?c28 ?k28 ?a29 ?l29 ?c29 ?k29 ?a30 ?l30 ?c30 ?k30 ?a31 ?l31 ?c31 ?k31 ?qROW_LIMIT ?zall ?zbool ?zenumerate ?zint ?zisinstance ?zlen ?zlist ?zmax ?zmin ?zrange ?zsorted ?zstr ?ztuple ?zzip ?hT ?nT ?hCd ?hT2 ?nT2 ?hCd2 ?hNe
    (case aC => k_is)
    (case xL => k_is)
    (case sa => k_is)
    (case ga => k_is)
    (case gg => k_is)
    (case nb => k_is)
    (case iC => k_is)
    (case tI => k_is)
    (case lI => k_is)
    (case cI => k_is)
    (case kC => k_is)
    (case eC => k_is)
    (case tC => k_is)
    (case hC => k_is)
    (case clC => k_is)
    (case sC => first | rfl | k_is)
    (case a0 => k_is)
    (case l0 => k_is)
    (case c0 => k_is)
    (case k0 => k_is)
    (case a1 => k_is)
    (case l1 => k_is)
    (case c1 => k_is)
    (case k1 => k_is)
    (case a2 => k_is)
    (case l2 => k_is)
    (case c2 => k_is)
    (case k2 => k_is)
    (case a3 => k_is)
    (case l3 => k_is)
    (case c3 => k_is)
    (case k3 => k_is)
    (case a4 => k_is)
    (case l4 => k_is)
    (case c4 => k_is)
    (case k4 => k_is)
    (case a5 => k_is)
    (case l5 => k_is)
    (case c5 => k_is)
    (case k5 => k_is)
    (case a6 => k_is)
    (case l6 => k_is)
    (case c6 => k_is)
    (case k6 => k_is)
    (case a7 => k_is)
    (case l7 => k_is)
    (case c7 => k_is)
    (case k7 => k_is)
    (case a8 => k_is)
    (case l8 => k_is)
    (case c8 => k_is)
    (case k8 => k_is)
    (case a9 => k_is)
    (case l9 => k_is)
    (case c9 => k_is)
    (case k9 => k_is)
    (case a10 => k_is)
    (case l10 => k_is)
    (case c10 => k_is)
    (case k10 => k_is)
    (case a11 => k_is)
    (case l11 => k_is)
    (case c11 => k_is)
    (case k11 => k_is)
    (case a12 => k_is)
    (case l12 => k_is)
    (case c12 => k_is)
    (case k12 => k_is)
    (case a13 => k_is)
    (case l13 => k_is)
    (case c13 => k_is)
    (case k13 => k_is)
    (case a14 => k_is)
    (case l14 => k_is)
    (case c14 => k_is)
    (case k14 => k_is)
    (case a15 => k_is)
    (case l15 => k_is)
    (case c15 => k_is)
    (case k15 => k_is)
    (case a16 => k_is)
    (case l16 => k_is)
    (case c16 => k_is)
    (case k16 => k_is)
    (case a17 => k_is)
    (case l17 => k_is)
    (case c17 => k_is)
    (case k17 => k_is)
    (case a18 => k_is)
    (case l18 => k_is)
    (case c18 => k_is)
    (case k18 => k_is)
    (case a19 => k_is)
    (case l19 => k_is)
    (case c19 => k_is)
    (case k19 => k_is)
    (case a20 => k_is)
    (case l20 => k_is)
    (case c20 => k_is)
    (case k20 => k_is)
    (case a21 => k_is)
    (case l21 => k_is)
    (case c21 => k_is)
    (case k21 => k_is)
    (case a22 => k_is)
    (case l22 => k_is)
    (case c22 => k_is)
    (case k22 => k_is)
    (case a23 => k_is)
    (case l23 => k_is)
    (case c23 => k_is)
    (case k23 => k_is)
    (case a24 => k_is)
    (case l24 => k_is)
    (case c24 => k_is)
    (case k24 => k_is)
    (case a25 => k_is)
    (case l25 => k_is)
    (case c25 => k_is)
    (case k25 => k_is)
    (case a26 => k_is)
    (case l26 => k_is)
    (case c26 => k_is)
    (case k26 => k_is)
    (case a27 => k_is)
    (case l27 => k_is)
    (case c27 => k_is)
    (case k27 => k_is)
    (case a28 => k_is)
    (case l28 => k_is)
    (case c28 => k_is)
    (case k28 => k_is)
    (case a29 => k_is)
    (case l29 => k_is)
    (case c29 => k_is)
    (case k29 => k_is)
    (case a30 => k_is)
    (case l30 => k_is)
    (case c30 => k_is)
    (case k30 => k_is)
    (case a31 => k_is)
    (case l31 => k_is)
    (case c31 => k_is)
    (case k31 => k_is)
    (case qROW_LIMIT => exact ⟨_, by k_is⟩)
    (case zall => k_is)
    (case zbool => k_is)
    (case zenumerate => k_is)
    (case zint => k_is)
    (case zisinstance => k_is)
    (case zlen => k_is)
    (case zlist => k_is)
    (case zmax => k_is)
    (case zmin => k_is)
    (case zrange => k_is)
    (case zsorted => k_is)
    (case zstr => k_is)
    (case ztuple => k_is)
    (case zzip => k_is)
    (case hT => exact hT8 _ List.mem_cons_self)
    (case nT => rfl)
    (case hCd => kernel_rfl)
    (case hT2 => exact hT8 _ (List.mem_cons_of_mem _ List.mem_cons_self))
    (case nT2 => rfl)
    (case hCd2 => kernel_rfl)
    (case hNe => decide)
